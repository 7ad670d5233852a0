import PyProof.Rows.All
import Wide.All
import OpenK.AllK
import Wide.FinOn
import PyProof.EqAt
import PyProof.EqKinds
import PyProof.TupleCall
import Lean
import PySem.Challenge.RW_twinriddles_k51_rows_that_answers_keep
set_option Elab.async false
set_option linter.all false
set_option maxRecDepth 100000
set_option maxHeartbeats 8000000
set_option compiler.extract_closed false
set_option backward.eqns.nonrecursive false
noncomputable section
open List renaming length->A2
namespace RfL
theorem r{a:α}:a=a:=rfl
end RfL
open RfL renaming r->I,r->AM
open Option renaming some->Y,some->A9,none->U,none->AR
open Bool renaming true->J,true->Ap,false->C,false->AX
open And renaming intro->d9
open Array renaming length_toList->lT,getElem?_toList->nu,getElem?_eq_getElem->qe,getElem?_eq_some_iff->KO,getD_eq_getD_getElem?->uP,getElem?_setIfInBounds->CD,getElem?_eq_none->CC,forIn_toList->Cy,append_assoc->Gn,getElem?_replicate->Lf,mem_toList_iff->We,getElem?_eq_none_iff->Wd,toList_eq_nil_iff->Wc,toList_append->K5,replicate->gi,getD->gE,toList_push->mj,toList->u7,ext->FM
open Bool renaming false_eq_true->ku,and_eq_true->lg,false_ne_true->lG,not_true->rG,or_eq_true->xm,and_false->eS,true_and->fx,not_eq_true'->fS,not_false->gL,false_and->gM,and_self->gS,eq_false_iff->n7,noConfusion->o7,decide_and->ss,or_false->u6
open False renaming elim->aJ
open ForInStep renaming yield->bv
open Function renaming comp_def->rH,comp->bj
open Int renaming toNat_natCast->uZ,mul_one->zq,emod_lt_of_pos->FL,emod_nonneg->FK,natCast_inj->tf,neg_neg->Fa,mul_neg->Fk
open LawfulBEq renaming eq_of_beq->sf
open LawfulMonad renaming bind_assoc->uY,pure_bind->z0
open Lean renaming Syntax->b4,Name->gf,mkIdent->ww
open List renaming map_cons->jP,mem_cons->kM,mem_cons_self->jW,mem_cons_of_mem->jU,getElem?_eq_getElem->jT,length_map->kd,size_toArray->kz,getElem?_map->kS,length_cons->kP,map_map->kZ,getElem?_eq_some_iff->tM,mem_append->pQ,all_eq_true->mJ,not_mem_nil->lN,getD_eq_getElem?_getD->lM,mem_of_getElem?->mW,nodup_nil->mU,length_append->nA,getElem?_set_self->oo,getElem?_set_ne->om,map_nil->oh,lookup_cons->oE,map_append->oD,pairwise_append->uL,map_congr_left->oV,mem_map->yc,mem_range->um,mem_append_right->qk,getElem?_append_right->qi,append_assoc->qh,pairwise_cons->D7,nil_append->qd,map_id->qc,length_take->rK,length_nil->rE,getElem?_of_mem->se,filterMap_cons->uF,append_nil->uE,getElem?_append_left->uD,pairwise_map->vJ,mem_filter->Fx,getElem?_replicate->vN,mem_singleton->Fw,getElem?_cons_succ->qR,nodup_cons->zu,length_set->sJ,drop_eq_nil_of_le->sG,foldl_cons->sD,any_cons->sA,exists_cons_of_length_pos->sj,take_append_drop->si,getElem?_cons_zero->sh,drop_eq_getElem_cons->uW,mem_of_mem_take->uU,zip_cons_cons->uS,cons_append->uN,mem_flatMap->uM,take_sublist->xF,length_singleton->xy,any_map->xu,pairwise_reverse->Gq,length_eq_zero_iff->Pq,mem_map_of_mem->xb,find?_cons->wZ,length_drop->zo,getElem?_set->zk,ext_getElem->zj,ext_getElem?->zi,range'_succ->zf,reverse_perm->ze,eq_nil_of_length_eq_zero->zd,take_of_length_le->zc,mem_of_mem_drop->zb,length_pos_iff->Sk,getElem_mem->za,length_eraseIdx->yZ,replicate_zero->yY,nodup_append->yX,length_filter_le->yW,mem_append_left->C7,getElem?_zip_eq_some->Fu,perm_middle->Pl,pairwise_iff_getElem->Pk,getElem_of_mem->CJ,extract_eq_take_drop->CH,take_succ->CG,getElem_inj->Gm,of_mem_zip->Gh,getElem?_zipIdx->F7,foldl_append->F6,drop_sublist->FV,mem_erase_of_ne->FH,getElem?_take_of_lt->LJ,length_replicate->LH,length_reverse->Ln,pairwise_singleton->Lm,eq_nil_or_concat->Ll,concat_eq_append->Lk,perm_append_comm->Sj,pairwise_lt_range->Wf,filterMap_append->Lh,perm_append_singleton->Lg,perm_cons_erase->K0,dropLast_concat_getLast->KZ,mem_of_mem_eraseIdx->KY,filter_eq_self->Wa,replicate->ah,range->am,range'->bN,map->cp,replicate_succ->dq,mem_filterMap->dJ,length->dM,all_cons->dR,mem_reverse->d0,isEmpty_nil->d1,range_succ_eq_map->ey,all_map->ez,forIn_cons->eI,getElem?_drop->fH,getElem_map->gc,take_take->gJ,getElem?_eq_none->hZ,zip_nil_right->l7,filterMap_map->me,Nodup->mi,length_range->n5,any_eq_false->n6,zipIdx_cons->oO,take_length->o3,any_eq_true->o6,set_append->sm,forIn_nil->s9,drop_zero->te,map_take->u3,map_set->wv,foldl->EQ
open List.Pairwise renaming nil->c3,sublist->y8,of_map->zn,map->zx
open List.Perm renaming refl->uR,append_left->Le,swap->i5,cons->i7,trans->TW,of_eq->T2,eq_of_pairwise->Uf
open List.cons renaming inj->uT,injEq->dP
open Nat renaming le_refl->kc,ne_of_lt->kF,le_trans->lC,zero_le->mV,lt_of_lt_of_le->nN,lt_irrefl->oX,ne_of_gt->pP,pow_succ->uy,le_of_lt->vO,mul_assoc->qV,not_lt->LP,lt_succ_of_lt->uX,mul_add->uQ,min_eq_left->xq,add_assoc->xp,mul_comm->xl,add_mul->xj,mul_one->xi,mod_lt->xh,pow_le_pow_right->xg,lt_of_le_of_lt->xa,le_succ->zm,lt_trans->CW,lt_succ_self->CU,mul_left_comm->CF,lt_asymm->F8,add_sub_cancel_left->FW,one_mul->FP,mul_zero->FN,zero_add->fW,add_zero->hX,sub_add_cancel->nF,lt_or_eq_of_le->nL,add_sub_cancel->nP,min_eq_right->r9,le_of_not_lt->sa,two_pow_pos->sB,mul_add_mod->sK,div_add_mod->s8,sub_zero->y7,add_mod->Ev
open Ne renaming symm->oF
open Option renaming bind_some->jH,isSome_iff_exists->KP,isSome_map->FA,map_eq_some_iff->dV,isSome_some->fe,getD_some->lm,getD_none->lw,map_some->nw,bind->uu,map->wr
open Option.some renaming inj->kT
open Or renaming inl->bH,inr->bL
open Ordering renaming swap->gj
open Prod.mk renaming inj->sd
open PyProof.Rows renaming SortSt->rW,slot_tuple_getitem->A8,callWith_type1->zp,boot_range->C5,listUpdate_at->FU,get?_update_seq->FR,seqEpoch_at->FQ,entry_tuple_getitem->LG,subscriptTail_builtinR->LF,envOfC->aV,seqObj->b5,AllBare->ew,Keyed->eY,IntsAre->gw,subscriptTail->i4,IsTup->li,failedOf->ro,SortKind->r6,args_tuple_getitem->ut,wpAny_notIn_heap->y6,lt_int->Ch,le_int->abK,gt_int->abJ,ge_int->Db,callWith_builtin1->Do,slicePart_none->KE,keyLt'->K2,arrOf->Ls,tupleItemsOf_->P1,reverseSlice'->P2,tuples'->TD
open PyProof.Rows.F renaming plain_set_update_loop->FC,entry_set_update_loop->La
open PyProof.Rows.IsTup renaming new->CZ
open PySem renaming Shared->iN,Program->jm,Around->jh,World->je,SetTable->mP,Value->iQ,Comprehension->pK,FuncData->mT,Heap->jg,Addr->iJ,wpAny_bind->iL,wpAny_pure->ja,sizeLine_eq->kK,wpAny_holding->mv,wpAny_mono->oj,wpAny_newObj_type->oi,wpAny_field->oW,wpAny_call_entry->pO,mem_of_lookup->qj,codeAny_builtin->qf,codeAny_mono->rL,wpAny_setState_of->rY,wpAny_rule->uC,wpAny_setField_rec->uz,wpAny_typeOf->vM,wpAny_of_eq->vL,wpAny_seqItems->qX,wpAny_truthy_bool->sN,wpAny_callSpecial?_slot->sM,plainId_quiet->sy,wpAny_attempt->sv,wpAny_standAt->vd,wpAny_passesOwn->vb,wpAny_Call_Name_kw->va,wpAny_setField->uV,wpAny_specialOf->uO,wpAny_pyIter_list->xH,wpAny_call->xG,call_meets->xD,wpAny_askSetting->xw,codeAny_of_tree->xv,wpAny_isInstance->xt,wpAny_forIn_list->xo,tupleKind_room_in1->wY,wpAny_execs_nil->zr,codeAny_call_builtin->zh,wpAny_onRaise->zg,strLen_append->yV,wpAny_load->C6,concat_meets->C3,isSubtype_stop->CM,wpAny_isSame_ref_self->CB,wpAny_pyHash_int->Gp,wpAny_pyIter_tuple->Gk,noFill_tuple_add->Gg,seq_tuple_add->Gf,seqIndex_of->Ga,seqIndex_neg->F9,wpAny_runValue->F5,wpAny_handled->F4,wpAny_throw->F3,wpAny_newTuple->F1,wpAny_letGo->FZ,wpAny_point->FX,typeLookup_type->FG,builtinLookup_eq_fast->FF,isSubtype_type->FE,wpAny_pyIter_slot->FD,wpAny_typeNameOfWhole_keyiter->Fy,wpAny_storeName_local->LN,wpAny_comprehension_free->Lz,weight_type_call_type->Lr,wpAny_updateSeq_pair->Lp,richCompare_meets_room->Lj,wpAny_setEntries_of->Lc,wpAny_notOrdered_dict->K7,wpAny_isOneOf_keyiter->K6,starEach->ac,wpAny->ae,model->af,mainGlobals->aj,foldedSetIterable->ap,Str->au,compareOp->aw,bootBuiltins->aE,cLine->aP,backTo->aT,eval->aW,assignEach->aX,Builtin->aY,Stmt->bn,cellsFrom->bt,Pos->bu,binaryOp->bC,swapsWith->bG,clausesOf->bP,sysModules->bX,holding->ca,codeAny->cb,rawInt->ce,PyData->cf,IsPair->cj,pyNext->cw,assign->cz,tupleKind->cE,CmpOp->cF,Arguments->cH,firstArgMember->cK,pyIter->c6,checkBuiltinCall->c7,standAt->dv,behindInMarks->dy,sliceBounds->dz,keywordEach->dA,NameKind->dH,PassesOwn->dN,Env->dO,Sem->d7,ofAClassStatement->ek,getItem->el,IsPart->eE,codeAmong->eM,GenState->eO,IsEnum->eU,letOwnedTupleGo->eW,IsZip->eX,Obj->fD,bindArgs->fI,backToKw->fL,swapsWithSole->fZ,swappedStores->f3,valueAt->gk,collect->gm,callerA->gq,Model->gr,BindsTo->gu,pickOrder->gO,hashByValue->gP,atKey->gQ,typeLookup->gX,newFunctionEnv->gZ,entryFor->g7,builtinsNs->hD,argsOk->hH,scanBound->jp,noteFrame->js,list_append->j1,field->j2,compStart->j3,bindL->ka,bindC->kl,TriplesOk->kr,IsEnumOut->k7,DictEntry->k9,setItem->mm,setAdd->mo,relabel->ms,preSum->mu,newExc->mA,intKind->mL,Result->m9,ItemsOf->nf,unsupported->o8,subscripted->o9,setField->pc,newTuple->pp,compTurn->pw,ZipApart->px,Moved->pC,wpAny_Name->th,typeOf->tp,setsByText->tv,isInstance->tz,getattributeRaised->t0,defaultsOf->t5,closureFor->ul,wpAny_storeSet_of->u8,wpAny_sequenceKey->u9,wpAny_pyIter_enum->vl,wpAny_dictEntries->vr,wpAny_collect_seq->vu,table->vv,spliced->vw,slot_list_getitem->v5,searchCouldBeSeen->v6,newList->v8,Tok->wf,Meets->wl,Keyword->wn,wpAny_pyIter_zip->wE,wpAny_execs_cons->wL,seqIndex?->wP,eqIsQuiet->wS,call->wT,beq_builtin_none->w4,wpAny_updateSeq->z7,wpAny_stack_any->z8,wpAny_loadPart'->z9,wpAny_dictEpoch->At,theWindowsPlace->AC,pushCells_keeps->AT,getAttrByItsOwn->A1,wpAny_tryCatch->F0,wpAny_notIn_of->F2,wpAny_Expr_any->Gc,wants->Go,textFrom->G0,slotArgs->G1,raiseNew->Ix,getAttr?->IN,entryFor_alias->IR,contains->IX,cellOf->I0,callType_codes->I8,boundAndCalled->J4,wpAny_notedAt->L3,wpAny_newList->Ms,wpAny_in_heap->MB,sub_enumerate->M0,setSearchFrom->M2,rangeSize_one->No,intBits_le_64->NE,evalPart_none->Op,comprehension->OO,checkTypeCall->O0,call_list_seq->Ps,unaryOp->Q1,setAddHashed->Q2,release->R1,name_of_addr->Sc,leaving->Sr,dictSet->SI,call_range_2->SS,callType_new->Tk,IsRange->Tl,wpAny_in_of->UF,wpAny_alloc->UV,setContains->VP,interactive->V0,Walks->Wp,IsRangeIter->ZB
open PySem.Around renaming under_plainId->uB,frames_deeper->LK,under_plain->ip
open PySem.Builtin.Dict renaming updateFrom->fV,showsAll->gg,selfAndRest->abC,pairItems->abp,dictSlotNone->abq,addKeywords->abr
open PySem.Builtin.Frozenset renaming addrOf->eV,withSetAsKey->pL,updateFrom->qs,slot0->q7,sizeOf->q9,oneOther->rc,newClass->rl
open PySem.Builtin.List renaming listTooLong->c5,listExtendWith->fv,listSameRef->fR,listLengthHint->aa9
open PySem.Builtin.Range renaming rangeSize->fM,small->y4
open PySem.Builtin.Slice renaming slicePlaces->bV,sliceAdjust->cO,sliceApplied->fq,slicePartIndex->x0,sliceFields->x8
open PySem.Builtin.SmallTypes renaming nextOf->aL,fitsIndex->bh,ownedTupleHandOut->bi,ownedTupleIsFree->bo
open PySem.Builtin.SmallTypes.calledThroughType renaming match_1->bY
open PySem.Builtin.Tuple renaming tupleHashOf->aZ,tupleExact->bc,tupleItemsOf->cJ,tupleIsExact->fj,tupleCompareSizes->xz
open PySem.Calls renaming spliced_nil->Gj,spliced_cons->Gi,Name_function_global->LM,evalArgs_plain->LD
open PySem.Code renaming quiet_builtin->FY
open PySem.Data renaming cell->f8,fields->io,seq->PP
open PySem.F renaming called_set->LO,slot_tuple_hash->Hz,slot_enumerate_next->CN,plainAttrs_list->Cv,slot_tuple_add->Ge,entry_tuple_add->Gd,args_tuple_add_2->Gb,called_tuple->Pp,slot_set_contains->KR,slot_dict_keyiterator_next->KQ,slot_list_getattribute->Po,entry_list_append->LB,args_list_append_2->LA,entry_object_init->Ly,args_object_init_2->Lx,slot_tuple_iterator_next->Lw,entry_enumerate_next->Lv,args_enumerate_next_1->Lu,entry_enumerate_new->Lq,slot_set_iter->Ld,plain_list_iadd->Lb,plain_set_new->K9,slot_dict_iter->K8,attr_TypeError->Wb
open PySem.Heap renaming get?_push_of_some->ke,lt_size->km,get?_push_size->kE,size_push->qg,get?_update_self->sL,get?_update_other->CY,get?_update_ne->Li,SameBut->ay,ExtBut->eR
open PySem.Heap.SameBut renaming update->qW,refl->CV
open PySem.Moved renaming trans->Cw,refl->w9
open PySem.NameKind renaming free->aH,cell->cC
open PySem.Obj renaming data_mapFields->uA,isFreed_of_fields->CQ,cls_mapFields->CP,mapSeq->bb,mapFields->gV,putSet->nb
open PySem.Paired renaming length->zt
open PySem.PyData renaming tuple->dU,showable->d8,hasDict->eK,shown->fy,depth->fA,depthAll->f5,showableAll->im,hasDictAll->iF,shownAll->na
open PySem.SetTable renaming below->ai,runEnd->aF,insertAt->aG,bits->aK,turns->bW,leap->cA,Probe->c4,sizeAbove->eQ,grown->f4,layClean->hW,fresh->kv,slot->m4,laid->m6,fits->m7,fill->m8,put->oC,tooFull->WF,sameMemory->WP,relaid->W1,has->XV,gaveWay->X0,advance->YP
open PySem.SetTable.layClean renaming free->bB
open PySem.SetTable.probe renaming go->en
open PySem.Shared renaming TypeIs->dL
open PySem.Str renaming ofString->bS
open PySem.Value renaming none->ao,ref->bK,type->b3,builtin->cc,bool->dE,int->gR,notImplemented->hV,str->mN,isStrOf->sx,isInt->v9
open PySem.W renaming Frag->jl,mg_none_of->oB,kia_one->rd,kia_tup->qZ,cellsFrom_some->C4,nsIn->aR,fnOf->bA,keepIn->bD,kitOne->c8,codeIn->c9,kitAny->eC,methodObj->fg,kitx_tuple->hL,kitx_none->ia,kitx_list->ib,kitx_dict->ig,kitx_bool->il,kitx_str->iq,kitx_set->iB,kitx_int->iC
open PySem.Walks renaming list->CS
open Sum renaming inl->cZ,inr->fU
open True renaming intro->bq
open PySem PySem.Spec PyProof.Rows
section
abbrev jy:=iQ->Shared->Prop
abbrev jG:=List<|iJ×fD
abbrev jI:=List<|List Int
abbrev iZ:=List Int
abbrev jN:=List iQ
abbrev lE:=au->Option iQ
abbrev kb:=List Nat
abbrev rV:=Array<|Int×iQ
abbrev nJ:=Array iQ
abbrev jw:=List au
abbrev ky:=List Expr
abbrev rX:=Bool->Shared->Prop
abbrev Bw:=Option iQ->Shared->Prop
abbrev yb:=iQ->iQ->d7 iQ
abbrev vK:=Array<|Option Nat
abbrev ya:=Array<|Option iQ
abbrev lF:=List<|au×iJ
abbrev pM:=List pK
abbrev Bv:=Array eY
abbrev kN:=Nat->Prop
abbrev kY:=List iJ
abbrev jS:=Scope
abbrev iT:=Expr
end
section
open PySem.SeqAt
theorem jb:type_of% @if_pos:=@if_pos
theorem jr:type_of% @if_neg:=@if_neg
theorem kR:type_of% @if_false:=@if_false
theorem kQ:type_of% @if_true:=@if_true
theorem mC:type_of% @or_false:=@or_false
theorem nv:type_of% @decide_eq_false:=@decide_eq_false
def nM:=@congrArg
theorem pN:type_of% @not_or:=@not_or
theorem rJ:type_of% @decide_eq_true:=@decide_eq_true
theorem rZ:type_of% @decide_eq_true_eq:=@decide_eq_true_eq
theorem sH:type_of% @bne_self_eq_false:=@bne_self_eq_false
theorem yq:type_of% @beq_eq_false_iff_ne:=@beq_eq_false_iff_ne
def Cz:=@of_decide_eq_true
end
namespace TT
noncomputable def Jz(mask:Nat)(p:c4):SetTable.Probe:=
 if p.more>0 then {p with j:=p.j+1,more:=p.more-1}else
 {p with j:=(cA mask p.i p.perturb).1,more:=aF mask (cA mask p.i p.perturb).1-(cA mask p.i p.perturb).1,i:=(cA mask p.i p.perturb).1,perturb:=(cA mask p.i p.perturb).2}
noncomputable def B1(mask:Nat)(h:Int):SetTable.Probe:={j:=aK h%(mask+1),more:=aF mask (aK h%(mask+1))-aK h%(mask+1),i:=aK h%(mask+1),perturb:=aK h,dummy:=U}
def pr(mask:Nat)(h:Int):Nat->c4
 |0=>B1 mask h
 |n+1=>Jz mask<|pr mask h n
structure Bs(hs:iZ)(t:mP):Prop where
 pow:∃k,3<=k/\k<=11/\t.mask+1=2^k
 dum:t.dummies= #[]
 len:t.place.size=A2 hs
 room:5*(A2 hs)<3*t.mask
 ris:t.place.toList.Pairwise (· < ·)
 bd:∀j∈t.place.toList,j<=t.mask
 road:∀(i:Nat)(h:Int)(j:Nat),hs[i]?=A9 h->t.place[i]?=A9 j->∃n,(pr t.mask h n).j=j/\∀m,m<n->(pr t.mask h m).j∈t.place.toList
end TT
namespace L2
abbrev Key:=Sum Int au
noncomputable def Ae:Key->iQ->Bool
 |.inl k,v=>v9 k v
 |.inr x,v=>sx x v
noncomputable def aay(w:je):Key->Int
 |.inl k=>hashInt k
 |.inr x=>hashStr w x
def lh:∀{k:Key}{v:iQ},Ae k v=J->(∃i t,k=cZ i/\v=gR i t)\/(∃x t,k=fU x/\v=mN x t)
 |.inl i,v,h=>by obtain⟨t,e⟩:=Value.isInt_shape (k:=i) (v:=v) h;exact .inl ⟨i,t,rfl,e⟩
 |.inr x,v,h=>by obtain⟨t,e⟩:=Value.isStrOf_shape (x:=x) (v:=v) h;exact .inr ⟨x,t,rfl,e⟩
def ac6(i:Int)(t:wf):Ae (.inl i) (.int i t)=J:=by simp[Ae,v9]
def ac5(x:au)(t:wf):Ae (.inr x) (.str x t)=J:=by simp[Ae,sx]
def NV(a b:Int):decide ((cZ a:Key)=cZ b)=(a==b):=by
 by_cases e:a=b
 .subst e;simp
 have h: ¬(cZ a:Key)=cZ b:=λq=>e<|Sum.inl.inj q;rw[nv h];exact(yq.mpr e).symm
def NS(a b:au):decide ((fU a:Key)=fU b)=decide (a=b):=by
 by_cases e:a=b
 .subst e;simp
 have h: ¬(fU a:Key)=fU b:=λq=>e<|Sum.inr.inj q;rw[nv h,nv e]
def NU(a:Int)(b:au):decide ((cZ a:Key)=fU b)=C:=nv (λq=>nomatch q)
def NT(a:au)(b:Int):decide ((fU a:Key)=cZ b)=C:=nv (λq=>nomatch q)
def lb(d:jm)(w:je):PySem.KeyKind d w Key where
 is:=Ae
 hash:=aay w
 inj:=λv a b g f=>by
  rcases lh g with⟨i,t,rfl,rfl⟩|⟨x,t,rfl,rfl⟩
  .rcases lh f with⟨j,u,rfl,e⟩|⟨y,u,rfl,e⟩
   .injection e with c _;rw[c]
   exact nomatch e
  rcases lh f with⟨j,u,rfl,e⟩|⟨y,u,rfl,e⟩
  .exact nomatch e
  injection e with c _;rw[c]
 byValue:=λk v h=>by rcases lh h with⟨i,t,rfl,rfl⟩|⟨x,t,rfl,rfl⟩<;>rfl
 pyHash:=λhv h=>by
  rcases lh hv with⟨i,t,rfl,rfl⟩|⟨x,t,rfl,rfl⟩
  .exact Gp h
  exact wpAny_pyHash_str h
 eqBool:=λl hv h=>by
  rcases lh l with⟨i,t,rfl,rfl⟩|⟨x,t,rfl,rfl⟩
  .rcases lh hv with⟨j,u,rfl,rfl⟩|⟨y,u,rfl,rfl⟩
   .rw[NV]at h;exact wpAny_eqBool_int h
   rw[NU]at h;exact SeqAt.EqAt.int_str i t y u _ _ _ _ h
  rcases lh hv with⟨j,u,rfl,rfl⟩|⟨y,u,rfl,rfl⟩
  .rw[NT]at h;exact SeqAt.EqAt.str_int x t j u _ _ _ _ h
  rw[NS]at h;exact wpAny_eqBool_str h
 «strs»:=λk x t v h=>by
  rcases lh h with⟨i,u,rfl,e⟩|⟨y,u,rfl,e⟩
  .exact nomatch e
  injection e with c _
  subst c;cases v<;>rfl
def aca(a:jm)(w:je)(i:Int)(t:wf):(lb a w).is (.inl i) (.int i t)=J:=ac6 i t
def ab9(a:jm)(w:je)(x:au)(t:wf):(lb a w).is (.inr x) (.str x t)=J:=ac5 x t
inductive V where
 |Ar|bl(b:Bool)|int(i:Int)|str(x:au)|byt(b:Array UInt8)|flt(b:UInt64)|ref(a:iJ)|ty(n:String)
 deriving DecidableEq
def RelV:V->iQ->Prop
 |.Ar,u=>u=ao
 |.bl b,u=>u=dE b
 |.int i,u=>∃t,u=gR i t
 |.str x,u=>∃t,u=mN x t
 |.byt b,u=>∃t,u=Value.bytes b t
 |.flt b,u=>∃t,u=Value.float b t
 |.ref a,u=>u=bK a
 |.ty n,u=>u=b3 n
abbrev Vals:List V->List iQ->Prop:=Paired RelV
def Vals.length{xs:List V}{us:jN}(r:Vals xs us):(A2 xs)=(A2 us):=zt r
def Vals.get{xs:List V}{a:jN}{i:Nat}{x:V}(h:Vals xs a)(e:xs[i]?=Y x):∃u,a[i]?=Y u/\RelV x u:=by
 induction h generalizing i with
 |nil=>simp at e
 |cons r t b=>
  cases i with
  |zero=>simp at e;subst e;exact⟨_,rfl,r⟩
  |succ i=>simpa using b (by simpa using e)
theorem Vals.set{x:V}{u:iQ}(r:RelV x u):∀{xs:List V}{us:jN}(i:Nat),Vals xs us->Vals (xs.set i x) (us.set i u)
 |_,_,_,.nil=>.nil
 |_,_,0,.cons _ t=>.cons r t
 |_,_,i+1,.cons q t=>.cons q (Vals.set r i t)
def Vals.append{c d:List V}{a b:jN}(h:Vals c a)(s:Vals d b):Vals (c++d) (a++b):=by
 induction h with
 |nil=>exact s
 |cons r t e=>exact .cons r e
theorem Vals.take:∀{xs:List V}{a:jN}(n:Nat),Vals xs a->Vals (xs.take n) (a.take n)
 |_,_,0,_=>.nil
 |_,_,_+1,.nil=>.nil
 |_,_,n+1,.cons r t=>.cons r (Vals.take n t)
theorem Vals.drop:∀{b:List V}{a:jN}(n:Nat),Vals b a->Vals (b.drop n) (a.drop n)
 |_,_,0,r=>r
 |_,_,_+1,.nil=>.nil
 |_,_,n+1,.cons _ t=>Vals.drop n t
def Hb:Option V->Option iQ->Prop
 |some v,Y u=>RelV v u
 |none,U=>True
 |_,_=>False
def KV{a:Type}:List (a×V)->List (a×iQ)->Prop:=Paired λ(p:a×V) (q:a×iQ)=>p.1=q.1/\RelV p.2 q.2
noncomputable def kV:Key->V
 |.inl i=>.int i
 |.inr x=>.str x
inductive HO where
 |lst(xs:List V)
 |tup(xs:List V)
 |dK(kvs:List (Key×V))|dT(kvs:List (List Key×V))
 |set (S:Int->Bool) (n:Nat)
 |B1 (zs:List (Int×V))
 |ins (C dx:iJ) (fs:List (au×V))
 |own (x:iJ)
 |xd (fs:List (au×V))
 |met (f x:iJ)
 |rng (lo hi:Int)
 |D3 (o:fD) (u:HO)
 |tbl (ps:nJ)
 |ext (φ:jg->Prop)
abbrev Hp:=iJ->Option HO
noncomputable def upd(T:Hp)(a:iJ)(o:HO):Hp:=λb=>if b=a then Y o else T b
def jv{T:Hp}{a:iJ}{o:HO}:upd T a o a=Y o:=by unfold upd;rw[jb I]
def jx{T:Hp}{a b:iJ}{o:HO}(h:b≠a):upd T a o b=T b:=by unfold upd;rw[jr h]
def HJ{T:Hp}{a:iJ}{o u:HO}:upd (upd T a o) a u=upd T a u:=by funext b;unfold upd;split<;>rfl
def SV{T:Hp}{a b:iJ}{o u:HO}(h:T a=Y o)(c:T b=Y u)(d:o≠u):a≠b:=by intro e;subst e;rw[h]at c;exact d<|kT c
def lu{T:Hp}{a b:iJ}{o:HO}(h:T a=Y o)(c:T b=U):a≠b:=by intro e;subst e;rw[h]at c;cases c
section
variable(P:jm)(w:je)
def Au(Q:Hp)(h:jg)(a:iJ):HO->Prop
 |.lst d=>A2 d<=sizeLine/\∃(i:jN)(n:Nat),Vals d i/\h.get? a=Y {cls:=.type "list",data:=.seq i.toArray n}
 |.tup d=>A2 d<=sizeLine/\∃i:List iQ,Vals d i/\li h a i.toArray
 |.dK b=>A2 b<=sizeLine/\(a==bX)=C/\∃k,KV b k/\h.DictOf (lb P w) a k
 |.dT b=>A2 b<=sizeLine/\(a==bX)=C/\∃d:List (List Key×iJ×iQ),
   Paired (λ(p:List Key×V) (q:List Key×iJ×iQ)=>p.1=q.1/\Q q.2.1=Y (.tup<|p.1.map kV)/\RelV p.2 q.2.2) b d/\
   ∃o j N,h.get? a=Y o/\o.ExactDict/\o.data=.dict j N/\j.toList=d.map (entryOfKey<|cE<|lb P w)/\(d.map (·.1)).Nodup
 |.set S n=>h.SetOf (mL P w) a S n
 |.B1 E=>∃(j:rV)(n:Nat)(t:mP),h.get? a=Y {cls:=.type "set",data:=.set j n t}/\Paired (λ(z:Int×V) (e:Int×iQ)=>z.1=e.1/\RelV z.2 e.2) E j.toList/\
   TT.Bs (E.map (·.1)) t/\t.plain=J/\t.led=!w.params.followText "set-order"
 |.ins T l fs=>Q l=Y (.own a)/\(A2 fs)<=1000/\l≠a/\h.get? a=Y (PySem.W.instObj T l)/\
   ∃g,h.Ns1 l g/\(∀f,Hb (fs.lookup f)<|g f)/\PySem.Within g (fs.map (·.1))
 |.own _=>∃o,h.get? a=Y o
 |.xd fs=>∃g,h.Ns1 a g/\∀f,Hb (fs.lookup f)<|g f
 |.rng lo L=>∃t u v,h.get? a=Y {cls:=.type "range",data:=.fields #[.int lo t,.int L u,.int 1 v]}
 |.D3 o u=>h.get? a=Y o/\Au Q h a u
 |.tbl O=>∃q t r,O[0]?=Y (.str q t)/\h.get? a=Y {cls:=.none,data:=.fields r}/\kr r.toList/\∀m y,eM m r.toList=Y y->∃c B u k t,y=.ref c/\Q c=Y (.D3 B u)/\B.data=.fields k/\k[1]?=Y (.str q t)
 |.met f x=>h.get? a=Y (fg (.ref f)<|.ref x)
 |.ext s=>s h/\(∃o,h.get? a=Y o)/\∀h1 A:jg,s h1->(∀o,h1.get? a=Y o->A.get? a=Y o)->s A
def EO(T:Hp)(h:jg):Prop:= ∀a o,T a=Y o->Au P w T h a o
end
section
variable {P:jm}{w:je}{H g:Hp}{h h':jg}{a:iJ}{o:HO}
def Au.lt(x:Au P w H h a o):a<h.objs.size:=by
 cases o with
 |lst c=>obtain⟨_,_,_,_,e⟩:=x;exact km e
 |tup c=>obtain⟨_,_,_,p⟩:=x;exact p.lt
 |dK b=>obtain⟨_,_,_,_,o,_,_,e,_⟩:=x;exact km e
 |dT b=>obtain⟨_,_,_,_,o,_,_,e,_⟩:=x;exact km e
 |set S n=>obtain⟨o,_,_,_,e,_⟩:=x;exact km e
 |B1 l=>obtain⟨_,_,_,e,_⟩:=x;exact km e
 |ins T d fs=>obtain⟨_,_,_,e,_⟩:=x;exact km e
 |own y=>obtain⟨_,e⟩:=x;exact km e
 |xd fs=>obtain⟨_,⟨_,_,_,e,_⟩,_⟩:=x;exact km e
 |rng lo i=>obtain⟨_,_,_,e⟩:=x;exact km e
 |D3 j u=>obtain⟨e,_⟩:=x;exact km e
 |tbl k=>obtain⟨_,_,_,_,e,_⟩:=x;exact km e
 |met f y=>exact km (show h.get? a=Y _ from x)
 |ext m=>obtain⟨_,⟨_,e⟩,_⟩:=x;exact km e
def Paired.Md{e i:Type}{F G:e->i->Prop}{c:List e}{d:List i}(h:Paired F c d)(f:∀a b,F a b->G a b):Paired G c d:=by
 induction h with
 |nil=>exact .nil
 |cons r t j=>exact .cons (f _ _ r) j
def Au.Bm(x:Au P w H h a o)(k:∀b u,(b=a\/H b=A9 (.own a))->h.get? b=A9 u->h'.get? b=A9 u)
  (N:∀b,H b=A9 (.own a)->g b=A9 (.own a))(U:∀b s,H b=A9 (.tup s)->g b=A9 (.tup s))(Y:∀b i u,H b=A9 (.D3 i u)->g b=A9 (.D3 i u):=by exact λ_ _ _ q=>q):Au P w g h' a o:=by
 induction o with
 |lst s=>obtain⟨z,A,n,r,e⟩:=x;exact⟨z,A,n,r,k _ _ (.inl AM) e⟩
 |tup s=>obtain⟨z,A,r,i,e,c⟩:=x;exact⟨z,A,r,i,k _ _ (.inl AM) e,c⟩
 |dK B=>obtain⟨z,y,O,r,i,j,l,e,c⟩:=x;exact⟨z,y,O,r,i,j,l,k _ _ (.inl AM) e,c⟩
 |dT B=>obtain⟨z,y,s,r,i,j,l,e,c⟩:=x;exact⟨z,y,s,Paired.Md r λp q z=>⟨z.1,U _ _ z.2.1,z.2.2⟩,i,j,l,k _ _ (.inl AM) e,c⟩
 |set S n=>obtain⟨i,j,l,t,e,c⟩:=x;exact⟨i,j,l,t,k _ _ (.inl AM) e,c⟩
 |B1 zs=>obtain⟨j,n,t,e,c⟩:=x;exact⟨j,n,t,k _ _ (.inl AM) e,c⟩
 |ins C' dx fs=>obtain⟨d,z,ne,e,E,⟨I,j,l,G,c⟩,r⟩:=x;exact⟨N _ d,z,ne,k _ _ (.inl AM) e,E,⟨I,j,l,k _ _ (.inr d) G,c⟩,r⟩
 |own y=>obtain⟨i,e⟩:=x;exact⟨i,k _ _ (.inl AM) e⟩
 |xd fs=>obtain⟨E,⟨I,j,l,e,c⟩,r⟩:=x;exact⟨E,⟨I,j,l,k _ _ (.inl AM) e,c⟩,r⟩
 |rng lo hi=>obtain⟨t,u,v,e⟩:=x;exact⟨t,u,v,k _ _ (.inl AM) e⟩
 |D3 i u ih=>obtain⟨e,q⟩:=x;exact⟨k _ _ (.inl AM) e,ih q⟩
 |tbl ps=>obtain⟨q,t,D,T,e,F,m⟩:=x;exact⟨q,t,D,T,k _ _ (.inl AM) e,F,λL Q z=>let⟨c,i,u,O,t,h1,J',M⟩:=m L Q z;⟨c,i,u,O,t,h1,Y _ _ _ J',M⟩⟩
 |met f y=>have e:h.get? a=A9 (fg (.ref f)<|.ref y):=x;show h'.get? a=A9 (fg (.ref f)<|.ref y);exact k a _ (.inl AM) e
 |ext φ=>obtain⟨p,⟨o,e⟩,st⟩:=x;exact⟨st _ _ p λo q=>k _ _ (.inl AM) q,⟨o,k _ _ (.inl AM) e⟩,st⟩
def EO.lt(x:EO P w H h)(e:H a=Y o):a<h.objs.size:=(x a o e).lt
def EO.fresh(x:EO P w H h)(e:h.objs.size<=a):H a=U:=by
 cases q:H a with
 |none=>rfl
 |some u=>exact absurd (nN (x.lt q) e)<|oX _
def EO.kept(x:EO P w H h)(k:∀b u,h.get? b=Y u->h'.get? b=Y u):EO P w H h':=λa o e=>(x a o e).Bm (λb u _ q=>k b u q) (λ_ q=>q) λ_ _ q=>q
def EO.laid(x:EO P w H h)(k:∀b u,h.get? b=Y u->h'.get? b=Y u)(i:h.objs.size<=a)(new:Au P w (upd H a o) h' a o):EO P w (upd H a o) h':=λb u e=>by
 have d:=x.fresh i;by_cases f:b=a
 .subst f;rw[jv]at e;cases e;exact new
 rw[jx f]at e;exact(x b u e).Bm (λc v _ q=>k c v q) (λc q=>by rw[jx<|lu q d];exact q) (λc xs q=>by rw[jx<|lu q d];exact q) λc _ _ q=>by rw[jx<|lu q d];exact q
end
def Rd(T:Hp)(a:iJ)(u:HO):Prop:=T a=Y u\/∃o,T a=Y (.D3 o u)
def Rd.ok{P:jm}{w:je}{T:Hp}{h:jg}{a:iJ}{u:HO}(r:Rd T a u)(x:EO P w T h):Au P w T h a u:=by
 rcases r with r|⟨o,r⟩
 .exact x a u r
 obtain⟨_,q⟩:=x a _ r;exact q
def N3:Option HO->Prop
 |some (.lst _)=>True
 |some (.dK _)=>True
 |some (.dT _)=>True
 |some (.set _ _)=>True
 |some (.B1 _)=>True
 |some (.ins _ _ _)=>True
 |some (.ext _)=>True
 |_=>False
section
variable {P:jm}{w:je}{H:Hp}{h a:jg}{x e:iJ}{d:HO}
def EO.write(ok:EO P w H h)(g:N3 (H x))(o:e=x\/H e=Y (.own x))(k:∀b u,b≠e->h.get? b=Y u->a.get? b=Y u)(s:∃u,a.get? e=Y u)
  (new:Au P w (upd H x d) a x d):EO P w (upd H x d) a:=λb u q=>by
 have f:∀c y,H c=Y (.own y)->c≠x:=λc y r z=>by subst z;rw[r]at g;exact g
 have i:∀c n,H c=Y (.tup n)->c≠x:=λc n r z=>by subst z;rw[r]at g;exact g
 by_cases l:b=x
 .subst l;rw[jv]at q;cases q;exact new
 rw[jx l]at q;by_cases j:b=e
 .have p:H b=Y (.own x):=by
   rcases o with z|z
   .exact absurd (j.trans z) l
   rw[j];exact z
  rw[q]at p;cases p;obtain⟨v,hv⟩:=s;exact⟨v,by rw[j];exact hv⟩
 refine(ok b u q).Bm (λc v m r=>k c v ?_ r) (λc r=>by rw[jx<|f c b r];exact r) (λc n r=>by rw[jx<|i c n r];exact r) λc _ _ r=>by rw[jx λz=>by subst z;rw[r]at g;exact g];exact r
 rcases m with rfl|m
 .exact j
 rintro rfl;rcases o with z|z
 .exact f c b m z
 rw[m]at z;cases z;exact l I
end
structure Un(fs ex:kY)(H H':Hp)(h h':jg):Prop where
 keep:∀b o,h.get? b=A9 o->H b=AR->b∉fs->b∉ex->h'.get? b=A9 o
 slot:∀b o,h.get? b=A9 o->H b=AR->b∈fs->b∉ex->∃sl,h'.get? b=A9 {o with slots:=sl}
 free:∀b o,h.get? b=A9 o->H b=AR->b∉ex->H' b=AR
 there:∀b o,h.get? b=A9 o->b∉ex->∃o',h'.get? b=A9 o'
 tups:∀b xs,H b=A9 (.tup xs)->H' b=A9 (.tup xs)
 frzs:∀b o u,H b=A9 (.D3 o u)->H' b=A9 (.D3 o u)
 tbls:∀b ps,H b=A9 (.tbl ps)->∃more,H' b=A9 (.tbl<|ps++more)
section
variable {fs f ex c:kY}{H d i:Hp}{h h1 g h':jg}{a x e:iJ}{o:HO}
def Un.any(u:Un fs ex H d h h1){b:iJ}{j:fD}(q:h.get? b=Y j)(n:H b=U)(l:b∉ex):∃m,h1.get? b=Y {j with slots:=m}:=by
 by_cases k:b∈fs
 .exact u.slot b j q n k l
 exact⟨j.slots,u.keep b j q n k l⟩
def Un.kept(k:∀b u,h.get? b=Y u->h'.get? b=Y u):Un fs ex H H h h':=
 ⟨λb j q _ _ _=>k b j q,λb j q _ _ _=>⟨j.slots,k b j q⟩,λ_ _ _ n _=>n,λb j q _=>⟨j,k b j q⟩,λ_ _ q=>q,λ_ _ _ q=>q,λ_ l q=>⟨#[],by rw[q];simp⟩⟩
def Un.refl:Un fs ex H H h h:=Un.kept λ_ _ q=>q
def Un.laid(k:∀b u,h.get? b=Y u->h'.get? b=Y u)(r:h.objs.size<=a)(j:H a=U):Un fs ex H (upd H a o) h h' where
 keep:=λb u q _ _ _=>k b u q
 slot:=λb u q _ _ _=>⟨u.slots,k b u q⟩
 free:=λb u q n _=>by rw[jx<|kF<|nN (km q) r];exact n
 there:=λb u q _=>⟨u,k b u q⟩
 tups:=λb xs q=>by rw[jx<|lu q j];exact q
 frzs:=λb u xs q=>by rw[jx<|lu q j];exact q
 tbls:=λb s q=>⟨#[],by rw[jx<|lu q j,q];simp⟩
def Un.write(j:N3 (H x))(v:e=x\/H e=Y (.own x))(k:∀b u,b≠e->h.get? b=Y u->h'.get? b=Y u)(t:∃u,h'.get? e=Y u):Un fs ex H (upd H x o) h h':=by
 have s:∀b,H b=U->b≠x:=λb n z=>by subst z;rw[n]at j;exact j
 have p:∀b,H b=U->b≠e:=λb n z=>by
  subst z;rcases v with r|r
  .exact s b n r
  rw[n]at r;cases r
 have l:∀b u,H b=Y u->¬N3 (Y u)->b≠x:=λb u q w z=>by subst z;rw[q]at j;exact w j
 refine⟨λb u q n _ _=>k b u (p b n) q,λb u q n _ _=>⟨u.slots,k b u (p b n) q⟩,λb u q n _=>by rw[jx<|s b n];exact n,λb u q _=>?_,
  λb y q=>by rw[jx<|l b _ q λz=>z];exact q,λb u y q=>by rw[jx<|l b _ q λz=>z];exact q,λb A q=>⟨#[],by rw[jx<|l b _ q λz=>z,q];simp⟩⟩
 by_cases m:b=e
 .subst m;exact t
 exact⟨u,k b u m q⟩
end
noncomputable def NG(h:jg)(T:Hp):List Addr:=(am h.objs.size).filter λa=>(T a).isSome
def Bi(h:jg)(T:Hp):Heap:=PySem.W.hideAll h<|NG h T
def ad0(h:jg)(T:Hp):(Bi h T).objs.size=h.objs.size:=PySem.W.hideAll_size _ _
def Oc{h:jg}{T:Hp}{b:iJ}{o:fD}(e:h.get? b=Y o)(n:T b=U):(Bi h T).get? b=Y o:=
 PySem.W.hideAll_get _ e λa=>by have q:(T b).isSome=J:=(Fx.mp a).2;rw[n]at q;simp at q
def Q7{h:jg}{T:Hp}{b:iJ}{o:fD}(e:(Bi h T).get? b=Y o):h.get? b=Y o/\T b=U:=by
 have a:h.get? b=Y o:=PySem.W.of_hideAll (NG h T) e;refine⟨a,?_⟩
 cases q:T b with
 |none=>rfl
 |some x=>have c:b∈NG h T:=Fx.mpr ⟨um.mpr<|km a,by simp[q]⟩;have z:(Bi h T).get? b=U:=PySem.W.hideAll_none (NG h T) c;rw[z]at e;cases e
structure Mod(K:jl)(mg:lE)(base:jg):Prop where
 kin:K.In base
 glob:base.Ns aj mg
 blt:∃mb,base.Ns hD mb/\∀x:au,x≠"__name__"->mb x=aE x
 nolimit:base.NoLimit
structure Cx where
 prog:jm
 w:je
 K:jl
 mg:au->Option iQ
 base:jg
 A:jh
 N:List au
 s₀:Shared
 H₀:Hp
 env:dO
 outer:List dO
 stack:List dO
 ex:List iJ
 fn:au->Bool
 calm:Bool
 pn:List (iJ×fD)
 xe:iQ->Shared->Prop
noncomputable def Eg(l:List dO):List Addr:=l.filterMap (·.frame)
abbrev Cx.fs(X:Cx):List Addr:=Eg X.outer
def Ke(a:jS)(x:au):Prop:=a.names.lookup x=Y .local\/a.names.lookup x=Y .cell\/a.names.lookup x=Y .free
def Loc(a:jS)(x:au):Prop:=a.names.lookup x=Y .local\/a.names.lookup x=Y .cell
def aaQ(a:dO)(h:jg)(m:lE)(x:au)(u:iQ):Prop:=
 (a.kindOf x=Y .local/\m x=Y u)\/((a.kindOf x=Y .cell\/a.kindOf x=Y .free)/\∃c,a.cells.lookup x=Y c/\h.IsCell c (Y u))
structure Cx.Ok(X:Cx):Prop where
 mod:Mod X.K X.mg X.base
 kind:X.env.scope.kind=.function
 glob:X.env.globals=aj
 blt:X.env.builtins=hD
 above:X.s₀.heap.objs.size<=X.env.locals
 inj:∀x y c,X.env.cells.lookup x=A9 c->X.env.cells.lookup y=A9 c->x=y
 has:∀x,(X.env.kindOf x=A9 .cell\/X.env.kindOf x=A9 .free)->∃c,X.env.cells.lookup x=A9 c
 cab:∀x c,X.fn x=Ap->X.env.cells.lookup x=A9 c->X.s₀.heap.objs.size<=c
 hd:X.calm=Ap->X.A.handled=AR
 frames:X.A.frames=A9 X.stack
 stk:X.stack=X.outer\/(X.stack=X.env::X.outer/\X.env.frame=A9 X.env.locals)
 exf:∀b∈X.ex,b≠X.env.locals/\∀x c,X.env.cells.lookup x=A9 c->c≠b
 bs:∀b o,X.base.get? b=A9 o->X.s₀.heap.get? b=A9 o/\X.H₀ b=AR
 bsz:X.base.objs.size<=X.s₀.heap.objs.size
 noex:∀b o,X.base.get? b=A9 o->b∉X.ex
 exfs:∀b∈X.ex,b∉X.fs
 Ed:X.s₀.heap.FunFrames X.base X.outer
 frf:∀b∈X.fs,X.H₀ b=AR
structure Inv(X:Cx)(pins:jG)(σ:List (Option V))(H:Hp)(s:iN):Prop where
 ok:X.Ok
 os:s.os=X.s₀.os
 bare:ew s.gens
 base:Un X.fs X.ex X.H₀ H X.s₀.heap s.heap
 loc:∃m,s.heap.Ns X.env.locals m/\∀(i:Nat)(x:au)(v:V),X.N[i]?=A9 x->σ[i]?=A9 (A9 v)->Ke X.env.scope x->∃u,RelV v u/\aaQ X.env s.heap m x u
 cell:∀x c,X.env.cells.lookup x=A9 c->∃v,s.heap.IsCell c v
 free:H X.env.locals=AR
 freeC:∀x c,X.env.cells.lookup x=A9 c->H c=AR
 pin:∀p∈X.pn++pins,s.heap.get? p.1=A9 p.2/\H p.1=AR/\p.1≠X.env.locals/\p.1∉X.fs/\∀v,p.2.data≠ .cell v
 hok:EO X.prog X.w H s.heap
 len:(A2 σ)=X.N.length
section
variable {X:Cx}{f:jG}{g:List (Option V)}{H B:Hp}{s:iN}{h':jg}
def Cx.Ok.nofr(ok:X.Ok){b:iJ}{o:fD}(e:X.base.get? b=Y o):b∉X.fs:=λa=>by have:=(ok.Ed.mem a).1;rw[e]at this;cases this
def Inv.bs(T:Inv X f g H s):∀b o,X.base.get? b=Y o->s.heap.get? b=Y o/\H b=U:=λb o e=>⟨T.base.keep b o (T.ok.bs b o e).1 (T.ok.bs b o e).2 (T.ok.nofr e)<|T.ok.noex b o e,T.base.free b o (T.ok.bs b o e).1 (T.ok.bs b o e).2<|T.ok.noex b o e⟩
def Inv.bk(T:Inv X f g H s):∀b o,X.base.get? b=Y o->s.heap.get? b=Y o:=λb o e=>(T.bs b o e).1
def Inv.mod(T:Inv X f g H s):Mod X.K X.mg X.base:=T.ok.mod
def Inv.G8(T:Inv X f g H s):X.K.In s.heap:=T.ok.mod.kin.keeps T.bk
def Inv.lt(T:Inv X f g H s):X.env.locals<s.heap.objs.size:=let⟨_,a,_⟩:=T.loc;a.lt
def Inv.sz(T:Inv X f g H s):X.s₀.heap.objs.size<=s.heap.objs.size:=lC T.ok.above<|vO T.lt
def Inv.Ma(T:Inv X f g H s){a:iJ}(h:s.heap.objs.size<=a):a∉X.fs:=λb=>by obtain⟨_,o,c,_⟩:=T.ok.Ed.mem b;exact absurd (nN (km c)<|lC T.sz h)<|oX _
def Inv.Js(T:Inv X f g H s):∀x c,X.env.cells.lookup x=Y c->c≠X.env.locals:=λx c e z=>by obtain⟨v,o,a,hd⟩:=T.cell x c e;obtain⟨m,⟨j,i,h,d,b,_⟩,_⟩:=T.loc;rw[z,d]at a;cases a;rw[b]at hd;cases hd
def Inv.Ed(T:Inv X f g H s):s.heap.FunFrames X.base X.outer:=by
 have all:∀(l:List dO),(∀b∈Eg l,b∈X.fs)->X.s₀.heap.FunFrames X.base l->s.heap.FunFrames X.base l:=by
  intro l
  induction l with
  |nil=>intro _ _;trivial
  |cons i r p=>intro h j;obtain⟨hk,⟨L,o,d,k,m,hd⟩,n⟩:=j;have a:L∈X.fs:=h L (by unfold Eg;rw[uF,d];exact jW);obtain⟨q,e⟩:=T.base.slot L o m (T.ok.frf L a) a λz=>T.ok.exfs L z a;exact⟨hk,⟨L,_,d,k,e,hd⟩,p (λb c=>h b<|by unfold Eg;rw[uF,d];exact jU _ c) n⟩
 exact all X.outer (λ_ c=>c) T.ok.Ed
def Inv.stack(T:Inv X f g H s):s.heap.FunFrames X.base X.stack:=by
 rcases T.ok.stk with e|⟨e,hf⟩
 .rw[e];exact T.Ed
 rw[e];obtain⟨m,a,_⟩:=T.loc;refine .cons (by rw[T.ok.kind];decide) hf a ?_ T.Ed;exact Heap.get?_none_of_le<|lC T.ok.bsz T.ok.above
def Inv.GR(T:Inv X f g H s):∀b∈Eg X.stack,b∈X.env.locals::X.fs:=λb a=>by
 rcases T.ok.stk with e|⟨e,hf⟩
 .rw[e]at a;exact jU _ a
 rw[e]at a;unfold Eg at a;rw[uF,hf]at a;exact a
def Inv.GH(T:Inv X f g H s):∀b∈Eg X.stack,H b=U:=λb a=>by
 rcases kM.mp (T.GR b a)with e|a
 .rw[e];exact T.free
 obtain⟨_,o,c,_⟩:=T.ok.Ed.mem a;exact T.base.free b o c (T.ok.frf b a) λz=>T.ok.exfs b z a
def Inv.step{g':Array eO}{t':Nat}{d':Drawn}{ch:kY}(I:Inv X f g H s)
  (E:∀b∈ch,(b∈X.ex\/X.s₀.heap.objs.size<=b)/\b≠X.env.locals/\(∀x c,X.env.cells.lookup x=Y c->c≠b)/\∀p∈X.pn++f,p.1≠b)
  (keep:∀b o,b≠X.env.locals->b∉X.fs->b∉ch->s.heap.get? b=Y o->H b=AR->h'.get? b=Y o)
  (slot:∀b o,b≠X.env.locals->b∈X.fs->b∉ch->s.heap.get? b=Y o->H b=AR->∃Y',h'.get? b=Y {o with slots:=Y'})(free:∀b o,b∉ch->s.heap.get? b=Y o->H b=AR->B b=AR)
  (there:∀b o,b∉ch->s.heap.get? b=Y o->∃T,h'.get? b=Y T)
  (J:∀b t,H b=Y (.tup t)->B b=Y (.tup t))(O:∀b o u,H b=Y (.D3 o u)->B b=Y (.D3 o u))(G:∀b N,H b=Y (.tbl N)->∃more,B b=Y (.tbl<|N++more))
  (ns:∀m,s.heap.Ns X.env.locals m->h'.Ns X.env.locals m)(U:EO X.prog X.w B h')(hg:ew g'):
  Inv X f g B {s with heap:=h',gens:=g',drawn:=d',toks:=t'}:=by
 have Q:∀b o,X.s₀.heap.get? b=Y o->b≠X.env.locals:=λb o e=>kF<|nN (km e) I.ok.above
 have M:∀b o,X.s₀.heap.get? b=Y o->b∉X.ex->b∉ch:=λb o e a y=>by
  rcases(E b y).1 with z|z
  .exact a z
  exact absurd (nN (km e) z) (oX _)
 have h:∀x c,X.env.cells.lookup x=Y c->∀v,s.heap.IsCell c v->h'.IsCell c v:=λx c e v a'=>by
  obtain⟨o,A,hd⟩:=a'
  have C:c∉ch:=λz=>(E c z).2.2.1 x c e AM;by_cases D:c∈X.fs
  .obtain⟨Y',q⟩:=slot c o (I.Js x c e) D C A<|I.freeC x c e;exact⟨_,q,hd⟩
  exact⟨o,keep c o (I.Js x c e) D C A<|I.freeC x c e,hd⟩
 refine⟨I.ok,I.os,hg,⟨λb o e n y a=>?_,λb o e n y a=>?_,λb o e n a=>?_,λb o e a=>?_,λb t e=>J b t<|I.base.tups b t e,λb o t e=>O b o t<|I.base.frzs b o t e,λb N e=>?_⟩,?_,λx c e=>?_,?_,λx c e=>?_,λp F=>?_,U,I.len⟩
 .exact keep b o (Q b o e) y (M b o e a) (I.base.keep b o e n y a) (I.base.free b o e n a)
 .obtain⟨Y',j⟩:=I.base.slot b o e n y a;obtain⟨R,L⟩:=slot b _ (Q b o e) y (M b o e a) j (I.base.free b o e n a);exact⟨R,L⟩
 .obtain⟨T,j⟩:=I.base.there b o e a;exact free b T (M b o e a) j<|I.base.free b o e n a
 .obtain⟨T,j⟩:=I.base.there b o e a;exact there b T (M b o e a) j
 .obtain⟨W,j⟩:=I.base.tbls b N e;obtain⟨Z,L⟩:=G b _ j;exact⟨W++Z,by rw[L,Gn]⟩
 .obtain⟨m,V,S⟩:=I.loc;refine⟨m,ns m V,λi x v j L P=>?_⟩;obtain⟨u,r,l⟩:=S i x v j L P;refine⟨u,r,?_⟩;rcases l with l|⟨k,c,e,z⟩
  .exact .inl l
  exact .inr ⟨k,c,e,h x c e _ z⟩
 .obtain⟨v,z⟩:=I.cell x c e;exact⟨v,h x c e v z⟩
 .obtain⟨m,⟨o,_,_,A,_⟩,_⟩:=I.loc;exact free _ o (λz=>(E _ z).2.1 AM) A I.free
 .obtain⟨v,o,A,hd⟩:=I.cell x c e;exact free c o (λz=>(E c z).2.2.1 x c e AM) A<|I.freeC x c e
 obtain⟨e,n,ne,K,d⟩:=I.pin p F;have C:p.1∉ch:=λz=>(E p.1 z).2.2.2 p F AM;exact⟨keep p.1 p.2 ne K C e n,free p.1 p.2 C e n,ne,K,d⟩
def Inv.un{t':Nat}(T:Inv X f g H s)(u:Un X.fs [] H B s.heap h')(d:EO X.prog X.w B h'):Inv X f g B {s with heap:=h',toks:=t'}:=by
 obtain⟨m,⟨o,t,q,i,r⟩,_⟩:=id T.loc;obtain⟨y,k⟩:=u.any i T.free (by simp)
 exact T.step (g':=s.gens) (d':=s.drawn) (ch:=[]) (λ_ z=>nomatch z) (λb o _ c _ e n=>u.keep b o e n c<|by simp) (λb o _ c _ e n=>u.slot b o e n c<|by simp) (λb o _ e n=>u.free b o e n<|by simp) (λb o _ e=>u.there b o e<|by simp) u.tups u.frzs u.tbls (λv l=>by obtain⟨x,a,j,h,p⟩:=l;rw[i]at h;cases h;exact⟨_,a,j,k,p⟩) d T.bare
def Inv.call{g':Array eO}{t':Nat}{d':Drawn}{ch:kY}(N:Inv X f g H s)(u:Un (Eg X.stack) ch H B s.heap h')(i:EO X.prog X.w B h')(v:ew g')
  (k:∀b∈ch,(b∈X.ex\/X.s₀.heap.objs.size<=b)/\b≠X.env.locals/\(∀x c,X.env.cells.lookup x=Y c->c≠b)/\∀p∈X.pn++f,p.1≠b):
  Inv X f g B {s with heap:=h',gens:=g',drawn:=d',toks:=t'}:=by
 obtain⟨m,⟨o,E,T,l,r⟩,_⟩:=id N.loc;obtain⟨Q,h⟩:=u.any l N.free λz=>(k _ z).2.1 I
 exact N.step (ch:=ch) k (λb o h t a e n=>u.keep b o e n (λz=>(kM.mp<|N.GR b z).elim h t) a) (λb o _ _ a e n=>u.any e n a) (λb o a e n=>u.free b o e n a) (λb o a e=>u.there b o e a) u.tups u.frzs u.tbls (λL y=>by obtain⟨O,d,q,j,A⟩:=y;rw[l]at j;cases j;exact⟨_,d,q,h,A⟩) i v
def Inv.turned{t':Nat}{it:iJ}(Q:Inv X f g H s)(k:∀b o,b≠it->s.heap.get? b=Y o->h'.get? b=Y o)(A:H it=U)(h:it≠X.env.locals)
  (h1:it∈X.ex\/X.s₀.heap.objs.size<=it)(l:∀x c,X.env.cells.lookup x=Y c->c≠it)(t:∀p∈X.pn++f,p.1≠it):Inv X f g H {s with heap:=h',toks:=t'}:=by
 have d:∀b u,H b=Y u->b≠it:=λb u e z=>by rw[z,A]at e;cases e
 refine Q.step (g':=s.gens) (d':=s.drawn) (ch:=[it]) (λb w=>?_) (λb o _ _ a e _=>k b o (λz=>a<|by simp[z]) e) (λb o _ _ a e _=>⟨o.slots,k b o (λz=>a<|by simp[z]) e⟩) (λ_ _ _ _ n=>n)
  (λb o a e=>⟨o,k b o (λz=>a<|by simp[z]) e⟩) (λ_ _ e=>e) (λ_ _ _ e=>e) (λb E e=>⟨#[],by rw[e];simp⟩) (λm y=>?_) (λb u e=>?_) Q.bare
 .have e:b=it:=by simpa using w
  subst e;exact⟨h1,h,l,t⟩
 .obtain⟨o,j,i,T,r⟩:=y;exact⟨o,j,i,k _ o (oF h) T,r⟩
 refine(Q.hok b u e).Bm (λc v a q=>k c v ?_ q) (λ_ q=>q) λ_ _ q=>q;rcases a with z|z
 .rw[z];exact d b u e
 exact d c _ z
def Inv.tok(T:Inv X f g H s)(t:Nat):Inv X f g H {s with toks:=t}:=T.un (h':=s.heap) (t':=t) Un.refl T.hok
def Inv.kept{t':Nat}(T:Inv X f g H s)(k:∀b u,s.heap.get? b=Y u->h'.get? b=Y u):Inv X f g H {s with heap:=h',toks:=t'}:=T.un (Un.kept k)<|T.hok.kept k
def Inv.laid{a:iJ}{o:HO}{t':Nat}(T:Inv X f g H s)(k:∀b u,s.heap.get? b=Y u->h'.get? b=Y u)(c:s.heap.objs.size<=a)(new:Au X.prog X.w (upd H a o) h' a o):
  Inv X f g (upd H a o) {s with heap:=h',toks:=t'}:=T.un (Un.laid k c<|T.hok.fresh c)<|T.hok.laid k c new
def Inv.write{x e:iJ}{o:HO}{h:Nat}(T:Inv X f g H s)(d:N3 (H x))(c:e=x\/H e=Y (.own x))(k:∀b u,b≠e->s.heap.get? b=Y u->h'.get? b=Y u)(a:∃u,h'.get? e=Y u)
  (new:Au X.prog X.w (upd H x o) h' x o):Inv X f g (upd H x o) {s with heap:=h',toks:=h}:=T.un (Un.write d c k a)<|T.hok.write d c k a new
def Inv.Hk{a:jG}(T:Inv X f g H s)(h:∀p∈a,s.heap.get? p.1=Y p.2/\H p.1=U/\p.1≠X.env.locals/\p.1∉X.fs/\∀v,p.2.data≠ .cell v):Inv X a g H s:=
 ⟨T.ok,T.os,T.bare,T.base,T.loc,T.cell,T.free,T.freeC,λp b=>(pQ.mp b).elim (λz=>T.pin p<|C7 _ z)<|h p,T.hok,T.len⟩
def Ab{N:jw}(e:N.Nodup){i j:Nat}{x:au}(a:N[i]?=Y x)(b:N[j]?=Y x):i=j:=by obtain⟨h1,c⟩:=tM.mp a;obtain⟨h,d⟩:=tM.mp b;exact(Gm e).mp (c.trans d.symm)
def adL{M:gr}{A:jh}{E:jy}{i:Nat}{x:au}{v:V}{u:iQ}{Q:Unit->Shared->Prop}(I:Inv X f g H s)(hN:X.N.Nodup)(U:X.N[i]?=A9 x)(O:Loc X.env.scope x)(r:RelV v u)
  (h:∀s',Inv X f (g.set i<|A9 v) H s'->(∃a,ay a s.heap s'.heap/\(a=X.env.locals\/X.env.cells.lookup x=A9 a))->Q () s')(hf:X.fn x=Ap\/X.env.scope.names.lookup x=A9 .local:=by first|exact .inl rfl|exact .inr rfl|assumption):ae M A (storeName X.env x u) Q E s:=by
 obtain⟨m,R,hl⟩:=id I.loc;have bM:(X.env.scope.kind== .class||(X.env.scope.kind== .module&&X.env.locals !=X.env.globals))=AX:=by rw[I.ok.kind];rfl
 have fJ:i<(A2 g):=by rw[I.len];exact(tM.mp U).1
 have Js:=I.Js
 have C:∀{a:iJ}{h':jg},(∃o,s.heap.get? a=A9 o/\H a=AR)->ay a s.heap h'->EO X.prog X.w H h':=λ{a h'} ha l b ob e=>by
  obtain⟨_,_,j9⟩:=ha;refine(I.hok b ob e).Bm (λc F L q=>(l.2 c ?_).trans q) (λ_ q=>q) λ_ _ q=>q;rintro rfl;rcases L with rfl|L
  .rw[j9]at e;cases e
  rw[j9]at L;cases L
 rcases O with hk|hk
 .refine LN hk R (λh' cP l=>?_) bM;obtain⟨oL,_,_,S,_⟩:=id R;refine h _ ⟨I.ok,I.os,I.bare,⟨λb o e n G O=>?_,λb o e n G O=>?_,I.base.free,λb o e O=>?_,I.base.tups,I.base.frzs,I.base.tbls⟩,⟨_,cP,λj y v' t T P=>?_⟩,λy c e=>?_,I.free,I.freeC,λp W=>?_,C ⟨oL,S,I.free⟩ l,by simpa using I.len⟩ ⟨_,l,.inl AM⟩
  .exact(l.2 b<|kF<|nN (km e) I.ok.above).trans (I.base.keep b o e n G O)
  .obtain⟨sl,t⟩:=I.base.slot b o e n G O;exact⟨sl,(l.2 b<|kF<|nN (km e) I.ok.above).trans t⟩
  .obtain⟨o',t⟩:=I.base.there b o e O;exact⟨o',(l.2 b<|kF<|nN (km e) I.ok.above).trans t⟩
  .by_cases J:j=i
   .subst J;rw[U]at t;cases t;rw[oo fJ]at T;cases T;exact⟨u,r,.inl ⟨hk,by simp⟩⟩
   rw[om<|oF J]at T;obtain⟨u',r',q⟩:=hl j y v' t T P;refine⟨u',r',?_⟩;rcases q with⟨k,e⟩|⟨k,c,e,z⟩
   .refine .inl ⟨k,?_⟩;have:y≠x:=λe=>J<|Ab hN t<|e▸U;simp[this,e]
   exact .inr ⟨k,c,e,z.sameBut l<|Js y c e⟩
  .obtain⟨F,z⟩:=I.cell y c e;exact⟨F,z.sameBut l<|Js y c e⟩
  obtain⟨e,n,ne,Z,d⟩:=I.pin p W;exact⟨(l.2 p.1 ne).trans e,n,ne,Z,d⟩
 have K:X.fn x=Ap:=by
  rcases hf with z|z
  .exact z
  rw[z]at hk;cases hk
 obtain⟨c,L⟩:=I.ok.has x<|.inl hk;obtain⟨F,z⟩:=I.cell x c L;refine wpAny_storeName_cell I.ok.kind hk L z λh' bp l=>?_;obtain⟨oc,ee,Y⟩:=id z;refine h {s with heap:=h'} ⟨I.ok,I.os,I.bare,⟨λb o e n G O=>?_,λb o e n G O=>?_,I.base.free,λb o e O=>?_,I.base.tups,I.base.frzs,I.base.tbls⟩,⟨m,R.sameBut l<|oF<|Js x c L,λj y v' t T P=>?_⟩,λy D e=>?_,I.free,I.freeC,λp W=>?_,C ⟨oc,ee,I.freeC x c L⟩ l,by simpa using I.len⟩ ⟨c,l,.inr L⟩
 .exact(l.2 b<|kF<|nN (km e)<|I.ok.cab x c K L).trans (I.base.keep b o e n G O)
 .obtain⟨sl,t⟩:=I.base.slot b o e n G O;exact⟨sl,(l.2 b<|kF<|nN (km e)<|I.ok.cab x c K L).trans t⟩
 .obtain⟨o',t⟩:=I.base.there b o e O;exact⟨o',(l.2 b<|kF<|nN (km e)<|I.ok.cab x c K L).trans t⟩
 .by_cases J:j=i
  .subst J;rw[U]at t;cases t;rw[oo fJ]at T;cases T;exact⟨u,r,.inr ⟨.inl hk,c,L,bp⟩⟩
  rw[om<|oF J]at T;obtain⟨u',r',q⟩:=hl j y v' t T P;refine⟨u',r',?_⟩;rcases q with q|⟨k,D,e,z'⟩
  .exact .inl q
  refine .inr ⟨k,D,e,z'.sameBut l ?_⟩;rintro rfl;exact J<|Ab hN t<|I.ok.inj _ _ _ e L▸U
 .by_cases fN:D=c
  .subst fN;exact⟨_,bp⟩
  obtain⟨w2,z2⟩:=I.cell y D e;exact⟨w2,z2.sameBut l fN⟩
 obtain⟨e,n,ne,Z,d⟩:=I.pin p W;refine⟨(l.2 p.1 ?_).trans e,n,ne,Z,d⟩;intro q;rw[q,ee]at e;have q':oc=p.2:=kT e;exact d F (by rw[<-q'];exact Y)
def zF{M:gr}{A:jh}{E:jy}{i:Nat}{x:au}{v:V}{u:iQ}{Q:Unit->Shared->Prop}(T:Inv X f g H s)(c:X.N.Nodup)(e:X.N[i]?=Y x)(j:Loc X.env.scope x)(r:RelV v u)
  (h:∀a,Inv X f (g.set i<|Y v) H a->Q () a)(d:X.fn x=J\/X.env.scope.names.lookup x=Y .local:=by first|exact .inl rfl|exact .inr rfl|assumption):ae M A (storeName X.env x u) Q E s:=
 adL T c e j r (λa b _=>h a b) d
def Inv.Kb{s':iN}{ch:kY}(T:Inv X f g H s)(i:s'.os=s.os)(u:Un (Eg X.stack) ch H B s.heap s'.heap)(a:EO X.prog X.w B s'.heap)(h:ew s'.gens)
  (d:∀b∈ch,(b∈X.ex\/X.s₀.heap.objs.size<=b)/\b≠X.env.locals/\(∀x c,X.env.cells.lookup x=Y c->c≠b)/\∀p∈X.pn++f,p.1≠b):Inv X f g B s':=by
 obtain⟨h',g',d',t',j⟩:=s';have e:j=s.os:=i;subst e;exact T.call (g':=g') (t':=t') (d':=d') u a h d
end
abbrev XK:=iQ->Option iJ->Hp->Prop
abbrev St:=List<|Option V
abbrev VK:=V->Hp->Prop
abbrev TE:=St->Hp->VK->Prop
abbrev TT:=St->Hp->(Bool->Hp->Prop)->Prop
abbrev TA:=St->Hp->(List V->Hp->Prop)->Prop
structure Ends where
 nx:St->Hp->Prop
 rt:VK
 bk:St->Hp->Prop:=λ_ _=>False
 ct:St->Hp->Prop:=λ_ _=>False
abbrev TS:=Ends->St->Hp->Prop
inductive EP(X:Cx)(pins:jG)(σ:St)(Q:VK)(u:iQ)(s':iN):Prop where
 |mk (v:V) (H':Hp) (_:Inv X pins σ H' s') (_:RelV v u) (_:Q v H')
inductive TP(X:Cx)(pins:jG)(σ:St)(Q:Bool->Hp->Prop)(b:Bool)(s':iN):Prop where
 |mk (H':Hp) (_:Inv X pins σ H' s') (_:Q b H')
inductive AP(X:Cx)(pins:jG)(σ:St)(Q:List V->Hp->Prop)(us:jN)(s':iN):Prop where
 |mk (vs:List V) (H':Hp) (_:Inv X pins σ H' s') (_:Vals vs us) (_:Q vs H')
def SP(X:Cx)(b:jG)(D:Ends)(f:Flow)(d:iN):Prop:=
 match f with
 |.next=>∃a c,Inv X b a c d/\D.nx a c
 |.brk=>∃a c,Inv X b a c d/\D.bk a c
 |.cont=>∃a c,Inv X b a c d/\D.ct a c
 |.ret u=>∃v a c,Inv X b a c d/\RelV v u/\D.rt v c
def PE(X:Cx)(e:iT)(t:TE):Prop:=
 ∀(a:jG)(s:iN)(b:St)(T:Hp)(Q:VK),Inv X a b T s->t b T Q->ae (af X.prog X.w) X.A (aW e X.env) (EP X a b Q) X.xe s
def PT(X:Cx)(e:iT)(t:TT):Prop:=
 ∀(a:jG)(s:iN)(b:St)(T:Hp)(Q:Bool->Hp->Prop),Inv X a b T s->t b T Q->ae (af X.prog X.w) X.A (isTrue e X.env<|aW e X.env) (TP X a b Q) X.xe s
def PW(X:Cx)(e:iT)(t:TT):Prop:=
 ∀(b:d7 iQ)(a:jG)(s:iN)(c:St)(T:Hp)(Q:Bool->Hp->Prop),Inv X a c T s->t c T Q->ae (af X.prog X.w) X.A (isTrue e X.env b) (TP X a c Q) X.xe s
def PW.pt{X:Cx}{e:iT}{t:TT}(h:PW X e t):PT X e t:=h _
def PA(X:Cx)(d:ky)(t:TA):Prop:=
 ∀(b:bu)(a:jG)(s:iN)(c:St)(T:Hp)(Q:List V->Hp->Prop),Inv X a c T s->t c T Q->ae (af X.prog X.w) X.A (vw<|aT b<|ac d X.env) (AP X a c Q) X.xe s
def PS(X:Cx)(st:bn)(t:TS):Prop:=
 ∀(a:jG)(s:iN)(b:St)(T:Hp)(D:Ends),Inv X a b T s->t D b T->ae (af X.prog X.w) X.A (exec st X.env) (SP X a D) X.xe s
def Ha(X:Cx)(st:List bn)(t:TS):Prop:=
 ∀(a:jG)(s:iN)(b:St)(T:Hp)(D:Ends),Inv X a b T s->t D b T->ae (af X.prog X.w) X.A (execs st X.env) (SP X a D) X.xe s
def Bl{c:Type}{t:d7 c}{Q b:c->Shared->Prop}{M:gr}{A:jh}{E:jy}{s:iN}(h:ae M A t Q E s)(d:∀a s,Q a s->b a s):ae M A t b E s:=oj h d λ_ _ x=>x
section
variable {X:Cx}
def ZD(i:Nat):TE:=λa T Q=>∃v,a[i]?=Y (Y v)/\Q v T
noncomputable def tC(v:V):TE:=λ_ T Q=>Q v T
def zS{i:Nat}{x:au}{f:bu}(g:X.N[i]?=Y x)(hv:Ke X.env.scope x)(hd:(x==("__debug__":au))=C:=by decide)(n:(x==("__classdict__":au))=C:=by decide):PE X (.Name x f) (ZD i):=by
 intro a s o T Q O h;obtain⟨v,e,h⟩:=h;obtain⟨m,k,j⟩:=O.loc;obtain⟨u,r,l⟩:=j i x v g e hv;have fin:EP X a o Q u s:=⟨v,T,O,r,h⟩
 rcases l with⟨hk,hm⟩|⟨hk,c,b,d⟩
 .exact th (wpAny_loadName_local O.ok.kind hk k hm fin) hd
 rcases hk with hk|hk
 .exact th (wpAny_loadName_cell O.ok.kind hk b d fin) hd
 exact th (wpAny_loadName_free O.ok.kind hk b d fin n) hd
def Na{i j f}:PE X (.Constant (.int i) j f) (tC<|.int i):=λ_ _ _ T _ Q h=>wpAny_Constant_int ⟨.int i,T,Q.tok _,⟨_,rfl⟩,h⟩
def X4{b j f}:PE X (.Constant (.bool b) j f) (tC<|.bl b):=λ_ _ _ T _ Q h=>Constant_bool ⟨.bl b,T,Q,rfl,h⟩
def UR{j f}:PE X (.Constant .none j f) (tC .Ar):=λ_ _ _ T _ Q h=>Constant_none ⟨.Ar,T,Q,rfl,h⟩
def UO{x j f}:PE X (.Constant (.str x) j f) (tC<|.str x):=λ_ _ _ T _ Q h=>Calls.Constant_str ⟨.str x,T,Q.tok _,⟨_,rfl⟩,h⟩
def Gl(X:Cx)(x:au):Prop:=X.env.kindOf x=Y .globalImplicit
def wu{E:jy}{a:jG}{s:iN}{d:St}{T:Hp}{x:au}{u:iQ}{f:bu}{Q:jy}(O:Inv X a d T s)(b:Gl X x)(c:X.mg x=Y u)(h:Q u s)
  (hd:(x==("__debug__":au))=C:=by decide):ae (af X.prog X.w) X.A (aW (.Name x f) X.env) Q E s:=
 LM O.ok.kind b (Calls.loadGlobal_global (by rw[O.ok.glob];exact O.mod.glob.keeps O.bk) c h) hd
def sZ{E:jy}{a:jG}{s:iN}{g:St}{T:Hp}{x:au}{u:iQ}{f:bu}{Q:jy}(O:Inv X a g T s)(c:Gl X x)(d:X.mg x=U)(hv:aE x=Y u)(h:Q u s)
  (e:x≠"__name__":=by decide)(hd:(x==("__debug__":au))=C:=by decide):ae (af X.prog X.w) X.A (aW (.Name x f) X.env) Q E s:=by
 obtain⟨i,h1,b⟩:=O.mod.blt;exact LM O.ok.kind c (Calls.loadGlobal_builtin (by rw[O.ok.glob];exact O.mod.glob.keeps O.bk) d (by rw[O.ok.blt];exact h1.keeps O.bk) ((b x e).trans hv) h) hd
def Qt{x:au}{v:V}{u:iQ}{f:bu}(a:Gl X x)(b:X.mg x=Y u)(r:RelV v u)(hd:(x==("__debug__":au))=C:=by decide):PE X (.Name x f) (tC v):=
 λ_ _ _ T _ Q h=>wu Q a b ⟨v,T,Q,r,h⟩ hd
def yM{x:au}{v:V}{u:iQ}{f:bu}(a:Gl X x)(b:X.mg x=U)(hv:aE x=Y u)(r:RelV v u)(c:x≠"__name__":=by decide)(hd:(x==("__debug__":au))=C:=by decide):PE X (.Name x f) (tC v):=
 λ_ _ _ T _ Q h=>sZ Q a b hv ⟨v,T,Q,r,h⟩ c hd
variable {a b:iT}{n tb:TE}{f:bu}
def Nv(b:iT){c:cF}(h:c≠ .In)(g:c≠ .NotIn):dy c b=C:=by
 have d:(c==cF.In)=C:=by cases c<;>first|rfl|exact absurd I h
 have e:(c==CmpOp.NotIn)=C:=by cases c<;>first|rfl|exact absurd I g
 cases b with
 |Set _ k _=>show(k==0&&(c== .In||c== .NotIn)&&_)=C;rw[d,e];simp
 |_=>rfl
noncomputable def tB(t:TE):TT:=λe T Q=>t e T λx d=>∃c,x=.bl c/\Q c d
def UE{e:iT}{t:TE}(h:PE X e t)(j:∀c,isTrue e X.env c=(do let v <-c;dv e.pos;ca [v] (truthy v)):=by intro _;rfl):PT X e (tB t):=by intro g s o T Q O k;refine isTrue_plain (Bl (h g s o T _ O k) ?_)<|j _;rintro v s1 ⟨x,H1,i,m,l⟩;obtain⟨d,rfl,q⟩:=l;cases m;exact sN ⟨H1,i,q⟩
variable {tA o:TT}{g:ky}
noncomputable def ZO(t u:TT):TT:=λe T Q=>t e T λc d=>if c=J then u e d Q else Q C d
noncomputable def tOr(t u:TT):TT:=λe T Q=>t e T λc d=>if c=J then Q J d else u e d Q
noncomputable def Ko(t:TT):TT:=λe T Q=>t e T λc d=>Q (!c) d
def Qk(i:PT X a tA):PW X (.BoolOp .And [a] f) tA:=by
 intro wh d s j T Q O h;refine isTrue_and<|Bl (i d s j T Q O h) λc s1 e=>?_
 cases c
 .exact e
 exact isTrue_and_nil e
def UA(i:PT X a tA):PW X (.BoolOp .Or [a] f) tA:=by
 intro wh d s j T Q O h;refine isTrue_or<|Bl (i d s j T Q O h) λc s1 e=>?_
 cases c
 .exact isTrue_or_nil e
 exact e
def UB(k:PT X a tA)(l:PW X (.BoolOp .And (b::g) f) o):PW X (.BoolOp .And (a::b::g) f) (ZO tA o):=by
 intro wh d s j T Q O h;refine isTrue_and<|Bl (k d s j T _ O h) ?_;rintro c s1 ⟨H1,e,i⟩
 cases c
 .exact⟨H1,e,i⟩
 exact l wh d s1 j H1 Q e i
def XZ(k:PT X a tA)(l:PW X (.BoolOp .Or (b::g) f) o):PW X (.BoolOp .Or (a::b::g) f) (tOr tA o):=by
 intro wh d s j T Q O h;refine isTrue_or<|Bl (k d s j T _ O h) ?_;rintro c s1 ⟨H1,e,i⟩
 cases c
 .exact l wh d s1 j H1 Q e i
 exact⟨H1,e,i⟩
def UG(j:PT X a tA):PT X (.UnaryOp .Not a f) (Ko tA):=by intro d s l T Q O h;exact isTrue_not (Bl (j d s l T (λc e=>Q (!c) e) O h) λc s1 N=>by obtain⟨e,i,k⟩:=N;exact ⟨e,i,k⟩)
def XA(n tb:TE):TE:=λe T Q=>n e T λx d=>∃c,x=.bl c/\if c=J then tb e d Q else Q (.bl C) d
def Xr(n:TE):TE:=λe T Q=>n e T λx d=>∃c,x=.bl c/\Q (.bl (!c)) d
def UP{op}{t:TE}(h:PE X a t):PE X (.BoolOp op [a] f) t:=λc s e T Q O d=>BoolOp_one<|h c s e T Q O d
def UT(k:PE X a n)(l:PE X (.BoolOp .And (b::g) f) tb):PE X (.BoolOp .And (a::b::g) f) (XA n tb):=by
 intro d s j T Q O h;refine BoolOp_and<|Bl (k d s j T _ O h) ?_;rintro v s1 ⟨x,H1,i,m,e⟩;obtain⟨c,rfl,e⟩:=e;cases m;refine sN ?_
 cases c
 .exact⟨.bl C,H1,i,rfl,e⟩
 exact l d s1 j H1 Q i e
def UQ(j:PE X a n):PE X (.UnaryOp .Not a f) (Xr n):=by intro d s l T Q O h;refine UnaryOp_<|Bl (j d s l T _ O h) ?_;rintro v s1 ⟨x,H1,i,k,e⟩;obtain⟨c,rfl,e⟩:=e;cases k;exact not_of<|sN ⟨.bl (!c),H1,i,rfl,e⟩
noncomputable def tIf(t:TT)(n tb:TE):TE:=λd T Q=>t d T λc e=>if c=J then n d e Q else tb d e Q
def aff{c:iT}(p:PT X c tA)(l:PE X a n)(m:PE X b tb):PE X (.IfExp c a b f) (tIf tA n tb):=by
 intro e s i T Q O h;refine wpAny_IfExp<|Bl (p e s i T _ O h) ?_;rintro d s1 ⟨H1,j,k⟩
 cases d
 .exact m e s1 i H1 Q j k
 exact l e s1 i H1 Q j k
end
def Fd(K:jl)(T:Hp)(a:iJ)(xs:List V):Prop:=
 Rd T a (.lst xs)\/
  ∃(o:fD)(b:nJ)(n:Nat),K.lookup a=Y o/\o.cls=.type "list"/\o.dict=U/\o.data=.seq b n/\b.size<=sizeLine/\Vals xs b.toList
def Gz(K:jl)(T:Hp)(a:iJ)(c:List V):Prop:=
 Rd T a (.tup c)\/
  ∃(o:fD)(b:nJ)(n:Nat),K.lookup a=Y o/\o.cls=.type "tuple"/\o.data=.seq b n/\b.size<=sizeLine/\Vals c b.toList
noncomputable def aaM:iQ->Option V
 |.none=>Y .Ar
 |.bool b=>Y<|.bl b
 |.int i _=>Y<|.int i
 |.str x _=>Y<|.str x
 |.bytes b _=>Y<|.byt b
 |.float b _=>Y<|.flt b
 |.ref a=>Y<|.ref a
 |.type n=>Y<|.ty n
 |_=>U
def RelV.abs{x:V}{u:iQ}(r:RelV x u):aaM u=Y x:=by
 cases x with
 |Ar=>cases r;rfl
 |bl _=>cases r;rfl
 |int _=>obtain⟨t,rfl⟩:=r;rfl
 |str _=>obtain⟨t,rfl⟩:=r;rfl
 |byt _=>obtain⟨t,rfl⟩:=r;rfl
 |flt _=>obtain⟨t,rfl⟩:=r;rfl
 |ref _=>cases r;rfl
 |ty _=>cases r;rfl
def RelV.inj{x y:V}{u:iQ}(r:RelV x u)(q:RelV y u):x=y:=kT<|r.abs.symm.trans q.abs
def Vals.inj{b a:List V}{us:jN}(h:Vals b us)(q:Vals a us):b=a:=by
 induction h generalizing a with
 |nil=>cases q;rfl
 |cons r t c=>obtain _|⟨d,e⟩:=q;rw[r.inj d,c e]
section
variable {X:Cx}{pins:jG}{σ:St}{H:Hp}{s:iN}{a:iJ}{xs ys:List V}
def Fd.of{K:jl}(h:H a=Y (.lst xs)):Fd K H a xs:=.inl (.inl h)
inductive SqI(P:Array iQ->Prop)(xs:List V):Prop where
 |mk (b6:jN) (_:Vals xs b6) (_:P b6.toArray) (_:(A2 xs)<=sizeLine)
def Inv.list(T:Inv X pins σ H s)(h:Fd X.K H a xs):SqI (PlainL s.heap a) xs:=by
 rcases h with h|⟨o,b,n,hk,c,hd,d,f,r⟩
 .obtain⟨z,b,n,r,e⟩:=h.ok T.hok;exact⟨b,r,⟨_,n,e,rfl,rfl,rfl⟩,z⟩
 refine⟨b.toList,r,⟨o,n,T.G8 a o hk,c,hd,by simpa using d⟩,?_⟩;have e:=r.length;simp only[lT]at e
 lia
def Inv.tuple(T:Inv X pins σ H s)(h:Gz X.K H a xs):SqI (li s.heap a) xs:=by
 rcases h with h|⟨o,b,n,hk,c,d,f,r⟩
 .obtain⟨z,b,r,p⟩:=h.ok T.hok;exact⟨b,r,p,z⟩
 refine⟨b.toList,r,⟨o,T.G8 a o hk,c,n,by simpa using d⟩,?_⟩;have e:=r.length;simp only[lT]at e
 lia
def Inv.Fo(T:Inv X pins σ H s)(h:Fd X.K H a xs)(j:Fd X.K H a ys):xs=ys:=by
 obtain⟨g,r,⟨o,n,e,_,_,d⟩,_⟩:=T.list h;obtain⟨b,k,⟨m,l,f,_,_,c⟩,_⟩:=T.list j;rw[e]at f;cases f;rw[d]at c;injection c with i _
 have:g=b:=by simpa using nM u7 i
 subst this;exact r.inj k
def Inv.EH(T:Inv X pins σ H s)(h:Gz X.K H a xs)(j:Gz X.K H a ys):xs=ys:=by
 obtain⟨g,r,⟨o,e,_,n,d⟩,_⟩:=T.tuple h;obtain⟨b,k,⟨m,f,_,l,c⟩,_⟩:=T.tuple j;rw[e]at f;cases f;rw[d]at c;injection c with i _
 have:g=b:=by simpa using nM u7 i
 subst this;exact r.inj k
end
noncomputable abbrev Cx.GQ(X:Cx)(E:jy):Cx:={X with xe:=E}
noncomputable abbrev Cx.Hx(X:Cx):Cx:=X.GQ λ_ _=>False
def Cx.Ok.GQ{X:Cx}(ok:X.Ok)(E:jy):(X.GQ E).Ok:=
 ⟨ok.mod,ok.kind,ok.glob,ok.blt,ok.above,ok.inj,ok.has,ok.cab,ok.hd,ok.frames,ok.stk,ok.exf,ok.bs,ok.bsz,ok.noex,ok.exfs,ok.Ed,ok.frf⟩
def Cx.Ok.Dt{X:Cx}{E:jy}(ok:(X.GQ E).Ok):X.Ok:=
 ⟨ok.mod,ok.kind,ok.glob,ok.blt,ok.above,ok.inj,ok.has,ok.cab,ok.hd,ok.frames,ok.stk,ok.exf,ok.bs,ok.bsz,ok.noex,ok.exfs,ok.Ed,ok.frf⟩
section
variable {X:Cx}{a:jG}{b:St}{H:Hp}{s:iN}{E:jy}
def Inv.GQ(T:Inv X a b H s)(E:jy):Inv (X.GQ E) a b H s:=⟨T.ok.GQ E,T.os,T.bare,T.base,T.loc,T.cell,T.free,T.freeC,T.pin,T.hok,T.len⟩
def Inv.Dt(T:Inv (X.GQ E) a b H s):Inv X a b H s:=⟨T.ok.Dt,T.os,T.bare,T.base,T.loc,T.cell,T.free,T.freeC,T.pin,T.hok,T.len⟩
def SP.Dt{D:Ends}{f:Flow}{e:iN}(h:SP (X.GQ E) a D f e):SP X a D f e:=by
 cases f with
 |next=>obtain⟨c,d,T,q⟩:=h;exact⟨c,d,T.Dt,q⟩
 |brk=>obtain⟨c,d,T,q⟩:=h;exact⟨c,d,T.Dt,q⟩
 |cont=>obtain⟨c,d,T,q⟩:=h;exact⟨c,d,T.Dt,q⟩
 |ret u=>obtain⟨v,c,d,T,r,q⟩:=h;exact⟨v,c,d,T.Dt,r,q⟩
def Ha.Hx{st:List bn}{t:TS}(h:Ha X.Hx st t):Ha X st t:=λa s b H D T c=>oj (h a s b H D (T.GQ _) c) (λ_ _ q=>q.Dt) λ_ _ z=>aJ z
end
section
variable {X:Cx}{st:bn}{j:List bn}{t u:TS}{e:iT}{i:TE}{g:bu}
noncomputable def Xt:TS:=λD a T=>D.nx a T
noncomputable def ZG(t u:TS):TS:=λD a T=>t {D with nx:=u D} a T
def HY:Ha X [] Xt:=λ_ _ a T _ Q h=>zr ⟨a,T,Q,h⟩
def sU(h1:PS X st t)(k:Ha X j u):Ha X (st::j) (ZG t u):=by
 intro a s l T D Q h;refine wL<|Bl (h1 a s l T {D with nx:=u D} Q h) λf s1 q=>?_
 cases f with
 |next=>obtain⟨b,c,d,q⟩:=q;exact k a s1 b c D d q
 |ret v=>exact q
 |brk=>exact q
 |cont=>exact q
def Inv.quiet{a:jG}{b:St}{T:Hp}{s:iN}(Q:Inv X a b T s):V0 X.env=C:=by simp[V0,Q.ok.kind]
noncomputable def Xv(i:TE):TS:=λD a T=>i a T λ_ b=>D.nx a b
def HZ(f:PE X e i)(k:bG e U g.line X.env=pure C:=by rfl):PS X (.Expr e g) (Xv i):=by intro a s b T D Q h;exact Gc (Bl (f a s b T _ Q h) λv s1 O=>by obtain⟨x,c,d,m,l⟩:=O;exact ⟨b,c,d,l⟩) Q.quiet k
noncomputable def ZH(i:TE):TS:=λD a T=>i a T D.rt
def MQ(f:PE X e i):PS X (.Return (Y e) g) (ZH i):=by intro a s b T D Q h;exact wpAny_Return_some (Bl (f a s b T _ Q h) λv s1 O=>by obtain⟨x,c,d,l,k⟩:=O;exact ⟨x,b,c,d,l,k⟩)
noncomputable def ZK(c:TT)(t u:TS):TS:=λD a T=>c a T λb d=>if b=J then t D a d else u D a d
def SM{c:iT}{a b:List bn}{n:TT}(q:PT X c n)(o:Ha X a t)(p:Ha X b u):PS X (.If c a b g) (ZK n t u):=by
 intro f s k T D Q h;refine wpAny_If<|Bl (q f s k T _ Q h) ?_;rintro d s1 ⟨H1,l,m⟩
 cases d
 .exact p f s1 k H1 D l m
 exact o f s1 k H1 D l m
end
abbrev TG:=V->St->Hp->(St->Hp->Prop)->Prop
abbrev Ki:=List V->St->Hp->(St->Hp->Prop)->Prop
def PG(X:Cx)(a:iT)(t:TG):Prop:=
 ∀(b:jG)(s:iN)(e:St)(T:Hp)(v:V)(u:iQ)(Q:St->Hp->Prop),Inv X b e T s->RelV v u->t v e T Q->
  ae (af X.prog X.w) X.A (cz a X.env u) (λ_ f=>∃c d,Inv X b c d f/\Q c d) X.xe s
def JO(X:Cx)(h:ky)(t:Ki):Prop:=
 ∀(a:jG)(s:iN)(f:St)(T:Hp)(e:List V)(d:jN)(Q:St->Hp->Prop),Inv X a f T s->Vals e d->t e f T Q->
  ae (af X.prog X.w) X.A (assignInOrder ((aX h X.env).map (·.2)) d) (λ_ g=>∃b c,Inv X a b c g/\Q b c) X.xe s
abbrev Sg:=V->V->V->Hp->(Hp->Prop)->Prop
def V4(X:Cx)(t:Sg):Prop:=
 ∀(a:jG)(s:iN)(e:St)(T:Hp)(o i v:V)(d c u:iQ)(Q:Hp->Prop),Inv X a e T s->RelV o d->RelV i c->RelV v u->t o i v T Q->
  ae (af X.prog X.w) X.A (mm d c u) (λ_ f=>∃b,Inv X a e b f/\Q b) X.xe s
section
variable {X:Cx}{d:bu}
noncomputable def EY(i:Nat):TG:=λv a T Q=>Q (a.set i<|Y v) T
def Ic{i:Nat}{x:au}(c:X.N.Nodup)(f:X.N[i]?=Y x)(g:Loc X.env.scope x)(e:X.fn x=J\/X.env.scope.names.lookup x=Y .local:=by first|exact .inl rfl|exact .inr rfl|assumption):PG X (.Name x d) (EY i):=by intro a s k T v u Q O r h;exact wpAny_assign_Name<|zF O c f g r (λj b=>⟨_,T,b,h⟩) e
noncomputable def aaF:Ki:=λa b T Q=>a=[]/\Q b T
def Ys(t:TG)(u:Ki):Ki:=λc e T Q=>∃v r,c=v::r/\t v e T λa b=>u r a b Q
def Qs:JO X [] aaF:=by intro a s b T f c Q O r h;obtain⟨e,h⟩:=h;subst e;cases r;exact assignInOrder_nil ⟨b,T,O,h⟩
def aet{e:iT}{b:ky}{t:TG}{u:Ki}(h1:PG X e t)(i:JO X b u)
  (j:(aX (e::b) X.env).map (·.2)=cz e X.env::(aX b X.env).map (·.2):=by rfl):JO X (e::b) (Ys t u):=by
 intro a s m T p n Q O r h;obtain⟨v,o,g,h⟩:=h;subst g
 cases r with
 |cons r l=>rw[j];refine assignInOrder_cons<|Bl (h1 a s m T _ _ _ O r h) ?_;rintro _ s1 ⟨c,H1,f,k⟩;exact i a s1 c H1 _ _ Q f l k
def aaE(K:jl)(n:Nat)(t:Ki):TG:=λv c T Q=>∃a b,v=.ref a/\Gz K T a b/\(A2 b)=n/\t b c T Q
def UN{f:ky}{k:Nat}{t:Ki}{n:Nat}(q:X.calm=J)(h:JO X f t)
  (x:(aX f X.env).length=n:=by rfl)(B:(aX f X.env).findIdx? (·.1)=U:=by rfl):PG X (.Tuple f k d) (aaE X.K n t):=by
 intro c s j O v u Q N r g;obtain⟨a,T,m,y,w,g⟩:=g;subst m;cases r;obtain⟨E,i,z,L⟩:=N.tuple y;refine assign_Tuple_tuple (N.ok.hd q) z (by simp[x,<-w,i.length]) B λp A=>?_;have l:Inv X c j O {s with heap:=p}:=N.kept (t':=s.toks) λb o e=>A b o (kF<|km e) e;exact h c _ j O T _ Q l (by simpa using i) g
noncomputable def Fq(to f:TE)(t:Sg):TG:=λv a T Q=>to a T λo b=>f a b λi c=>t o i v c λe=>Q a e
def M8{o i:iT}{to f:TE}{t:Sg}(q:PE X o to)(p:PE X i f)(w:V4 X t)
  (n:∀v,cz (.Subscript o i d) X.env v=(do
   let b <-ca [v] (aW o X.env)
   let c <-ca [v,b] (aW i X.env)
   dv d
   ca [v,b,c] (mm b c v)
   R1 [v,b,c] []):=by intro _;rfl):PG X (.Subscript o i d) (Fq to f t):=by
 intro a s e O v u Q N r h;rw[n];refine iL<|mv<|Bl (q a s e O _ N h) ?_;rintro b s1 ⟨x,H1,k,T,z⟩;refine iL<|mv<|Bl (p a s1 e H1 _ k z) ?_;rintro c s2 ⟨y,g,l,E,A⟩;refine iL<|vd<|iL<|mv<|Bl (w a s2 e g x y v b c u _ l T E r A) ?_;rintro _ s3 ⟨j,m,B⟩;exact wpAny_release ⟨e,j,m,B⟩
noncomputable def T7(c:TE)(g:TG):TS:=λD a T=>c a T λx b=>g x a b D.nx
def GK{b e:iT}{c:TE}{g:TG}(j:PE X e c)(k:PG X b g)(l:fZ [b] e d.line X.env=pure C:=by rfl)(m:f3 [b] e X.env=pure U:=by rfl)
  (h1:(aX [b] X.env).map (·.2)=[cz b X.env]:=by rfl):PS X (.Assign [b] e d) (T7 c g):=by
 intro a s f T D Q h;refine wpAny_Assign_stores (Bl (j a s f T _ Q h) ?_) l m;rintro v s1 ⟨x,H1,i,o,n⟩;rw[h1];exact Bl (k a s1 f H1 x v _ i o n) λ_ p q=>q
def MP{i:Nat}{x:au}{e:iT}{c:TE}{a:bu}(j:X.N.Nodup)(m:X.N[i]?=Y x)(o:Loc X.env.scope x)(k:PE X e c)(n:bG e (Y<|.Name x a) d.line X.env=pure C:=by rfl)(l:X.fn x=J\/X.env.scope.names.lookup x=Y .local:=by first|exact .inl rfl|exact .inr rfl|assumption):
  PS X (.Assign [.Name x a] e d) (T7 c<|EY i):=by
 intro b s r T D Q h;refine wpAny_Assign_Name (Bl (k b s r T _ Q h) ?_) n;rintro v s1 ⟨y,H1,f,q,p⟩;exact zF f j m o q (λt g=>⟨_,H1,g,p⟩) l
def T3(c:TT)(i:TS):TS:=λD a T=>∃W:Nat->St->Hp->Prop,(∃m,W m a T)/\∀m a T,W m a T->
 c a T λb g=>if b=J then ∃N:St->Hp->Prop,(∀e f,N e f->∃h,h<m/\W h e f)/\i {D with nx:=N,ct:=N,bk:=D.nx} a g else D.nx a g
def aeA{c:iT}{i:List bn}{E:TT}{C:TS}(B:dN (af X.prog X.w) X.A X.env X.xe)(Q:PT X c E)(O:Ha X i C):PS X (.While c i [] d) (T3 E C):=by
 intro a s U H D I h;obtain⟨W,⟨T,J⟩,turn⟩:=h;refine wpAny_While<|codeAny_whileLoop (λn G=>∃k u,Inv X a k u G/\W n k u) ?_ T ⟨U,H,I,J⟩;rintro n s1 ⟨g,H1,L,M⟩;refine vb B<|Bl (Q a s1 g H1 _ L (turn n g H1 M)) ?_;rintro b s2 ⟨x,y,l⟩
 cases b with
 |true=>
  obtain⟨N,z,l⟩:=l;rw[jb AM];refine vb B<|Bl (O a s2 g x _ y l) λf Y m=>?_
  cases f with
  |next=>obtain⟨e,j,o,r⟩:=m;obtain⟨q,p,t⟩:=z e j r;exact⟨q,p,e,j,o,t⟩
  |cont=>obtain⟨e,j,o,r⟩:=m;obtain⟨q,p,t⟩:=z e j r;exact⟨q,p,e,j,o,t⟩
  |brk=>exact m
  |ret v=>exact m
 |false=>rw[jr lG];exact zr ⟨g,x,y,l⟩
end
structure It where
 go:Nat->Hp->Prop
 yld:Nat->Hp->V->Hp->Prop
 stop:Nat->Hp->Prop
def tL(X:Cx)(a:jG)(T:Hp)(b:iJ):Prop:=
 T b=U/\b≠X.env.locals/\b∉X.fs/\(b∈X.ex\/X.s₀.heap.objs.size<=b)/\(∀x c,X.env.cells.lookup x=Y c->c≠b)/\∀p∈X.pn++a,p.1≠b
def Inv.JI{X:Cx}{a:jG}{i:St}{T f:Hp}{s:iN}{b:iJ}(Q:Inv X a i T s)(d:s.heap.objs.size<=b)(g:f b=U):tL X a f b:=by
 refine⟨g,pP<|nN Q.lt d,Q.Ma d,.inr<|lC Q.sz d,λx c e z=>?_,λp h z=>?_⟩
 .obtain⟨v,q⟩:=Q.cell x c e;exact absurd (nN q.lt<|by rw[z];exact d)<|oX _
 exact absurd (nN (km (Q.pin p h).1)<|by rw[z];exact d) (oX _)
structure Turn(P:jm)(w:je)(K:jl)(tg:iT)(J:It)(fp:kY)(it:iJ)(tn:Nat->jg->Prop):Prop where
 mem:it∈fp
 obj:∀i h,tn i h->∀b∈fp,∃o,h.get? b=A9 o/\∀v,o.data≠ .cell v
 keep:∀i h h',tn i h->(∀b∈fp,∀o,h.get? b=A9 o->h'.get? b=A9 o)->tn i h'
 item:∀(X:Cx),X.prog=P->X.w=w->X.K=K->X.calm=Ap->∀(i:Nat)(pins:jG)(s:iN)(σ:St)(H:Hp)(E:jy),Inv X pins σ H s->(∀b∈fp,tL X pins H b)->tn i s.heap->J.go i H->
  ae (af P w) X.A (cw<|.ref it) (λr s1=>∃u,r=A9 u/\
   ae (af P w) X.A (eW tg (.ref it) u) (λ_ s2=>∃x H',Inv X pins σ H' s2/\RelV x u/\J.yld i H x H'/\tn (i+1) s2.heap/\∀b∈fp,H' b=AR) E s1) E s
 done:∀(X:Cx),X.prog=P->X.w=w->X.K=K->X.calm=Ap->∀(i:Nat)(pins:jG)(s:iN)(σ:St)(H:Hp)(E:jy),Inv X pins σ H s->(∀b∈fp,tL X pins H b)->tn i s.heap->J.stop i H->
  ae (af P w) X.A (cw<|.ref it) (λr s1=>r=AR/\Inv X pins σ H s1) E s
 self:∀(A:jh)(i:Nat)(s:iN)(Q:jy)(E:jy),tn i s.heap->Q (.ref it) s->ae (af P w) A (c6<|.ref it) Q E s
abbrev TI:=St->Hp->(It->Hp->Prop)->Prop
inductive PIE(X:Cx)(pins:jG)(σ:St)(tg:iT)(R:It->Hp->Prop)(dW:iQ)(s2:iN):Prop where
 |mk (it:iJ) (fp:kY) (tn:Nat->jg->Prop) (J:It) (H':Hp) (_:dW=.ref it) (_:Inv X pins σ H' s2) (_:Turn X.prog X.w X.K tg J fp it tn) (_:tn 0 s2.heap) (_:∀b∈fp,tL X pins H' b) (_:R J H')
def PI(X:Cx)(tg iter:iT)(c:TI):Prop:=
 ∀(a:jG)(s:iN)(b:St)(T:Hp)(R:It->Hp->Prop),Inv X a b T s->c b T R->
  ae (af X.prog X.w) X.A (aW iter X.env) (λv s1=>ae (af X.prog X.w) X.A (c6 v) (PIE X a b tg R) X.xe s1) X.xe s
def Oe{M:gr}{A:jh}{E:jy}{s:iN}{b:iT}{it:iJ}{u:iQ}{o:fD}{n:String}{c:nJ}{Q:Unit->Shared->Prop}(f:s.heap.get? it=Y o)(d:o.cls=.type n)(hd:o.data=.fields c)
  (e:["enumerate","zip","dict_itemiterator","dict_reverseitemiterator","odict_iterator","itertools.zip_longest","itertools.pairwise"].contains n=C)(a:Q () s):ae M A (eW b (.ref it) u) Q E s:=by
 unfold eW
 cases b<;>first
  |exact ja a
  |(cases u<;>first
    |exact ja a
    |(
      refine iL<|C6 f ?_;rw[d,hd];show ae M A (if(["enumerate","zip","dict_itemiterator","dict_reverseitemiterator","odict_iterator","itertools.zip_longest","itertools.pairwise"].contains n&&c[0]?==Y (ce _))=J then _ else _) Q E s;rw[jr (by intro h;rw[e,gM]at h;cases h)];exact ja a))
noncomputable def Itl(K:jl)(a:iJ):It:=
 ⟨λi T=>∃b x,Fd K T a b/\b[i]?=Y x,λi T x c=>c=T/\∀b,Fd K T a b->b[i]?=Y x,λi T=>∃b,Fd K T a b/\(A2 b)<=i⟩
noncomputable def Itt(K:jl)(a:iJ):It:=
 ⟨λi T=>∃b x,Gz K T a b/\b[i]?=Y x,λi T x c=>c=T/\∀b,Gz K T a b->b[i]?=Y x,λi T=>∃b,Gz K T a b/\(A2 b)<=i⟩
noncomputable def N7(lo:Int)(n:Nat):It:=⟨λi _=>i<n,λi T x a=>a=T/\x=.int (lo+i),λi _=>n<=i⟩
def adJ{P:jm}{w:je}{K:jl}{tg:iT}(a it:iJ):Turn P w K tg (Itl K a) [it] it (λi h=>h.IsListIter it a i) where
 mem:=by simp
 obj:=λi h st b g=>by
  have e:b=it:=by simpa using g
  subst e;obtain⟨o,e,c,d⟩:=st;exact⟨o,e,λv z=>by rw[d]at z;cases z⟩
 keep:=λi h j st k=>st.at λo e=>k it (by simp) o e
 item:=by intro X y B t Q i f s T H E I l st A;subst y B t;obtain⟨S,x,m,C⟩:=A;obtain⟨J,L,p,D⟩:=I.list m;obtain⟨u,U,F⟩:=L.get C;obtain⟨f0,f1,N,n,q,r⟩:=l it (by simp);refine wpAny_pyNext_list_item st p.isList (x:=u) (by simpa using U) λj O R=>?_;have G:Inv X f T H {s with heap:=j}:=I.turned (t':=s.toks) (λb o g e=>(R.2 b g).trans e) f0 f1 n q r;obtain⟨o,e,c,d⟩:=id O;exact⟨u,rfl,Oe (s:={s with heap:=j}) e c d (by decide) ⟨x,H,G,F,⟨rfl,λW Y=>by rw[I.Fo Y m];exact C⟩,O,λb g=>(l b g).1⟩⟩
 done:=by intro X y B t Q i f s T H E I l st A;subst y B t;obtain⟨S,m,C⟩:=A;obtain⟨J,L,p,D⟩:=I.list m;obtain⟨f0,f1,N,n,q,r⟩:=l it (by simp);have V:=L.length;exact wpAny_pyNext_list_end (I.ok.hd Q) st p.isList (by simp;lia) λj M=>⟨rfl,I.turned (t':=s.toks) (λb o g e=>M b o g e) f0 f1 n q r⟩
 self:=λ_ _ _ _ _ st h=>wpAny_pyIter_listiter st h
def acI{P:jm}{w:je}{K:jl}{tg:iT}(a it:iJ):Turn P w K tg (Itt K a) [it] it (λi h=>h.IsTupleIter it a i) where
 mem:=by simp
 obj:=λi h st b g=>by
  have e:b=it:=by simpa using g
  subst e;obtain⟨o,e,c,d⟩:=st;exact⟨o,e,λv z=>by rw[d]at z;cases z⟩
 keep:=λi h j st k=>st.at λo e=>k it (by simp) o e
 item:=by intro X A C y T i f s G H E I l st B;subst A C y;obtain⟨S,x,m,L⟩:=B;obtain⟨n,O,p,D⟩:=I.tuple m;obtain⟨u,U,F⟩:=O.get L;obtain⟨f0,f1,N,q,r,t⟩:=l it (by simp);refine wpAny_pyNext_tuple_item st (show s.heap.IsTuple a n.toArray from p) (x:=u) (by simpa using U) λj Q R=>?_;have J:Inv X f G H {s with heap:=j}:=I.turned (t':=s.toks) (λb o g e=>(R.2 b g).trans e) f0 f1 q r t;obtain⟨o,e,c,d⟩:=id Q;exact⟨u,rfl,Oe (s:={s with heap:=j}) e c d (by decide) ⟨x,H,J,F,⟨rfl,λW Y=>by rw[I.EH Y m];exact L⟩,Q,λb g=>(l b g).1⟩⟩
 done:=by intro X A C y T i f s G H E I l st B;subst A C y;obtain⟨S,m,L⟩:=B;obtain⟨n,O,p,D⟩:=I.tuple m;obtain⟨f0,f1,N,q,r,t⟩:=l it (by simp);have V:=O.length;exact wpAny_pyNext_tuple_end (I.ok.hd T) st (show s.heap.IsTuple a n.toArray from p) (by simp;lia) λj M=>⟨rfl,I.turned (t':=s.toks) (λb o g e=>M b o g e) f0 f1 q r t⟩
 self:=λ_ _ _ _ _ st h=>wpAny_pyIter_tupleiter st h
def acJ{P:jm}{w:je}{K:jl}{Q:iT}(it:iJ)(lo:Int)(n:Nat):Turn P w K Q (N7 lo n) [it] it (λi h=>ZB h it (lo+(i:Nat)*1) ((n:Int)-(i:Nat)) 1) where
 mem:=by simp
 obj:=λi h st b c=>by
  have e:b=it:=by simpa using c
  subst e
  exact⟨_,st,λv z=>by have T:io _=f8 v:=z;cases T⟩
 keep:=λi h d st k=>k it (by simp) _ st
 item:=by intro X p u m q i a s A M E G f st r;subst p u m;obtain⟨f0,f1,L,g,j,l⟩:=f it (by simp);have W:=Walks.range (prog:=X.prog) (w:=X.w) (G.ok.hd q) it lo 1 n;refine W.item i s _ _ r st λv d y hv x O=>?_;obtain⟨t,rfl⟩:=hv;have B:Inv X a A M {s with heap:=d,toks:=y}:=G.turned (λb o c e=>O b o (by simpa using c) e) f0 f1 g j l;refine⟨_,rfl,Oe (s:={s with heap:=d,toks:=y}) (n:="range_iterator") x I I (by decide) ⟨.int<|lo+i,M,B,⟨t,?_⟩,⟨rfl,rfl⟩,x,λb c=>(f b c).1⟩⟩;rw[zq]
 done:=by intro X p u m q i a s A M E G f st r;subst p u m;obtain⟨f0,f1,L,g,j,l⟩:=f it (by simp);exact wpAny_pyNext_range_end (G.ok.hd q) st (by have:n<=i:=r;lia) λd N=>⟨rfl,G.turned (t':=s.toks) (λb o c e=>N b o c e) f0 f1 g j l⟩
 self:=λ_ _ _ _ _ st h=>wpAny_pyIter_rangeiter st h
section
variable {X:Cx}{tg:iT}
def Yp(K:jl)(c:TE):TI:=λe T R=>c e T λx b=>∃a,x=.ref a/\(∃d,Fd K b a d)/\R (Itl K a) b
def aaD(K:jl)(c:TE):TI:=λe T R=>c e T λx b=>∃a,x=.ref a/\(∃d,Gz K b a d)/\R (Itt K a) b
def Qq{l:iT}{f:TE}(i:PE X l f):PI X tg l (Yp X.K f):=by
 intro c s n T R Q h;refine Bl (i c s n T _ Q h) ?_;rintro v s1 ⟨x,H1,d,m,k⟩;obtain⟨a,e,⟨w,j⟩,q⟩:=k;subst e;cases m;obtain⟨r,u,p,t⟩:=d.list j;refine xH p.isList ?_;refine⟨s1.heap.objs.size,[s1.heap.objs.size],_,_,H1,rfl,d.kept (t':=s1.toks) λb o e=>ke _ e,adJ a _,⟨_,kE _ rfl,rfl,rfl⟩,λb g=>?_,q⟩;have e:b=s1.heap.objs.size:=by simpa using g
 subst e;exact d.JI (kc _)<|d.hok.fresh<|kc _
def UM{l:iT}{f:TE}(j:PE X l f):PI X tg l (aaD X.K f):=by
 intro c s r T R Q h;refine Bl (j c s r T _ Q h) ?_;rintro v s1 ⟨x,H1,d,n,m⟩;obtain⟨a,e,⟨w,k⟩,q⟩:=m;subst e;cases n;obtain⟨g,u,p,t⟩:=d.tuple k;refine Gk (show s1.heap.IsTuple a g.toArray from p) ?_;refine⟨s1.heap.objs.size,[s1.heap.objs.size],_,_,H1,rfl,d.kept (t':=s1.toks) λb o e=>ke _ e,acI a _,⟨_,kE _ rfl,rfl,rfl⟩,λb i=>?_,q⟩;have e:b=s1.heap.objs.size:=by simpa using i
 subst e;exact d.JI (kc _)<|d.hok.fresh<|kc _
def Ex{c:jG}{g:St}{T:Hp}{s:iN}{R:It->Hp->Prop}{E:jy}{lo a:Int}{t u v:wf}{f:Nat}(Q:Inv X c g T s)(h1: -(2^62)<=lo)(j:lo<2^62)(k: -(2^62)<=a)(l:a<2^62)
  (q:R (N7 lo (a-lo).toNat) T):ae (af X.prog X.w) X.A (c6<|.ref s.heap.objs.size) (PIE X c g tg R) E {s with heap:=s.heap.push {cls:=.type "range",data:=.fields #[.int lo t,.int a u,.int 1 v]},toks:=f}:=by
 refine wpAny_pyIter_range (IsRange.new ..) (small_one h1 j k l) ?_;have d:Inv X c g T {s with heap:=s.heap.push {cls:=.type "range",data:=.fields #[.int lo t,.int a u,.int 1 v]},toks:=f}:=Q.kept λb o e=>ke _ e
 refine⟨(s.heap.push {cls:=.type "range",data:=.fields #[.int lo t,.int a u,.int 1 v]}).objs.size,[(s.heap.push {cls:=.type "range",data:=.fields #[.int lo t,.int a u,.int 1 v]}).objs.size],_,_,T,rfl,
  d.kept (t':=f) λb o e=>ke _ e,acJ _ lo (a-lo).toNat,?_,λb m=>?_,q⟩
 .have h:lo+((0:Nat):Int)*1=lo:=by simp
  have i:(((a-lo).toNat:Nat):Int)-((0:Nat):Int)=fM lo a 1:=by rw[No];split<;>lia
  show ZB _ _ (lo+((0:Nat):Int)*1) ((((a-lo).toNat:Nat):Int)-((0:Nat):Int)) 1;rw[h,i];exact kE _ rfl
 have e:b=(s.heap.push {cls:=.type "range",data:=.fields #[.int lo t,.int a u,.int 1 v]}).objs.size:=by simpa using m
 subst e;exact d.JI (kc _)<|d.hok.fresh<|kc _
def Yo(b:TA):TI:=λd T R=>b d T λc a=>∃j:Int,c=[.int j]/\ -(2^62)<=j/\j<2^62/\R (N7 0 j.toNat) a
def Yn(b:TA):TI:=λd T R=>b d T λc a=>∃i j:Int,c=[.int i,.int j]/\(-(2^62)<=i/\i<2^62/\ -(2^62)<=j/\j<2^62)/\R (N7 i (j-i).toNat) a
def adp{a:iT}{f:TA}{p c:bu}(k:Gl X "range")(l:X.mg "range"=U)(i:PA X [a] f)(m:ac [a] X.env=[(C,aW a X.env)]:=by rfl):PI X tg (.Call (.Name "range" p) [a] [] c) (Yo f):=by
 intro b s v T R Q h;refine Call_<|sZ Q k l C5<|zp (Bl (i c b s v T _ Q h) ?_) m I;rintro us s1 ⟨w,H1,g,o,d⟩;obtain⟨j,e,d,n,q⟩:=d;subst e
 cases o with
 |cons r u=>
  cases u;obtain⟨t,rfl⟩:=r;exact call_range_1<|Ex g (by lia) (by lia) d n (by simpa using q)
def ado{a b:iT}{l:TA}{p d:bu}(o:Gl X "range")(u:X.mg "range"=U)(n:PA X [a,b] l)(v:ac [a,b] X.env=[(C,aW a X.env),(C,aW b X.env)]:=by rfl)(k:ac [b] X.env=[(C,aW b X.env)]:=by rfl):
  PI X tg (.Call (.Name "range" p) [a,b] [] d) (Yn l):=by
 intro c s B Q R N h;refine Call_<|sZ N o u C5<|zp (Bl (n d c s B Q _ N h) λL s1 M=>?_) (by rw[v,k]) (by rw[k];rfl);obtain⟨O,T,m,A,f⟩:=M;obtain⟨i,j,e,⟨f,w,x,y⟩,q⟩:=f;subst e
 cases A with
 |cons r g=>
  cases g with
  |cons z g=>
   cases g;obtain⟨t,rfl⟩:=r;obtain⟨E,rfl⟩:=z;exact SS<|Ex m f w x y q
def ZL(k:TI)(g:TG)(j:TS):TS:=λD a T=>k a T λQ f=>∃W:Nat->Nat->St->Hp->Prop,(∃m,W 0 m a f)/\∀i m a T,W i m a T->
 (Q.stop i T/\D.nx a T)\/(Q.go i T/\∃N:St->Hp->Prop,(∀c b,N c b->∃e,e<m/\W (i+1) e c b)/\∀x b,Q.yld i T x b->g x a b λd h=>j {D with nx:=N,ct:=N,bk:=D.nx} d h)
noncomputable def zP(a:kY)(h:jg):List (iJ×fD):=a.filterMap λb=>(h.get? b).map λo=>(b,o)
def rh{a:kY}{h:jg}{b:iJ}{o:fD}(c:b∈a)(e:h.get? b=Y o):(b,o)∈zP a h:=dJ.mpr ⟨b,c,by rw[e];rfl⟩
def ady{a:kY}{h:jg}{p:iJ×fD}(f:p∈zP a h):p.1∈a/\h.get? p.1=Y p.2:=by
 obtain⟨b,d,e⟩:=dJ.mp f
 cases q:h.get? b with
 |none=>rw[q]at e;cases e
 |some o=>rw[q]at e;have c:(b,o)=p:=kT e;subst c;exact⟨d,q⟩
def Inv.pinned{a:jG}{h:St}{T:Hp}{s:iN}{c:kY}(Q:Inv X a h T s)(j:∀b∈c,tL X a T b)(k:∀b∈c,∃o,s.heap.get? b=Y o/\∀v,o.data≠ .cell v):Inv X (a++zP c s.heap) h T s:=
 Q.Hk λp l=>(pQ.mp l).elim (λz=>Q.pin p<|qk _ z) λz=>by obtain⟨g,e⟩:=ady z;obtain⟨f0,f1,i,_⟩:=j p.1 g;obtain⟨o,f,d⟩:=k p.1 g;rw[e]at f;cases f;exact⟨e,f0,f1,i,d⟩
def Inv.ED{a d:jG}{b:St}{T:Hp}{s:iN}(Q:Inv X (a++d) b T s):Inv X a b T s:=Q.Hk λp c=>Q.pin p<|qk _ (C7 _ c)
def MT{iter:iT}{y:List bn}{wi:TI}{g:TG}{tb:TS}{Q:bu}(C:dN (af X.prog X.w) X.A X.env X.xe)(hc:X.calm=Ap)(hi:PI X tg iter wi)(hg:PG X tg g)(l:Ha X y tb)
  (hs:∀x,ap iter X.env x=pure x:=by intro _;rfl):PS X (.For tg iter y [] Q) (ZL wi g tb):=by
 intro a s Z H D I h;refine wpAny_For (Bl (hi a s Z H _ I h) λv s1 h1=>Bl h1 λdW s2 h2=>?_) hs;obtain⟨it,B,V,J,H2,e,I2,T,aB,P,W,⟨m0,w0⟩,turn⟩:=h2;subst e;have M:∀{t:Hp},(∀b∈B,t b=U)->∀b∈B,tL X a t b:=λhn b l=>⟨hn b l,(P b l).2⟩
 refine codeAny_forLoop_any (λn R=>∃i p t,Inv X a p t R/\V i R.heap/\(∀b∈B,t b=U)/\W i n p t) ?_ m0 ⟨0,Z,H2,I2,aB,λb l=>(P b l).1,w0⟩;rintro n S ⟨i,q,L,Y,K,F,w3⟩;rcases turn i n q L w3 with⟨stop,qn⟩|⟨go,N,hN,step⟩
 .refine vb C (Bl (T.done X AM AM AM hc i a S q L X.xe Y (M F) K stop) ?_);rintro r s4 ⟨O,I4⟩;subst O;exact zr ⟨q,L,I4,qn⟩
 refine vb C (Bl (T.item X AM AM AM hc i a S q L X.xe Y (M F) K go) ?_);rintro r s4 ⟨u,O,h4⟩;subst O;refine vb C<|Bl h4 ?_;rintro _ s5 ⟨x,U',I5,r5,y5,cq,ir⟩;have iI:=I5.pinned (M ir)<|T.obj _ _ cq;refine vb C<|Bl (hg _ s5 q U' x u _ iI r5 (step x U' y5)) ?_;rintro _ s6 ⟨σ6,H6,I6,q6⟩;refine vb C (Bl (l _ s6 σ6 H6 _ I6 q6) λf G z=>?_)
 have again:∀{c:St}{j:Hp},Inv X (a++zP B s5.heap) c j G->N c j->∃m,m<n/\∃i p t,Inv X a p t G/\V i G.heap/\(∀b∈B,t b=U)/\W i m p t:=λ{c j} k E=>by obtain⟨m',hm,w7⟩:=hN c j E;refine⟨m',hm,i+1,c,j,k.ED,T.keep _ _ _ cq λb l o e=>(k.pin (b,o)<|qk _ (qk _ (rh l e))).1,λb l=>?_,w7⟩;obtain⟨o,e,d⟩:=T.obj _ _ cq b l;exact(k.pin (b,o)<|qk _ (qk _ (rh l e))).2.1
 cases f with
 |next=>obtain⟨c,j,k,E⟩:=z;exact again k E
 |cont=>obtain⟨c,j,k,E⟩:=z;exact again k E
 |brk=>obtain⟨c,j,k,z⟩:=z;exact⟨c,j,k.ED,z⟩
 |ret v=>obtain⟨x7,c,j,k,r7,z⟩:=z;exact⟨x7,c,j,k.ED,r7,z⟩
end
abbrev R2:=V->V->Hp->VK->Prop
def DO(X:Cx)(f:yb)(r:R2):Prop:=
 ∀(a:jG)(s:iN)(b:St)(T:Hp)(x y:V)(v u:iQ)(Q:VK),Inv X a b T s->RelV x v->RelV y u->r x y T Q->
  ae (af X.prog X.w) X.A (f v u) (EP X a b Q) X.xe s
def NY(X:Cx)(f:iQ->d7 iQ)(r:V->Hp->VK->Prop):Prop:=
 ∀(a:jG)(s:iN)(b:St)(T:Hp)(x:V)(v:iQ)(Q:VK),Inv X a b T s->RelV x v->r x T Q->
  ae (af X.prog X.w) X.A (f v) (EP X a b Q) X.xe s
def kH(X:Cx)(f:iQ)(r:List V->Hp->VK->Prop):Prop:=
 ∀(a:jG)(s:iN)(c:St)(T:Hp)(xs:List V)(b:jN)(Q:VK),Inv X a c T s->Vals xs b->r xs T Q->
  ae (af X.prog X.w) X.A (call f b) (EP X a c Q) X.xe s
noncomputable def Kn(r:R2)(d e:TE):TE:=λa T Q=>d a T λx b=>e a b λy c=>r x y c Q
def tUn(r:V->Hp->VK->Prop)(b:TE):TE:=λc T Q=>b c T λx a=>r x a Q
def rI(T:Int->Int->Prop)(g:Int->Int->V):R2:=λx y O Q=>∃i j,x=.int i/\y=.int j/\T i j/\Q (g i j) O
def JQ(g:Int->Int->V):R2:=λx y T Q=>∃i j,x=.int i/\y=.int j/\Q (g i j) T
def rU(g:Int->V):V->Hp->VK->Prop:=λx T Q=>∃i,x=.int i/\Q (g i) T
section
variable {X:Cx}{a b c:iT}{ta tb tc:TE}{pos:bu}
def VX(o:PE X a ta)(p:PE X b tb){d:jG}{s:iN}{g:St}{T:Hp}{R:V->V->Hp->Prop}(O:Inv X d g T s)
  (h:ta g T λx l=>tb g l λy e=>R x y e){Q:jy}{f:yb}
  (q:∀v u k x y e,Inv X d g e k->RelV x v->RelV y u->R x y e->ae (af X.prog X.w) X.A (f v u) Q X.xe k):
  ae (af X.prog X.w) X.A (aW a X.env) (λv i=>ae (af X.prog X.w) X.A (aW b X.env) (λu j=>ae (af X.prog X.w) X.A (f v u) Q X.xe j) X.xe i) X.xe s:=by
 refine Bl (o d s g T _ O h) ?_;rintro v s1 ⟨x,l,m,z,r⟩;refine Bl (p d s1 g l _ m r) ?_;rintro u k ⟨y,e,n,B,t⟩;exact q v u k x y e n z B t
def X3{e:Operator}{r:R2}(k:DO X (bC e) r)(i:PE X a ta)(j:PE X b tb):PE X (.BinOp a e b pos) (Kn r ta tb):=by intro d s o T Q O h;exact wpAny_BinOp<|VX i j O h λv u n x y f g l m q=>k d n o f x y v u Q g l m q
def X2{e:UnaryOp}{r:V->Hp->VK->Prop}(k:NY X (Q1 e) r)(j:PE X a ta):PE X (.UnaryOp e a pos) (tUn r ta):=by intro d s f T Q O h;exact UnaryOp_ (Bl (j d s f T _ O h) λv s1 N=>by obtain⟨x,g,i,m,l⟩:=N;exact k d s1 f g x v Q i m l)
def NL{f:yb}{T:Int->Int->Prop}{g:Int->Int->Int}
  (rule:∀(i j:Int)(t u:wf)(s:iN)(Q:jy)(E:jy),T i j->Q (.int (g i j) s.toks) {s with toks:=s.toks+1}->ae (af X.prog X.w) X.A (f (.int i t)<|.int j u) Q E s):
  DO X f (rI T λi j=>.int (g i j)):=by
 intro d s n O x y v u Q N k l h;obtain⟨i,j,rfl,rfl,e,q⟩:=h;obtain⟨t,rfl⟩:=k;obtain⟨m,rfl⟩:=l;exact rule i j t m s _ _ e ⟨.int<|g i j,O,N.tok _,⟨_,rfl⟩,q⟩
def Ya{f:yb}{g:Int->Int->Int}
  (rule:∀(i j:Int)(t u:wf)(s:iN)(Q:jy)(E:jy),Q (.int (g i j) s.toks) {s with toks:=s.toks+1}->ae (af X.prog X.w) X.A (f (.int i t)<|.int j u) Q E s):
  DO X f (JQ λi j=>.int (g i j)):=by
 intro d s m T x y v u Q O e k h;obtain⟨i,j,rfl,rfl,q⟩:=h;obtain⟨t,rfl⟩:=e;obtain⟨l,rfl⟩:=k;exact rule i j t l s _ _ ⟨.int<|g i j,T,O.tok _,⟨_,rfl⟩,q⟩
def QY{f:yb}{g:Int->Int->Bool}
  (rule:∀(i j:Int)(t u:wf)(s:iN)(Q:jy)(E:jy),Q (.bool<|g i j) s->ae (af X.prog X.w) X.A (f (.int i t)<|.int j u) Q E s):
  DO X f (JQ λi j=>.bl (g i j)):=by
 intro d s m T x y v u Q O e k h;obtain⟨i,j,rfl,rfl,q⟩:=h;obtain⟨t,rfl⟩:=e;obtain⟨l,rfl⟩:=k;exact rule i j t l s _ _ ⟨.bl<|g i j,T,O,rfl,q⟩
def KN(i j:Int):Prop:=0<j/\j<1073741824
def yG(i j:Int):Prop:=0<=j/\j<=1000000/\i.natAbs<2^64
def E5(i j:Int):Prop:=(-(2^64)<i/\i<2^64)\/(-(2^64)<j/\j<2^64)
def E5.ok{i j:Int}(h:E5 i j):IntMulOk i j:=by
 rcases h with⟨h1,d⟩|⟨h1,d⟩
 .exact .of_left (NE h1 d)
 exact .of_right (NE h1 d)
def U5:DO X (bC .Add) (JQ λi j=>.int (i+j)):=Ya λ_ _ _ _ _ _ _ q=>add_int q
def UZ:DO X (bC .Sub) (JQ λi j=>.int (i-j)):=Ya λ_ _ _ _ _ _ _ q=>sub_int q
def U2:DO X (bC .Mult) (rI E5 λi j=>.int (i*j)):=NL λ_ _ _ _ _ _ _ d q=>mul_int q d.ok
def QU:DO X (bC .FloorDiv) (rI KN λi j=>.int (i / j)):=NL λi j _ _ _ _ _ d q=>by have h1:(0:Int)<j:=d.1;have e:j<1073741824:=d.2;exact floordiv_int (by lia) (by rw[Int.fdiv_eq_ediv_of_nonneg i<|by lia];exact q)<|.inl<|PyProof.noPylong_small (by lia)
def U3:DO X (bC .Mod) (rI (λ_ j=>0<j) λi j=>.int (i%j)):=NL λi j _ _ _ _ _ d q=>by have h1:(0:Int)<j:=d;exact mod_int' (by lia) (by rw[Int.fmod_eq_emod_of_nonneg i<|by lia];exact q)
def U0:DO X (bC .Pow) (rI yG λi j=>.int (i^j.toNat)):=NL λ_ _ _ _ _ _ _ d q=>pow_int_small d.1 d.2.1 d.2.2 q
def unI{f:iQ->d7 iQ}{g:Int->Int}
  (rule:∀(i:Int)(t:wf)(s:iN)(Q:jy)(E:jy),Q (.int (g i) s.toks) {s with toks:=s.toks+1}->ae (af X.prog X.w) X.A (f<|.int i t) Q E s):
  NY X f (rU λi=>.int (g i)):=by
 intro d s j T x v Q O e h;obtain⟨i,rfl,q⟩:=h;obtain⟨t,rfl⟩:=e;exact rule i t s _ _ ⟨.int<|g i,T,O.tok _,⟨_,rfl⟩,q⟩
def TY:NY X (Q1 .USub) (rU λi=>.int (-i)):=unI λ_ _ _ _ _ q=>neg_int q
def DP{d:jG}{g:St}{T:Hp}{s:iN}{Q:VK}{k f:Bool}(O:Inv X d g T s)(q:Q (.bl k) T)(e:k=f):EP X d g Q (.bool f) s:=by subst e;exact⟨.bl k,T,O,rfl,q⟩
def X6:DO X (aw .Lt) (JQ λi j=>.bl (decide<|i<j)):=QY λ_ _ _ _ _ _ _ q=>lt_int q
def X7:DO X (aw .LtE) (JQ λi j=>.bl (decide<|i<=j)):=QY λ_ _ _ _ _ _ _ q=>le_int q
def X8:DO X (aw .Gt) (JQ λi j=>.bl (decide<|j<i)):=QY λ_ _ _ _ _ _ _ q=>gt_int q
def X9:DO X (aw .GtE) (JQ λi j=>.bl (decide<|j<=i)):=QY λ_ _ _ _ _ _ _ q=>ge_int q
def Nk:DO X (aw .Is) (λx y T Q=>y=.Ar/\Q (.bl<|decide<|x=.Ar) T):=by
 intro d s g T x y v u Q O e f h;obtain⟨rfl,q⟩:=h;cases f;refine is_none_gen<|DP O q ?_
 cases x<;>first
  |(cases e;rfl)
  |(obtain⟨t,rfl⟩:=e;rfl)
def Ij:DO X (aw .IsNot) (λx y T Q=>y=.Ar/\Q (.bl (!decide (x=.Ar))) T):=by
 intro d s g T x y v u Q O e f h;obtain⟨rfl,q⟩:=h;cases f;refine isnot_none_gen<|DP O q ?_
 cases x<;>first
  |(cases e;rfl)
  |(obtain⟨t,rfl⟩:=e;rfl)
def Nu(b:iT){d:cF}(h:d≠ .In:=by decide)(e:d≠ .NotIn:=by decide):dy d b=C:=Nv b h e
def Qu{e:cF}{r:R2}(l:DO X (aw e) r)(i:PE X a ta)(j:PE X b tb)(k:dy e b=C):PE X (.Compare a [e] [b] pos) (Kn r ta tb):=by intro d s p T Q O h;exact wpAny_Compare1 (VX i j O h λv u o x y f g m n q=>l d o p f x y v u Q g m n q) k
def Xp(t:TE):TT:=λe T Q=>t e T λx d=>∃k,x=.bl k/\Q k d
def Qm{g:cF}{r:R2}(A:DO X (aw g) r)(q:PE X a ta)(t:PE X b tb)(w:dy g b=C):PT X (.Compare a [g] [b] pos) (Xp<|Kn r ta tb):=by intro d s i M Q I h;refine wpAny_isTrue_Compare1 (Bl (q d s i M _ I h) λv s1 f=>?_) w;obtain⟨x,j,n,L,B⟩:=f;refine Bl (t d s1 i j _ n B) λu G f=>?_;obtain⟨y,l,o,O,N⟩:=f;refine Bl (A d G i l x y v u _ o L O N) λc J f=>?_;obtain⟨z,m,p,T,k,e,E⟩:=f;subst e;cases T;exact sN ⟨m,p,E⟩
def Mi(r i:R2)(ta tb tc:TE):TE:=λd T Q=>ta d T λx f=>tb d f λy g=>r x y g λz e=>∃k,z=.bl k/\
 (if k=J then tc d e λj h=>i y j h Q else Q (.bl C) e)
def afh{j l:cF}{r p:R2}(M:DO X (aw j) r)(L:DO X (aw l) p)(O:PE X a ta)(T:PE X b tb)(G:PE X c tc)
  (J:lastMarks [j,l] [b,c]=AX:=by with_unfolding_all rfl):PE X (.Compare a [j,l] [b,c] pos) (Mi r p ta tb tc):=by
 intro f s i H Q I h;refine Compare_chain (Bl (O f s i H _ I h) λv s1 g=>?_) J;obtain⟨x,t,B,D,N⟩:=g;refine chain_link<|Bl (T f s1 i t _ B N) λu K g=>?_;obtain⟨y,w,C,q,U⟩:=g;refine Bl (M f K i w x y v u _ C D q U) λd P g=>?_;obtain⟨z,m,n,F,k,e,o⟩:=g;subst e;cases F;refine sN ?_
 cases k
 .exact ite_ff ⟨.bl AX,m,n,rfl,o⟩
 exact ite_tt<|chain_last (Bl (G f P i m _ n o) λw' s4 a'=>by obtain⟨z',A,E,r4,Y'⟩:=a';exact L f s4 i A y z' u w' Q E q r4 Y')
def DC:(sizeLine:Nat)<2^63:=by rw[kK];decide
def acD:DO X (bC .Add) (λx y T Q=>∃i j,x=.str i/\y=.str j/\i.length+j.length<=sizeLine/\Q (.str<|i++j) T):=by intro d s l T x y v u Q O f g h;obtain⟨i,j,rfl,rfl,e,q⟩:=h;obtain⟨t,rfl⟩:=f;obtain⟨t',rfl⟩:=g;exact add_str (λt' k=>⟨.str<|i++j,T,O.tok _,⟨_,rfl⟩,q⟩) e
inductive Vl1(x:V)(us:jN):Prop where
 |mk (u:iQ) (_:us=[u]) (_:RelV x u)
inductive Vl2(x y:V)(us:jN):Prop where
 |mk (u w:iQ) (_:us=[u,w]) (_:RelV x u) (_:RelV y w)
def qm{x:V}{d:jN}(r:Vals [x] d):Vl1 x d:=by
 cases r with
 |cons e f=>cases f;exact⟨_,rfl,e⟩
def vT{x y:V}{d:jN}(r:Vals [x,y] d):Vl2 x y d:=by
 cases r with
 |cons e f=>
  cases f with
  |cons g h=>cases h;exact⟨_,_,rfl,e,g⟩
def OR:kH X (.builtin "abs") (λe T Q=>∃i,e=[.int i]/\Q (.int (if i<0 then -i else i)) T):=by intro d s j T e g Q O r h;obtain⟨i,rfl,q⟩:=h;obtain⟨u,rfl,t,rfl⟩:=qm r;exact call_abs_int λu f=>⟨.int (if i<0 then -i else i),T,O.tok _,⟨_,rfl⟩,q⟩
def aeh(g:X.calm=J):kH X (.builtin "max") (λf T Q=>∃i j,f=[.int i,.int j]/\Q (.int (if j>i then j else i)) T):=by
 intro e s v T f o Q O r h;obtain⟨i,j,rfl,q⟩:=h;obtain⟨u,p,rfl,⟨t,rfl⟩,⟨m,rfl⟩⟩:=vT r;refine max_two_ints (O.ok.hd g) λl n k=>⟨_,T,O.kept k,?_,q⟩
 by_cases d:j>i
 .rw[jb d,jb d];exact⟨_,rfl⟩
 rw[jr d,jr d];exact⟨_,rfl⟩
def aeg(g:X.calm=J):kH X (.builtin "min") (λf T Q=>∃i j,f=[.int i,.int j]/\Q (.int (if j<i then j else i)) T):=by
 intro e s v T f o Q O r h;obtain⟨i,j,rfl,q⟩:=h;obtain⟨u,p,rfl,⟨t,rfl⟩,⟨m,rfl⟩⟩:=vT r;refine min_two_ints (O.ok.hd g) λl n k=>⟨_,T,O.kept k,?_,q⟩
 by_cases d:j<i
 .rw[jb d,jb d];exact⟨_,rfl⟩
 rw[jr d,jr d];exact⟨_,rfl⟩
def Ci:kH X (.type "int") (λd T Q=>(∃i,d=[.int i]/\Q (.int i) T)\/∃k,d=[.bl k]/\Q (.int (if k then 1 else 0)) T):=by
 intro e s j T d g Q O r h;rcases h with⟨i,rfl,q⟩|⟨k,rfl,q⟩
 .obtain⟨u,rfl,t,rfl⟩:=qm r;exact call_int_int ⟨.int i,T,O,⟨_,rfl⟩,q⟩
 obtain⟨u,rfl,f⟩:=qm r;cases f;exact call_int_bool ⟨.int (if k then 1 else 0),T,O.tok _,⟨_,rfl⟩,q⟩
end
section
variable {a:jm}{w:je}{A:jh}{E:jy}{s:iN}{K:jl}{x d C f:iJ}{c:lE}{b:au}{v:iQ}
end
def Hb.some_of{v:V}{o:Option iQ}(r:Hb (Y v) o):∃u,o=Y u/\RelV v u:=by
 cases o with
 |none=>exact(show False from r).elim
 |some u=>exact⟨u,rfl,r⟩
section
variable {P:jm}{w:je}{H e:Hp}{h c:jg}{a C d:iJ}{fs b:List (au×V)}
end
section
variable {X:Cx}{b:jG}{c:St}{H:Hp}{s:iN}{a C d:iJ}{fs:List (au×V)}{f:au}{v:V}{A:jh}{E:jy}
end
section
variable {X:Cx}{o e a:iT}{f:au}{c b h:bu}{g d:TE}
end
section
variable {X:Cx}{a:jG}{d:St}{H:Hp}{s:iN}{A:jh}{E:jy}{Q:jy}{c:iQ}{b:Bool}
end
structure Bg(k:Nat)(A:jh):Prop where
 hd:A.handled=AR
 dp:A.depth+3*k+5<recursionLimit
 un:A.units+16*k+200<aP
 gd:A.guards=A9 []:=by rfl
def Bg.mono{j k:Nat}{A:jh}(r:Bg k A)(h:j<=k):Bg j A:=⟨r.hd,by have:=r.dp;lia,by have:=r.un;lia,r.gd⟩
def Bg.deeper{k:Nat}{A:jh}(r:Bg (k+1) A)(a:dO):Bg k (A.deeper a):=
 ⟨r.hd,by have:=r.dp;show A.depth+1+3*k+5<_;lia,by have:=r.un;show A.units+3+16*k+200<_;lia,r.gd⟩
def Bg.depth{k:Nat}{A:jh}(r:Bg k A):A.depth<recursionLimit:=by have:=r.dp;lia
noncomputable def ZI:TA:=λ_ T Q=>Q [] T
noncomputable def Xw(d:TE)(e:TA):TA:=λa T Q=>d a T λx b=>e a b λf c=>Q (x::f) c
section
variable {X:Cx}{e:iT}{c:ky}{d:TE}{t:TA}{a:bu}
def oz:PA X [] ZI:=λ_ _ _ _ T Q O h=>Gj ⟨[],T,O,.nil,h⟩
def lP(k:PE X e d)(l:PA X c t)(m:ac (e::c) X.env=(C,aW e X.env)::ac c X.env:=by rfl):PA X (e::c) (Xw d t):=by intro a b s f T Q O h;rw[m];show ae _ _ (vw ((C,aW e X.env)::aT a (ac c X.env))) _ _ s;refine Gi<|Bl (k b s f T _ O h) ?_;rintro u s1 ⟨x,H1,i,p,n⟩;exact Bl (l a b s1 f H1 _ i n) λw v ⟨r,g,j,q,o⟩=>⟨x::r,g,j,.cons p q,o⟩
def ZF(t:TA):TE:=λg T Q=>t g T λf b=>A2 f<=sizeLine/\∀p,b p=U->Q (.ref p) (upd b p<|.tup f)
def ZJ(t:TA):TE:=λg T Q=>t g T λf b=>A2 f<=sizeLine/\∀p,b p=U->Q (.ref p) (upd b p<|.lst f)
def M9{x1}(h:PA X c t):PE X (.Tuple c x1 a) (ZF t):=by intro f s n T Q O k;refine wpAny_Tuple_spliced<|Bl (h a f s n T _ O k) λl s1 ⟨m,g,i,r,z,q⟩=>⟨by rw[<-r.length];exact z,?_⟩;have j:g s1.heap.objs.size=U:=i.hok.fresh<|kc _;refine⟨.ref s1.heap.objs.size,upd g s1.heap.objs.size<|.tup m,i.laid (t':=s1.toks) (λb u e=>ke _ e) (kc _) ?_,rfl,q _ j⟩;exact⟨z,l,r,⟨_,kE _ rfl,rfl,_,rfl⟩⟩
def US(h:PA X c t):PE X (.List c a) (ZJ t):=by intro f s n T Q O k;refine wpAny_List_spliced<|Bl (h a f s n T _ O k) λl s1 ⟨m,g,i,r,z,q⟩=>⟨by rw[<-r.length];exact z,?_⟩;have j:g s1.heap.objs.size=U:=i.hok.fresh<|kc _;refine⟨.ref s1.heap.objs.size,upd g s1.heap.objs.size<|.lst m,i.laid (t':=s1.toks) (λb u e=>ke _ e) (kc _) ?_,rfl,q _ j⟩;exact⟨z,l,0,r,kE _ rfl⟩
end
abbrev Sp:=List V->Hp->VK->XK->Prop
abbrev JE:=List dO->Hp->Shared->XK->iQ->Shared->Prop
structure JB(P:jm)(w:je)(K:jl)(mg:lE)(base:jg)(A:jh)(outer:List dO)(s:iN)(H:Hp):Prop where
 frames:A.frames=A9 outer
 mod:Mod K mg base
 bs:∀b o,base.get? b=A9 o->s.heap.get? b=A9 o/\H b=AR
 bsz:base.objs.size<=s.heap.objs.size
 Ed:s.heap.FunFrames base outer
 frf:∀b∈Eg outer,H b=AR
 hok:EO P w H s.heap
 bare:ew s.gens
inductive CE(outer:List dO)(P:jm)(w:je)(H:Hp)(s:iN)(Q:VK)(u:iQ)(s':iN):Prop where
 |mk (v:V) (H':Hp) (_:s'.os=s.os) (_:ew s'.gens) (_:Un (Eg outer) [] H H' s.heap s'.heap) (_:EO P w H' s'.heap) (_:RelV v u) (_:Q v H')
def CR(CX:JE)(a:List dO)(P:jm)(w:je)(T:Hp)(s:iN)(Q:VK)(E:XK)(r:m9)(b:iN):Prop:=
 match r with
 |.ok (.ret u)=>CE a P w T s Q u b
 |.ok _=>False
 |.error e=>CX a T s E e b
structure DV(P:jm)(w:je)(K:jl)(mg:lE)(base:jg)(CX:JE)(k:Nat)(f:iJ)(fd:mT)(ps:jw)(sp:Sp):Prop where
 len:∀vs H Q E,sp vs H Q E->A2 vs=A2 ps
 run:∀(A:jh)(outer:List dO)(s:iN)(H:Hp)(args:Args)(us:jN)(vs:List V)(Q:VK)(E:XK),Bg k A->JB P w K mg base A outer s H->gu s fd args (ps.zip us)->Vals vs us->sp vs H Q E->
  cb (af P w) A (.call (.ref f) args) (CR CX outer P w H s Q E) s
def DV.mono{P:jm}{w:je}{K:jl}{d:lE}{base:jg}{CX:JE}{j k:Nat}{f:iJ}{c:mT}{e:jw}{g:Sp}(F:DV P w K d base CX j f c e g)(h:j<=k):
  DV P w K d base CX k f c e g:=⟨F.len,λA a s T b us vs Q E i=>F.run A a s T b us vs Q E<|i.mono h⟩
section
variable {X:Cx}{a:jG}{c:St}{H:Hp}{s e:iN}
def Inv.Ku(T:Inv X a c H s):JB X.prog X.w X.K X.mg X.base X.A X.stack s H:=
 ⟨T.ok.frames,T.ok.mod,T.bs,lC T.ok.bsz T.sz,T.stack,T.GH,T.hok,T.bare⟩
def Inv.after{Q:VK}{u:iQ}(T:Inv X a c H s)(h:CE X.stack X.prog X.w H s Q u e):EP X a c Q u e:=by obtain⟨v,j,os,f,un,i,r,q⟩:=h;obtain⟨l,g,d,t,k⟩:=e;obtain rfl:k=s.os:=os;exact⟨v,j,T.call (h':=l) (g':=g) (d':=d) (t':=t) (ch:=[]) un i f λb z=>absurd z<|by simp,r,q⟩
end
noncomputable def Xx(c:Sp)(b:List V)(E:XK)(t:TA):TE:=λe T Q=>t e T λd a=>c (d++b) a Q E
def Binds(K:jl)(c:mT)(b:jw)(a:jN):Prop:=
 ∀(s:iN)(us:jN),K.In s.heap->(us++a).length=A2 b->gu s c ⟨us,[]⟩ (b.zip<|us++a)
def Binds.all{K:jl}{c:mT}{b:jw}(h:∀a:List iQ,A2 a=A2 b->fI c ⟨a,[]⟩=pure (b.zip a)):Binds K c b []:=λs a _ d=>by rw[uE]at d ⊢;exact .of_eq<|h a d
def D5(c:JE)(X:Cx)(E:XK):Prop:= ∀(a:jG)(d:St)(T:Hp)(s:iN)(e:iQ)(b:iN),Inv X a d T s->c X.stack T s E e b->X.xe e b
section
variable {X:Cx}{l:JE}{k:Nat}{f C:iJ}{j:mT}{d:jw}{i:Sp}{c:List V}{b:jN}{E:XK}{x m:au}{p a n:bu}{e o:iT}{g:ky}{v:TE}{t:TA}
def Ui{q:jG}{L:St}{H:Hp}{s:iN}{Q:VK}{y:jN}{B:List V}(F:DV X.prog X.w X.K X.mg X.base l k f j d i)(M:Bg k X.A)(G:Binds X.K j d b)(hd:Vals c b)(N:D5 l X E)
  (I:Inv X q L H s)(r:Vals B y)(h:i (B++c) H Q E):ae (af X.prog X.w) X.A (call (.ref f) y) (EP X q L Q) X.xe s:=by
 have O:Vals (B++c) (y++b):=r.append hd;have J:(y++b).length=d.length:=by rw[<-O.length];exact F.len _ _ _ _ h
 refine xG<|rL (F.run X.A X.stack s H ⟨y,[]⟩ (y++b) (B++c) Q E M I.Ku (G s y I.G8 J) O h) λr U z=>?_
 cases r with
 |error e=>exact N q L H s e U I z
 |ok T=>
  cases T with
  |ret u=>exact I.after z
  |next=>exact aJ z
  |brk=>exact aJ z
  |cont=>exact aJ z
def Ds(F:DV X.prog X.w X.K X.mg X.base l k f j d i)(J:Bg k X.A)(T:Gl X x)(G:X.mg x=Y (.ref f))(hk:bD X.K (.ref f)=Ap)(L:Binds X.K j d b)(hd:Vals c b)(M:D5 l X E)
  (B:PA X (e::g) t)(N:(x==("__debug__":au))=AX:=by decide)(O:ac (e::g) X.env=(AX,aW e X.env)::ac g X.env:=by rfl)(z:(aT a<|ac g X.env).any (·.1)=AX:=by rfl):
  PE X (.Call (.Name x p) (e::g) [] a) (Xx i c E t):=by
 intro u s U H Q I h;refine va<|wu I T G ?_ N;refine PySem.W.callWith_K (h₀:=X.base) I.ok.mod.kin hk (Bl (B a u s U H _ I h) λus s1 ⟨vs,Y',y,r,q⟩=>⟨y.G8,?_⟩) O z;exact Ui F J L hd M y r q
end
section
variable {X:Cx}{w:JE}{k:Nat}{f C:iJ}{s:mT}{l q:jw}{j:Sp}{E:XK}{x m:au}{p c b a:bu}{e o:iT}{u:ky}{v:List wn}{h i:TE}{t d:TA}{n:Option au}
variable {g:List iQ->List iQ->List iQ}{r:List V->List V->List V}
end
structure Bb(N P:jw)(sc:jS):Prop where
 kind:sc.kind=.function
 co:sc.isCoroutine=AX
 gen:sc.isGenerator=AX
 nd:N.Nodup
 pre:N.take P.length=P
 par:∀x∈P,sc.names.lookup x=A9 .local\/sc.names.lookup x=A9 .cell
 nofree:∀y∈sc.names,y.2≠ .free
theorem Cm{kindOf:au->Option dH}{x:au}:∀{binds:List (au×iQ)}{m:lE},(∀v,(x,v)∉binds)->ka kindOf binds m x=m x
 |[],_,_=>rfl
 |(n,v)::r,m,h=>by
  unfold ka;rw[Cm λw a=>h w<|jU _ a];split
  .have:x≠n:=by rintro rfl;exact h v jW
   simp[this]
  rfl
theorem Co{kindOf:au->Option dH}{x:au}:∀{binds:List (au×iQ)}{m:lE},(∀v,(x,v)∉binds)->kl kindOf binds m x=m x
 |[],_,_=>rfl
 |(n,v)::r,m,h=>by
  unfold kl;rw[Co λw a=>h w<|jU _ a];split
  .rfl
  have:x≠n:=by rintro rfl;exact h v jW
  simp[this]
theorem Cn{kindOf:au->Option dH}{x:au}{v:iQ}:∀{P:jw}{a:jN}{i:Nat}{m:lE},P.Nodup->P[i]?=Y x->a[i]?=Y v->kindOf x=Y .local->
  ka kindOf (P.zip a) m x=Y v
 |[],_,_,_,_,h,_,_=>by simp at h
 |_::_,[],_,_,_,_,h,_=>by simp at h
 |p::P,w::a,0,m,c,h1,b,hk=>by simp at h1 b;subst h1;subst b;show ka kindOf ((p,w)::P.zip a) m p=_;unfold ka;rw[Cm λv hv=>(zu.mp c).1 (Gh hv).1,jb hk];simp
 |p::P,w::a,i+1,m,c,h1,b,hk=>by show ka kindOf ((p,w)::P.zip a) m x=_;unfold ka;exact Cn (i:=i) (zu.mp c).2 (by simpa using h1) (by simpa using b) hk
theorem Cp{kindOf:au->Option dH}{x:au}{v:iQ}:∀{P:jw}{a:jN}{i:Nat}{m:lE},P.Nodup->P[i]?=Y x->a[i]?=Y v->kindOf x≠Y .local->
  kl kindOf (P.zip a) m x=Y v
 |[],_,_,_,_,h,_,_=>by simp at h
 |_::_,[],_,_,_,_,h,_=>by simp at h
 |p::P,w::a,0,m,c,h1,b,hk=>by simp at h1 b;subst h1;subst b;show kl kindOf ((p,w)::P.zip a) m p=_;unfold kl;rw[Co λv hv=>(zu.mp c).1 (Gh hv).1,jr hk];simp
 |p::P,w::a,i+1,m,c,h1,b,hk=>by show kl kindOf ((p,w)::P.zip a) m x=_;unfold kl;exact Cp (i:=i) (zu.mp c).2 (by simpa using h1) (by simpa using b) hk
noncomputable def oH(N:jw)(vs:List V):St:=vs.map Y++ah (A2 N-A2 vs) U
noncomputable def rB(CX:JE)(P:jm)(w:je)(K:jl)(c:lE)(base:jg)(N:jw)(qual:au)(scope:jS)(f:iJ)(cd:iQ)(A:jh)(a:List dO)(s:iN)(T:Hp)(E:XK):Cx where
 prog:=P
 w:=w
 K:=K
 mg:=c
 base:=base
 A:=A.deeper<|aV qual scope s.heap.objs.size f cd
 N:=N
 s₀:=s
 H₀:=T
 env:=aV qual scope s.heap.objs.size f cd
 outer:=a
 stack:=aV qual scope s.heap.objs.size f cd::a
 ex:=[]
 calm:=J
 fn:=λ_=>J
 pn:=[]
 xe:=λe h=>ae (af P w) (A.deeper<|aV qual scope s.heap.objs.size f cd) (Sr (aV qual scope s.heap.objs.size f cd) e) (λ_ b=>CX a T s E e b) (λg b=>CX a T s E g b) h
def Fj{a:jS}{n:Nat}{x:au}(h:a.names.lookup x=Y .cell):∃c,(bt n a.names []).lookup x=Y c:=by have q:=C4 a.names n []<|.inl h;exact KP.mp q
def ada{Q:JE}{P:jm}{w:je}{K:jl}{L:lE}{base:jg}{N m:jw}{qual:au}{scope:jS}{f:iJ}{cd:iQ}{A:jh}{d:List dO}{s s1:iN}{H:Hp}{E:XK}{O:jN}{o:List V}
  (S:Bb N m scope)(hd:A.handled=AR)(j:JB P w K L base A d s H)(Y:(A2 o)=A2 m)(r:Vals o O)
  (x:InCallC s s.heap.objs.size (ka (aV qual scope s.heap.objs.size f cd).kindOf (m.zip O) λ_=>AR) (bt (s.heap.objs.size+1) scope.names []) (kl (aV qual scope s.heap.objs.size f cd).kindOf (m.zip O) λ_=>AR) s1):
  Inv (rB Q P w K L base N qual scope f cd A d s H E) [] (oH N o) H s1:=by
 have M:(A2 m)<=(A2 N):=by have:=nM dM S.pre;rw[rK]at this;lia
 obtain⟨h1,D,rfl,hk⟩:=x.done;have I:∀b:iJ,b∉(rB Q P w K L base N qual scope f cd A d s H E).ex:=λb z=>absurd (show b∈([]:List iJ)from z) (by simp)
 refine⟨⟨j.mod,S.kind,rfl,rfl,kc _,λy z c h1 g=>?_,λy l=>?_,λy c _ h=>?_,λ_=>hd,LK j.frames,.inr ⟨rfl,rfl⟩,λb z=>absurd z<|I b,j.bs,j.bsz,λb _ _=>I b,λb z=>absurd z<|I b,j.Ed,j.frf⟩,
  rfl,j.bare,Un.kept hk,⟨_,x.toInCall.ns,λi y v h1 g U=>?_⟩,λy c h=>⟨_,x.cell y c h⟩,j.hok.fresh<|kc _,λy c h=>?_,λp t=>absurd (show p∈([]:List (iJ×fD))from t)<|by simp,j.hok.kept hk,?_⟩
 .exact Sc x.apart (qj h1) (qj g)
 .have l:scope.names.lookup y=A9 .cell\/scope.names.lookup y=A9 .free:=l;rcases l with l|l
  .exact Fj l
  exact absurd AM (S.nofree _ (qj l))
 .exact vO (x.above y c<|qj h)
 .have C:i<(A2 o):=by
   unfold oH at g;by_cases C:i<A2 o
   .exact C
   rw[qi<|by simpa using C]at g;rw[vN]at g;split at g<;>cases g
  have G:o[i]?=A9 v:=by
   unfold oH at g;rw[uD<|by simpa using C,kS]at g
   cases e:o[i]? with
   |none=>rw[e]at g;cases g
   |some a=>rw[e]at g;cases g;rfl
  obtain⟨u,T,J⟩:=r.get G
  have t:m[i]?=A9 y:=by rw[<-S.pre,LJ<|by lia];exact h1
  have B:m.Nodup:=by rw[<-S.pre];exact S.nd.sublist<|xF _ _
  refine⟨u,J,?_⟩;rcases S.par y (mW t)with k|k
  .exact .inl ⟨k,Cn B t T k⟩
  obtain⟨c,e⟩:=Fj (n:=s.heap.objs.size+1) k;refine .inr ⟨.inl k,c,e,?_⟩;have q:=x.cell y c e;rw[Cp B t T (by show scope.names.lookup y≠_;rw[k];decide)]at q;exact q
 .exact j.hok.fresh (vO<|x.above y c<|qj h)
 unfold oH;show _=A2 N;rw[nA,kd,LH]
 lia
def S8{CX:JE}{P:jm}{w:je}{K:jl}{C:lE}{base:jg}{k:Nat}{f:iJ}{j qual:au}{c:cH}{d:List bn}{scope:jS}{Y kV z pm l ct oc:iQ}{an od:Option iJ}
  {r8:ya}{N L:jw}{A:jh}{a:List dO}{s:iN}{H:Hp}{i:Args}{us:jN}{vs:List V}{Q:VK}{E:XK}(lk:K.lookup f=A9 ⟨oc,od,.func<|bA j qual c d scope Y kV z pm an l ct,r8⟩)(n9:c9 K l qual=Ap)(S:Bb N L scope)
  (O:Bg (k+1) A)(B:JB P w K C base A a s H)(hb:gu s (bA j qual c d scope Y kV z pm an l ct) i (L.zip us))(r:Vals vs us)(hl:(A2 vs)=A2 L)
  (k8:Bg k (A.deeper<|aV qual scope s.heap.objs.size f l)->∃t,Ha (rB CX P w K C base N qual scope f l A a s H E) d t/\t {nx:=λ_ h=>Q .Ar h,rt:=Q} (oH N vs) H):
  cb (af P w) A (.call (.ref f) i) (CR CX a P w H s Q E) s:=by
 have U:K.In s.heap:=B.mod.kin.keeps λb o e=>(B.bs b o e).1;have T:s.heap.NoLimit:=B.mod.nolimit.keeps λb o e=>(B.bs b o e).1
 have m:∀y∈L.zip us,scope.names.lookup y.1=A9 .local\/(scope.names.lookup y.1=A9 .cell/\((bt (s.heap.objs.size+1) scope.names []).lookup y.1).isSome=Ap):=λ⟨n,v⟩ hy=>by
  rcases S.par n (Gh hy).1 with q|q
  .exact .inl q
  exact .inr ⟨q,C4 _ _ _ (.inl q)⟩
 refine codeAny_call_function O.depth (U _ _ lk) AM S.co S.gen AM (PySem.W.codeRec_of U n9)<|hb _ _ _ _ ?_;refine wpAny_newFunctionEnv_cells S.kind m λD R s1 x=>?_;subst R;refine⟨T.keeps x.toInCall.keep,codeAny_func ?_⟩;obtain⟨t,Z,X⟩:=k8<|O.deeper _;have I:Inv (rB CX P w K C base N qual scope f l A a s H E) [] (oH N vs) H s1:=ada S O.hd B hl r x;refine oj (Z [] s1 (oH N vs) H _ I X) (λF M p=>?_) λe M p=>p
 have fin:∀{g:St}{h:Hp}{v:V}{u:iQ},Inv (rB CX P w K C base N qual scope f l A a s H E) [] g h M->RelV v u->Q v h->CE a P w H s Q u M:=
  λ{g h v u} J G q=>⟨v,h,J.os,J.bare,J.base,J.hok,G,q⟩
 cases F with
 |ret u=>obtain⟨v,g,h,J,G,q⟩:=p;exact fin J G q
 |next=>obtain⟨g,h,J,q⟩:=p;exact fin (v:=V.Ar) (u:=ao) J AM q
 |brk=>obtain⟨_,_,_,q⟩:=p;exact aJ q
 |cont=>obtain⟨_,_,_,q⟩:=p;exact aJ q
def Oq{l:JE}{P:jm}{w:je}{K:jl}{o:lE}{base:jg}{k:Nat}{f:iJ}{d qual:au}{b:cH}{c:List bn}{scope:jS}{n kV h p g ct T:iQ}{an M:Option iJ}
  {L:ya}{N i:jw}{j:Sp}(lk:K.lookup f=Y ⟨T,M,.func<|bA d qual b c scope n kV h p an g ct,L⟩)(B:c9 K g qual=J)(S:Bb N i scope)
  (len:∀e O Q E,j e O Q E->A2 e=A2 i)
  (z:∀(A:jh)(a:List dO)(s:iN)(O:Hp)(e:List V)(Q:VK)(E:XK),Bg k (A.deeper<|aV qual scope s.heap.objs.size f g)->j e O Q E->
   ∃t,Ha (rB l P w K o base N qual scope f g A a s O E) c t/\t {nx:=λ_ u=>Q .Ar u,rt:=Q} (oH N e) O):
  DV P w K o base l (k+1) f (bA d qual b c scope n kV h p an g ct) i j:=
 ⟨len,λA a s O _ _ e Q E y v x r m=>S8 lk B S y v x r (len _ _ _ _ m) λq=>z A a s O e Q E q m⟩
section
variable {X:Cx}{x:au}{p a:bu}{e:iT}{b:ky}{t:TA}{id T:String}{r:List V->Hp->VK->Prop}
def NI(r:List V->Hp->VK->Prop)(t:TA):TE:=λf O Q=>t f O λd c=>r d c Q
def sV(k:kH X (.builtin id) r)(m:Gl X x)(n:X.mg x=U)(hv:aE x=Y (.builtin id))(j:PA X (e::b) t)(o:x≠"__name__":=by decide)(q:(x==("__debug__":au))=C:=by decide)
  (l:ac (e::b) X.env=(C,aW e X.env)::ac b X.env:=by rfl)(i:(aT a<|ac b X.env).any (·.1)=C:=by rfl):PE X (.Call (.Name x p) (e::b) [] a) (NI r t):=by
 intro c s d O Q N h;refine va<|sZ N m n hv ?_ o q;exact Do (Bl (j a c s d O _ N h) λw s1 M=>by obtain⟨y,f,g,v,u⟩:=M;exact k c s1 d f y w Q g v u) l i
def qv(k:kH X (.type T) r)(m:Gl X x)(n:X.mg x=U)(hv:aE x=Y (.type T))(j:PA X (e::b) t)(o:x≠"__name__":=by decide)(q:(x==("__debug__":au))=C:=by decide)
  (l:ac (e::b) X.env=(C,aW e X.env)::ac b X.env:=by rfl)(i:(aT a<|ac b X.env).any (·.1)=C:=by rfl):PE X (.Call (.Name x p) (e::b) [] a) (NI r t):=by
 intro c s d O Q N h;refine va<|sZ N m n hv ?_ o q;exact zp (Bl (j a c s d O _ N h) λw s1 M=>by obtain⟨y,f,g,v,u⟩:=M;exact k c s1 d f y w Q g v u) l i
end
end L2
namespace HT
section
open PySem.SeqAt
open PySem.AutoSeq1 (wpAny_loadPart')
open PySem.MeetsSeq PySem.MeetsSeq2 PySem.MeetsSeq3
end
section
variable {a:jm}{w:je}{A:jh}{E:jy}{s:iN}
def YM{t b:iJ}{d c:jN}{Q:jy}(y:li s.heap t d.toArray)(x:li s.heap b c.toArray)(hv:d≠[])
  (h1:c=[]->Q (.ref t) s)(v:c≠[]->Q (.ref s.heap.objs.size) {s with heap:=s.heap.push {cls:=.type "tuple",data:=.seq (d++c).toArray}})
  (l:(A2 d)+A2 c<=sizeLine):ae (af a w) A (bC .Add (.ref t)<|.ref b) Q E s:=by
 obtain⟨⟨k,dd,f,q⟩,h,o,n,hd⟩:=id y;obtain⟨⟨z,m,data2,u⟩,j,r,p,g⟩:=id x;simp only at o hd r g;subst o hd r g;have e:d.toArray++c.toArray=(d++c).toArray:=by simp
 by_cases i:c=[]
 .exact C3 ⟨_,h,rfl⟩ ⟨_,j,rfl⟩ Gg Gf Ge Gd (Gb _ _)
   (tuple_addW1 t b d.toArray c.toArray n p dd m q u (by simpa using hv)<|by simp[i]) ⟨h,j,h1 i⟩
 refine C3 ⟨_,h,rfl⟩ ⟨_,j,rfl⟩ Gg Gf Ge Gd (Gb _ _)
  (tuple_addW2 t b d.toArray c.toArray n p dd m q u (by simpa using hv) (by simpa using i)<|by rw[kz,kz];exact l) ⟨h,j,?_⟩
 rw[e];exact v i
noncomputable def Br(n d:Nat):Option Int->Nat
 |none=>d
 |some v=>if v<0 then(v+(n:Int)).toNat else min v.toNat n
theorem Sy(n d:Nat):Br n d U=d:=rfl
def Ug(n d k:Nat):Br n d (Y (k:Int))=min k n:=by show(if(k:Int)<0 then((k:Int)+(n:Int)).toNat else min (k:Int).toNat n)=min k n;rw[jr<|by lia,uZ]
def Uh(n d:Nat)(hd:d<=n)(o:Option Int):Br n d o<=n:=by
 cases o with
 |none=>exact hd
 |some v=>
  show(if v<0 then(v+(n:Int)).toNat else min v.toNat n)<=n;by_cases hv:v<0
  .rw[jb hv];lia
  rw[jr hv];exact Nat.min_le_right _ _
def I9(v:Int)(n d:Nat):(if v<0 then max (v+(n:Int)) 0 else min v (n:Int))=((Br n d (Y v):Nat):Int):=by
 show(if v<0 then max (v+(n:Int)) 0 else min v (n:Int))=(((if v<0 then(v+(n:Int)).toNat else min v.toNat n):Nat):Int)
 by_cases hv:v<0
 .simp only[jb hv];lia
 simp only[jr hv];lia
def ac4(lo b:Option Int)(n:Nat):cO lo b 1 (n:Int)=(((Br n 0 lo:Nat):Int),((Br n n b:Nat):Int)):=by
 have h1: ¬((1:Int)<0):=by lia
 unfold cO;simp only[h1,kR];refine Prod.ext ?_ ?_
 .cases lo with
  |none=>rfl
  |some v=>exact I9 v n 0
 cases b with
 |none=>rfl
 |some v=>exact I9 v n n
def acx(i j:Nat):bV (i:Int) (j:Int) 1=j-i:=by
 unfold bV;have h1:(1:Int)>0:=by lia
 simp only[h1,kQ,Int.ediv_one];split<;>lia
def zJ{v:iQ}{o:Option Int}{Q:Option Int->Shared->Prop}(p:eE v o)(h:Q o s):ae (af a w) A (x0 v) Q E s:=by
 cases p with
 |none=>exact KE h
 |int i t=>exact slicePart_int h
def qt{g:iJ}{e f:iQ}{lo b:Option Int}{n:Nat}{Q:Int×Int×Nat->Shared->Prop}(i:s.heap.IsSliceOf g e f .none)(j:eE e lo)(k:eE f b)
  (h:Q (((Br n 0 lo:Nat):Int),1,Br n n b-Br n 0 lo) s):ae (af a w) A (fq (.ref g)<|pure (n:Int)) Q E s:=by
 obtain⟨os,c,l,d⟩:=id i;unfold fq x8;refine iL<|iL<|oW c d (x:=e) I<|iL<|oW c d (x:=f) I<|iL<|oW c d (x:=.none) I<|ja ?_;refine iL<|KE ?_;show ae _ _ (if((1:Int)==0)=J then _ else _) _ _ s;rw[jr<|by decide];refine iL<|zJ j<|iL<|zJ k<|iL<|ja ?_;show ae _ _ (match cO lo b 1 (n:Int)with|(lo,b)=>pure (lo,(1:Int),bV lo b 1)) _ _ s;rw[ac4 lo b n];show ae _ _ (pure (((Br n 0 lo:Nat):Int),(1:Int),bV ((Br n 0 lo:Nat):Int) ((Br n n b:Nat):Int) 1)) _ _ s;rw[acx];exact ja h
def aep(b:nJ)(i k:Nat):((am k).filterMap λ(m:Nat)=>b[((i:Int)+(m:Int)*1).toNat]?).toArray=((b.toList.drop i).take k).toArray:=by
 have e:(λ(m:Nat)=>b[((i:Int)+(m:Int)*1).toNat]?)=λm=>b[i+m]?:=by
  funext m;have:((i:Int)+(m:Int)*1).toNat=i+m:=by lia
  rw[this]
 rw[e];have:=pick_run b i k;rw[me]at this;have c:((λx=>b[x]?)∘λx=>i+x)=λm=>b[i+m]?:=rfl;rw[c]at this;rw[this]
def acp{t e:iJ}{items:nJ}{g i:iQ}{lo b:Option Int}{Q:jy}(c:li s.heap t items)(f:s.heap.IsSliceOf e g i .none)(r:eE g lo)(u:eE i b)
  (p: ¬(Br items.size 0 lo=0/\Br items.size items.size b=items.size))
  (h:Q (.ref s.heap.objs.size) {s with heap:=s.heap.push {cls:=.type "tuple",data:=.seq ((items.toList.drop<|Br items.size 0 lo).take<|Br items.size items.size b-Br items.size 0 lo).toArray}})
  (o:items.size<=sizeLine):ae (af a w) A (el (.ref t)<|.ref e) Q E s:=by
 have d:sizeOk (.seq ((items.toList.drop<|Br items.size 0 lo).take<|Br items.size items.size b-Br items.size 0 lo).toArray):=by show((items.toList.drop<|Br items.size 0 lo).take<|Br items.size items.size b-Br items.size 0 lo).toArray.size<=sizeLine;rw[kz,rK,zo,lT];omega
 have x:Br items.size items.size b<=items.size:=Uh _ _ (kc _) b;obtain⟨os,k,l,v⟩:=id f;have n:s.TypeIs (.ref e) "slice":=⟨os,k,l⟩
 unfold el
 try with_reducible refine mv ?_
 first|refine iL (ja ?_)|skip
 refine iL<|u9 c.typeIs (by decide) ?_
 refine iL (sM (name:=bS "__getitem__") c.typeIs A8
  (pO A8 c.typeIs LG ?_<|ut _ _))
 show ae _ _ (cJ (.ref t)>>=_) _ _ s;refine iL<|P1 c ?_;refine iL<|vM n ?_;rw[jb<|by decide];refine iL<|qt f r u ?_
 have j: ¬((((Br items.size 0 lo:Nat):Int)==0&&(1:Int)==1&&(Br items.size items.size b-Br items.size 0 lo)==items.size)=J):=by intro q;rw[lg,lg]at q;have y:((Br items.size 0 lo:Nat):Int)=0:=sf q.1.1;have z:Br items.size items.size b-Br items.size 0 lo=items.size:=sf q.2;exact p ⟨by omega,by omega⟩
 show ae _ _ (if(((Br items.size 0 lo:Nat):Int)==0&&(1:Int)==1&&(Br items.size items.size b-Br items.size 0 lo)==items.size)=J then _ else _) _ _ s;rw[jr j,aep]
 first
  |exact iL (m:=bc _)<|oi (ja ⟨_,rfl,ja h⟩) d
  |exact iL (m:=bc _)<|oi (iL<|ja<|ja ⟨_,rfl,ja h⟩) d
  |exact iL<|iL (m:=bc _)<|oi (ja<|ja ⟨_,rfl,ja h⟩) d
  |exact iL<|iL (m:=bc _)<|oi (ja ⟨_,rfl,ja h⟩) d
end
end HT
namespace L2
abbrev TO:=St->Hp->(Option Int->Hp->Prop)->Prop
def PO(X:Cx)(e:Option Expr)(t:TO):Prop:=
 ∀(a:jG)(s:iN)(b:St)(T:Hp)(Q:Option Int->Hp->Prop),Inv X a b T s->t b T Q->
  ae (af X.prog X.w) X.A (evalPart e X.env) (λu d=>∃o c,Inv X a b c d/\eE u o/\Q o c) X.xe s
noncomputable def PQ:TO:=λ_ T Q=>Q U T
def Xq(t:TE):TO:=λb T Q=>t b T λx a=>∃i,x=.int i/\Q (Y i) a
section
variable {X:Cx}{e:iT}{d:TE}{lo c:Option Expr}{f g:TO}{k j:bu}
def Ib:PO X U PQ:=by intro a s b T Q O h;rw[Op];exact ja ⟨U,T,O,.none,h⟩
def Ia(h:PE X e d):PO X (Y e) (Xq d):=by intro a s o T Q O l;rw[evalPart_some];refine Bl (h a s o T _ O l) ?_;rintro u s1 ⟨x,H1,b,n,m⟩;obtain⟨i,rfl,q⟩:=m;obtain⟨t,rfl⟩:=n;exact⟨Y i,H1,b,.int i t,q⟩
def NZ(X:Cx)(r:V->Option Int->Option Int->Hp->VK->Prop):Prop:=
 ∀(a:jG)(s:iN)(l:St)(O:Hp)(x:V)(v h i:iQ)(lo c:Option Int)(b:iJ)(Q:VK),Inv X a l O s->RelV x v->s.heap.IsSliceOf b h i .none->eE h lo->eE i c->r x lo c O Q->
  ∃T id,gX (.type T) "__getitem__"=pure (Y<|.builtin id)/\s.TypeIs v T/\ae (af X.prog X.w) X.A (el v<|.ref b) (EP X a l Q) X.xe s
def tSl(r:V->Option Int->Option Int->Hp->VK->Prop)(d:TE)(f g:TO):TE:=λa T Q=>d a T λx b=>f a b λl h=>g a h λu i=>r x l u i Q
def EB{r:V->Option Int->Option Int->Hp->VK->Prop}(G:NZ X r)(E:PE X e d)(O:PO X lo f)(M:PO X c g):PE X (.Subscript e (.Slice lo c U j) k) (tSl r d f g):=by intro a s i H Q I h;refine Subscript_<|Bl (E a s i H _ I h) ?_;rintro v s1 ⟨x,H1,t,r1,U'⟩;refine wpAny_Slice<|Bl (O a s1 i H1 _ t U') λm s2 ⟨l,p,y,N,Y'⟩=>Bl (M a s2 i p _ y Y') ?_;rintro n s3 ⟨u,o,z,pu,q3⟩;rw[Op];refine ja ?_;have B:Inv X a i o {s3 with heap:=s3.heap.push {cls:=.type "slice",data:=.fields #[m,n,.none]}}:=z.kept (t':=s3.toks) λb D q=>ke _ q;obtain⟨T,id,C,J,L⟩:=G a {s3 with heap:=s3.heap.push {cls:=.type "slice",data:=.fields #[m,n,.none]}} i o x v m n l u s3.heap.objs.size Q B r1 (Heap.IsSliceOf.new ..) N pu q3;show ae (af X.prog X.w) X.A (i4 e (.Slice lo c U j) v<|.ref s3.heap.objs.size) (EP X a i Q) X.xe {s3 with heap:=s3.heap.push {cls:=.type "slice",data:=.fields #[m,n,.none]}};exact tail_any (ops:=[.ref s3.heap.objs.size,v]) J C L (by with_unfolding_all rfl)
noncomputable def Ff(a:List V)(lo c:Option Int):List V:=(a.drop<|HT.Br (A2 a) 0 lo).take<|HT.Br (A2 a) (A2 a) c-HT.Br (A2 a) 0 lo
def ym(a:List V)(lo c:Option Int):(Ff a lo c).length<=(A2 a):=by
 unfold Ff;rw[rK,zo]
 lia
def aap(K:jl):V->Option Int->Option Int->Hp->VK->Prop:=λx lo c T Q=>∃a b,x=.ref a/\Gz K T a b/\
 ¬(HT.Br (A2 b) 0 lo=0/\HT.Br (A2 b) (A2 b) c=A2 b)/\∀p,T p=U->Q (.ref p) (upd T p<|.tup<|Ff b lo c)
def Ub:NZ X (aap X.K):=by
 intro p s T M x v L O lo c E Q G B u z A h;obtain⟨a,l,rfl,y,w,q⟩:=h;cases B;obtain⟨t,r,m,n⟩:=G.tuple y;have i:t.toArray.size=(A2 l):=by rw[kz];exact r.length.symm
 refine⟨"tuple",_,A8.lookup,m.typeIs,?_⟩;refine HT.acp m u z A (by rw[i];exact w) ?_ (by rw[i];exact n);rw[i];refine⟨.ref s.heap.objs.size,_,G.laid (t':=s.toks) (o:=.tup (Ff l lo c)) (λb N q=>ke _ q) (kc _) ?_,rfl,q _ (G.hok.fresh<|kc _)⟩;exact⟨lC (ym l lo c) n,_,(r.drop<|HT.Br (A2 l) 0 lo).take<|HT.Br (A2 l) (A2 l) c-HT.Br (A2 l) 0 lo,CZ _ _⟩
def XW(K:jl):R2:=λx y T Q=>∃a b i h,x=.ref a/\y=.ref b/\Gz K T a i/\Gz K T b h/\i≠[]/\(A2 i)+A2 h<=sizeLine/\
 (h=[]->Q (.ref a) T)/\(h≠[]->∀p,T p=U->Q (.ref p) (upd T p<|.tup<|i++h))
def Vals.Hl{b:List V}{a:jN}(r:Vals b a):a=[]↔b=[]:=by
 cases r with
 |nil=>simp
 |cons _ _=>simp
def QV:DO X (bC .Add) (XW X.K):=by intro n s N H x y v u Q I E L h;obtain⟨a,b,O,T,rfl,rfl,p,r,t,m,B,C⟩:=h;cases E;cases L;obtain⟨G,l,A,_⟩:=I.tuple p;obtain⟨J,i,j,_⟩:=I.tuple r;refine HT.YM A j (λz=>t<|l.Hl.mp z) (λz=>⟨.ref a,H,I,rfl,B<|i.Hl.mp z⟩) (λz=>?_) (by rw[<-l.length,<-i.length];exact m);refine⟨.ref s.heap.objs.size,_,I.laid (t':=s.toks) (o:=.tup (O++T)) (λb M q=>ke _ q) (kc _) ?_,rfl,C (λw=>z<|i.Hl.mpr w) _ (I.hok.fresh<|kc _)⟩;exact⟨by rw[nA];exact m,_,l.append i,CZ _ _⟩
end
noncomputable def GN(n:Nat)(i:Int):Option Nat:=if 0<=i then(if i<n then Y i.toNat else U)else if -(n:Int)<=i then Y (i+n).toNat else U
def Hq{b:Type}(a:List b)(i:Int):Option b:=(GN (A2 a) i).bind λj=>a[j]?
def DI{n:Nat}{i:Int}{j:Nat}(h:GN n i=Y j):wP i n=Y j/\j<n/\ -(n:Int)<=i/\i<n:=by
 unfold GN at h;by_cases a:0<=i
 .rw[jb a]at h;by_cases h1:i<n
  .rw[jb h1]at h;have e:i.toNat=j:=kT h;exact⟨by rw[Ga a h1,e],by lia,by lia,h1⟩
  rw[jr h1]at h;cases h
 rw[jr a]at h;by_cases h1: -(n:Int)<=i
 .rw[jb h1]at h;have e:(i+n).toNat=j:=kT h;exact⟨by rw[F9 (by lia) h1,e],by lia,h1,by lia⟩
 rw[jr h1]at h;cases h
def Jj{b:Type}{a:List b}{i:Int}{v:b}(h:Hq a i=Y v):∃j,wP i (A2 a)=Y j/\a[j]?=Y v/\j<A2 a/\ -((A2 a):Int)<=i/\i<(A2 a):=by
 unfold Hq at h
 cases e:GN (A2 a) i with
 |none=>rw[e]at h;cases h
 |some j=>rw[e]at h;obtain⟨h1,c,d,f⟩:=DI e;exact⟨j,h1,h,c,d,f⟩
def D4(b:iT):Prop:= ∀o i,o9 b C o i=operate [o,i] (el o i)
def N4(X:Cx)(r:R2):Prop:=
 ∀(c a:iT)(b:jG)(s:iN)(d:St)(T:Hp)(x y:V)(v u:iQ)(Q:VK),Inv X b d T s->RelV x v->RelV y u->r x y T Q->
  o9 a C v u=operate [v,u] (el v u)->ae (af X.prog X.w) X.A (i4 c a v u) (EP X b d Q) X.xe s
def MtR(X:Cx)(id:String)(r:V->List V->Hp->VK->Prop):Prop:=
 ∀(a:jG)(s:iN)(d:St)(T:Hp)(x:V)(c:List V)(v:iQ)(b:jN)(Q:VK),Inv X a d T s->RelV x v->Vals c b->r x c T Q->
  ae (af X.prog X.w) X.A (call (.builtin id) (v::b)) (EP X a d Q) X.xe s
section
variable {X:Cx}{a b:iT}{C tb:TE}{B:bu}
def SO{r:R2}(i:N4 X r)(f:PE X a C)(g:PE X b tb)(j:D4 b):PE X (.Subscript a b B) (Kn r C tb):=by intro c s n T Q O h;exact Subscript_<|VX f g O h λv u m x y d e k l q=>i a b c m n d x y v u Q e k l q<|j _ _
def aas(K:jl):R2:=λx y T Q=>∃p c i v,x=.ref p/\y=.int i/\Fd K T p c/\Hq c i=Y v/\Q v T
def aar(K:jl):R2:=λx y T Q=>∃p c i v,x=.ref p/\y=.int i/\Gz K T p c/\Hq c i=Y v/\Q v T
def Rx:N4 X (aas X.K):=by
 intro g f c s n H x y v u Q I M N h m;obtain⟨p,P,i,z,rfl,rfl,G,O,q⟩:=h;cases M;obtain⟨t,rfl⟩:=N;obtain⟨o,r,e,F⟩:=I.list G;obtain⟨j,h1,A,Y,E,L⟩:=Jj O;obtain⟨w,k,J⟩:=r.get A;have T:=r.length;have D:=DC;have fin:EP X c n Q w s:=⟨z,H,I,J,q⟩
 by_cases l:0<=i
 .have d:i.toNat=j:=by rw[Ga l L]at h1;exact kT h1
  exact item_listR e.isList l (by lia) (by rw[d];simpa using k) fin m
 have d:(i+(o.toArray.size:Int)).toNat=j:=by rw[F9 (by lia) E]at h1;rw[kz,<-T];exact kT h1
 exact LF (x:=w) e.isList.typeIs v5.lookup
  (wpAny_getItem_list_neg (Q:=λr U=>r=w/\EP X c n Q r U) e.isList (by lia) (by rw[kz]<;>lia) (by lia) (by rw[d];simpa using k) ⟨rfl,fin⟩) m
def Vk:N4 X (aar X.K):=by
 intro e d c s g H x y v u Q I L O h A;obtain⟨p,D,i,z,rfl,rfl,o,m,q⟩:=h;cases L;obtain⟨t,rfl⟩:=O;obtain⟨G,r,f,Y⟩:=I.tuple o;obtain⟨j,h1,l,J,M,N⟩:=Jj m;obtain⟨w,k,E⟩:=r.get l;have n:=r.length;have U:=DC;have fin:EP X c g Q w s:=⟨z,H,I,E,q⟩
 exact LF (x:=w) f.typeIs A8.lookup
  (getItem_tuple (j:=j) (Q:=λr T=>r=w/\EP X c g Q r T) f (by lia) (by lia) (by rw[kz,<-n];exact h1) (by simpa using k) ⟨rfl,fin⟩) A
def acH(c:jN)(n j:Nat)(u:iQ):bb (·.setIfInBounds j u) {cls:=.type "list",data:=.seq c.toArray n}={cls:=.type "list",data:=.seq (c.set j u).toArray n}:=by simp[bb]
def Inv.lst{c:jG}{f:St}{T:Hp}{s:iN}{p:iJ}{xs:List V}(Q:Inv X c f T s)(h:T p=Y (.lst xs)):
  ∃(d:jN)(n:Nat),Vals xs d/\s.heap.get? p=Y {cls:=.type "list",data:=.seq d.toArray n}/\(A2 xs)<=sizeLine:=by
 obtain⟨z,d,n,r,e⟩:=Q.hok p _ h;exact⟨d,n,r,e,z⟩
def Inv.Kr{d:jG}{l:St}{T:Hp}{s:iN}{p:iJ}{w i:List V}{j c:jN}{n g:Nat}{f:fD->fD}(Q:Inv X d l T s)(h:T p=Y (.lst w))
  (o:s.heap.get? p=Y {cls:=.type "list",data:=.seq j.toArray n})(k:f {cls:=.type "list",data:=.seq j.toArray n}={cls:=.type "list",data:=.seq c.toArray g})(r:Vals i c)(v:(A2 i)<=sizeLine)(t:Nat):
  Inv X d l (upd T p<|.lst i) {s with heap:=s.heap.update p f,toks:=t}:=by
 have e:(s.heap.update p f).get? p=Y {cls:=.type "list",data:=.seq c.toArray g}:=by rw[sL f o<|by rw[k]<;>rfl,k]
 refine Q.write (x:=p) (e:=p) (by rw[h];trivial) (.inl I) (λb u m q=>(CY _ _ (oF m)).trans q) ⟨_,e⟩ ?_;exact⟨v,c,g,r,e⟩
def XR:V->V->V->Hp->(Hp->Prop)->Prop:=λo i v T Q=>∃p c k j,o=.ref p/\i=.int k/\T p=Y (.lst c)/\GN (A2 c) k=Y j/\Q (upd T p<|.lst<|c.set j v)
def aeO:V4 X XR:=by
 intro c s T H o i v N M u Q I E A L h;obtain⟨p,O,k,j,rfl,rfl,x,y,q⟩:=h;cases E;obtain⟨t,rfl⟩:=A;obtain⟨g,n,r,e,z⟩:=I.lst x;obtain⟨h1,G,m,w⟩:=DI y;have d:=r.length;have J:=DC
 have f:Inv X c T (upd H p<|.lst<|O.set j v) {s with heap:=s.heap.update p (bb (·.setIfInBounds j u))}:=
  I.Kr x e (acH g n j u) (r.set L j) (by rw[sJ];exact z) s.toks
 by_cases l:0<=k
 .have hk:k.toNat=j:=by rw[Ga l w]at h1;exact kT h1
  exact PySem.W.ki_setAt e l (by lia) (by rw[kz,<-d];exact w) (by rw[hk];exact⟨_,f,q⟩)
 have hk:(k+(g.toArray.size:Int)).toNat=j:=by rw[F9 (by lia) m]at h1;rw[kz,<-d];exact kT h1
 exact PySem.W.ki_setBack e (by lia) (by rw[kz,<-d];exact m) (by lia) (by rw[hk];exact⟨_,f,q⟩)
def abW(lo c:Option Int)(n:Nat):(dz lo c U n).1=((HT.Br n 0 lo:Nat):Int)/\(dz lo c U n).2.1=((HT.Br n n c:Nat):Int)/\(dz lo c U n).2.2=1:=by
 refine⟨?_,?_,rfl⟩
 .cases lo with
  |none=>simp[dz,HT.Br]
  |some i=>
   simp only[dz,HT.Br,lw,show(1:Int)>0 by decide,kQ];by_cases h:i<0
   .simp only[h,kQ]<;>lia
   simp only[h,kR]<;>lia
 cases c with
 |none=>simp[dz,HT.Br]
 |some i=>
  simp only[dz,HT.Br,lw,show(1:Int)>0 by decide,kQ];by_cases h:i<0
  .simp only[h,kQ]<;>lia
  simp only[h,kR]<;>lia
def abg(c:jN)(lo d:Option Int):slicePick c.toArray lo d U=((c.drop<|HT.Br (A2 c) 0 lo).take<|HT.Br (A2 c) (A2 c) d-HT.Br (A2 c) 0 lo).toArray:=by obtain⟨h1,e,f⟩:=abW lo d c.toArray.size;unfold slicePick;rw[h1,e,f];simp only[sliceRange_one,pick_run,kz]<;>rfl
def aaq(K:jl):V->Option Int->Option Int->Hp->VK->Prop:=λx lo d T Q=>∃a c,x=.ref a/\Fd K T a c/\∀p,T p=U->Q (.ref p) (upd T p<|.lst<|Ff c lo d)
def PR:NZ X (aaq X.K):=by intro g s z T x v w y lo e u Q O n i l m h;obtain⟨a,c,rfl,j,q⟩:=h;cases n;obtain⟨p,r,f,k⟩:=O.list j;have d:=r.length;refine⟨"list",_,v5.lookup,f.isList.typeIs,?_⟩;refine wpAny_getItem_list_slice f.isList i l m .none (by simp) ?_ (by rw[kz]<;>lia);rw[abg,<-d];refine⟨.ref s.heap.objs.size,_,O.laid (t':=s.toks) (o:=.lst (Ff c lo e)) (λb t q=>ke _ q) (kc _) ?_,rfl,q _ (O.hok.fresh<|kc _)⟩;exact⟨lC (ym c lo e) k,_,0,(r.drop<|HT.Br c.length 0 lo).take<|HT.Br c.length c.length e-HT.Br c.length 0 lo,kE _ rfl⟩
def wU:kH X (.builtin "len") (λj T Q=>∃p d,j=[.ref p]/\(Fd X.K T p d\/Gz X.K T p d)/\Q (.int d.length) T):=by
 intro i s t T j o Q O r h;obtain⟨p,d,rfl,e,q⟩:=h;obtain⟨u,rfl,m⟩:=qm r;cases m;have n:=DC;rcases e with e|e
 .obtain⟨k,g,f,l⟩:=O.list e;have c:=g.length;exact Calls.call_len_list f.isList (by simp only[kz]<;>lia) ⟨.int d.length,T,O.tok _,⟨s.toks+1,by rw[kz,c]⟩,q⟩
 obtain⟨k,g,f,l⟩:=O.tuple e;have c:=g.length;exact len_tuple f (by simp only[kz]<;>lia) ⟨.int d.length,T,O.tok _,⟨s.toks+1,by rw[kz,c]⟩,q⟩
def wR:kH X (.type "list") (λE N Q=>∃p i,E=[.ref p]/\(Fd X.K N p i\/Gz X.K N p i)/\∀l,N l=U->Q (.ref l) (upd N l<|.lst i)):=by
 intro v s O N E T Q M r h;obtain⟨p,i,rfl,k,q⟩:=h;obtain⟨u,rfl,L⟩:=qm r;cases L
 have fin:∀(d:jN),Vals i d->i.length<=sizeLine->∀(c:jg)(f:Nat),(∀b A,s.heap.get? b=Y A->c.get? b=Y A)->
   c.get? s.heap.objs.size=Y {cls:=.type "list",dict:=U,data:=.seq d.toArray f,slots:= #[]}->EP X v O Q (.ref s.heap.objs.size) {s with heap:=c}:=λd g m c f t e=>
  ⟨.ref s.heap.objs.size,_,M.laid (t':=s.toks) t (kc _) (show Au X.prog X.w _ c _ (.lst i)from⟨m,d,f,g,e⟩),rfl,q _ (M.hok.fresh<|kc _)⟩
 rcases k with k|k
 .obtain⟨d,g,z,m⟩:=M.list k;have j:=g.length;obtain⟨o,y,x,n,hd⟩:=z.isList;exact Ps p (.inl I) y x hd (λc f t e=>fin d g m c f t e) (by simp only[kz]<;>omega)
 obtain⟨d,g,z,m⟩:=M.tuple k;have j:=g.length;obtain⟨o,y,x,n,hd⟩:=z;exact Ps p (.inr I) y x hd (λc f t e=>fin d g m c f t e) (by simp only[kz]<;>omega)
def uK:kH X (.type "tuple") (λv T Q=>∃p d,v=[.ref p]/\((Fd X.K T p d/\∀l,T l=U->Q (.ref l) (upd T l<|.tup d))\/(Gz X.K T p d/\Q (.ref p) T))):=by
 intro c s x T v E Q O r h;obtain⟨p,d,rfl,h⟩:=h;obtain⟨u,rfl,A⟩:=qm r;cases A;rcases h with⟨i,q⟩|⟨i,q⟩
 .obtain⟨g,k,j,t⟩:=O.list i;have n:=k.length;refine call_tuple_list j.isList (λf z=>?_) (by simp only[kz]<;>lia);have m:Inv X c x T {s with heap:=f}:=O.kept (t':=s.toks) z
  have y:Inv X c x (upd T f.objs.size<|.tup d) {s with heap:=f.push {cls:=.type "tuple",data:=.seq g.toArray}}:=
   m.laid (t':=s.toks) (λb o e=>ke _ e) (kc _) (show Au X.prog X.w _ _ _ (.tup d)from⟨t,g,k,CZ _ _⟩)
  exact⟨.ref f.objs.size,_,y,rfl,q _ (m.hok.fresh<|kc _)⟩
 obtain⟨g,k,j,t⟩:=O.tuple i;exact call_tuple_same j ⟨.ref p,T,O,rfl,q⟩
def tyV(K:jl)(T:String)(x:V)(Q:Hp):Prop:=match x with
 |.str _=>T="str"
 |.int _=>T="int"
 |.ref p=>(T="list"/\∃d,Fd K Q p d)\/(T="tuple"/\∃o,K.lookup p=Y o/\o.cls=.type "tuple"/\o.dict=U)\/
   (T="dict"/\((∃c,Q p=Y (.dK c))\/∃c,Q p=Y (.dT c)))\/(T="set"/\∃S n,Q p=Y (.set S n))
 |_=>False
def TZ{d:jG}{m:St}{Q:Hp}{s:iN}{T:String}{x:V}{v:iQ}(O:Inv X d m Q s)(r:RelV x v)(ty:tyV X.K T x Q):
  s.TypeIs v T/\∀a,v=.ref a->∃h,s.heap.get? a=Y h/\h.dict=U:=by
 cases x with
 |str z=>obtain⟨t,rfl⟩:=r;cases(show T="str" from ty);exact⟨typeIs_str s z t,λ_ e=>nomatch e⟩
 |int i=>obtain⟨t,rfl⟩:=r;cases(show T="int" from ty);exact⟨typeIs_int s i t,λ_ e=>nomatch e⟩
 |ref p=>
  cases r;rcases ty with⟨rfl,u,l⟩|⟨rfl,o,hk,k,hd⟩|⟨rfl,hk⟩|⟨rfl,S,n,hk⟩
  .obtain⟨q,_,j,_⟩:=O.list l;refine⟨j.isList.typeIs,λa e=>?_⟩;cases e;obtain⟨o,n,e,c,hd,_⟩:=j;exact⟨o,e,hd⟩
  .refine⟨⟨o,O.G8 p o hk,k⟩,λa e=>?_⟩;cases e;exact⟨o,O.G8 _ o hk,hd⟩
  .have z:∃o,s.heap.get? p=Y o/\o.ExactDict:=by
    rcases hk with⟨g,hk⟩|⟨g,hk⟩
    .obtain⟨_,_,_,_,o,_,_,e,ex,_⟩:=O.hok p _ hk;exact⟨o,e,ex⟩
    obtain⟨_,_,_,_,o,_,_,e,ex,_⟩:=O.hok p _ hk;exact⟨o,e,ex⟩
   obtain⟨o,e,ex⟩:=z;refine⟨⟨o,e,ex.1⟩,λa f=>?_⟩;cases f;exact⟨o,e,ex.2.1⟩
  obtain⟨o,_,_,_,e,ex,_⟩:=O.hok p _ hk;refine⟨⟨o,e,ex.1⟩,λa f=>?_⟩;cases f;exact⟨o,e,ex.2.1⟩
 |_=>exact aJ ty
def tBM(K:jl)(T:String)(r:V->List V->Hp->VK->Prop)(to:TE)(t:TA):TE:=λd O Q=>to d O λx c=>tyV K T x c/\t d c λf e=>r x f e Q
variable {o e:iT}{g:ky}{to:TE}{t:TA}{d:au}{m A:bu}{T id:String}{r:V->List V->Hp->VK->Prop}
abbrev MK(X:Cx)(p:bu)(g:ky):Prop:=((aT p<|ac g X.env).all (λx=>!x.1)&&(fL p<|dA [] X.env).all (λx=>x.1.isSome)&&decide (A2 g+([]:List wn).length+(if([]:List wn).isEmpty then 0 else 1)<30))=J
abbrev MM(X:Cx)(o:iT)(d:au):Prop:=attributeBase o d X.env (aW o X.env)=aW o X.env
def Ih(J:PlainAttrs T)(slot:Slot T d id)(f:tp (.builtin id)=pure (.type "method_descriptor"))(y:MtR X id r)(z:PE X o to)(w:PA X (e::g) t)
  (O:MM X o d:=by rfl)
  (G:MK X A (e::g):=by rfl)
  (L:(m.endLine==A.line)=Ap:=by rfl)(E:ac (e::g) X.env=(AX,aW e X.env)::ac g X.env:=by rfl)(q:(aT A<|ac g X.env).any (·.1)=AX:=by rfl):
  PE X (.Call (.Attribute o d m) (e::g) [] A) (tBM X.K T r to t):=by
 intro c s i H Q I h;refine wpAny_Call_method_late O G L AM<|Bl (z c s i H _ I h) ?_;rintro v s1 ⟨x,H1,j,l,ty,M⟩;obtain⟨h1,u⟩:=TZ j l ty;refine⟨T,id,J,slot,f,h1,u,?_⟩;have k:=w A c s1 i H1 _ j M;rw[E]at k ⊢;refine Calls.callWith_builtin (by show(AX||(aT A<|ac g X.env).any (·.1))=AX;rw[q]<;>rfl)<|LD ?_;exact Bl k λus Y' ⟨vs,n,p,U',N⟩=>y c Y' i n x vs v us Q p l U' N
end
def Nd(X:Cx)(id:String)(r:V->List V->Hp->VK->Prop):Prop:=
 ∀(a:jG)(s:iN)(d:St)(T:Hp)(x:V)(c:List V)(v:iQ)(b:jN)(Q:VK),Inv X a d T s->RelV x v->Vals c b->r x c T Q->
  ae (af X.prog X.w) X.A (call (.builtin id) (v::b)) (EP X a d Q) X.xe s
def Vals.one{x:V}{a:jN}:Vals [x] a->Vl1 x a:=qm
theorem Vals.eraseIdx:∀{b:List V}{a:jN}(i:Nat),Vals b a->Vals (b.eraseIdx i) (a.eraseIdx i)
 |_,_,_,.nil=>.nil
 |_,_,0,.cons _ t=>t
 |_,_,i+1,.cons r t=>.cons r (Vals.eraseIdx i t)
theorem BR{a:Type}:∀(l:List a)(i:Nat),(l.eraseIdx i).length<=A2 l
 |[],_=>kc _
 |_::_,0=>zm _
 |_::r,i+1=>Nat.succ_le_succ<|BR r i
section
variable {X:Cx}{pins:jG}{σ:St}{H:Hp}{s:iN}{l b:iJ}{xs ys zs:List V}
def Inv.Jx{a its':jN}{n:Nat}{f:Array iQ->Array iQ}{j:Nat}(T:Inv X pins σ H s)(c:H l=Y (.lst xs))
  (e:s.heap.get? l=Y {cls:=.type "list",data:=.seq a.toArray n})(g:f a.toArray=its'.toArray)(hv:Vals ys its')(i:(A2 ys)<=sizeLine):
  Inv X pins σ (upd H l<|.lst ys) {s with heap:=s.heap.update l<|bb f,toks:=j}:=by
 have q:=PySem.IsL.update e f;rw[g]at q;refine T.write (x:=l) (e:=l) (by rw[c];exact trivial) (.inl I) (λk u d h=>(CY s.heap (bb f)<|oF d).trans h) ⟨_,q⟩ ?_;exact⟨i,its',_,hv,q⟩
def Inv.Me{a:jN}{t':Nat}(T:Inv X pins σ H s)(hv:Vals ys a)(c:(A2 ys)<=sizeLine):
  Inv X pins σ (upd H s.heap.objs.size<|.lst ys) {s with heap:=s.heap.push {cls:=.type "list",data:=.seq a.toArray},toks:=t'}:=
 T.laid (λ_ _ q=>ke _ q) (kc _) ⟨c,a,0,hv,kE _ rfl⟩
def Inv.fresh(T:Inv X pins σ H s):H s.heap.objs.size=U:=T.hok.fresh<|kc _
inductive LsM(h:jg)(l:iJ)(xs:List V):Prop where
 |mk (_:(A2 xs)<=sizeLine) (b6:jN) (n:Nat) (_:Vals xs b6) (_:(A2 xs)=A2 b6) (_:h.get? l=A9 {cls:=.type "list",data:=.seq b6.toArray n})
def Inv.JG(T:Inv X pins σ H s)(c:H l=Y (.lst xs)):LsM s.heap l xs:=by obtain⟨z,a,n,r,e⟩:=T.hok l _ c;exact⟨z,a,n,r,r.length,e⟩
def Nr{n:Nat}(h:n<=sizeLine):c5 n=C:=by unfold c5;exact nv (by lia)
end
section
variable {X:Cx}
def Qe:V->List V->Hp->VK->Prop:=λx b T Q=>∃l a y,x=.ref l/\b=[y]/\T l=Y (.lst a)/\(A2 a)<sizeLine/\Q .Ar (upd T l<|.lst<|a++[y])
def adC:Nd X "list.append" Qe:=by
 intro c s p T x m v k Q O g f h;obtain⟨l,o,y,rfl,rfl,b,j,q⟩:=h;cases g;obtain⟨u,rfl,d⟩:=f.one;obtain⟨z,a,n,r,i,e⟩:=O.JG b;refine xD F.slot_list_append ⟨_,e,rfl⟩ LB (LA _ _) (j1 l a.toArray n u<|by rw[kz];lia) ⟨e,?_⟩;refine⟨.Ar,_,O.Jx (its':=a++[u]) b e (by simp) (r.append<|.cons d .nil) ?_,rfl,q⟩;rw[nA,xy]
 lia
def Qd:V->List V->Hp->VK->Prop:=λx d T Q=>∃l b a c,x=.ref l/\d=[.ref b]/\T l=Y (.lst a)/\T b=Y (.lst c)/\(A2 a)+A2 c<=sizeLine/\Q .Ar (upd T l<|.lst<|a++c)
def adB:Nd X "list.extend" Qd:=by
 intro i s G M x N v B Q I w t h;obtain⟨l,b,E,T,rfl,rfl,g,k,A,q⟩:=h;cases w;obtain⟨u,rfl,p⟩:=t.one;cases p;obtain⟨z,c,n,r,y,e⟩:=I.JG g;obtain⟨O,d,m,o,L,j⟩:=I.JG k;have f:c.toArray.size+d.toArray.size<=sizeLine:=by rw[kz,kz];lia
 have a: ¬(!c.toArray.isEmpty&&c5 (c.toArray.size+d.toArray.size))=J:=by rw[Nr f,eS];exact lG
 refine xD F.slot_list_extend ⟨_,e,rfl⟩ F.entry_list_extend (F.args_list_extend_2 _ _)
  (AutoSeq1.list_extend_list_list_0 l c.toArray n b d.toArray m a (by rw[kz];lia)<|by lia) ⟨e,j,?_⟩
 refine⟨.Ar,_,I.Jx (its':=c++d) g e (by simp) (r.append o) ?_,rfl,q⟩;rw[nA]
 lia
def Us:V->List V->Hp->VK->Prop:=λx b T Q=>∃l a i k y,x=.ref l/\b=[.int i]/\T l=Y (.lst a)/\ -(2^63)<=i/\i<2^63/\wP i (A2 a)=Y k/\a[k]?=Y y/\Q y (upd T l<|.lst<|a.eraseIdx k)
def Nx:Nd X "list.pop" Us:=by
 intro c s L O x E v T Q N A p h;obtain⟨l,B,i,k,y,rfl,rfl,b,h1,d,hk,j,q⟩:=h;cases A;obtain⟨u,rfl,o⟩:=p.one;obtain⟨t,rfl⟩:=o;obtain⟨z,a,n,r,f,e⟩:=N.JG b;obtain⟨w,g,m⟩:=r.get j
 refine xD F.slot_list_pop ⟨_,e,rfl⟩ F.entry_list_pop (F.args_list_pop_2 _ _)
  (MeetsSeq.list_pop_at l a.toArray n i t k w (fitsIndex_both h1 d) (by rw[kz,<-f];exact hk) (by rw[<-nu];exact g)<|by rw[kz];lia) ⟨e,?_⟩
 refine⟨y,_,N.Jx (its':=a.eraseIdx k) b e ?_ (r.eraseIdx k) ?_,m,q⟩
 .show a.toArray.eraseIdxIfInBounds k=(a.eraseIdx k).toArray;rw[List.eraseIdxIfInBounds_toArray]
 have:=BR B k
 lia
end
section
variable {a:jm}{w:je}{A:jh}{E:jy}{s:iN}
end
section
variable {X:Cx}
end
end L2
namespace Att
open PySem.W PySem.Calls
def yz{P:Params}{h:jg}:∀(c:iZ)(d:jN),WellAll P h d (c.map WData.int)->gw d c:=by
 intro c
 induction c with
 |nil=>intro d w;rw[oh]at w;cases w;exact .nil
 |cons n c e=>
  intro d w;rw[jP]at w
  cases w with
  |cons a b=>
   cases a;exact .cons _ _ (e _ b)
def adf{l:OpenLaw}{n:Nat}(v:l.most=Y n){P:Params}{h:jg}{b:List WData}{e:jN}
  (j:l.row.toRowW.claim.pre b=J)(s:WellAll P h e b):
  ∃a m c,e=[bK a]/\b=[WData.list<|c.map WData.int]/\h.get? a=Y {cls:=.type "list",data:=.seq m.toArray}/\gw m c/\(A2 c)<=n:=by
 have p:WShape.hasAll [] b [.list .int]=J:=(pre_splitW j).1;have k:l.pre.holds [] {args:=b}=J:=(pre_splitW j).2;obtain⟨d,r,rfl,h1,t⟩:=hasAllW_cons p;obtain rfl:=hasAllW_nil t;obtain⟨A,rfl,u⟩:=hasW_list h1;obtain⟨c,rfl⟩:=items_int u
 have f:(A2 c)<=n:=by
  unfold OpenLaw.pre at k
  have g:(WTm.not<|.lt (.lit<|.int (n:Int))<|.len<|.arg 0).holds [] {args:=[.list<|c.map .int]}=J:=by have g:=(holds_andW k).1;rw[v]at g;exact g
  have i:=condW_of g<|w_not<|w_lt w_lit<|w_len_list<|w_arg I;rw[kd]at i;refine sa λq=>?_;have x:(n:Int)<(((A2 c):Nat):Int):=by omega
  first
   |(rw[rJ x]at i;exact absurd i<|by decide)
   |(simp at i;omega)
 cases s with
 |cons y z=>
  cases z
  cases y with
  |list w o=>exact⟨_,_,c,rfl,rfl,w,yz c _ o,f⟩
def adm(l:OpenLaw)(a:List WData):l.row.toRowW.claim.post a (.bool J) a=J:=
 postW_of (r:=l.row.toRowW) (X:=J==J)
  (show WShape.has [] (.bool J) .bool=J by first|rfl|decide|simp[WShape.has,WShape.arms,WShape.armsAll])
  (show(WTm.eq .res<|.lit<|.bool J).value [] {args:=a,res:=Y<|.bool J,after:=a}=Y (.bool<|J==J)from w_eq_bool (w_res I) w_lit) rfl
def R8{l:OpenLaw}{n:Nat}{q:jm}{c:jw}{x:(au->Option iQ)->jg->Prop}{y:je->jg->Prop}{d:DefRec}
  (hn:l.most=A9 n)(I:d.params.defaults=[])
  (call:∀(w:je)(e b:iN)(m u:lE)(j:iJ)(o:fD)(v cd g:iQ)(a:iJ)(i:jN)(p:iZ),
   Ground q c [] x w e m u b.heap->y w b.heap->
   b.heap.get? j=A9 o->o.data=.func (docDef d.name d.params d.body d.scope v cd g)->b.heap.CodeRec cd d.name->m d.name=A9 (.ref j)->
   b.heap.get? a=A9 {cls:=.type "list",data:=.seq i.toArray}->gw i p->A2 p<=n->b.gens= #[]->
   cb (af l.prog w) gq (.call (.ref j) ⟨[.ref a],[]⟩) (λr s=>r=.ok (.ret<|.bool Ap)/\OldK b.heap s.heap/\s.os=b.os/\ew s.gens) b):
  WalkO q c x y l.row.toRowW d [] (λf i=>wT f i):=by
 intro w e b m u G Y j o v cd g L kV D hd P A t M z C as E B K O N;obtain rfl:L=.none:=Dflts.none A I;obtain rfl:kV=.none:=Dflts.noKw A;obtain⟨a,i,p,rfl,rfl,H,h,k⟩:=adf hn E O;refine enter_call<|rL (call w e b m u j o v cd g a i p G Y D (fd_plain hd) P t H h k M) λr s F=>?_;obtain⟨rfl,Q,T,J⟩:=F;exact⟨.inl ⟨.bool Ap,.bool Ap,[],rfl,λ_=>rfl,.bool Ap,adm l _,λ_=>⟨c3,λ_ U=>(nomatch U)⟩⟩,Q,T,J⟩
section
variable {a:jm}{w:je}{A:jh}{E:jy}{s:iN}{K:Frag}
end
end Att
namespace L2
def adH{b:jN}{a:iZ}(h:gw b a):Vals (a.map V.int) b:=by
 induction h with
 |nil=>exact .nil
 |cons n t h c=>exact .cons ⟨t,rfl⟩ c
noncomputable def pY(s:bn):Arguments:=match s with
 |.FunctionDef _ a _ _ _ _ _ _ _ _=>a
 |_=>{posonlyargs:=[],args:=[],vararg:=U,kwonlyargs:=[],kw_defaults:=[],kwarg:=U,defaults:=[]}
noncomputable def mh(s:bn):List Stmt:=match s with
 |.FunctionDef _ _ b _ _ _ _ _ _ _=>b
 |_=>[]
noncomputable def iU(s:bn):Scope:=match s with
 |.FunctionDef _ _ _ _ _ _ a _ _ _=>a
 |_=>{kind:=.function,names:=[],isGenerator:=C,isCoroutine:=C}
abbrev GP:JE:=λ_ _ _ _ _ _=>False
abbrev E0:XK:=λ_ _ _=>False
def SQ{X:Cx}:D5 GP X E0:=λ_ _ _ _ _ _ _ h=>h.elim
structure J3(K:jl)(x qual:au)(st:bn)(f:iJ)(fd:mT):Prop where
 ex:∃(oc:iQ)(od:Option iJ)(kV doc pm:iQ)(an:Option iJ)(b8 ct:iQ)(r8:ya),
  fd=bA x qual (pY st) (mh st) (iU st) .none kV doc pm an b8 ct/\K.lookup f=A9 ⟨oc,od,.func fd,r8⟩/\c9 K b8 qual=Ap
 kp:bD K (.ref f)=Ap
section
variable {P:jm}{w:je}{K:jl}{a:lE}{base:jg}
def J3.ok{x qual:au}{st:bn}{f:iJ}{g:mT}{N d:jw}{k:Nat}{e:Sp}(F:J3 K x qual st f g)(S:Bb N d (iU st))(len:∀vs T Q E,e vs T Q E->A2 vs=A2 d)
  (n:∀(c:iQ)(A:jh)(b:List dO)(s:iN)(T:Hp)(vs:List V)(Q:VK)(E:XK),Bg k (A.deeper<|aV qual (iU st) s.heap.objs.size f c)->e vs T Q E->
   ∃t,Ha (rB GP P w K a base N qual (iU st) f c A b s T E).Hx (mh st) t/\t {nx:=λ_ i=>Q .Ar i,rt:=Q} (oH N vs) T):DV P w K a base GP (k+1) f g d e:=by
 obtain⟨p,r,kV,l,u,an,c,ct,v,rfl,lk,o⟩:=F.ex;refine Oq lk o S len λA b s T vs Q E m j=>?_;obtain⟨t,h,q⟩:=n c A b s T vs Q E m j;exact⟨t,h.Hx,q⟩
def J3.binds{x qual:au}{st:bn}{f:iJ}{i:mT}{e:jw}(F:J3 K x qual st f i)
  (h:∀(kV b d:iQ)(an:Option iJ)(c ct:iQ)(g:jN),A2 g=A2 e->fI (bA x qual (pY st) (mh st) (iU st) .none kV b d an c ct) ⟨g,[]⟩=pure (e.zip g)):Binds K i e []:=by
 obtain⟨k,l,kV,b,d,an,c,ct,m,rfl,lk,j⟩:=F.ex;exact .all<|h kV b d an c ct
def Oj{x qual:au}{st:bn}{f:iJ}{g:iQ}{h an:Option iJ}{i:ya}{kV b e d ct:iQ}(l:K.lookup f=Y ⟨g,h,.func<|bA x qual (pY st) (mh st) (iU st) .none kV b e an d ct,i⟩)
  (c:c9 K d qual=J)(k:bD K (.ref f)=J):J3 K x qual st f (bA x qual (pY st) (mh st) (iU st) .none kV b e an d ct):=⟨⟨g,h,kV,b,e,an,d,ct,i,rfl,l,c⟩,k⟩
end
section
variable {X:Cx}
end
def Vm{A B:Prop}(h:B):if C=J then A else B:=by rw[jr lG];exact h
def Vl{A B:Prop}(h:A):if J=J then A else B:=by rw[jb I];exact h
theorem vI(b:dO):∀(l:List (au×dH))(i:lF),(∀x∈l,x.2=.free->∃c,b.cells.lookup x.1=Y c)->(∀x c,i.lookup x=Y c->b.cells.lookup x=Y c)->
  ∃g,(forIn l i λx r=>if x.2==aH then do let a <-I0 b x.1;pure (bv ((x.1,a)::r))else pure (bv r))=(pure g:d7 (List<|au×iJ))/\
   (∀x c,g.lookup x=Y c->b.cells.lookup x=Y c)/\(∀x,(x,aH)∈l->∃c,g.lookup x=Y c)/\∀x c,i.lookup x=Y c->∃c,g.lookup x=Y c
 |[],i,_,o=>⟨i,rfl,o,λx h=>by simp at h,λx c h=>⟨c,h⟩⟩
 |(n,k)::l,i,h,o=>by
  by_cases hk:k=.free
  .subst hk;obtain⟨c,e⟩:=h (n,.free) jW I;have s:b.cells.lookup n=Y c:=e
   obtain⟨g,h1,p,q,m⟩:=vI b l ((n,c)::i) (λx f=>h x<|jU _ f) (λx d f=>by
    rw[oE]at f
    cases j:x==n with
    |true=>rw[j]at f;have:=sf j;subst this;cases f;exact s
    |false=>rw[j]at f;exact o x d f)
   refine⟨g,?_,p,λx f=>?_,λx d f=>?_⟩
   .rw[eI];have:I0 b n=pure c:=by unfold I0;rw[s]
    simp -iota only[this,z0,beq_self_eq_true,kQ];exact h1
   .rcases kM.mp f with z|z
    .cases z;exact m n c (by simp[oE])
    exact q x z
   cases j:x==n
   .exact m x d (by rw[oE,j];exact f)
   have:=sf j;subst this;exact m x c (by simp[oE])
  obtain⟨g,h1,p,q,m⟩:=vI b l i (λx f=>h x<|jU _ f) o;have j:(k==aH)=C:=by simpa using hk
  refine⟨g,?_,p,λx f=>?_,m⟩
  .rw[eI];simp -iota only[j,ku,kR,z0];exact h1
  rcases kM.mp f with z|z
  .cases z;exact absurd I hk
  exact q x z
def vH(b:dO)(scope:jS)(h:∀x∈scope.names,x.2=.free->∃c,b.cells.lookup x.1=Y c):
  ∃d,ul scope b=pure d/\(∀x c,d.lookup x=Y c->b.cells.lookup x=Y c)/\∀x,(x,aH)∈scope.names->∃c,d.lookup x=Y c:=by
 obtain⟨d,h1,e,f,_⟩:=vI b scope.names [] h (λx c g=>by simp at g);refine⟨d,?_,e,f⟩;unfold ul;have:(forIn scope.names ([]:List (au×iJ)) λx r=>if x.2==aH then do let a <-I0 b x.1;pure (bv ((x.1,a)::r))else pure (bv r))=(pure d:d7 (List<|au×iJ)):=h1
 first
  |exact(nM (· >>=λr=>pure r) this).trans (z0 _ _)
  |(simp -iota only[bind_pure];exact this)
  |exact this
theorem ni:∀(names:List (au×dH))(n:Nat)(a:lF),bt n names a=bt n names []++a
 |[],_,_=>rfl
 |(x,k)::r,n,a=>by
  unfold bt;split
  .rw[ni r (n+1) ((x,n)::a),ni r (n+1) [(x,n)],qh];rfl
  exact ni r n a
theorem qb{x:au}{c:iJ}:∀(names:List (au×dH))(n:Nat),(x,c)∈bt n names []->(x,cC)∈names
 |[],_,h=>by simp[bt]at h
 |(y,k)::r,n,h=>by
  unfold bt at h;split at h
  .rename_i hk;rw[ni]at h;rcases pQ.mp h with z|z
   .exact jU _ (qb r _ z)
   cases Fw.mp z;rw[sf hk];exact jW
  exact jU _ (qb r _ h)
structure NB(cells:lF)(scope:jS)(C:iJ)(h:jg)(cl:lF):Prop where
 one:∀x c,cl.lookup x=A9 c->(cells.lookup x=A9 c/\scope.names.lookup x≠A9 .cell)\/(C<c/\scope.names.lookup x=A9 .cell/\h.IsCell c AR)
 all:∀x,(x,aH)∈scope.names\/(x,cC)∈scope.names->∃c,cl.lookup x=A9 c
 inj:∀x y c,C<c->cl.lookup x=A9 c->cl.lookup y=A9 c->(∀z d,cells.lookup z=A9 d->d<C)->x=y
 ex:∀x c,cl.lookup x=A9 c->cells.lookup x=A9 c\/C<c
def Rb{M:gr}{A:jh}{E:jy}{s:iN}{scope:jS}{globals:iJ}{a:dO}{g:lF}{qual:au}{Q:dO->Shared->Prop}(v:∀y∈scope.names,y.2=.cell->scope.names.lookup y.1=Y .cell)
  (n:∀x c,g.lookup x=Y c->a.cells.lookup x=Y c)(L:∀x,(x,aH)∈scope.names->∃c,g.lookup x=Y c)
  (T:∀l t,l.Ns s.heap.objs.size (λ_=>U)->(∀b o,s.heap.get? b=Y o->l.get? b=Y o)->NB a.cells scope s.heap.objs.size l t->
   Q {scope,locals:=s.heap.objs.size,globals,cells:=t,qual,func:=U,code:=a.code,frame:=a.frame,builtins:=a.builtins} {s with heap:=l}):
  ae M A (gZ scope globals g [] qual U .none<|Y a) Q E s:=by
 simp -iota only[gZ,fe,kQ];refine iL<|UV ?_;refine iL<|wpAny_layCells _ (λw k j=>by cases p:k==cC<;>simp[p]) _ _ _ _ ?_;have ok:=cellsFrom_ok scope.names (s.heap.push {cls:=.type "dict",data:=.dict #[]}) (s.heap.objs.size+1) [] ⟨λ_ _ O=>(nomatch O),c3⟩ (by rw[qg];exact kc _);rw[qg]at ok;rw[show({s with heap:=s.heap.push {cls:=.type "dict",data:=.dict #[]}}:Shared).heap.objs.size=s.heap.objs.size+1 from qg ..];simp -iota only[s9];have i:∀x,(bt (s.heap.objs.size+1) scope.names g).lookup x=((bt (s.heap.objs.size+1) scope.names []).lookup x).or (g.lookup x):=λx=>by rw[ni,List.lookup_append]
 have f:∀x c,(bt (s.heap.objs.size+1) scope.names g).lookup x=Y c->(g.lookup x=Y c/\(bt (s.heap.objs.size+1) scope.names []).lookup x=U)\/(x,c)∈bt (s.heap.objs.size+1) scope.names []:=λx c h=>by
  rw[i]at h
  cases q:(bt (s.heap.objs.size+1) scope.names []).lookup x with
  |none=>rw[q]at h;exact .inl ⟨h,rfl⟩
  |some d=>rw[q]at h;cases h;exact .inr<|qj q
 have lo:∀{x:au}{c:iJ},(x,c)∈bt (s.heap.objs.size+1) scope.names []->s.heap.objs.size<c:=λ{x c} h=>(ok.empty x c h).2;refine iL<|ja<|ja<|T _ _ ((Heap.Ns.new s.heap<|.type "dict").keeps<|AT _ _) (λb o e=>AT _ _ b o (ke _ e)) ⟨λx c h=>?_,λx h=>?_,λx y c m h1 B u=>?_,λx c h=>?_⟩
 .rcases f x c h with⟨z,N⟩|z
  .refine .inl ⟨n x c z,λe=>?_⟩;have:=C4 scope.names (s.heap.objs.size+1) []<|.inl e;rw[N]at this;cases this
  exact .inr ⟨lo z,v _ (qb _ _ z) rfl,(ok.empty x c z).1⟩
 .rcases h with h|h
  .obtain⟨c,m⟩:=L x h;rw[i,m];cases(bt (s.heap.objs.size+1) scope.names []).lookup x<;>exact⟨_,rfl⟩
  have:=C4 scope.names (s.heap.objs.size+1) g<|.inl<|v _ h rfl;exact KP.mp this
 .rcases f x c h1 with⟨z,_⟩|z
  .exact absurd (u x c<|n x c z) (F8 m)
  rcases f y c B with⟨r,_⟩|r
  .exact absurd (u y c<|n y c r) (F8 m)
  exact Sc ok.apart z r
 rcases f x c h with⟨z,_⟩|z
 .exact .inl (n x c z)
 exact .inr (lo z)
noncomputable def Cx.comp(X:Cx)(d:jw)(scope:jS)(e:lF)(T:iJ)(f:iN)(c:Hp)(fp:kY)(a:jG):Cx:=
 {X with N:=d,s₀:=f,H₀:=c,env:=compEnvC scope e T X.env,outer:=X.stack,stack:=X.stack,ex:=fp,fn:=λx=>scope.names.lookup x==Y .cell,pn:=X.pn++a,xe:=λ_ _=>False}
abbrev TB:=St->Hp->(St->Hp->Prop)->Prop
def PB(X:Cx)(code:d7 Unit)(t:TB):Prop:=
 ∀(a:jG)(s:iN)(d:St)(T:Hp)(N:St->Hp->Prop),Inv X a d T s->t d T N->
  ae (af X.prog X.w) X.A code (λ_ e=>∃b c,Inv X a b c e/\N b c) X.xe s
def JT(X:Cx)(b:ky)(t:TT):Prop:=
 ∀(a:jG)(s:iN)(d:St)(T:Hp)(Q:Bool->Hp->Prop),Inv X a d T s->t d T Q->
  ae (af X.prog X.w) X.A (forIn b J λc r=>if r=J then do let ok <-isTrue c X.env (aW c X.env);pure (bv ok)else pure (bv r)) (TP X a d Q) X.xe s
noncomputable def Xo:TT:=λ_ T Q=>Q J T
section
variable {X:Cx}
def Qp:JT X [] Xo:=λa s b T Q O h=>wpAny_tests_nil ⟨T,O,h⟩
def Qo{c:iT}{t:TT}(h:PT X c t):JT X [c] t:=λa s d T Q O b=>wpAny_tests_one<|h a s d T Q O b
noncomputable def jX(e:iT)(depth:Nat)(acc:iQ)(a:dO):d7 Unit:=
 match(bP e)[depth+1]? with
 |some c=>do
  let x <-aW c.iter a
  dv c.iter.pos
  let x <-ap c.iter a x
  let _ <-runOwn (.compStart e (depth+1) (<-ca [x] (c6 x)) acc a) a
 |none=>match e with
  |.ListComp b _ _ _=>do let _ <-call (.builtin "list.append") [acc,<-aW b a]
  |.SetComp b _ _ _=>do let v <-aW b a;dv b.pos;let _ <-call (.builtin "set.add") [acc,v]
  |_=>o8 "no"
def HM(Q:It)(g:TG)(n:TT)(l:TB):TB:=λd T N=>∃W:Nat->Nat->St->Hp->Prop,(∃m,W 0 m d T)/\∀i m d T,W i m d T->
 (Q.stop i T/\N d T)\/(Q.go i T/\∀x f,Q.yld i T x f->g x d f λa j=>n a j λb h=>if b=J then l a h λe k=>∃c,c<m/\W (i+1) c e k else ∃c,c<m/\W (i+1) c a h)
def abS(e:iT)(depth:Nat)(it f:iQ)(b:dO)(g:pK)(o:(∃d a i p,e=.ListComp d a i p)\/(∃d a i p,e=.SetComp d a i p))
  (j:(bP e)[depth]?=Y g)(n:g.is_async=0)(k:∀h,(bP e)[depth+1]?=Y h->h.is_async=0):
  pw e depth it f b=(do
   dv g.iter.pos
   match <-cw it with
   |none=>pure<|.done .next
   |some v=>
    eW g.target it v
    cz g.target b v
    let ok <-forIn g.ifs J λc r=>if r=J then do let ok <-isTrue c b (aW c b);pure (bv ok)else pure (bv r)
    if ok=J then jX e depth f b
    again (.compLoop e depth it f b)):=by
 rcases o with⟨d,a,i,p,rfl⟩|⟨d,a,i,p,rfl⟩
 .have l:a[depth]?=Y g:=j;unfold pw jX;simp only[clausesOf.eq_def]at j k ⊢;rw[l];simp only[n]
  cases m:a[depth+1]? with
  |none=>rfl
  |some h=>
   have:=k h m;simp only[this,sH,ku,kR]
   congr 1;funext _;congr 1;funext r
   cases r with
   |none=>rfl
   |some v=>
    dsimp only
    congr 1;funext _;congr 1;funext _;congr 1;funext ok
    cases ok
    .rfl
    simp only[kQ,uY];rfl
 have l:a[depth]?=Y g:=j;unfold pw jX;simp only[clausesOf.eq_def]at j k ⊢;rw[l];simp only[n]
 cases m:a[depth+1]? with
 |none=>rfl
 |some h=>
  have:=k h m;simp only[this,sH,ku,kR]
  congr 1;funext _;congr 1;funext r
  cases r with
  |none=>rfl
  |some v=>
   dsimp only
   congr 1;funext _;congr 1;funext _;congr 1;funext ok
   cases ok
   .rfl
   simp only[kQ,uY];rfl
def OH 
  (d:(∃b a c p,e=.ListComp b a c p)\/(∃b a c p,e=.SetComp b a c p))
  (h:ae (af prog w) A ((pw e depth it acc env).onRaise (λx=>do js x env;theTreesLotGoes x)) Q E s):
  ae (af prog w) (A.under<|.compLoop e depth it acc env) ((af prog w).den<|.compLoop e depth it acc env) Q E s:=by
 rcases d with⟨b,a,c,p,rfl⟩|⟨b,a,c,p,rfl⟩
 .exact h
 exact h
def Iu{e:iT}{depth:Nat}{acc:iQ}{c:pK}{g:TG}{ti:TT}{tb:TB}{J:It}{y:kY}{it:iJ}{tn:Nat->jg->Prop}(aI:X.xe=λ_ _=>False)(hc:X.calm=Ap)
  (hl:(∃B k sc p,e=.ListComp B k sc p)\/(∃B k sc p,e=.SetComp B k sc p))(hg:(bP e)[depth]?=Y c)(ha:c.is_async=0)(k6:∀g',(bP e)[depth+1]?=Y g'->g'.is_async=0)
  (T:Turn X.prog X.w X.K c.target J y it tn)(pg:PG X c.target g)(bw:JT X c.ifs ti)(pb:PB X (jX e depth acc X.env) tb)
  {a:jG}{s:iN}{σ:St}{H:Hp}{N:St->Hp->Prop}(I:Inv X a σ H s)(f2:∀b∈y,tL X a H b)(st:tn 0 s.heap)(h:HM J g ti tb σ H N):
  cb (af X.prog X.w) X.A (.compLoop e depth (.ref it) acc X.env) (λr Y'=>r=.ok .next/\∃f j,Inv X a f j Y'/\(∀b∈y,j b=U)/\N f j) s:=by
 obtain⟨W,⟨m0,w0⟩,turn⟩:=h;have R:∀{j:Hp},(∀b∈y,j b=U)->∀b∈y,tL X a j b:=λhn b v=>⟨hn b v,(f2 b v).2⟩
 have D:∀{α:Type}{t:d7 α}{Q:α->Shared->Prop}{E:jy}{s:iN},ae (af X.prog X.w) X.A t Q X.xe s->ae (af X.prog X.w) X.A t Q E s:=λh=>oj h (λ_ _ x=>x) λ_ _ z=>by rw[aI]at z;exact z.elim
 refine codeAny_loop AM (λn Y'=>∃i f j,Inv X a f j Y'/\tn i Y'.heap/\(∀b∈y,j b=U)/\W i n f j) (λn Z hI=>?_) m0 ⟨0,σ,H,I,st,λb v=>(f2 b v).1,w0⟩;refine OH hl ?_;refine wpAny_noted ?_;rw[abS e depth (.ref it) acc X.env c hl hg ha k6];obtain⟨i,l,G,S,V,F,w3⟩:=hI;refine iL<|vd ?_;rcases turn i n l G w3 with⟨stop,qn⟩|⟨go,step⟩
 .refine iL (Bl (T.done X AM AM AM hc i a Z l G _ S (R F) V stop) ?_);rintro r s4 ⟨P,I4⟩;subst P;exact ja ⟨rfl,l,G,I4,F,qn⟩
 refine iL (Bl (T.item X AM AM AM hc i a Z l G _ S (R F) V go) ?_);rintro r s4 ⟨u,P,h4⟩;subst P;refine iL<|Bl h4 ?_;rintro _ s5 ⟨x,H5,I5,r5,y5,cq,ir⟩;have iI:=I5.pinned (R ir)<|T.obj _ _ cq;refine iL<|Bl (D<|pg _ s5 l H5 x u _ iI r5 (step x H5 y5)) ?_;rintro _ s6 ⟨σ6,H6,I6,q6⟩;refine iL<|Bl (D<|bw _ s6 σ6 H6 _ I6 q6) ?_;rintro ok s7 ⟨H7,I7,U'⟩
 have again:∀{O:iN}{q:St}{C':Hp},Inv X (a++zP y s5.heap) q C' O->(∃M,M<n/\W (i+1) M q C')->∃m,m<n/\∃i f j,Inv X a f j O/\tn i O.heap/\(∀b∈y,j b=U)/\W i m f j:=λ{O q C'} L a'=>by
  obtain⟨M,hm,w8⟩:=a'
  refine⟨M,hm,i+1,q,C',L.ED,T.keep _ _ _ cq λb v o e=>(L.pin (b,o)<|qk _ (qk _ (rh v e))).1,λb v=>?_,w8⟩;obtain⟨o,e,d⟩:=T.obj _ _ cq b v;exact(L.pin (b,o)<|qk _ (qk _ (rh v e))).2.1
 cases ok with
 |false=>rw[jr lG]at U';exact ja ⟨rfl,again I7 U'⟩
 |true=>rw[jb AM]at U';simp -iota only[kQ];refine iL<|Bl (D<|pb _ s7 σ6 H7 _ I7 U') ?_;rintro _ O ⟨q,C',L,q8⟩;exact ja ⟨rfl,again L q8⟩
def Xu(d:iJ)(e:TE):TB:=λc T N=>e c T λy b=>∃a,b d=Y (.lst a)/\(A2 a)<sizeLine/\N c (upd b d<|.lst<|a++[y])
def Qw{b:iT}{a:pM}{i:jS}{p:bu}{depth:Nat}{d:iJ}{j:TE}(o:a[depth+1]?=U)(m:PE X b j):PB X (jX (.ListComp b a i p) depth (.ref d) X.env) (Xu d j):=by
 intro c s k T N Q h
 have l:jX (.ListComp b a i p) depth (.ref d) X.env=(do let _ <-call (.builtin "list.append") [.ref d,<-aW b X.env]):=by unfold jX;simp -iota only[clausesOf.eq_def];rw[o]
 rw[l];refine iL<|Bl (m c s k T _ Q h) ?_;rintro u s1 ⟨y,H1,f,t,x,hd,w,q⟩;obtain⟨z,g,n,r,v,e⟩:=f.JG hd;refine iL<|xD F.slot_list_append ⟨_,e,rfl⟩ LB (LA _ _) (j1 d g.toArray n u<|by rw[kz];lia) ⟨e,?_⟩;refine ja ⟨k,_,f.Jx (its':=g++[u]) hd e (by simp) (r.append<|.cons t .nil) ?_,q⟩;rw[nA,xy]
 lia
def Em{b:jm}{w:je}{A:jh}{e:iT}{depth:Nat}{it acc:iQ}{d:dO}{R:m9->Shared->Prop}{s:iN}{c:pK}
  (q:(∃g a i p,e=.ListComp g a i p)\/(∃g a i p,e=.SetComp g a i p))(o:(bP e)[depth]?=Y c)(n:c.is_async=0)
  (l:cb (af b w) A (.compLoop e depth it acc d) R s)
  (j:∀(Q:jy)(E:jy),Q it s->ae (af b w) A (c6 it) Q E s):
  cb (af b w) A (.compStart e depth it acc d) R s:=by
 have h:ae (af b w) A (j3 e depth it acc d) (λfin k=>match fin with|.done f=>R (.ok f) k|.again m=>m.quiet=J/\cb (af b w) A m R k) (notedBy (af b w) A d λx k=>R (.error x) k) s:=by
  unfold j3;rw[o];simp only[Option.elim,n,sH,ku,kR];refine iL<|xw<|wpAny_ite ?_;split
  .first
    |exact iL<|ja<|ja<|d9 I l
    |exact ja<|d9 I l
  exact iL (uC<|iL<|vd<|iL<|j _ _ (ja<|d9 I l))
 rcases q with⟨g,a,i,p,rfl⟩|⟨g,a,i,p,rfl⟩
 .refine xv ?_;show ae _ A ((j3 (.ListComp g a i p) depth it acc d).onRaise (λx=>do js x d;dv AC)) _ _ s;exact L3 h
 refine xv ?_;show ae _ A ((j3 (.SetComp g a i p) depth it acc d).onRaise (λx=>do js x d;dv AC)) _ _ s;exact L3 h
noncomputable def aeL(e:TI)(g:TG)(d:TT)(c:TB):TB:=λa T N=>e a T λQ b=>HM Q g d c a b N
def UU{e:iT}{depth:Nat}{b:iQ}{c:pK}{w:TI}{g:TG}{u:TT}{t:TB}(C:X.xe=λ_ _=>False)(U:X.calm=Ap)
  (o:(∃d a j p,e=.ListComp d a j p)\/(∃d a j p,e=.SetComp d a j p))(i:(bP e)[depth+1]?=A9 c)(n:c.is_async=0)(k6:∀m,(bP e)[depth+1+1]?=A9 m->m.is_async=0)
  (hs:∀x,ap c.iter X.env x=pure x)(pi:PI X c.target c.iter w)(pg:PG X c.target g)(L:JT X c.ifs u)(pb:PB X (jX e (depth+1) b X.env) t):
  PB X (jX e depth b X.env) (aeL w g u t):=by
 intro f s P H N I h
 have O:jX e depth b X.env=(do
  let x <-aW c.iter X.env
  dv c.iter.pos
  let x <-ap c.iter X.env x
  let _ <-runOwn (.compStart e (depth+1) (<-ca [x] (c6 x)) b X.env) X.env):=by
  unfold jX;rw[i]
 rw[O];refine iL<|Bl (pi f s P H _ I h) λv s1 h1=>iL<|vd<|iL<|vL (hs v)<|iL<|mv<|Bl h1 λS K M=>?_;obtain⟨it,V,Z,J,R,rfl,z,T,l,G,F⟩:=M;refine iL<|wpAny_runOwn ?_;refine Em o i n ?_ λQ E Y=>T.self X.A 0 K Q E l Y;refine rL (Iu C U o i n k6 T pg L pb z G l F) λr W D=>?_;obtain⟨rfl,k,y,B,_,q⟩:=D;exact ja ⟨k,y,B,q⟩
end
theorem oI{a:dO}:∀{names:List (au×dH)}{x:au},names.lookup x=Y .free->
  (names.map λ(n,k)=>if(k==aH&&a.scope.kind== .function&&a.kindOf n==Y .cell)then(n,cC)else(n,k)).lookup x=Y .cell\/
  (names.map λ(n,k)=>if(k==aH&&a.scope.kind== .function&&a.kindOf n==Y .cell)then(n,cC)else(n,k)).lookup x=Y .free
 |[],_,h=>by simp at h
 |(n,k)::r,x,h=>by
  have d:= @oI a r x;rw[jP]
  cases b:x==n with
  |true=>
   simp only[oE,b]at h;cases h;by_cases c:(aH==aH&&a.scope.kind== .function&&a.kindOf n==Y .cell)=J
   .left;simp only[c,kQ,oE,b]
   right;simp only[c,kR,oE,b,ku]
  |false=>
   simp only[oE,b]at h;by_cases c:(k==aH&&a.scope.kind== .function&&a.kindOf n==Y .cell)=J
   .simp only[c,kQ,oE,b];exact d h
   simp only[c,kR,oE,b,ku];exact d h
theorem lQ{a:dO}:∀{names:List (au×dH)}{x:au}{f:dH},
  (names.map λ(n,k)=>if(k==aH&&a.scope.kind== .function&&a.kindOf n==Y .cell)then(n,cC)else(n,k)).lookup x=Y f->∃k,(x,k)∈names/\(k=f\/k=.free)
 |[],_,_,h=>by simp at h
 |(n,k)::r,x,f,h=>by
  rw[jP]at h
  cases c:x==n
  .by_cases b:(k==aH&&a.scope.kind== .function&&a.kindOf n==Y .cell)=J
   .simp only[b,kQ,oE,c]at h;obtain⟨g,h1,d⟩:=lQ h;exact⟨g,jU _ h1,d⟩
   simp only[b,kR,oE,c,ku]at h;obtain⟨g,h1,d⟩:=lQ h;exact⟨g,jU _ h1,d⟩
  have e:=sf c;subst e;by_cases b:(k==aH&&a.scope.kind== .function&&a.kindOf x==Y .cell)=J
  .refine⟨k,jW,.inr ?_⟩
   have h1:(k==aH)=J:=by
    cases hk:(k==aH)with
    |true=>rfl
    |false=>rw[hk]at b;simp at b
   exact sf h1
  simp only[b,kR,oE,c,ku]at h;exact⟨k,jW,.inl<|by simpa using h⟩
structure Dl(X:Cx)(N':jw)(scope:jS)(pre:St->St):Prop where
 cell:∀y∈scope.names,y.2=.cell->scope.names.lookup y.1=A9 .cell
 kind:scope.kind=.function
 names:∀y∈scope.names,y.2=.local->scope.names.lookup y.1=A9 .local
 free:∀y∈scope.names,y.2=.free->X.env.scope.names.lookup y.1=A9 .cell\/X.env.scope.names.lookup y.1=A9 .free
 len:∀σ:St,(pre σ).length=A2 N'
 pre:∀(σ:St)(i:Nat)(v:V)(x:au),(pre σ)[i]?=A9 (A9 v)->N'[i]?=A9 x->scope.names.lookup x=A9 .free/\∃j:Nat,X.N[j]?=A9 x/\σ[j]?=A9 (A9 v)
section
variable {X:Cx}
def RY{L:jw}{scope:jS}{pre:St->St}(S:Dl X L scope pre){d:jG}{f:iN}{H:St}{t:Hp}{C:kY}{Q:lF}{E:jg}{t':Nat}(I:Inv X d H t f)
  (B:NB X.env.cells scope f.heap.objs.size E Q)
  (A:∀b∈C,tL X d t b)(T:∀b∈C,b<f.heap.objs.size)
  (U:E.Ns f.heap.objs.size (λ_=>AR))(hk:∀b o,f.heap.get? b=A9 o->E.get? b=A9 o):
  Inv (X.comp L scope Q f.heap.objs.size f t C d) [] (pre H) t {f with heap:=E,toks:=t'}:=by
 have F:∀b∈Eg X.stack,t b=AR:=I.GH;have w:∀b,b≠X.env.locals->b∉X.fs->b∉Eg X.stack:=λb h1 a z=>(kM.mp<|I.GR b z).elim h1 a;have old:∀x c,X.env.cells.lookup x=A9 c->c<f.heap.objs.size:=λx c e=>(I.cell x c e).elim λ_ z=>z.lt
 refine⟨⟨I.ok.mod,?_,I.ok.glob,I.ok.blt,kc _,λx y c h1 a=>?_,λx h=>?_,λx c q e=>?_,I.ok.hd,I.ok.frames,.inl AM,λb g=>?_,
  I.bs,lC I.ok.bsz I.sz,λb o e g=>?_,λb g=>w b (A b g).2.1 (A b g).2.2.1,I.stack,F⟩,rfl,I.bare,Un.kept hk,⟨_,U,λi x v h1 a G=>?_⟩,λx c h=>?_,I.hok.fresh<|kc _,λx c h=>?_,λp V=>?_,I.hok.kept hk,S.len H⟩
 .show(ms scope X.env).kind=.function;simp[ms,S.kind]
 .rcases B.ex x c h1 with z|z
  .rcases B.ex y c a with s|s
   .exact I.ok.inj x y c z s
   exact absurd (old x c z) (F8 s)
  exact B.inj x y c z h1 a old
 ·
  have M:(ms scope X.env).names.lookup x=A9 .cell\/(ms scope X.env).names.lookup x=A9 .free:=h;refine B.all x ?_;rcases M with z|z
  .obtain⟨k,h1,a⟩:=lQ z;rcases a with a|a<;>subst a
   .exact .inr h1
   exact .inl h1
  obtain⟨k,h1,a⟩:=lQ z;rcases a with a|a<;>(subst a;exact .inl h1)
 .rcases B.one x c e with⟨_,z⟩|⟨z,_⟩
  .exact absurd (sf q) z
  exact vO z
 .refine⟨kF<|T b g,λx c h=>?_⟩;rcases B.ex x c h with z|z
  .exact(A b g).2.2.2.2.1 x c z
  exact pP (CW (T b g) z)
 ·
  have Z:b∈C:=g;rcases(A b Z).2.2.2.1 with z|z
  .exact I.ok.noex b o e z
  exact absurd (nN (km e)<|lC I.ok.bsz z) (oX _)
 .obtain⟨q,j,P,hv⟩:=S.pre H i v x a h1;obtain⟨m,hn,R⟩:=I.loc;have J:=S.free (x,.free) (qj q) AM;obtain⟨u,r,l⟩:=R j x v P hv (by rcases J with z|z;exact .inr<|.inl z;exact .inr<|.inr z);refine⟨u,r,.inr ⟨oI q,?_⟩⟩;rcases l with⟨eu,_⟩|⟨_,c,K,W⟩
  .have N:X.env.scope.names.lookup x=A9 .local:=eu;rcases J with z|z<;>(have s:X.env.scope.names.lookup x=_:=z;rw[N]at s;cases s)
  obtain⟨Y,O⟩:=B.all x<|.inl<|qj q;rcases B.one x Y O with⟨this,_⟩|⟨_,z,_⟩
  .rw[K]at this;cases this;exact⟨c,O,W.keeps hk⟩
  rw[q]at z;cases z
 .rcases B.one x c h with⟨z,_⟩|⟨_,_,z⟩
  .obtain⟨v,hv⟩:=I.cell x c z;exact⟨v,hv.keeps hk⟩
  exact⟨_,z⟩
 .rcases B.ex x c h with z|z
  .exact I.freeC x c z
  exact I.hok.fresh (vO z)
 have D:p∈X.pn++d:=by simpa[Cx.comp]using V
 obtain⟨e,n,h1,a,G⟩:=I.pin p D;exact⟨hk _ _ e,n,kF<|km e,w _ h1 a,G⟩
def Fg{q:jw}{scope:jS}{a:jG}{f g:iN}{n k:St}{i l:Hp}{j:kY}{r:lF}{m:jg}(T:Inv X a n i f)(h:∀b∈j,tL X a i b)
  (Q:Inv (X.comp q scope r f.heap.objs.size f i j a) [] k l g)(u:ay f.heap.objs.size g.heap m):Inv X a n l {g with heap:=m}:=by
 have K:=T.Kb (s':=g) (ch:=j) Q.os Q.base Q.hok Q.bare λb d=>⟨(h b d).2.2.2.1,(h b d).2.1,(h b d).2.2.2.2.1,(h b d).2.2.2.2.2⟩
 have s:X.env.locals<f.heap.objs.size:=T.lt;refine K.turned (it:=f.heap.objs.size) (t':=g.toks) (λb o d e=>by rw[u.2 b d];exact e) Q.free (pP s) (.inr T.sz) (λx c w z=>?_) λp t z=>?_
 .obtain⟨v,o,e,_⟩:=T.cell x c w;exact absurd (km e) (by rw[z];exact oX _)
 obtain⟨e,_⟩:=T.pin p t;exact absurd (km e) (by rw[z];exact oX _)
def Ej(o:HO)(O:It)(g:TG)(c:TT)(b:iJ->TB)(pre:St->St)(e:St)(T:Hp)(Q:VK):Prop:=
 ∀d,T d=U->HM O g c (b d) (pre e) (upd T d o) λ_ a=>Q (.ref d) a
def ZN(O:It)(g:TG)(b:TT)(a:iJ->TB)(pre:St->St)(c:St)(T:Hp)(Q:VK):Prop:=Ej (.lst []) O g b a pre c T Q
def Cd{e:iT}{o:HO}{l:fD}{c:pK}{s:pM}{scope:jS}{y:jw}{pre:St->St}{g:TG}{ti:TT}{tb:iJ->TB}{U:lF}{J:It}{i:kY}{it:iJ}{tn:Nat->jg->Prop}
  (hl:(∃Y' k sc p,e=.ListComp Y' k sc p)\/∃Y' k sc p,e=.SetComp Y' k sc p)(hg:bP e=c::s)
  (S:Dl X y scope pre)(hc:X.calm=Ap)(ha:c.is_async=0)(k6:∀O,s[0]?=Y O->O.is_async=0)
  (t9:∀(t:lF)(C:iJ)(u:iN)(v:Hp)(i:kY)(a:jG),let L:=X.comp y scope t C u v i a
   PG L c.target g/\JT L c.ifs ti/\∀d,PB L (jX e 0 (.ref d) L.env)<|tb d)
  (j5:∀x c,U.lookup x=Y c->X.env.cells.lookup x=Y c)(j7:∀x,(x,aH)∈scope.names->∃c,U.lookup x=Y c)
  {a:jG}{f:iN}{G:St}{m:Hp}{Q:VK}{E:jy}{RR:iQ->iJ->m9->Shared->Prop}(I2:Inv X a G m f)(T:Turn X.prog X.w X.K c.target J i it tn)(aB:tn 0 f.heap)(f2:∀b∈i,tL X a m b)
  (N:Inv X a G (upd m f.heap.objs.size o) {f with heap:=f.heap.push l})
  (h:Ej o J g ti tb pre G m Q)
  (hRR:∀(d:iJ)(t:lF)(u:iN)(v M:Hp)(σ':St)(s4:iN),Inv X a G v u->(∀b∈i,tL X a v b)->Inv (X.comp y scope t u.heap.objs.size u v i a) [] σ' M s4->Q (.ref d) M->RR (.ref d) u.heap.objs.size (.ok .next) s4):
  ae (af X.prog X.w) X.A (gZ scope X.env.globals U [] X.env.qual AR .none<|Y X.env) (λn I'=>
   cb (af X.prog X.w) X.A (.compStart e 0 (.ref it) (.ref f.heap.objs.size) {n with scope:=ms scope X.env}) (RR (.ref f.heap.objs.size) n.locals) I') E {f with heap:=f.heap.push l}:=by
 have V:∀b∈i,b<f.heap.objs.size:=λb j=>by obtain⟨o,e,_⟩:=T.obj _ _ aB b j;exact km e
 have D:∀b∈i,tL X a (upd m f.heap.objs.size o) b:=λb j=>⟨by rw[jx<|kF<|V b j];exact(f2 b j).1,(f2 b j).2⟩
 refine Rb S.cell j5 j7 λh1 t bg R B=>?_;have hk:∀b o,(f.heap.push l).get? b=Y o->h1.get? b=Y o:=R;have P:∀b∈i,b<(f.heap.push l).objs.size:=λb j=>by rw[qg];exact uX<|V b j
 have J0:=RY (t':=f.toks) S N B D P bg hk;obtain⟨pg,bw,pb⟩:=t9 t (f.heap.push l).objs.size {f with heap:=f.heap.push l} (upd m f.heap.objs.size o) i a;have H:tn 0 h1:=T.keep _ _ _ aB λb j o e=>hk b o<|ke _ e;have hw:=h f.heap.objs.size<|I2.hok.fresh<|kc _
 have F:∀b∈i,tL (X.comp y scope t (f.heap.push l).objs.size {f with heap:=f.heap.push l} (upd m f.heap.objs.size o) i a) []
   (upd m f.heap.objs.size o) b:=λb j=>by
  obtain⟨z1,z2,z3,z4,z5,z6⟩:=D b j;refine⟨z1,kF<|P b j,λz=>(kM.mp<|N.GR b z).elim z2 z3,.inl j,λx c hx=>(B.ex x c hx).elim (z5 x c) λz=>pP<|CW (P b j) z,λp hp=>z6 p<|by simpa[Cx.comp]using hp⟩
 have W:(bP e)[0]?=Y c:=by rw[hg];rfl
 refine Em hl W ha ?_ λQ' E' hq=>T.self X.A 0 _ Q' E' H hq
 refine rL (Iu (X:=X.comp y scope t (f.heap.push l).objs.size {f with heap:=f.heap.push l} (upd m f.heap.objs.size o) i a)
  (depth:=0) (acc:=.ref f.heap.objs.size) rfl hc hl W ha (λO Z=>k6 O<|by rw[hg]at Z;exact Z) T pg bw (pb _) J0 F H hw) λr s4 hr=>?_
 obtain⟨rfl,σ4,M,I4,_,q⟩:=hr;exact hRR _ _ _ _ _ _ _ N D I4 q
def Su(e:TI)(g:TG)(d:TT)(c:iJ->TB)(pre:St->St):TE:=λa T Q=>e a T λO b=>ZN O g d c pre a b Q
def Ig{o:HO}{e:iT}{new:d7 iQ}{fp:bu}{c:pK}{i:pM}{scope:jS}{O:jw}{pre:St->St}{Y:TI}{g:TG}{ti:TT}{tb:iJ->TB}
  (S:Dl X O scope pre)(hc:X.calm=J)(ha:c.is_async=0)(k6:∀M,i[0]?=A9 M->M.is_async=0)
  (hs:∀x,ap c.iter X.env x=pure x)(pi:PI X c.target c.iter Y)
  (t9:∀(G:lF)(C:iJ)(U:iN)(z:Hp)(fp:kY)(a:jG),let l:=X.comp O scope G C U z fp a
   PG l c.target g/\JT l c.ifs ti/\∀d,PB l (jX e 0 (.ref d) l.env)<|tb d)
  (mk:∀(j:iN)(Q E:jy),(∀n,(∀H',Au X.prog X.w H' (j.heap.push n) j.heap.objs.size o)->Q (.ref j.heap.objs.size) {j with heap:=j.heap.push n})->ae (af X.prog X.w) X.A new Q E j)
  (hl:(∃t f y p,e=.ListComp t f y p)\/∃t f y p,e=.SetComp t f y p)(N:bP e=c::i:=by rfl)(hev:aW e X.env=OO e scope X.env fp new (c.is_async !=0) (aW c.iter X.env)):
  PE X e (λk H' Q=>Y k H' λJ' H1=>Ej o J' g ti tb pre k H1 Q):=by
 intro a s k H' Q I h;obtain⟨tg,V,u,P⟩:=c;obtain rfl:P=0:=ha;obtain⟨G,m5,j5,j7⟩:=vH X.env scope λx hx hf=>I.ok.has x.1<|S.free x hx hf;rw[hev];refine Lz (use:=AR) (g:=⟨tg,V,u,0⟩) (gs:=i) N hs m5 S.kind S.names<|Bl (pi a s k H' _ I h) λv s1 h1=>Bl h1 λdW j h2=>?_;obtain⟨it,fp,tn,J',H2,rfl,B,T,K,W,hw⟩:=h2;refine mk _ _ _ λn hS=>?_;refine Cd (RR:=λr C=>compPost (af X.prog X.w) X.A X.xe AR (EP X a k Q) r C) hl N S hc AM k6 t9 j5 j7 B T K W (B.laid (t':=j.toks) (λb n q=>ke _ q) (kc _)<|hS _) hw λd R U z D σ' s4 F Z L q=>?_;obtain⟨m,hn,_⟩:=id L.loc;exact⟨m,hn,λh' u4=>⟨.ref d,D,Fg F Z L u4,rfl,q⟩⟩
def aeC{j:iT}{c:pK}{f:pM}{scope:jS}{k g0 l:bu}{N':jw}{pre:St->St}{wi:TI}{g:TG}{ti:TT}{tb:iJ->TB}{y:au}{i:Nat}
  (bz:bG (.ListComp j (c::f) scope k) (A9<|.Name y l) g0.line X.env=pure Ap)
  (S:Dl X N' scope pre)(hc:X.calm=Ap)(ha:c.is_async=0)(k6:∀g',f[0]?=A9 g'->g'.is_async=0)
  (hs:∀x,ap c.iter X.env x=pure x)(pi:PI X c.target c.iter wi)(fY:PG X (.Name y l) (EY i))
  (t9:∀(cl:lF)(C:iJ)(n:iN)(H3:Hp)(fp:kY)(a:jG),let B:=X.comp N' scope cl C n H3 fp a
   PG B c.target g/\JT B c.ifs ti/\∀d,PB B (jX (.ListComp j (c::f) scope k) 0 (.ref d) B.env)<|tb d):
  PS X (.Assign [.Name y l] (.ListComp j (c::f) scope k) g0) (T7 (Su wi g ti tb pre)<|EY i):=by
 intro a s L H D I h;obtain⟨Z,N,u,az⟩:=c;obtain rfl:az=0:=ha;obtain⟨cl,m5,j5,j7⟩:=vH X.env scope λx F hf=>I.ok.has x.1<|S.free x F hf;rw[exec_Assign_Name_used _ _ _ _ bz];refine iL<|vd<|iL ?_;show ae _ X.A (do let _ <-OO (.ListComp j (⟨Z,N,u,0⟩::f) scope k) scope X.env _ (v8 []) AX (aW N X.env) (A9<|cz (.Name y l) X.env)) _ _ s
 refine iL (oj (Lz (use:=A9<|cz (.Name y l) X.env) (g:=⟨Z,N,u,0⟩) (gs:=f) (Q:=λ_ E=>SP X a D .next E) AM hs m5 S.kind S.names
  (Bl (pi a s L H _ I h) λv s1 h1=>Bl h1 λdW s2 h2=>?_)) (λ_ E hq=>ja<|ja hq) λ_ _ e=>e)
 obtain⟨it,fp,tn,J,H2,rfl,R,T,aB,f2,hw⟩:=h2;refine oi<|Cd (RR:=λM C=>compPost (af X.prog X.w) X.A X.xe (A9<|cz (.Name y l) X.env) (λ_ E=>SP X a D .next E) M C) (.inl ⟨_,_,_,_,rfl⟩) AM S hc AM k6 t9 j5 j7 R T aB f2 (R.Me (t':=s2.toks) .nil<|by simp) hw λd cl' n H3 O σ' P r ff G q=>?_;obtain⟨m,hn,_⟩:=id G.loc;obtain⟨K,es,ep,ho,hd,hr⟩:=id hn;have V:Inv X a L O P:=Fg r ff G (CV ..);have t:n.heap.objs.size≠X.env.locals:=pP r.lt;have U:n.heap.objs.size∉X.fs:=λz=>r.Ma (kc _) z
 have IP:Inv X (a++[(n.heap.objs.size,K)]) L O P:=V.Hk λp Y=>by
  rcases pQ.mp Y with z|z
  .exact V.pin p (qk _ z)
  rcases Fw.mp z with rfl
  exact⟨ho,G.free,t,U,λv z=>by rw[hd]at z;cases z⟩
 show ae _ X.A (cz (.Name y l) X.env<|.ref d) _ _ _;refine Bl (fY _ P L O (.ref d) (.ref d) _ IP rfl q) ?_;rintro _ s5 ⟨σ5,H5,I5,q5⟩;have W:=I5.pin (n.heap.objs.size,K) (by simp);refine⟨m,⟨K,es,ep,W.1,hd,hr⟩,λh' u4=>⟨σ5,H5,?_,q5⟩⟩;refine I5.ED.turned (it:=n.heap.objs.size) (t':=s5.toks) (λb o hb e=>by rw[u4.2 b hb];exact e) W.2.1 t (.inr r.sz) (λx c F z=>?_) λp Y z=>?_
 .obtain⟨v,o,e,_⟩:=r.cell x c F;exact absurd (km e) (by rw[z];exact oX _)
 obtain⟨e,_⟩:=r.pin p Y;exact absurd (km e) (by rw[z];exact oX _)
end
end L2
namespace PX
open L2
inductive OK where
 |dct|set|fn(i:Nat)|exc(c:Nat)
 deriving DecidableEq
inductive D where
 |Ar|bl(b:Bool)|int(i:Int)|str(x:au)|tup(l:List D)|lst(l:List D)|B4(k:OK)(ks vs:List D)
mutual
noncomputable def D.hash:D->Int
 |.int i=>hashInt i
 |.tup l=>reduceHash<|aZ<|D.Fp l
 |_=>0
noncomputable def D.Fp:List D->List Int
 |[]=>[]
 |d::l=>D.hash d::D.Fp l
end
noncomputable def kA:Key->D
 |.inl i=>.int i
 |.inr x=>.str x
def aaR(K:jl)(o:fD)(T:Nat):Prop:=o.cls=.ref T/\(∀a:iJ,PySem.W.KitX K (.ref a) (.ref T) λh=>h.get? a=Y o)/\∀n∈["int","bool","str","tuple","list","dict"],c8 K (.ref T) (.type n)=Y C
def DZ(K:jl)(h:Option HO)(k:OK)(a c:List D)(b:List V):Prop:=
 match k with
 |.dct=>(∃kvs:List (Key×V),h=Y (.dK kvs)/\a=kvs.map (λp=>kA p.1)/\b=kvs.map (·.2))\/
   (∃kvs:List (List Key×V),h=Y (.dT kvs)/\a=kvs.map (λp=>.tup (p.1.map kA))/\b=kvs.map (·.2))
 |.set=>a=[]/\∃d:List (Int×V),h=Y (.B1 d)/\d.Perm ((D.Fp c).zip b)
 |.exc T=>(a=[]/\c=[]/\b=[])/\∃o,h=Y (.D3 o<|.own 0)/\aaR K o T
 |_=>False
def DZ.ex{K h k a vs us}(x:DZ K h k a vs us):∃o,h=Y o:=by
 cases k with
 |dct=>rcases x with⟨_,e,_⟩|⟨_,e,_⟩<;>exact⟨_,e⟩
 |set=>obtain⟨_,_,e,_⟩:=x;exact⟨_,e⟩
 |exc T=>obtain⟨_,_,e,_⟩:=x;exact⟨_,e⟩
 |_=>exact x.elim
def DZ.keep{K k a b us}(x:DZ K h k a b us)(c:∀o,h=Y o->h'=Y o):DZ K h' k a b us:=by obtain⟨o,e⟩:=x.ex;rw[c o e,<-e];exact x
abbrev B2:=iJ->Prop
def adY(K:jl)(a:iJ)(c:List V):Prop:= ∃(o:fD)(b:nJ)(n:Nat),K.lookup a=Y o/\o.cls=.type "list"/\o.dict=U/\o.data=.seq b n/\b.size<=sizeLine/\Vals c b.toList
def GW(K:jl)(T:Hp)(O:B2)(a:iJ)(b:List V):Prop:=T a=Y (.tup b)/\¬O a
def GX(K:jl)(T:Hp)(O:B2)(a:iJ)(b:List V):Prop:=(Rd T a (.lst b)/\¬O a)\/adY K a b
def GW.sq{K T O a xs}(h:GW K T O a xs):Gz K T a xs:=.inl (.inl h.1)
def GX.sq{K T O a xs}(h:GX K T O a xs):Fd K T a xs:=h.elim (λz=>.inl z.1) .inr
def Rd.mono{a u}(h:Rd T a u)(k:∀o,T a=Y o->b a=Y o):Rd b a u:=by
 rcases h with h|⟨o,h⟩
 .exact .inl (k _ h)
 exact .inr ⟨o,k _ h⟩
def GW.mono{K T c}{a xs}(h:GW K T O a xs)(k:∀b o,T b=Y o->¬O b->c b=Y o)(e:∀b,T b≠U->d b->O b):GW K c d a xs:=
 ⟨k a _ h.1 h.2,λz=>h.2<|e a (by rw[h.1];simp) z⟩
def GX.mono{K T c}{a xs}(h:GX K T O a xs)(k:∀b o,T b=Y o->¬O b->c b=Y o)(f:∀b,T b≠U->d b->O b):GX K c d a xs:=by
 rcases h with⟨r,n⟩|h
 .refine .inl ⟨Rd.mono r λo e=>k a o e n,λz=>n<|f a ?_ z⟩;rcases r with r|⟨_,r⟩<;>(rw[r];simp)
 exact .inr h
inductive KA(S:iJ->List V->Prop)(R:List V->Prop)(v:V):Prop where
 |mk (a:iJ) (xs:List V) (_:v=.ref a) (_:S a xs) (_:R xs)
inductive MmI{α β:Type}(l:List α)(f:α->β)(b:β):Prop where
 |mk (a:α) (_:a∈l) (_:f a=b)
def ji{c d:Type}{l:List c}{f:c->d}{b:d}(h:b∈l.map f):MmI l f b:=let⟨a,x,y⟩:=yc.mp h;⟨a,x,y⟩
mutual
def Rep(K:jl)(T:Hp)(O:B2):D->V->Prop
 |.Ar,v=>v=.Ar
 |.bl b,v=>v=.bl b
 |.int i,v=>v=.int i
 |.str x,v=>v=.str x
 |.tup l,v=>KA (GW K T O) (AG K T O l) v
 |.lst l,v=>KA (GX K T O) (AG K T O l) v
 |.B4 k c vs,v=>KA (λa us=>¬O a/\DZ K (T a) k c vs us) (AG K T O vs) v
def AG(K:jl)(T:Hp)(O:B2):List D->List V->Prop
 |[],vs=>vs=[]
 |d::l,vs=>∃v r,vs=v::r/\Rep K T O d v/\AG K T O l r
end
mutual
theorem Rep.mono{K T g}{O i:B2}(k:∀b o,T b=Y o->¬O b->g b=Y o)(c:∀b,T b≠U->i b->O b):∀{d:D}{v:V},Rep K T O d v->Rep K g i d v
 |.Ar,_,h=>h
 |.bl _,_,h=>h
 |.int _,_,h=>h
 |.str _,_,h=>h
 |.tup l,_,h=>by rw[Rep]at h ⊢;obtain⟨a,f,e,s,r⟩:=h;exact⟨a,f,e,s.mono k c,AG.mono k c r⟩
 |.lst l,_,h=>by rw[Rep]at h ⊢;obtain⟨a,f,e,s,r⟩:=h;exact⟨a,f,e,s.mono k c,AG.mono k c r⟩
 |.B4 j m vs,_,h=>by rw[Rep]at h ⊢;obtain⟨a,us,e,s,r⟩:=h;exact⟨a,us,e,⟨λz=>s.1<|c a (by obtain⟨o,q⟩:=s.2.ex;rw[q];simp) z,s.2.keep λo q=>k a o q s.1⟩,AG.mono k c r⟩
theorem AG.mono{K T a}{O c:B2}(k:∀b o,T b=Y o->¬O b->a b=Y o)(f:∀b,T b≠U->c b->O b):∀{l:List D}{vs:List V},AG K T O l vs->AG K a c l vs
 |[],_,h=>h
 |d::l,_,h=>by rw[AG]at h ⊢;obtain⟨v,r,e,h1,g⟩:=h;exact⟨v,r,e,Rep.mono k f h1,AG.mono k f g⟩
end
def Rep.mkInt{K T O i}:Rep K T O (.int i) (.int i):=by rw[Rep]
def Rep.Hm{K T O i}:Rep K T O (.bl i) (.bl i):=by rw[Rep]
def Rep.GU{K T O}:Rep K T O .Ar .Ar:=by rw[Rep]
def Rep.mkStr{K T O i}:Rep K T O (.str i) (.str i):=by rw[Rep]
def Rep.int{K T O i v}(h:Rep K T O (.int i) v):v=.int i:=by rwa [Rep]at h
def Rep.bl{K T O i v}(h:Rep K T O (.bl i) v):v=.bl i:=by rwa [Rep]at h
def Rep.Ar{K T O v}(h:Rep K T O .Ar v):v=.Ar:=by rwa [Rep]at h
def Rep.str{K T O i v}(h:Rep K T O (.str i) v):v=.str i:=by rwa [Rep]at h
def Rep.tup{K T O l v}(h:Rep K T O (.tup l) v):KA (GW K T O) (AG K T O l) v:=by rwa [Rep]at h
def Rep.lst{K T O l v}(h:Rep K T O (.lst l) v):KA (GX K T O) (AG K T O l) v:=by rwa [Rep]at h
def Rep.B4{K T O k ks vs v}(h:Rep K T O (.B4 k ks vs) v):KA (λa us=>¬O a/\DZ K (T a) k ks vs us) (AG K T O vs) v:=by rwa [Rep]at h
def Rep.KJ{K T O k b vs a us}(n: ¬O a)(h:DZ K (T a) k b vs us)(r:AG K T O vs us):Rep K T O (.B4 k b vs) (.ref a):=by rw[Rep];exact⟨a,us,rfl,⟨n,h⟩,r⟩
def Rep.Hu{K T O l a xs}(h:GW K T O a xs)(r:AG K T O l xs):Rep K T O (.tup l) (.ref a):=by rw[Rep];exact⟨a,xs,rfl,h,r⟩
def Rep.Mc{K T O l a xs}(h:GX K T O a xs)(r:AG K T O l xs):Rep K T O (.lst l) (.ref a):=by rw[Rep];exact⟨a,xs,rfl,h,r⟩
theorem AG.length{K T O}:∀{l:List D}{vs:List V},AG K T O l vs->A2 vs=A2 l
 |[],vs,h=>by rw[AG]at h;rw[h];rfl
 |d::l,vs,h=>by rw[AG]at h;obtain⟨v,r,rfl,_,a⟩:=h;simp[AG.length a]
inductive GtI(vs:List V)(i:Nat)(P:V->Prop):Prop where
 |mk (v:V) (_:vs[i]?=A9 v) (_:P v)
theorem AG.get{K T O}:∀{l:List D}{a:List V}{i:Nat}{d:D},AG K T O l a->l[i]?=Y d->GtI a i (Rep K T O d)
 |[],_,_,_,_,e=>by simp at e
 |d::l,a,0,b,h,e=>by rw[AG]at h;obtain⟨v,r,rfl,h1,_⟩:=h;simp at e;subst e;exact⟨v,rfl,h1⟩
 |d::l,a,i+1,b,h,e=>by rw[AG]at h;obtain⟨v,r,rfl,_,c⟩:=h;obtain⟨w,f,g⟩:=AG.get (i:=i) c (by simpa using e);exact⟨w,by simpa using f,g⟩
def AG.append{K T O}:∀{l m:List D}{a c:List V},AG K T O l a->AG K T O m c->AG K T O (l++m) (a++c):=by
 intro g
 induction g with
 |nil=>intro _ a _ h b;rw[AG]at h;subst h;exact b
 |cons d l f=>intro _ a _ h b;rw[AG]at h;obtain⟨v,r,rfl,h1,e⟩:=h;show AG K T O (d::(l++_)) _;rw[AG];exact⟨v,_,rfl,h1,f e b⟩
def AG.one{K T O}{d:D}{v:V}(h:Rep K T O d v):AG K T O [d] [v]:=by rw[AG];exact⟨v,[],rfl,h,by rw[AG]⟩
def AG.nil{K T O}:AG K T O [] []:=by rw[AG]
def AG.cons{K T O}{l vs}(h:Rep K T O d v)(h':AG K T O l vs):AG K T O (d::l) (v::vs):=by rw[AG];exact⟨v,vs,rfl,h,h'⟩
theorem AG.take{K T O}:∀{l:List D}{a:List V}(n:Nat),AG K T O l a->AG K T O (l.take n) (a.take n)
 |_,_,0,_=>by simp[AG]
 |[],a,n+1,h=>by rw[AG]at h;subst h;simp[AG]
 |d::l,a,n+1,h=>by rw[AG]at h;obtain⟨v,r,rfl,h1,b⟩:=h;exact AG.cons h1<|AG.take n b
theorem AG.drop{K T O}:∀{l:List D}{a:List V}(n:Nat),AG K T O l a->AG K T O (l.drop n) (a.drop n)
 |_,_,0,h=>h
 |[],a,n+1,h=>by rw[AG]at h;subst h;simp[AG]
 |d::l,a,n+1,h=>by rw[AG]at h;obtain⟨v,r,rfl,h1,b⟩:=h;exact AG.drop n b
theorem AG.set{K T O}{d:D}{v:V}(hv:Rep K T O d v):∀{l:List D}{vs:List V}(i:Nat),AG K T O l vs->AG K T O (l.set i d) (vs.set i v)
 |[],vs,i,h=>by rw[AG]at h;subst h;simp[AG]
 |e::l,vs,0,h=>by rw[AG]at h;obtain⟨w,r,rfl,h1,a⟩:=h;exact AG.cons hv a
 |e::l,vs,i+1,h=>by rw[AG]at h;obtain⟨w,r,rfl,h1,a⟩:=h;exact AG.cons h1<|AG.set hv i a
abbrev Sl:=Option<|D×Bool
abbrev Dn:=List Sl
def Aa(b:L2.St)(δ:Dn)(a:iJ):Prop:= ∃(i:Nat)(d:D),δ[i]?=Y (Y (d,J))/\b[i]?=Y (Y<|V.ref a)
def DG(K:jl)(T:Hp)(O:B2):D->iJ->Prop
 |.lst l,a=>∃d,T a=Y (.lst d)/\AG K T O l d
 |.B4 k e c,a=>∃b,DZ K (T a) k e c b/\AG K T O c b
 |_,_=>False
def DG.mono{K T c}(h:DG K T O d a)(k:∀b o,T b=Y o->¬O b->c b=Y o)(f:∀b,T b≠U->i b->O b)(g:∀o,T a=Y o->c a=Y o):DG K c i d a:=by
 cases d with
 |lst l=>obtain⟨j,e,r⟩:=h;exact⟨j,g _ e,AG.mono k f r⟩
 |B4 m n vs=>obtain⟨us,e,r⟩:=h;exact⟨us,e.keep g,AG.mono k f r⟩
 |_=>exact h
def DG.rep{K T}(h:DG K T O d a)(g: ¬c a)(f:∀b,T b≠U->c b->O b):Rep K T c d (.ref a):=by
 cases d with
 |lst l=>obtain⟨i,e,r⟩:=h;rw[Rep];exact⟨a,i,rfl,.inl ⟨.inl e,g⟩,AG.mono (λb o e _=>e) f r⟩
 |B4 j k n=>obtain⟨m,e,r⟩:=h;exact Rep.KJ g e<|AG.mono (λb o e _=>e) f r
 |_=>exact h.elim
def Ow:Option HO->Prop
 |none=>False
 |some (.tup _)=>False
 |_=>True
def Ow.ne{o:Option HO}(h:Ow o):o≠U:=λe=>by rw[e]at h;exact h
def Ow.up{o a:Option HO}(h:Ow o)(k:∀x,o=Y x->a=Y x):Ow a:=by
 cases o with
 |none=>exact h.elim
 |some x=>rw[k x I];exact h
def Mb{o:Option HO}(h:o=U): ¬Ow o:=λz=>z.ne h
def Ow.nt{o:Option HO}(h:Ow o)(a:List V):o≠Y (.tup a):=λe=>by rw[e]at h;exact h
def DG.ow{K Q}{O:B2}{d:D}{a:iJ}(h:DG K Q O d a):Ow (Q a):=by
 cases d with
 |lst l=>obtain⟨g,e,_⟩:=h;rw[e];trivial
 |B4 k b f=>
  obtain⟨c,e,_⟩:=h
  cases k with
  |dct=>rcases e with⟨_,e,_⟩|⟨_,e,_⟩<;>(rw[e];trivial)
  |set=>obtain⟨_,_,e,_⟩:=e;rw[e];trivial
  |exc T=>obtain⟨_,_,e,_⟩:=e;rw[e];trivial
  |_=>exact e.elim
 |_=>exact h.elim
inductive AtV(σ:L2.St)(i:Nat)(P:V->Prop):Prop where
 |mk (v:V) (_:σ[i]?=A9 (A9 v)) (_:P v)
inductive AtA(σ:L2.St)(i:Nat)(P:iJ->Prop):Prop where
 |mk (a:iJ) (_:σ[i]?=A9 (A9<|V.ref a)) (_:P a)
structure ER(K:jl)(H:Hp)(T:B2)(σ:L2.St)(δ:Dn):Prop where
 len:(A2 σ)=A2 δ
 val:∀(i:Nat)(d:D),δ[i]?=A9 (A9 (d,AX))->AtV σ i (Rep K H (λa=>Aa σ δ a\/T a) d)
 own:∀(i:Nat)(d:D),δ[i]?=A9 (A9 (d,Ap))->AtA σ i (DG K H (λa=>Aa σ δ a\/T a) d)
 inj:∀(i j:Nat)(d e:D)(a:iJ),δ[i]?=A9 (A9 (d,Ap))->δ[j]?=A9 (A9 (e,Ap))->σ[i]?=A9 (A9<|V.ref a)->σ[j]?=A9 (A9<|V.ref a)->i=j
 nT:∀a,Aa σ δ a->¬T a
 dom:∀a,T a->Ow (H a)
def ER.Ht{K Q T σ e}(E:ER K Q T σ e)(h:Aa σ e a):Ow (Q a):=by obtain⟨i,d,h1,f⟩:=h;obtain⟨b,c,g⟩:=E.own i d h1;rw[f]at c;cases c;exact g.ow
def ER.GS{K Q T σ δ}(E:ER K Q T σ δ)(h:Aa σ δ a):Q a≠U:=(E.Ht h).ne
def ER.mono{K Q c σ δ}(E:ER K Q T σ δ)(k:∀b o,Q b=Y o->¬T b->c b=Y o)(g:∀b,Q b≠U->T' b->T b)(hd:∀a,T' a->Ow (c a)):ER K c T' σ δ where
 len:=E.len
 val:=λi d h=>by obtain⟨v,h1,f⟩:=E.val i d h;exact⟨v,h1,Rep.mono (λb o e n=>k b o e λz=>n<|.inr z) (λb j z=>z.elim .inl λz=>.inr (g b j z)) f⟩
 own:=λi d h=>by obtain⟨a,h1,f⟩:=E.own i d h;exact⟨a,h1,f.mono (λb o e n=>k b o e λz=>n<|.inr z) (λb j z=>z.elim .inl λz=>.inr (g b j z)) λo e=>k a o e<|E.nT a ⟨i,d,h,h1⟩⟩
 inj:=E.inj
 nT:=λa h z=>E.nT a h<|g a (E.GS h) z
 dom:=hd
def Aa.set(h:Aa σ (δ.set i<|Y (d,C)) a):Aa σ δ a:=by
 obtain⟨j,e,h1,b⟩:=h;rw[zk]at h1;split at h1
 .split at h1<;>simp at h1
 exact⟨j,e,h1,b⟩
def ER.freeze{K Q T σ m}(E:ER K Q T σ m){i:Nat}{d:D}{b:Bool}(h:m[i]?=Y (Y (d,b))):ER K Q T σ (m.set i<|Y (d,C))/\AtV σ i (Rep K Q (λa=>Aa σ (m.set i<|Y (d,C)) a\/T a) d):=by
 have o:i<(A2 m):=(tM.mp h).1
 have p:AtV σ i (Rep K Q (λa=>Aa σ (m.set i<|Y (d,C)) a\/T a) d):=by
  cases b
  .obtain⟨v,h1,l⟩:=E.val i d h;exact⟨v,h1,Rep.mono (λ_ _ e _=>e) (λb _ z=>z.elim (λz=>.inl z.set) .inr) l⟩
  obtain⟨a,h1,l⟩:=E.own i d h;refine⟨.ref a,h1,l.rep (λz=>?_) λb _ z=>z.elim (λz=>.inl z.set) .inr⟩;rcases z with⟨j,e,n,q⟩|z
  .rw[zk]at n;split at n
   .first
     |(split at n<;>simp at n)
     |simp at n
   rename_i r;exact r<|E.inj i j d e a h n h1 q
  exact E.nT a ⟨i,d,h,h1⟩ z
 refine⟨⟨by rw[sJ];exact E.len,λj e c=>?_,λj e c=>?_,λj k e f a c hk h1 l=>?_,λa z=>E.nT a z.set,E.dom⟩,p⟩
 .by_cases g:i=j
  .subst g;rw[oo o]at c;cases c;exact p
  rw[om g]at c;obtain⟨v,h1,l⟩:=E.val j e c;exact⟨v,h1,Rep.mono (λ_ _ e _=>e) (λb _ z=>z.elim (λz=>.inl z.set) .inr) l⟩
 .by_cases g:i=j
  .subst g;rw[oo o]at c;cases c
  rw[om g]at c;obtain⟨a,h1,l⟩:=E.own j e c;exact⟨a,h1,l.mono (λ_ _ e _=>e) (λb _ z=>z.elim (λz=>.inl z.set) .inr) λ_ e=>e⟩
 have g1:m[j]?=Y (Y (e,J)):=by
  by_cases g:i=j
  .subst g;rw[oo o]at c;cases c
  rwa [om g]at c
 have g2:m[k]?=Y (Y (f,J)):=by
  by_cases g:i=k
  .subst g;rw[oo o]at hk;cases hk
  rwa [om g]at hk
 exact E.inj j k e f a g1 g2 h1 l
def Bf(b:L2.St)(δ:Dn)(i:Nat)(a:iJ):Prop:= ∃d:D,δ[i]?=Y (Y (d,J))/\b[i]?=Y (Y<|V.ref a)
structure Bo(σ:L2.St)(δ:Dn)(H:Hp)(δ':Dn)(H':Hp):Prop where
 kp:∀a o,H a=A9 o->¬Aa σ δ a->H' a=A9 o
 owi:∀i a,Bf σ δ' i a->Bf σ δ i a
 dm:∀a,H a≠AR->H' a≠AR
def Bo.ow{σ c T b f}(k:Bo σ c T b f)(a:iJ)(h:Aa σ b a):Aa σ c a:=by obtain⟨i,d,h1,g⟩:=h;obtain⟨e,j,l⟩:=k.owi i a ⟨d,h1,g⟩;exact⟨i,e,j,l⟩
def Bo.refl{σ a T}:Bo σ a T a T:=⟨λ_ _ e _=>e,λ_ _ z=>z,λ_ z=>z⟩
def Bo.trans{σ δ δ1 δ2 T H1 b}(x:Bo σ δ T δ1 H1)(y:Bo σ δ1 H1 δ2 b):Bo σ δ T δ2 b:=
 ⟨λa o e n=>y.kp a o (x.kp a o e n) λz=>n<|x.ow a z,λi a z=>x.owi i a<|y.owi i a z,λa z=>y.dm a<|x.dm a z⟩
def Bo.ext{σ δ T H1}(k:∀a o,T a=Y o->H1 a=Y o):Bo σ δ T δ H1:=⟨λa o e _=>k a o e,λ_ _ z=>z,λa z=>by
 cases h:T a with
 |none=>exact absurd h z
 |some o=>rw[k a o h];simp⟩
def Bf.set(h:Bf σ (δ.set i<|Y (d,C)) j a):Bf σ δ j a:=by
 obtain⟨e,h1,b⟩:=h;rw[zk]at h1;split at h1
 .split at h1<;>simp at h1
 exact⟨e,h1,b⟩
def Bo.set{σ δ T i d}:Bo σ δ T (δ.set i<|Y (d,C)) T:=⟨λ_ _ e _=>e,λ_ _ z=>z.set,λ_ z=>z⟩
def Bk(K:jl)(T:B2)(e:L2.St)(f:Dn)(Q:Hp)(r:D×Bool)(b:Dn)(v:V)(c:Hp):Prop:=
 Bo e f Q b c/\
 match r with
 |(d,C)=>ER K c T e b/\Rep K c (λa=>Aa e b a\/T a) d v
 |(d,J)=>∃p,v=.ref p/\Q p=U/\ER K c (λa=>T a\/a=p) e b/\DG K c (λa=>Aa e b a\/T a\/a=p) d p
abbrev F:=Dn->Option ((D×Bool)×Dn)
inductive tF(K:jl)(f:F)(σ:L2.St)(H:Hp)(Q:VK):Prop where
 |mk (δ:Dn) (T:B2) (r:D×Bool) (δ':Dn) (_:ER K H T σ δ) (_:f δ=A9 (r,δ')) (_:∀v H',Bk K T σ δ H r δ' v H'->Q v H')
def PX(X:Cx)(e:iT)(f:F):Prop:=PE X e<|tF X.K f
noncomputable def Kf(T:B2)(r:D×Bool)(v:V):B2:=λa=>T a\/(r.2=J/\v=.ref a)
section
variable {K:jl}{T:B2}{c:L2.St}{δ δ1 δ2:Dn}{H f g:Hp}{x y:D×Bool}{v u:V}
def Bk.er(E:ER K H T c δ)(P:Bk K T c δ H x δ1 v f):ER K f (Kf T x v) c δ1:=by
 obtain⟨d,b⟩:=x
 cases b
 .refine P.2.1.mono (λ_ _ e _=>e) (λb _ z=>z.elim id λz=>absurd z.1<|by simp) λa z=>?_;rcases z with z|z
  .exact P.2.1.dom a z
  exact absurd z.1 (by simp)
 obtain⟨p,rfl,i,h,j⟩:=P.2;refine h.mono (λ_ _ e _=>e) (λb _ z=>z.elim .inl λz=>.inr (by have:=z.2;cases this;rfl)) λa z=>?_;rcases z with z|z
 .exact h.dom a (.inl z)
 have:=z.2;cases this;exact h.dom _ (.inr I)
def Bk.rep(E:ER K H T c δ)(P:Bk K T c δ H x δ1 v f):ER K f T c δ1/\Rep K f (λa=>Aa c δ1 a\/T a) x.1 v:=by
 obtain⟨d,b⟩:=x
 cases b
 .exact P.2
 obtain⟨p,rfl,i,h,j⟩:=P.2;refine⟨h.mono (λ_ _ e _=>e) (λb _ z=>.inl z) λa z=>h.dom a<|.inl z,j.rep (λz=>?_) λb _ z=>z.elim .inl λz=>.inr (.inl z)⟩;rcases z with z|z
 .exact h.nT p z (.inr I)
 exact(E.dom p z).ne i
def Bk.val(k:Bo c δ H δ2 g)(E:ER K g T c δ2)(r:Rep K g (λa=>Aa c δ2 a\/T a) d w):Bk K T c δ H (d,C) δ2 w g:=⟨k,E,r⟩
end
def jn{e f:Type}{a c:e}{b d:f}(h:Y (a,b)=Y (c,d)):a=c/\b=d:=by cases h;exact⟨rfl,rfl⟩
noncomputable def fC(d:D):F:=λδ=>Y ((d,C),δ)
noncomputable def kI(i:Nat):F:=λδ=>match δ[i]? with
 |some (Y (d,_))=>Y ((d,C),δ.set i<|Y (d,C))
 |_=>U
section
variable {X:Cx}{a b c:iT}{d:bu}{m l g:F}
def PX.imp(h:PE X e t)(k:∀j T Q,tF X.K f j T Q->t j T Q):PX X e f:=λi s j T Q O n=>h i s j T Q O<|k j T Q n
def SF{i j}:PX X (.Constant (.bool i) j d) (fC<|.bl i):=PX.imp X4 λo O Q h=>by obtain⟨n,T,r,f,E,e,k⟩:=h;cases e;exact k _ _ (Bk.val .refl E (by first|exact Rep.mkInt|exact Rep.Hm|exact Rep.GU|exact Rep.mkStr))
end
inductive Bq where
 |val(r:D×Bool)|slot(i:Nat)
noncomputable def res(δ:Dn):Bq->Option D
 |.val r=>Y r.1
 |.slot i=>match δ[i]? with
  |some (Y (d,_))=>Y d
  |_=>U
def kg(K:jl)(T:Hp)(O:B2)(d:D)(v:V):Prop:=Rep K T O d v\/∃a,v=.ref a/\DG K T O d a
abbrev FO:=Dn->Option (Bq×Dn)
def G4(K:jl)(T:B2)(b:L2.St)(d:Dn)(Q:Hp)(o:Bq)(a:Dn)(v:V)(c:Hp):Prop:=
 match o with
 |.val r=>Bk K T b d Q r a v c
 |.slot i=>Bo b d Q a c/\ER K c T b a/\b[i]?=Y (Y v)
def Bu(T:B2)(o:Bq)(v:V):B2:=match o with
 |.val r=>Kf T r v
 |.slot _=>T
inductive tO(K:jl)(f:FO)(σ:L2.St)(H:Hp)(Q:VK):Prop where
 |mk (δ:Dn) (T:B2) (o:Bq) (δ':Dn) (_:ER K H T σ δ) (_:f δ=A9 (o,δ')) (_:∀v H',G4 K T σ δ H o δ' v H'->Q v H')
def PO(X:Cx)(e:iT)(f:FO):Prop:=PE X e<|tO X.K f
noncomputable def iX(f:F):FO:=λδ=>(f δ).bind λp=>Y (.val p.1,p.2)
noncomputable def iK(i:Nat):FO:=λδ=>match δ[i]? with
 |some (Y _)=>Y (.slot i,δ)
 |_=>U
def PE.imp'(h:PE X e t)(k:∀b T Q,d b T Q->t b T Q):PE X e d:=λa s b T Q O c=>h a s b T Q O<|k b T Q c
section
variable {X:Cx}{a:bu}
def PX.po(h:PX X e f):PO X e (iX f):=PE.imp' h λj O Q g=>by
 obtain⟨c,T,o,i,E,e,k⟩:=g;unfold iX at e
 cases h1:f c with
 |none=>rw[h1]at e;cases e
 |some p=>obtain⟨r,b⟩:=p;rw[h1]at e;obtain⟨rfl,rfl⟩:=jn e;exact⟨c,T,r,b,E,h1,λv d P=>k v d P⟩
end
structure Ops(K:jl)(T:B2)(σ:L2.St)(δ:Dn)(H:Hp)(os:List Bq)(vs:List V)(δ':Dn)(H':Hp)(T':B2):Prop where
 len:os.length=A2 vs
 keep:Bo σ δ H δ' H'
 er:ER K H' T' σ δ'
 tt:∀a,T a->T' a
 val:∀(j:Nat)(d:D)(v:V),os[j]?=A9 (.val (d,AX))->vs[j]?=A9 v->Rep K H' (λa=>Aa σ δ' a\/T a) d v
 tmp:∀(j:Nat)(d:D)(v:V),os[j]?=A9 (.val (d,Ap))->vs[j]?=A9 v->∃p,v=.ref p/\T' p/\H p=AR/\DG K H' (λa=>Aa σ δ' a\/T a) d p
 slt:∀(j i:Nat)(v:V),os[j]?=A9 (.slot i)->vs[j]?=A9 v->σ[i]?=A9 (A9 v)
section
variable {K:jl}{T T':B2}{b:L2.St}{δ a c:Dn}{H H' e:Hp}{os:List Bq}{vs:List V}{o:Bq}{v:V}
def Ops.nil(E:ER K H T b δ):Ops K T b δ H [] [] δ H T:=⟨rfl,.refl,E,λ_ z=>z,λj d v h=>by simp at h,λj d v h=>by simp at h,λj i v h=>by simp at h⟩
def G4.keep(P:G4 K T b δ H o a v H'):Bo b δ H a H':=by
 cases o with
 |val r=>exact P.1
 |slot i=>exact P.1
def G4.er(E:ER K H T b δ)(P:G4 K T b δ H o a v H'):ER K H' (Bu T o v) b a:=by
 cases o with
 |val r=>exact Bk.er E P
 |slot i=>exact P.2.1
end
def Gen(K:jl)(T:Hp)(O:B2)(z:D×Bool)(Q:VK):Prop:=
 match z with
 |(d,C)=>∀w b,(∀a o,T a=Y o->b a=Y o)->Rep K b O d w->Q w b
 |(d,J)=>∀p b,T p=U->(∀a o,T a=Y o->b a=Y o)->DG K b (λa=>O a\/a=p) d p->Q (.ref p) b
section
variable {K:jl}{T m:B2}{f:L2.St}{δ δ1 c δ2:Dn}{H s H' h:Hp}{os:List Bq}{vs:List V}{o:Bq}{v:V}{z:D×Bool}{Q:VK}
def Ops.cons(E:ER K H T f δ)(P:G4 K T f δ H o δ1 v s)(B:Ops K (Bu T o v) f δ1 s os vs δ2 h m):Ops K T f δ H (o::os) (v::vs) δ2 h m:=by
 have A:=P.er E;have x:=B.keep.kp;have y:=B.keep.ow
 have t:∀a,T a->Bu T o v a:=λa z=>by
  cases o with
  |val r=>exact .inl z
  |slot i=>exact z
 refine⟨by simp[B.len],P.keep.trans B.keep,B.er,λa z=>B.tt a<|t a z,λj d w h1 g=>?_,λj d w h1 g=>?_,λj i w h1 g=>?_⟩
 .cases j with
  |zero=>simp at h1 g;subst h1;subst g;have q:Bk K T f δ H (d,C) δ1 v s:=P;exact Rep.mono (λb k e n=>x b k e λz=>n<|.inl z) (λb _ z=>z.elim (λz=>bH<|y b z) bL) (q.rep E).2
  |succ j=>exact Rep.mono (λ_ _ e _=>e) (λb _ z=>z.elim bH λz=>bL<|t b z)<|B.val j d w (by simpa using h1) (by simpa using g)
 .cases j with
  |zero=>simp at h1 g;subst h1;subst g;have q:Bk K T f δ H (d,J) δ1 v s:=P;obtain⟨p,rfl,u,N,ok⟩:=q.2;have l:Bu T (.val (d,J)) (V.ref p) p:=.inr ⟨rfl,rfl⟩;refine⟨p,rfl,B.tt p l,u,ok.mono (λb k e n=>x b k e λz=>n<|.inl z) (λb _ z=>z.elim (λz=>bH<|y b z) λz=>bL<|bH z) λk e=>x p k e λz=>A.nT p z l⟩
  |succ j=>
   obtain⟨p,rfl,l,u,ok⟩:=B.tmp j d w (by simpa using h1) (by simpa using g);refine⟨p,rfl,l,?_,ok.mono (λ_ _ e _=>e) (λb _ z=>z.elim bH λz=>bL<|t b z) λ_ e=>e⟩
   cases O:H p with
   |none=>rfl
   |some k=>exact absurd u<|P.keep.dm p (by rw[O];simp)
 cases j with
 |zero=>simp at h1 g;subst h1;subst g;exact P.2.2
 |succ j=>exact B.slt j i w (by simpa using h1) (by simpa using g)
def Ops.view(B:Ops K T f δ H os vs c H' m){j:Nat}{d:D}(h1:os[j]?=Y o)(n:vs[j]?=Y v)(g:res c o=Y d):kg K H' (λa=>Aa f c a\/T a) d v:=by
 cases o with
 |val r=>
  obtain⟨e,b⟩:=r;have hd:e=d:=kT g;subst hd
  cases b
  .exact .inl<|B.val j e v h1 n
  obtain⟨p,rfl,_,_,ok⟩:=B.tmp j e v h1 n;exact .inr ⟨p,rfl,ok⟩
 |slot i=>
  have u:=B.slt j i v h1 n;unfold res at g;dsimp only at g
  cases l:c[i]? with
  |none=>rw[l]at g;cases g
  |some q=>
   cases q with
   |none=>rw[l]at g;cases g
   |some p=>
    obtain⟨e,b⟩:=p;rw[l]at g;have hd:e=d:=kT g;subst hd
    cases b
    .obtain⟨w,k,t⟩:=B.er.val i e l;rw[u]at k;cases k;exact .inl<|Rep.mono (λ_ _ e _=>e) (λb _ z=>z.elim bH λz=>bL<|B.tt b z) t
    obtain⟨a,k,t⟩:=B.er.own i e l;rw[u]at k;cases k;exact .inr ⟨a,rfl,t.mono (λ_ _ e _=>e) (λb _ z=>z.elim bH λz=>bL<|B.tt b z) λ_ e=>e⟩
def Ops.done(B:Ops K T f δ H os vs c H' m)(k:∀v h,Bk K T f δ H z c v h->Q v h):Gen K H' (λa=>Aa f c a\/T a) z Q:=by
 obtain⟨d,b⟩:=z;have i:∀{h:Hp},(∀a o,H' a=Y o->h a=Y o)->∀a,T a->Ow (h a):=λ{h} g a z=>(B.er.dom a<|B.tt a z).up<|g a
 cases b
 .intro w h g r;exact k w h ⟨B.keep.trans<|.ext g,B.er.mono (λb o e _=>g b o e) (λb _ z=>B.tt b z)<|i g,r⟩
 intro p h l g ok
 have j:H p=U:=by
  cases n:H p with
  |none=>rfl
  |some t=>exact absurd l<|B.keep.dm p (by rw[n];simp)
 refine k (.ref p) h ⟨B.keep.trans<|.ext g,p,rfl,j,B.er.mono (λb o e _=>g b o e) (λb q z=>z.elim (B.tt b) λz=>absurd (z▸l) q) λa z=>?_,ok.mono (λ_ _ e _=>e) (λb _ z=>?_) λ_ e=>e⟩
 .rcases z with z|z
  .exact i g a z
  subst z;exact ok.ow
 rcases z with z|z|z
 .exact bH (bH z)
 .exact bH (bL z)
 exact bL z
def Gen.int(g:Gen K H O (.int i,C) Q):Q (.int i) H:=g _ H (λ_ _ e=>e) Rep.mkInt
def Gen.bl(g:Gen K H O (.bl i,C) Q):Q (.bl i) H:=g _ H (λ_ _ e=>e) Rep.Hm
def lO{H:Hp}{p:iJ}{o:HO}(b:H p=U):∀a u,H a=Y u->upd H p o a=Y u:=λa u e=>by rw[jx (by intro z;subst z;rw[e]at b;cases b)];exact e
def Gen.lst{O:B2}{l:List D}{xs:List V}{p:iJ}(g:Gen K H O (.lst l,J) Q)(a:H p=U)(r:AG K H O l xs):Q (.ref p) (upd H p<|.lst xs):=
 g p _ a (lO a) ⟨xs,jv,AG.mono (λb o e _=>lO a b o e) (λb d z=>z.elim id λz=>absurd (z▸a) d) r⟩
def Gen.tup(g:Gen K H O (.tup l,C) Q)(a:H p=U)(np: ¬O p)(r:AG K H O l xs):Q (.ref p) (upd H p<|.tup xs):=
 g _ _ (lO a) (Rep.Hu ⟨jv,np⟩<|AG.mono (λb o e _=>lO a b o e) (λb d z=>z) r)
def Ops.np(B:Ops K T f δ H os vs c H' m)(a: ¬Ow (H' p)): ¬(Aa f c p\/T p):=λz=>a<|z.elim (λz=>B.er.Ht z) λz=>B.er.dom p<|B.tt p z
end
def ma(g:D->Option (D×Bool))(a:FO):F:=λb=>(a b).bind λp=>(res p.2 p.1).bind λx=>(g x).bind λz=>Y (z,p.2)
def jf(g:D->D->Option (D×Bool))(a fb:FO):F:=λδ=>(a δ).bind λp=>(fb p.2).bind λq=>(res q.2 p.1).bind λx=>(res q.2 q.1).bind λy=>(g x y).bind λz=>Y (z,q.2)
noncomputable def kj:List FO->Dn->Option (List Bq×Dn)
 |[],δ=>Y ([],δ)
 |f::fs,δ=>(f δ).bind λp=>(kj fs p.2).bind λq=>Y (p.1::q.1,q.2)
def vp(a:Dn):List Bq->Option (List D)
 |[]=>Y []
 |o::os=>(res a o).bind λd=>(vp a os).bind λl=>Y (d::l)
def ju(g:List D->Option (D×Bool))(fs:List FO):F:=λδ=>(kj fs δ).bind λp=>(vp p.2 p.1).bind λds=>(g ds).bind λz=>Y (z,p.2)
inductive tA(K:jl)(fs:List FO)(σ:L2.St)(H:Hp)(Q:List V->Hp->Prop):Prop where
 |mk (δ:Dn) (T:B2) (os:List Bq) (δ':Dn) (_:ER K H T σ δ) (_:kj fs δ=A9 (os,δ')) (_:∀vs H' T',Ops K T σ δ H os vs δ' H' T'->Q vs H')
section
variable {X:Cx}{e a b:iT}{es:ky}{fa fb:FO}{fs:List FO}{pos:bu}
inductive BndS{α β:Type}(x:Option α)(f:α->Option β)(b:β):Prop where
 |mk (a:α) (_:x=A9 a) (_:f a=A9 b)
inductive BndP{α β γ:Type}(x:Option (α×γ))(f:α×γ->Option β)(b:β):Prop where
 |mk (a:α) (c:γ) (_:x=A9 (a,c)) (_:f (a,c)=A9 b)
def iR{c d g:Type}{x:Option (c×g)}{f:c×g->Option d}{b:d}(h:x.bind f=Y b):BndP x f b:=by
 cases x with
 |none=>cases h
 |some a=>exact⟨a.1,a.2,rfl,h⟩
def iM{c d:Type}{x:Option c}{f:c->Option d}{b:d}(h:x.bind f=Y b):BndS x f b:=by
 cases x with
 |none=>cases h
 |some a=>exact⟨a,rfl,h⟩
def aaP(K:jl)(r:V->Hp->VK->Prop)(g:D->Option (D×Bool)):Prop:=
 ∀x z v T (O:B2) (Q:VK),(∀p,¬Ow (T p)->¬O p)->kg K T O x v->g x=Y z->Gen K T O z Q->r v T Q
def V3(K:jl)(r:R2)(g:D->D->Option (D×Bool)):Prop:=
 ∀x y z v u T (O:B2) (Q:VK),(∀p,¬Ow (T p)->¬O p)->kg K T O x v->kg K T O y u->g x y=Y z->Gen K T O z Q->r v u T Q
def aaO(K:jl)(r:List V->Hp->VK->Prop)(g:List D->Option (D×Bool)):Prop:=
 ∀ds z c T (O:B2) (Q:VK),(∀p,¬Ow (T p)->¬O p)->A2 ds=A2 c->(∀(j:Nat) d v,ds[j]?=Y d->c[j]?=Y v->kg K T O d v)->g ds=Y z->Gen K T O z Q->r c T Q
def Ux{r:V->Hp->VK->Prop}{g:D->Option (D×Bool)}(h:PE X e (tUn r<|tO X.K fa))(n:aaP X.K r g):PX X e (ma g fa):=PX.imp h λw O Q q=>by obtain⟨s,T,u,t,E,e,k⟩:=q;obtain⟨o,c,h1,e⟩:=iR e;obtain⟨x,i,e⟩:=iM e;obtain⟨z,l,e⟩:=iM e;obtain⟨rfl,rfl⟩:=jn e;refine⟨s,T,o,c,E,h1,λv f d=>?_⟩;have B:=Ops.cons E d<|Ops.nil<|d.er E;exact n x z v f _ Q (λp m=>B.np m) (B.view (j:=0) I I i) l (B.done k)
def Uw{r:R2}{g:D->D->Option (D×Bool)}(h:PE X e (Kn r (tO X.K fa)<|tO X.K fb))(w:V3 X.K r g):PX X e (jf g fa fb):=PX.imp h λJ M Q A=>by obtain⟨I,T,G,L,E,e,k⟩:=A;obtain⟨o,c,h1,e⟩:=iR e;obtain⟨N,f,m,e⟩:=iR e;obtain⟨x,n,e⟩:=iM e;obtain⟨y,q,e⟩:=iM e;obtain⟨z,s,e⟩:=iM e;obtain⟨rfl,rfl⟩:=jn e;refine⟨I,T,o,c,E,h1,λv O d=>⟨c,Bu T o v,N,f,d.er E,m,λu l i=>?_⟩⟩;have B:=Ops.cons E d<|Ops.cons (d.er E) i<|Ops.nil<|i.er<|d.er E;exact w x y z v u l _ Q (λp t=>B.np t) (B.view (j:=0) AM AM n) (B.view (j:=1) AM AM q) s (B.done k)
def we:PA X [] (tA X.K []):=λpos c s f O Q N h=>by obtain⟨g,T,os,d,E,e,k⟩:=h;obtain⟨rfl,rfl⟩:=jn e;exact oz pos c s f O Q N<|k [] O T<|Ops.nil E
def qw(n:PO X e fa)(p:PA X es (tA X.K fs))(q:ac (e::es) X.env=(C,aW e X.env)::ac es X.env):PA X (e::es) (tA X.K (fa::fs)):=λpos c s u O Q N h=>by obtain⟨r,T,os,t,E,e,k⟩:=h;unfold kj at e;obtain⟨o,d,h1,e⟩:=iR e;obtain⟨f,g,m,e⟩:=iR e;obtain⟨rfl,rfl⟩:=jn e;exact lP n p q pos c s u O Q N ⟨r,T,o,d,E,h1,λv w i=>⟨d,Bu T o v,f,g,i.er E,m,λx j l B=>k _ j l (Ops.cons E i B)⟩⟩
def pe{g:Dn}:∀{os:List Bq}{c:List D},vp g os=Y c->A2 c=os.length/\∀(j:Nat) d,c[j]?=Y d->∃o,os[j]?=Y o/\res g o=Y d:=by
 intro p
 induction p with
 |nil=>intro c h;cases h;exact⟨rfl,λj d h=>by simp at h⟩
 |cons o os n=>
  intro c h;unfold vp at h;obtain⟨d,h1,h⟩:=iM h;obtain⟨l,i,h⟩:=iM h;cases h;obtain⟨k,m⟩:=n i;refine⟨by simp[k],λj e f=>?_⟩
  cases j with
  |zero=>simp at f;subst f;exact⟨o,rfl,h1⟩
  |succ j=>obtain⟨q,r,s⟩:=m j e (by simpa using f);exact⟨q,by simpa using r,s⟩
def Qj{r:List V->Hp->VK->Prop}{g:List D->Option (D×Bool)}(h:PE X e (NI r<|tA X.K fs))(w:aaO X.K r g):PX X e (ju g fs):=PX.imp h λO M Q x=>by obtain⟨A,T,L,N,E,e,k⟩:=x;obtain⟨os,f,h1,e⟩:=iR e;obtain⟨l,m,e⟩:=iM e;obtain⟨z,n,e⟩:=iM e;obtain⟨rfl,rfl⟩:=jn e;obtain⟨q,s⟩:=pe m;refine⟨A,T,os,f,E,h1,λy i G B=>?_⟩;refine w l z y i _ Q (λp u=>B.np u) (q.trans B.len) (λj d v hd hv=>?_) n (B.done k);obtain⟨o,t,c⟩:=s j d hd;exact B.view t hv c
end
open PySem.SeqAt
mutual
noncomputable def D.Ba:D->D->Bool
 |.Ar,e=>match e with|.Ar=>J|_=>C
 |.bl a,e=>match e with|.bl b=>a==b|.int b=>(if a then 1 else 0)==b|_=>C
 |.int a,e=>match e with|.bl b=>a==(if b then 1 else 0)|.int b=>a==b|_=>C
 |.str a,e=>match e with|.str b=>a==b|_=>C
 |.tup l,e=>match e with|.tup m=>D.D1 l m|_=>C
 |.lst l,e=>match e with|.lst m=>D.D1 l m|_=>C
 |.B4 _ _ _,e=>match e with|.B4 _ _ _=>J|_=>C
noncomputable def D.D1:List D->List D->Bool
 |[],m=>m.isEmpty
 |a::l,m=>match m with|b::m=>D.Ba a b&&D.D1 l m|[]=>C
end
mutual
noncomputable def D.dep:D->Nat
 |.tup l=>D.Bp l+1
 |.lst l=>D.Bp l+1
 |.B4 _ _ _=>20000
 |_=>0
noncomputable def D.Bp:List D->Nat
 |[]=>0
 |d::l=>max (D.dep d)<|D.Bp l
end
mutual
theorem D.EE:∀d:D,D.Ba d d=J
 |.Ar=>rfl
 |.bl a=>by simp[D.Ba]
 |.int a=>by simp[D.Ba]
 |.str a=>by simp[D.Ba]
 |.tup l=>D.GA l
 |.lst l=>D.GA l
 |.B4 _ _ _=>rfl
theorem D.GA:∀l:List D,D.D1 l l=J
 |[]=>rfl
 |d::l=>by show(D.Ba d d&&D.D1 l l)=J;rw[D.EE d,D.GA l];rfl
end
theorem D.EI{d:D}:∀{l:List D}{j:Nat},l[j]?=Y d->d.dep<=D.Bp l
 |[],j,h=>by simp at h
 |e::l,0,h=>by simp at h;subst h;rw[D.Bp];exact Nat.le_max_left _ _
 |e::l,j+1,h=>by rw[D.Bp];exact lC (D.EI<|by simpa using h)<|Nat.le_max_right _ _
def yk(l m:List D)(j:Nat):Bool:=match l[j]?,m[j]? with
 |some d,Y e=>D.Ba d e
 |_,_=>J
theorem xY:∀l m:List D,((am<|min (A2 l)<|A2 m).all (yk l m)&&(A2 l)==A2 m)=D.D1 l m
 |[],[]=>rfl
 |[],e::m=>rfl
 |d::l,[]=>rfl
 |d::l,e::m=>by
  show _=(D.Ba d e&&D.D1 l m)
  rw[<-xY l m];simp only[kP,Nat.succ_min_succ,ey,dR,ez,rH];have a:yk (d::l) (e::m) 0=D.Ba d e:=rfl;have h1:(λx=>yk (d::l) (e::m)<|Nat.succ x)=yk l m:=by funext x;simp[yk]
  rw[a];simp only[h1,Bool.and_assoc]
  congr 2
  simp
section
variable {X:Cx}{pins:jG}{σ:L2.St}{H:Hp}{s:iN}
def lr(h:kg X.K H O (.tup l) v):KA (Gz X.K H) (AG X.K H O l) v:=by
 rcases h with h|⟨a,rfl,h⟩
 .obtain⟨a,xs,e,q,r⟩:=h.tup;exact⟨a,xs,e,q.sq,r⟩
 exact h.elim
def kU(h:kg X.K H O (.lst l) v):KA (Fd X.K H) (AG X.K H O l) v:=by
 rcases h with h|⟨a,rfl,h⟩
 .obtain⟨a,xs,e,q,r⟩:=h.lst;exact⟨a,xs,e,q.sq,r⟩
 obtain⟨xs,e,r⟩:=h;exact⟨a,xs,rfl,.inl<|.inl e,r⟩
def AG.views{O:B2}{l:List D}{xs:List V}(r:AG X.K H O l xs){j:Nat}{d:D}{v:V}(h1:l[j]?=Y d)(b:xs[j]?=Y v):Rep X.K H O d v:=by obtain⟨w,a,c⟩:=r.get h1;rw[b]at a;cases a;exact c
def Ni(Q:Inv X pins σ H s)(h:DZ X.K (H a) k l i us):∃o,s.heap.get? a=Y o/\(o.cls=.type "dict"\/o.cls=.type "set"\/∃T,o.cls=.ref T):=by
 cases k with
 |dct=>
  rcases h with⟨b,e,_⟩|⟨b,e,_⟩
  .obtain⟨_,_,i,_,o,d,g,h1,c,_⟩:=(show Au X.prog X.w H s.heap a (.dK b)from Q.hok a _ e)
   exact⟨o,h1,.inl c.1⟩
  obtain⟨_,_,m,_,o,d,g,h1,c,_⟩:=(show Au X.prog X.w H s.heap a (.dT b)from Q.hok a _ e)
  exact⟨o,h1,.inl c.1⟩
 |set=>
  obtain⟨_,j,e,_⟩:=h;obtain⟨d,n,t,h1,_⟩:=(show Au X.prog X.w H s.heap a (.B1 j)from Q.hok a _ e)
  exact⟨_,h1,.inr<|.inl I⟩
 |exc T=>
  obtain⟨_,o,e,h1,_⟩:=h;obtain⟨f,_⟩:=(show Au X.prog X.w H s.heap a (.D3 o<|.own 0)from Q.hok a _ e)
  exact⟨o,f,.inr<|.inr ⟨T,h1⟩⟩
 |_=>exact h.elim
def En(T:Inv X pins σ H s)(h1:Gz X.K H a xs)(f:Fd X.K H a k):False:=by obtain⟨g,_,⟨o,e,c,_⟩,_⟩:=T.tuple h1;obtain⟨h,_,⟨j,i,d,b,_⟩,_⟩:=T.list f;rw[e]at d;cases d;rw[c]at b;exact absurd b (by simp)
def Qx(Q:Inv X pins σ H s)(h1:Gz X.K H a xs)(f:DZ X.K (H a) k h j us):False:=by obtain⟨g,_,⟨o,e,c,_⟩,_⟩:=Q.tuple h1;obtain⟨i,d,b⟩:=Ni Q f;rw[e]at d;cases d;rw[c]at b;rcases b with b|b|⟨T,b⟩<;>exact absurd b (by simp)
def Qy(Q:Inv X pins σ H s)(h1:Fd X.K H a xs)(f:DZ X.K (H a) k h j us):False:=by obtain⟨g,_,⟨o,n,e,c,_⟩,_⟩:=Q.list h1;obtain⟨i,d,b⟩:=Ni Q f;rw[e]at d;cases d;rw[c]at b;rcases b with b|b|⟨T,b⟩<;>exact absurd b (by simp)
mutual
theorem Rep.inj(T:Inv X pins σ H s):∀{d e:D}{v:V},d.dep<20000->Rep X.K H O d v->Rep X.K H u e v->d=e
 |.Ar,e,v,i,h,c=>by
  have:=h.Ar;subst this
  cases e with
  |Ar=>rfl
  |bl b=>have:=c.bl;cases this
  |int b=>have:=c.int;cases this
  |str b=>have:=c.str;cases this
  |tup m=>obtain⟨a,f,z,_⟩:=c.tup;cases z
  |lst m=>obtain⟨a,f,z,_⟩:=c.lst;cases z
  |B4 m n o=>obtain⟨a,f,z,_⟩:=c.B4;cases z
 |.bl b,e,v,i,h,c=>by
  have:=h.bl;subst this
  cases e with
  |Ar=>have:=c.Ar;cases this
  |bl b=>have:=c.bl;cases this;rfl
  |int b=>have:=c.int;cases this
  |str b=>have:=c.str;cases this
  |tup m=>obtain⟨a,f,z,_⟩:=c.tup;cases z
  |lst m=>obtain⟨a,f,z,_⟩:=c.lst;cases z
  |B4 m n o=>obtain⟨a,f,z,_⟩:=c.B4;cases z
 |.int b,e,v,i,h,c=>by
  have:=h.int;subst this
  cases e with
  |Ar=>have:=c.Ar;cases this
  |bl b=>have:=c.bl;cases this
  |int b=>have:=c.int;cases this;rfl
  |str b=>have:=c.str;cases this
  |tup m=>obtain⟨a,f,z,_⟩:=c.tup;cases z
  |lst m=>obtain⟨a,f,z,_⟩:=c.lst;cases z
  |B4 m n o=>obtain⟨a,f,z,_⟩:=c.B4;cases z
 |.str b,e,v,i,h,c=>by
  have:=h.str;subst this
  cases e with
  |Ar=>have:=c.Ar;cases this
  |bl b=>have:=c.bl;cases this
  |int b=>have:=c.int;cases this
  |str b=>have:=c.str;cases this;rfl
  |tup m=>obtain⟨a,f,z,_⟩:=c.tup;cases z
  |lst m=>obtain⟨a,f,z,_⟩:=c.lst;cases z
  |B4 m n o=>obtain⟨a,f,z,_⟩:=c.B4;cases z
 |.tup l,e,v,i,h,c=>by
  rw[D.dep]at i;obtain⟨a,f,rfl,q,r⟩:=h.tup
  cases e with
  |Ar=>have:=c.Ar;cases this
  |bl b=>have:=c.bl;cases this
  |int b=>have:=c.int;cases this
  |str b=>have:=c.str;cases this
  |tup m=>obtain⟨k,p,z,g,j⟩:=c.tup;cases z;have:=T.EH q.sq g.sq;subst this;rw[AG.inj T (by lia) r j]
  |lst m=>obtain⟨k,p,z,g,j⟩:=c.lst;cases z;exact(En T q.sq g.sq).elim
  |B4 m n o=>obtain⟨k,t,z,g,j⟩:=c.B4;cases z;exact(Qx T q.sq g.2).elim
 |.lst l,e,v,i,h,c=>by
  rw[D.dep]at i;obtain⟨a,f,rfl,q,r⟩:=h.lst
  cases e with
  |Ar=>have:=c.Ar;cases this
  |bl b=>have:=c.bl;cases this
  |int b=>have:=c.int;cases this
  |str b=>have:=c.str;cases this
  |tup m=>obtain⟨k,p,z,g,j⟩:=c.tup;cases z;exact(En T g.sq q.sq).elim
  |lst m=>obtain⟨k,p,z,g,j⟩:=c.lst;cases z;have:=T.Fo q.sq g.sq;subst this;rw[AG.inj T (by lia) r j]
  |B4 m n o=>obtain⟨k,t,z,g,j⟩:=c.B4;cases z;exact(Qy T q.sq g.2).elim
 |.B4 _ _ _,e,v,i,h,c=>by rw[D.dep]at i;lia
theorem AG.inj(T:Inv X pins σ H s){O b:B2}:∀{l m:List D}{vs:List V},D.Bp l<20000->AG X.K H O l vs->AG X.K H b m vs->l=m
 |[],m,vs,_,h,a=>by
  rw[AG]at h;subst h
  cases m with
  |nil=>rfl
  |cons e m=>rw[AG]at a;obtain⟨_,_,z,_⟩:=a;cases z
 |d::l,m,vs,i,h,a=>by
  rw[D.Bp]at i;rw[AG]at h;obtain⟨v,r,rfl,h1,c⟩:=h
  cases m with
  |nil=>rw[AG]at a;cases a
  |cons e m=>rw[AG]at a;obtain⟨k,j,z,f,g⟩:=a;cases z;rw[Rep.inj T (by lia) h1 f,AG.inj T (by lia) c g]
end
def wK(h:kg X.K H O d v)(hd:d.dep=0)(nt:∀l,d≠ .tup l)(b:∀l,d≠ .lst l):Rep X.K H O d v:=by
 rcases h with h|⟨a,rfl,h⟩
 .exact h
 cases d with
 |lst l=>exact absurd I<|b l
 |B4 _ _ _=>rw[D.dep]at hd;lia
 |_=>exact h.elim
inductive Sh(X:Cx)(H:Hp)(s:iN)(O:B2):D->V->iQ->Prop
 |Ar:Sh X H s O .Ar .Ar .none
 |bl (b:Bool):Sh X H s O (.bl b) (.bl b) (.bool b)
 |int (i:Int) (t:wf):Sh X H s O (.int i) (.int i) (.int i t)
 |str (x:au) (t:wf):Sh X H s O (.str x) (.str x) (.str x t)
 |tup {l:List D} {p:iJ} {xs:List V} {b6:jN} (q:Gz X.K H p xs) (r:AG X.K H O l xs) (v:Vals xs b6) (pl:li s.heap p b6.toArray):Sh X H s O (.tup l) (.ref p) (.ref p)
 |lst {l:List D} {p:iJ} {xs:List V} {b6:jN} (q:Fd X.K H p xs) (r:AG X.K H O l xs) (v:Vals xs b6) (pl:s.heap.IsList p b6.toArray):Sh X H s O (.lst l) (.ref p) (.ref p)
def yH(T:Inv X pins σ H s)(h:kg X.K H O d v)(b:RelV v a)(i:d.dep<20000):Sh X H s O d v a:=by
 cases d with
 |B4 m k n=>rw[D.dep]at i;omega
 |tup l=>obtain⟨p,j,rfl,q,r⟩:=lr h;cases b;obtain⟨g,f,e,_⟩:=T.tuple q;exact .tup q r f e
 |lst l=>obtain⟨p,j,rfl,q,r⟩:=kU h;cases b;obtain⟨g,f,e,_⟩:=T.list q;exact .lst q r f e.isList
 |Ar=>have:=(wK h I (by simp)<|by simp).Ar;subst this;cases b;exact .Ar
 |bl c=>have:=(wK h I (by simp)<|by simp).bl;subst this;cases b;exact .bl c
 |int c=>have:=(wK h I (by simp)<|by simp).int;subst this;obtain⟨t,rfl⟩:=b;exact .int c t
 |str c=>have:=(wK h I (by simp)<|by simp).str;subst this;obtain⟨t,rfl⟩:=b;exact .str c t
def RW{A:jh}{y x:iQ}{k:Bool}(h:RcAt A s y x k)(f:y=x->k=J)(e:∀b t,y≠ .float b t):EqAt A s y x k:=λa w E Q c=>by
 unfold eqBool;refine mv ?_;refine wpAny_ite_split (λd=>?_) λ_=>?_
 .rw[f<|sf d]at c;exact iL<|uC<|ja c
 cases y with
 |float b t=>exact absurd I<|e b t
 |_=>exact iL<|h a w E _ (sN c)
def OE(I:Inv X pins σ H s){A:jh}{n:Nat}(M:∀(d e:D)(v u:V)(a b:iQ)(O Q:B2)(A:jh),kg X.K H O d v->kg X.K H Q e u->RelV v a->RelV u b->d.dep+1<=n->e.dep<20000->A.units+n<aP+1->EqAt A s a b (D.Ba d e))(hA:A.units+n<aP):∀(l m:List D)(g h:List V)(c f:jN)(i k:B2),D.Bp l+1<=n->D.Bp m<20000->AG X.K H i l g->AG X.K H k m h->Vals g c->Vals h f->
   ∀j (h1:j<c.toArray.size) (r:j<f.toArray.size),EqAt A.in1 s c.toArray[j] f.toArray[j] (yk l m j):=λl m g h c f i k Z hm y z B C j h1 r=>by
 have P:=B.length;have R:=C.length;have S:=y.length;have W:=z.length;simp only[kz]at h1 r;have t:g[j]?=A9 g[j]:=jT (by omega);have x:h[j]?=A9 h[j]:=jT (by omega);have p:l[j]?=A9 l[j]:=jT (by omega);have o:m[j]?=A9 m[j]:=jT (by omega);obtain⟨w,E,U⟩:=B.get t;obtain⟨N,L,Y⟩:=C.get x
 have G:c.toArray[j]=w:=by have:c[j]?=A9 c[j]:=jT (by omega);rw[this]at E;simpa using E
 have J:f.toArray[j]=N:=by have:f[j]?=A9 f[j]:=jT (by omega);rw[this]at L;simpa using L
 rw[G,J];have T:yk l m j=D.Ba l[j] m[j]:=by unfold yk;rw[p,o]
 rw[T];have F:=D.EI p;have q:=D.EI o;exact M _ _ _ _ _ _ i k A.in1 (.inl<|y.views p t) (.inl<|z.views o x) U Y (by omega) (by omega) (by show A.units+1+n<aP+1;omega)
def MD{d e:D}{v u:V}{a b:iQ}{O T:B2}{A:jh}(I:Inv X pins σ H s){n:Nat}(ih:∀(d e:D)(v u:V)(a b:iQ)(O T:B2)(A:jh),kg X.K H O d v->kg X.K H T e u->RelV v a->RelV u b->d.dep+1<=n->e.dep<20000->A.units+n<aP+1->EqAt A s a b (D.Ba d e))(hd:kg X.K H O d v)(he:kg X.K H T e u)(ra:RelV v a)(rb:RelV u b)(Q:d.dep<=n)(M:e.dep<20000)(hA:A.units+n<aP):RcAt A s a b (D.Ba d e)/\RcNeAt A s a b (!D.Ba d e):=by
 have f:A.units<cLine:=by lia
 have items:=OE I ih hA;have W:aP=9900:=rfl;have h1:=yH I hd ra (by lia);have E:=yH I he rb M
 cases h1 with
 |Ar=>
  cases E with
  |Ar=>exact⟨RcAt.none_none,RcNeAt.none_none⟩
  |bl c=>exact⟨RcAt.none_bool c,RcNeAt.none_bool c⟩
  |int c i=>exact⟨RcAt.none_int c i,RcNeAt.none_int c i⟩
  |str c i=>exact⟨RcAt.none_str c i,RcNeAt.none_str c i⟩
  |tup y o t h=>exact⟨RcAt.none_tuple h f,RcNeAt.none_tuple h f⟩
  |lst y o t h=>exact⟨RcAt.none_list h f,RcNeAt.none_list h f⟩
 |bl g=>
  cases E with
  |Ar=>exact⟨RcAt.bool_none g,RcNeAt.bool_none g⟩
  |bl c=>exact⟨RcAt.bool_bool g c,RcNeAt.bool_bool g c⟩
  |int c i=>exact⟨RcAt.bool_int g c i,RcNeAt.bool_int g c i⟩
  |str c i=>exact⟨RcAt.bool_str g c i,RcNeAt.bool_str g c i⟩
  |tup y o t h=>exact⟨RcAt.bool_tuple g h f,RcNeAt.bool_tuple g h f⟩
  |lst y o t h=>exact⟨RcAt.bool_list g h f,RcNeAt.bool_list g h f⟩
 |int g k=>
  cases E with
  |Ar=>exact⟨RcAt.int_none g k,RcNeAt.int_none g k⟩
  |bl c=>exact⟨RcAt.int_bool g k c,RcNeAt.int_bool g k c⟩
  |int c i=>exact⟨RcAt.int_int g k c i,RcNeAt.int_int g k c i⟩
  |str c i=>exact⟨RcAt.int_str g k c i,RcNeAt.int_str g k c i⟩
  |tup y o t h=>exact⟨RcAt.int_tuple g k h f,RcNeAt.int_tuple g k h f⟩
  |lst y o t h=>exact⟨RcAt.int_list g k h f,RcNeAt.int_list g k h f⟩
 |str g k=>
  cases E with
  |Ar=>exact⟨RcAt.str_none g k,RcNeAt.str_none g k⟩
  |bl c=>exact⟨RcAt.str_bool g k c,RcNeAt.str_bool g k c⟩
  |int c i=>exact⟨RcAt.str_int g k c i,RcNeAt.str_int g k c i⟩
  |str c i=>exact⟨RcAt.str_str g k c i,RcNeAt.str_str g k c i⟩
  |tup y o t h=>exact⟨RcAt.str_tuple g k h f,RcNeAt.str_tuple g k h f⟩
  |lst y o t h=>exact⟨RcAt.str_list g k h f,RcNeAt.str_list g k h f⟩
 | @tup l p N B q r L j=>
  cases E with
  |Ar=>exact⟨RcAt.tuple_none j f,RcNeAt.tuple_none j f⟩
  |bl c=>exact⟨RcAt.tuple_bool c j f,RcNeAt.tuple_bool c j f⟩
  |int c i=>exact⟨RcAt.tuple_int c i j f,RcNeAt.tuple_int c i j f⟩
  |str c i=>exact⟨RcAt.tuple_str c i j f,RcNeAt.tuple_str c i j f⟩
  | @tup m p2 U' C' y o t h=>
   have G:D.Bp l+1<=n:=by rw[D.dep]at Q;exact Q
   have J:D.Bp m<20000:=by rw[D.dep]at M;lia
   have F:=L.length;have P:=t.length;have R:=r.length;have S:=o.length;have w:=items l m N U' B C' _ _ G J r o L t;have z:=d9 (RcAt.tuples j h f w)<|RcNeAt.tuples j h f w;simp only[kz]at z;rw[show B.length=l.length by lia,show C'.length=m.length by lia,xY]at z;exact z
  |lst y o t h=>exact⟨RcAt.tuple_list j h f,RcNeAt.tuple_list j h f⟩
 | @lst l p N B q r L j=>
  cases E with
  |Ar=>exact⟨RcAt.list_none j f,RcNeAt.list_none j f⟩
  |bl c=>exact⟨RcAt.list_bool c j f,RcNeAt.list_bool c j f⟩
  |int c i=>exact⟨RcAt.list_int c i j f,RcNeAt.list_int c i j f⟩
  |str c i=>exact⟨RcAt.list_str c i j f,RcNeAt.list_str c i j f⟩
  |tup y o t h=>exact⟨RcAt.list_tuple j h f,RcNeAt.list_tuple j h f⟩
  | @lst m p2 U' C' y o t h=>
   have G:D.Bp l+1<=n:=by rw[D.dep]at Q;exact Q
   have J:D.Bp m<20000:=by rw[D.dep]at M;lia
   have F:=L.length;have P:=t.length;have R:=r.length;have S:=o.length;have Y:=xY l m;by_cases x:l.length=m.length
   .have w:=items l m N U' B C' _ _ G J r o L t;have q:B.toArray.size=C'.toArray.size:=by simp only[kz];lia
    have z:=d9 (RcAt.lists j h q f w)<|RcNeAt.lists j h q f w;simp only[kz]at z;rw[show B.length=min l.length m.length by lia]at z;show _/\RcNeAt _ _ _ _ (!D.D1 l m);rw[show D.Ba (.lst l) (.lst m)=D.D1 l m from AM,<-Y,x];rw[x]at z;simpa using z
   have q:(B.toArray.size !=C'.toArray.size)=Ap:=by simp only[kz,bne_iff_ne,ne_eq];lia
   have z:=d9 (RcAt.lists_lengths j h q f)<|RcNeAt.lists_lengths j h q f;rw[show D.Ba (.lst l) (.lst m)=D.D1 l m from AM,<-Y];rw[show(l.length==m.length)=C by simpa using x];simpa using z
def B8(I:Inv X pins σ H s)(n:Nat)
  (T:∀(d e:D)(v u:V)(a b:iQ)(O k:B2)(A:jh),kg X.K H O d v->kg X.K H k e u->RelV v a->RelV u b->d.dep+1<=n->e.dep<20000->A.units+n<aP+1->EqAt A s a b (D.Ba d e)):
  ∀(d e:D)(v u:V)(a b:iQ)(O k:B2)(A:jh),kg X.K H O d v->kg X.K H k e u->RelV v a->RelV u b->d.dep<=n->e.dep<20000->A.units+n<aP->EqAt A s a b (D.Ba d e):=by
 intro d e v u a b O k A hd y N E m B Q;have J:aP=9900:=rfl;have h1:=yH I hd N (by lia);have l:=yH I y E B;refine RW (MD I T hd y N E m B Q).1 (λL=>?_) λb t z=>by subst z;cases h1
 subst L
 have no:∀{p:iJ}{i j:nJ},li s.heap p i->s.heap.IsList p j->False:=λ⟨o,a,b,_⟩ ⟨M,c,d,_⟩=>by rw[a]at c;cases c;rw[b]at d;exact absurd d (by decide)
 cases h1 with
 |tup q r G w=>
  cases l with
  |tup g h x f=>have:=I.EH q g;subst this;rw[AG.inj I (by rw[D.dep]at m;lia) r h,D.EE]
  |lst g h x f=>exact(no w f).elim
 |lst q r G w=>
  cases l with
  |tup g h x f=>exact(no f w).elim
  |lst g h x f=>have:=I.Fo q g;subst this;rw[AG.inj I (by rw[D.dep]at m;lia) r h,D.EE]
 |_=>cases l;exact D.EE _
def AE(T:Inv X pins σ H s):∀(n:Nat)(d e:D)(v u:V)(a b:iQ)(O c:B2)(A:jh),kg X.K H O d v->kg X.K H c e u->RelV v a->RelV u b->d.dep<=n->e.dep<20000->A.units+n<aP->EqAt A s a b (D.Ba d e):=by
 intro n
 induction n with
 |zero=>intro d e v u a b O c A hd f i j g h k;exact B8 T 0 (λd e v u a b O c A hd f i j g h k=>absurd g<|by lia) d e v u a b O c A hd f i j g h k
 |succ n l=>intro d e v u a b O c A hd f i j g h k;exact B8 T (n+1) (λd e v u a b O c A hd f i j g h k=>l d e v u a b O c A hd f i j (by lia) h<|by lia) d e v u a b O c A hd f i j g h k
end
section
variable {X:Cx}{c:jG}{f:L2.St}{H:Hp}{s:iN}
def SA(T:Inv X c f H s)(hd:kg X.K H O d v)(i:kg X.K H g e u)(l:RelV v a)(m:RelV u b)(j:d.dep<=n)(k:e.dep<20000)(h:A.units+n<aP):RcAt A s a b (D.Ba d e)/\RcNeAt A s a b (!D.Ba d e):=
 MD T (λd e v u a b O g A x1 x2 x3 x4 p o x7=>AE T (n-1) d e v u a b O g A x1 x2 x3 x4 (by lia) o<|by lia) hd i l m j k h
def U4(j:X.A.units+60<aP):DO X (aw .Eq) (λx y H Q=>∃O d e,kg X.K H O d x/\kg X.K H O e y/\(d.dep<=50/\e.dep<=50)/\Q (.bl<|D.Ba d e) H):=by intro c s f H x y v u Q T g i h;obtain⟨O,d,e,h1,a,b,q⟩:=h;exact(SA (A:=X.A) T h1 a g i b.1 (by lia)<|by lia).1 _ _ _ _ ⟨.bl _,H,T,rfl,q⟩
def U1(j:X.A.units+60<aP):DO X (aw .NotEq) (λx y H Q=>∃O d e,kg X.K H O d x/\kg X.K H O e y/\(d.dep<=50/\e.dep<=50)/\Q (.bl (!D.Ba d e)) H):=by intro c s f H x y v u Q T g i h;obtain⟨O,d,e,h1,a,b,q⟩:=h;exact(SA (A:=X.A) T h1 a g i b.1 (by lia)<|by lia).2 _ _ _ _ ⟨.bl _,H,T,rfl,q⟩
end
def jo{e:Type}{c:Prop}[Decidable c]{a b:e}(h:(if c then Y a else U)=Y b):c/\a=b:=by
 split at h
 .rename_i d;exact⟨d,kT h⟩
 cases h
section
variable {X:Cx}{c:jG}{f:L2.St}{H:Hp}{s:iN}
def Oa(I:Inv X c f H s){A:jh}{l:List D}{n:List V}{a:jN}{O B:B2}{b:D}{Q:V}{x:iQ}(r:AG X.K H O l n)(v:Vals n a)(hx:kg X.K H B b Q)(rx:RelV Q x)(hn:D.Bp l<=50)(hxn:b.dep<=50)(hA:A.units+60<aP):
  ∃e:iQ->Bool,(∀y∈a,EqAt A.in1 s y x<|e y)/\a.any e=l.any λd=>D.Ba d b:=by
 let e:iQ->Bool:=λy=>match(a.zip l).find? (λp=>p.1==y)with
  |some p=>D.Ba p.2 b
  |none=>AX
 have S:=v.length;have W:=r.length
 have key:∀(j:Nat)(g:j<a.length)(h:j<l.length),e a[j]=D.Ba l[j] b:=λj g h=>by
  show(match(a.zip l).find? (λp=>p.1==a[j])with|some p=>D.Ba p.2 b|none=>AX)=_
  cases q:(a.zip l).find? (λp=>p.1==a[j])with
  |none=>
   have:=List.find?_eq_none.mp q (a[j],l[j]) (by
    have:(a.zip l)[j]?=A9 (a[j],l[j]):=by simp[Fu,jT g,jT h]
    exact mW this)
   simp at this
  |some p=>
   have Y:=List.find?_some q;have U:=List.mem_of_find?_eq_some q;obtain⟨i,L⟩:=se U;obtain⟨P,p2⟩:=p;rw[Fu]at L;have J:P=a[j]:=sf Y;obtain⟨h1,k⟩:=L;have C:i<n.length:=by have:=(tM.mp h1).1;lia
   obtain⟨w,m,u⟩:=v.get<|jT C;have o:j<n.length:=by lia
   obtain⟨w',T,R⟩:=v.get<|jT o;rw[h1]at m;cases m;rw[jT g]at T;cases T;subst J;have hv:=u.inj R;have a1:=r.views k<|jT C;have G:=r.views (jT h)<|jT o;rw[hv]at a1;have Z:=D.EI k;have:=Rep.inj I (by lia) a1 G;exact nM (λz=>D.Ba z b) this
 refine⟨e,λy F=>?_,?_⟩
 .obtain⟨j,g⟩:=se F;have t:=(tM.mp g).1;have o:=(tM.mp g).2;have h:j<l.length:=by lia
  have E:j<n.length:=by lia
  obtain⟨w,m,u⟩:=v.get<|jT E;rw[g]at m;cases m;have hk:=key j t h;rw[o]at hk;rw[hk];have hd:=D.EI<|jT h;exact AE I 50 _ _ _ _ _ _ O B A.in1 (.inl<|r.views (jT h)<|jT E) hx u rx (by lia) (by lia) (by show A.units+1+50<aP;lia)
 have:a.map e=l.map λd=>D.Ba d b:=by
  apply zj
  .simp;lia
  intro j h1 k;simp only[kd]at h1 k;simp only[gc];exact key j h1 k
 have M:a.any e=(a.map e).any id:=by rw[xu];rfl
 have N:(l.any λd=>D.Ba d b)=(l.map λd=>D.Ba d b).any id:=by rw[xu];rfl
 rw[M,N,this]
def inD(x:D):D->Option Bool
 |.tup l=>if D.Bp l<=50/\x.dep<=50 then Y (l.any λd=>D.Ba d x)else U
 |.lst l=>if D.Bp l<=50/\x.dep<=50 then Y (l.any λd=>D.Ba d x)else U
 |_=>U
def Ik(n:Bool)(E:X.A.units+60<aP):DO X (aw (if n then .NotIn else .In)) (λx y H Q=>∃O d e b,kg X.K H O d x/\kg X.K H O e y/\inD d e=Y b/\Q (.bl (if n then !b else b)) H):=by
 intro c s f H x y v u Q M L T h;obtain⟨O,d,e,b,h1,N,m,q⟩:=h
 cases e with
 |tup l=>
  obtain⟨i,rfl⟩:=jo m;obtain⟨a,G,rfl,t,r⟩:=lr N;cases T;obtain⟨g,B,j,_⟩:=M.tuple t;obtain⟨e,p,o⟩:=Oa (A:=X.A) M r B h1 L i.1 i.2 E;have k:∀w∈g.toArray,EqAt X.A.in1 s w v (e w):=λw z=>p w (by simpa using z);rw[<-o,show g.any e=g.toArray.any e by simp]at q;cases n
  .exact in_tupleAt e j k ⟨.bl _,H,M,rfl,q⟩
  exact notIn_tupleAt e j k ⟨.bl _,H,M,rfl,q⟩
 |lst l=>
  obtain⟨i,rfl⟩:=jo m;obtain⟨a,G,rfl,t,r⟩:=kU N;cases T;obtain⟨g,B,j,_⟩:=M.list t;obtain⟨e,p,o⟩:=Oa (A:=X.A) M r B h1 L i.1 i.2 E;have k:∀w∈g.toArray,EqAt X.A.in1 s w v (e w):=λw z=>p w (by simpa using z);rw[<-o,show g.any e=g.toArray.any e by simp]at q;cases n
  .exact in_listAt e j.isList k ⟨.bl _,H,M,rfl,q⟩
  exact notIn_listAt e j.isList k ⟨.bl _,H,M,rfl,q⟩
 |_=>cases m
end
inductive rD1(K:jl)(g:D->Option (D×Bool))(x:V)(H:Hp)(Q:VK):Prop where
 |mk (O:B2) (d:D) (z:D×Bool) (_:∀p,¬Ow (H p)->¬O p) (_:kg K H O d x) (_:g d=A9 z) (_:Gen K H O z Q)
inductive rD(K:jl)(g:D->D->Option (D×Bool))(x y:V)(H:Hp)(Q:VK):Prop where
 |mk (O:B2) (d e:D) (z:D×Bool) (_:∀p,¬Ow (H p)->¬O p) (_:kg K H O d x) (_:kg K H O e y) (_:g d e=A9 z) (_:Gen K H O z Q)
inductive GL(K:jl)(g:List D->Option (D×Bool))(vs:List V)(H:Hp)(Q:VK):Prop where
 |mk (O:B2) (ds:List D) (z:D×Bool) (_:∀p,¬Ow (H p)->¬O p) (_:(A2 ds)=A2 vs) (_:∀(j:Nat) d v,ds[j]?=A9 d->vs[j]?=A9 v->kg K H O d v) (_:g ds=A9 z) (_:Gen K H O z Q)
section
variable {X:Cx}{e a b:iT}{fa fb:FO}{fs:List FO}{pos:bu}
def px1(h:PE X e (tUn (rD1 X.K g)<|tO X.K fa)):PX X e (ma g fa):=Ux h λx z v T O Q np d c G=>⟨O,x,z,np,d,c,G⟩
def NK(h:PE X e (Kn (rD X.K g) (tO X.K fa)<|tO X.K fb)):PX X e (jf g fa fb):=Uw h λx y z v u T O Q np d f c G=>⟨O,x,y,z,np,d,f,c,G⟩
def pxn(h:PE X e (NI (GL X.K g)<|tA X.K fs)):PX X e (ju g fs):=Qj h λc z i T O Q np f hv d G=>⟨O,c,z,np,f,hv,d,G⟩
def jB{K T}{O:B2}{i:Int}{v:V}(h:kg K T O (.int i) v):v=.int i:=h.elim (λh=>h.int) λ⟨_,_,h⟩=>h.elim
def Dc{K T}(h:kg K T O (.bl i) v):v=.bl i:=h.elim (λh=>h.bl) λ⟨_,_,h⟩=>h.elim
def vS{K T}(h:kg K T O (.str i) v):v=.str i:=h.elim (λh=>h.str) λ⟨_,_,h⟩=>h.elim
def Eb{K T}(h:kg K T O .Ar v):v=.Ar:=h.elim (λh=>h.Ar) λ⟨_,_,h⟩=>h.elim
def Gen.str{K T}(g:Gen K T O (.str i,C) Q):Q (.str i) T:=g _ T (λ_ _ e=>e) Rep.mkStr
noncomputable def gI(f:Int->Int->Option D):D->D->Option (D×Bool)
 |.int i,.int j=>(f i j).map λz=>(z,C)
 |_,_=>U
def yP{f:Int->Int->Option D}{d e:D}{z:D×Bool}(h:gI f d e=Y z):∃i j y,d=.int i/\e=.int j/\f i j=Y y/\z=(y,C):=by
 cases d with
 |int i=>
  cases e with
  |int j=>
   cases c:f i j with
   |none=>simp only[gI,c]at h;cases h
   |some y=>simp only[gI,c]at h;cases h;exact⟨i,j,y,rfl,rfl,c,rfl⟩
  |_=>cases h
 |_=>cases h
def yN{f:yb}{T:Int->Int->Prop}[∀i j,Decidable<|T i j]{g:Int->Int->Int}(o:DO X f (rI T λi j=>.int (g i j))):DO X f (rD X.K (gI λi j=>if T i j then Y (.int<|g i j)else U)):=by intro c s r N x y v u Q M p q h;obtain⟨O,d,e,z,np,h1,k,n,G⟩:=h;obtain⟨i,j,w,rfl,rfl,m,rfl⟩:=yP n;obtain⟨l,rfl⟩:=jo m;exact o c s r N x y v u Q M p q ⟨i,j,jB h1,jB k,l,G.int⟩
def Nj{f:yb}{g:Int->Int->Int}(n:DO X f (JQ λi j=>.int (g i j))):DO X f (rD X.K<|gI λi j=>Y<|.int<|g i j):=by intro c s q T x y v u Q N o p h;obtain⟨O,d,e,z,np,h1,k,m,G⟩:=h;obtain⟨i,j,w,rfl,rfl,l,rfl⟩:=yP m;cases l;exact n c s q T x y v u Q N o p ⟨i,j,jB h1,jB k,G.int⟩
instance(i j:Int):Decidable (E5 i j):=by unfold E5;exact inferInstance
instance(i j:Int):Decidable (KN i j):=by unfold KN;exact inferInstance
instance(i j:Int):Decidable (yG i j):=by unfold yG;exact inferInstance
def Fq:=gI λi j=>Y<|.int<|i-j
def rQ:=gI λi j=>if E5 i j then Y (.int<|i*j)else U
def Og:=gI λi j=>if KN i j then Y (.int<|i / j)else U
def yA:=gI λi j=>if 0<j then Y (.int<|i%j)else U
def G6:=gI λi j=>if yG i j then Y (.int<|i^j.toNat)else U
def QD:DO X (bC .Sub) (rD X.K Fq):=Nj UZ
def QJ:DO X (bC .Mult) (rD X.K rQ):=yN U2
def QN:DO X (bC .FloorDiv) (rD X.K Og):=yN QU
def QK:DO X (bC .Mod) (rD X.K yA):=yN U3
def QE:DO X (bC .Pow) (rD X.K G6):=yN U0
noncomputable def lL:D->D->Option (D×Bool)
 |.int i,.int j=>Y (.int<|i+j,C)
 |.str i,.str j=>if i.length+j.length<=sizeLine then Y (.str<|i++j,C)else U
 |.tup l,.tup m=>if l.length+m.length<=sizeLine then Y (.tup<|l++m,C)else U
 |.lst l,.lst m=>if l.length+m.length<=sizeLine then Y (.lst<|l++m,J)else U
 |_,_=>U
def QR:DO X (bC .Add) (rD X.K lL):=by
 intro f s σ H x y v u Q I E L h;obtain⟨O,d,e,z,np,h1,J,g,G⟩:=h
 cases d with
 |int i=>
  cases e with
  |int j=>cases g;exact U5 f s σ H x y v u Q I E L ⟨i,j,jB h1,jB J,G.int⟩
  |_=>cases g
 |str i=>
  cases e with
  |str j=>obtain⟨V,rfl⟩:=jo g;exact acD f s σ H x y v u Q I E L ⟨i,j,vS h1,vS J,V,G.str⟩
  |_=>cases g
 |tup l=>
  cases e with
  |tup m=>
   obtain⟨V,rfl⟩:=jo g;have k1:Rep X.K H O (.tup l) x:=h1.elim id λ⟨_,_,z⟩=>z.elim;have k2:Rep X.K H O (.tup m) y:=J.elim id λ⟨_,_,z⟩=>z.elim;obtain⟨M,xs,rfl,N,B⟩:=k1.tup;obtain⟨A,ys,rfl,U,C⟩:=k2.tup;have l1:=B.length;have l2:=C.length;by_cases hx:xs=[]
   .subst hx;have:l=[]:=by simpa using l1.symm
    subst this;cases E;cases L;obtain⟨k,Y,R,_⟩:=I.tuple N.sq;obtain⟨o,v2,S,_⟩:=I.tuple U.sq;have e1:k=[]:=by have:=Y.length;simpa using this.symm
    subst e1;obtain⟨⟨P,dd,q,Z⟩,r,w,n,hd⟩:=id R;obtain⟨⟨dg,D,data2,w6⟩,T,t,W,c⟩:=id S;simp only at w hd t c;subst w hd t c
    refine C3 ⟨_,r,rfl⟩ ⟨_,T,rfl⟩ Gg Gf Ge Gd (Gb _ _)
     (tuple_addW0 M A #[] o.toArray n W dd D Z w6 (by simp)) ⟨r,T,⟨.ref A,H,I,rfl,?_⟩⟩
    exact G _ H (λ_ _ e=>e) (by simpa using k2)
   refine QV f s σ H _ _ v u Q I E L ⟨M,A,xs,ys,rfl,rfl,N.sq,U.sq,hx,by lia,λhy=>?_,λhy p hp=>?_⟩
   .subst hy;have:m=[]:=by simpa using l2.symm
    subst this;exact G _ H (λ_ _ e=>e) (by simpa using k1)
   exact G.tup hp (np p<|Mb hp) (B.append C)
  |_=>cases g
 |lst l=>
  cases e with
  |lst m=>
   obtain⟨V,rfl⟩:=jo g;obtain⟨M,xs,rfl,N,B⟩:=kU h1;obtain⟨A,ys,rfl,U,C⟩:=kU J;have l1:=B.length;have l2:=C.length;cases E;cases L;obtain⟨k,Y,R,_⟩:=I.list N;obtain⟨o,v2,S,_⟩:=I.list U;have e1:=Y.length;have e2:=v2.length;obtain⟨⟨P,dd,q,Z⟩,r,w,n,hd⟩:=id R.isList;obtain⟨⟨dg,D,data2,w6⟩,T,t,W,c⟩:=id S.isList;simp only at w hd t c;subst w hd t c
   refine C3 ⟨_,r,rfl⟩ ⟨_,T,rfl⟩ noFill_list_add seq_list_add PySem.F.slot_list_add PySem.F.entry_list_add (PySem.F.args_list_add_2 _ _)
    (list_addW M A k.toArray o.toArray n W dd D Z w6<|by simp only[kz];lia) ⟨r,T,?_⟩
   rw[show k.toArray++o.toArray=(k++o).toArray by simp];exact⟨.ref _,_,I.Me (t':=s.toks) (Y.append v2)<|by rw[nA];lia,rfl,G.lst I.fresh<|B.append C⟩
  |_=>cases g
 |_=>cases g
def Gw(d e:D):Option (D×Bool):=if d.dep<=50/\e.dep<=50 then Y (.bl<|D.Ba d e,C)else U
def J9(d e:D):Option (D×Bool):=if d.dep<=50/\e.dep<=50 then Y (.bl (!D.Ba d e),C)else U
def rn(d e:D):Option (D×Bool):=(inD d e).map λb=>(.bl (!b),C)
def UY(j:X.A.units+60<aP):DO X (aw .Eq) (rD X.K Gw):=by intro c s m T x y v u Q N k l h;obtain⟨O,d,e,z,np,h1,f,i,G⟩:=h;obtain⟨g,rfl⟩:=jo i;exact U4 j c s m T x y v u Q N k l ⟨O,d,e,h1,f,g,G.bl⟩
def UW(j:X.A.units+60<aP):DO X (aw .NotEq) (rD X.K J9):=by intro c s m T x y v u Q N k l h;obtain⟨O,d,e,z,np,h1,f,i,G⟩:=h;obtain⟨g,rfl⟩:=jo i;exact U1 j c s m T x y v u Q N k l ⟨O,d,e,h1,f,g,G.bl⟩
inductive BndM{α β:Type}(x:Option α)(f:α->β)(b:β):Prop where
 |mk (a:α) (_:x=A9 a) (_:f a=b)
def jz{c d:Type}{x:Option c}{f:c->d}{b:d}(h:x.map f=Y b):BndM x f b:=by
 cases x with
 |none=>cases h
 |some a=>exact⟨a,rfl,kT h⟩
def adu(j:X.A.units+60<aP):DO X (aw .NotIn) (rD X.K rn):=by intro c s m T x y v u Q N k l h;obtain⟨O,d,e,z,np,h1,f,i,G⟩:=h;obtain⟨b,g,rfl⟩:=jz i;exact Ik J j c s m T x y v u Q N k l ⟨O,d,e,b,h1,f,g,G.bl⟩
noncomputable def Al:D->Option (D×Bool)
 |.int i=>Y (.int (-i),C)
 |_=>U
def PN:NY X (Q1 .USub) (rD1 X.K Al):=by
 intro c s j T x v Q N g h;obtain⟨O,d,z,np,h1,f,G⟩:=h
 cases d with
 |int i=>cases f;exact TY c s j T x v Q N g ⟨i,jB h1,G.int⟩
 |_=>cases f
def CK:D->D->Option (D×Bool)
 |.tup l,.int i=>(Hq l i).map λd=>(d,C)
 |.lst l,.int i=>(Hq l i).map λd=>(d,C)
 |_,_=>U
def Ji{K T}{O:B2}{l:List D}{c:List V}{i:Int}{d:D}(r:AG K T O l c)(h:Hq l i=Y d):∃v,Hq c i=Y v/\Rep K T O d v:=by unfold Hq at h ⊢;rw[r.length];obtain⟨j,h1,f⟩:=iM h;rw[h1];obtain⟨v,g,k⟩:=r.get f;exact⟨v,g,k⟩
def S7:N4 X (rD X.K CK):=by
 intro f c g s E N x y v u Q M B T h A;obtain⟨O,d,e,z,np,h1,t,j,G⟩:=h
 cases d with
 |tup l=>
  cases e with
  |int i=>obtain⟨w,m,rfl⟩:=jz j;obtain⟨p,o,rfl,q,r⟩:=lr h1;obtain⟨n,hv,k⟩:=Ji r m;exact Vk f c g s E N _ _ v u Q M B T ⟨p,o,i,n,rfl,jB t,q,hv,G _ N (λ_ _ e=>e) k⟩ A
  |_=>cases j
 |lst l=>
  cases e with
  |int i=>obtain⟨w,m,rfl⟩:=jz j;obtain⟨p,o,rfl,q,r⟩:=kU h1;obtain⟨n,hv,k⟩:=Ji r m;exact Rx f c g s E N _ _ v u Q M B T ⟨p,o,i,n,rfl,jB t,q,hv,G _ N (λ_ _ e=>e) k⟩ A
  |_=>cases j
 |_=>cases j
end
noncomputable def oZ:List Bq->Option (List D)
 |[]=>Y []
 |.val r::os=>(oZ os).map (r.1:: ·)
 |.slot _::_=>U
def ou(fs:List F):F:=λδ=>(kj (fs.map iX) δ).bind λp=>(oZ p.1).bind λa=>if (A2 a)<=sizeLine then Y ((.tup a,C),p.2)else U
def mR(fs:List F):F:=λb=>(kj (fs.map iX) b).bind λp=>(oZ p.1).bind λa=>if (A2 a)<=sizeLine then Y ((.lst a,J),p.2)else U
section
variable {K:jl}{T n:B2}{g:L2.St}{m e:Dn}{H f:Hp}{os:List Bq}{c:List V}
def Ops.rep(E:ER K H T g m)(B:Ops K T g m H os c e f n){j:Nat}{r:D×Bool}{v:V}(h1:os[j]?=Y (.val r))(h:c[j]?=Y v):Rep K f (λa=>Aa g e a\/T a) r.1 v:=by
 obtain⟨d,b⟩:=r
 cases b
 .exact B.val j d v h1 h
 obtain⟨p,rfl,k,i,ok⟩:=B.tmp j d v h1 h;refine ok.rep (λz=>?_) λb _ z=>z;rcases z with z|z
 .exact B.er.nT p z k
 exact(E.dom p z).ne i
theorem vh{O:B2}:∀{os:List Bq}{c:List V}{d:List D},oZ os=Y d->os.length=A2 c->(∀(j:Nat)(r:D×Bool)(v:V),os[j]?=Y (.val r)->c[j]?=Y v->Rep K f O r.1 v)->AG K f O d c
 |[],c,d,h,o,_=>by
  cases h;have:c=[]:=by simpa using o.symm
  subst this;exact AG.nil
 |.slot i::os,c,d,h,_,_=>by cases h
 |.val r::os,c,d,h,o,k=>by
  obtain⟨l,h1,rfl⟩:=jz h
  cases c with
  |nil=>simp at o
  |cons v c=>exact AG.cons (k 0 r v I I)<|vh h1 (by simpa using o) λj p q a b=>k (j+1) p q (by simpa using a) (by simpa using b)
end
section
variable {X:Cx}{e a b:iT}{m:ky}{n fb:FO}{fs:List F}{c:bu}
def Ut{x1}(h:PA X m (tA X.K<|fs.map iX)):PX X (.Tuple m x1 c) (ou fs):=PX.imp (M9 h) λy O Q l=>by obtain⟨o,T,w,q,E,e,k⟩:=l;obtain⟨os,d,h1,e⟩:=iR e;obtain⟨u,g,e⟩:=iM e;obtain⟨i,e⟩:=jo e;obtain⟨rfl,rfl⟩:=sd e;refine⟨o,T,os,d,E,h1,λx s t B=>?_⟩;have r:=vh g B.len λj r v a b=>B.rep E a b;exact⟨by rw[r.length];exact i,λp f=>(B.done k).tup f (B.np<|Mb f) r⟩
def Uy(h:PA X m (tA X.K<|fs.map iX)):PX X (.List m c) (mR fs):=PX.imp (US h) λy O Q l=>by obtain⟨o,T,w,q,E,e,k⟩:=l;obtain⟨os,d,h1,e⟩:=iR e;obtain⟨u,f,e⟩:=iM e;obtain⟨g,e⟩:=jo e;obtain⟨rfl,rfl⟩:=sd e;refine⟨o,T,os,d,E,h1,λx s t B=>?_⟩;have r:=vh f B.len λj r v a b=>B.rep E a b;exact⟨by rw[r.length];exact g,λp i=>(B.done k).lst i r⟩
def Q0{g:List D}{f:List V}{d:D}(h:(A2 g)=A2 f)(hd:g=[d]):∃v,f=[v]:=by
 subst hd
 cases f with
 |nil=>simp at h
 |cons v r=>
  cases r with
  |nil=>exact⟨v,rfl⟩
  |cons _ _=>simp at h
noncomputable def g1(g:D->Option (D×Bool)):List D->Option (D×Bool)
 |[d]=>g d
 |_=>U
noncomputable def g2(g:D->D->Option (D×Bool)):List D->Option (D×Bool)
 |[d,e]=>g d e
 |_=>U
def nU{f:iQ}{g:D->Option (D×Bool)}(h:∀(i:jG)(s:iN)(j:L2.St)(T:Hp)(x:V)(u:iQ)(Q:VK)(O:B2)(d:D)(z:D×Bool),Inv X i j T s->RelV x u->(∀p,¬Ow (T p)->¬O p)->kg X.K T O d x->g d=Y z->Gen X.K T O z Q->
  ae (af X.prog X.w) X.A (call f [u]) (EP X i j Q) X.xe s):kH X f (GL X.K<|g1 g):=by
 intro i s j T xs y Q N r q;obtain⟨O,l,z,np,o,hv,k,G⟩:=q
 match l,k with
 |[d],k=>obtain⟨v,rfl⟩:=Q0 o I;obtain⟨u,rfl,t⟩:=qm r;exact h i s j T v u Q O d z N t np (hv 0 d v I I) k G
def OQ{f:iQ}{g:D->D->Option (D×Bool)}(h:∀(i:jG)(s:iN)(k:L2.St)(T:Hp)(x y:V)(j:jN)(Q:VK)(O:B2)(d e:D)(z:D×Bool),Inv X i k T s->Vals [x,y] j->(∀p,¬Ow (T p)->¬O p)->kg X.K T O d x->kg X.K T O e y->g d e=Y z->Gen X.K T O z Q->
  ae (af X.prog X.w) X.A (call f j) (EP X i k Q) X.xe s):kH X f (GL X.K<|g2 g):=by
 intro i s k T u j Q N r t;obtain⟨O,o,z,np,q,hv,l,G⟩:=t;rcases o with _|⟨d,_|⟨e,_|⟨_,_⟩⟩⟩<;>try cases l
 rcases u with _|⟨x,_|⟨y,_|⟨_,_⟩⟩⟩<;>try cases q
 exact h i s k T x y j Q O d e z N r np (hv 0 d x I I) (hv 1 e y I I) l G
noncomputable def Bj:D->Option (D×Bool)
 |.tup l=>Y (.int<|A2 l,C)
 |.lst l=>Y (.int<|A2 l,C)
 |_=>U
def aej:kH X (.builtin "len") (GL X.K<|g1 Bj):=nU λf s j T x u Q O d z N i np hd g G=>by
 cases d with
 |tup l=>
  cases g;obtain⟨p,h,rfl,q,r⟩:=lr hd;refine wU f s j T [_] [u] Q N (.cons i .nil) ⟨p,h,rfl,.inr q,?_⟩;rw[r.length];exact G.int
 |lst l=>
  cases g;obtain⟨p,h,rfl,q,r⟩:=kU hd;refine wU f s j T [_] [u] Q N (.cons i .nil) ⟨p,h,rfl,.inl q,?_⟩;rw[r.length];exact G.int
 |_=>cases g
noncomputable def Ao:D->Option (D×Bool)
 |.int i=>Y (.int (if i<0 then -i else i),C)
 |_=>U
def adT:kH X (.builtin "abs") (GL X.K<|g1 Ao):=nU λf s j T x u Q O d z N h np hd g G=>by
 cases d with
 |int i=>cases g;exact OR f s j T [x] [u] Q N (.cons h .nil) ⟨i,by rw[jB hd],G.int⟩
 |_=>cases g
noncomputable def Kd:D->Option (D×Bool)
 |.int i=>Y (.int i,C)
 |.bl b=>Y (.int (if b then 1 else 0),C)
 |_=>U
def aek:kH X (.type "int") (GL X.K<|g1 Kd):=nU λf s j T x u Q O d z N h np hd g G=>by
 cases d with
 |int i=>cases g;exact Ci f s j T [x] [u] Q N (.cons h .nil)<|.inl ⟨i,by rw[jB hd],G.int⟩
 |bl i=>
  cases g;refine Ci f s j T [x] [u] Q N (.cons h .nil)<|.inr ⟨i,by rw[Dc hd],?_⟩;have:=G.int;cases i<;>exact this
 |_=>cases g
noncomputable def pk:D->Option (D×Bool)
 |.tup l=>Y (.tup l,C)
 |.lst l=>Y (.tup l,C)
 |_=>U
def ack:kH X (.type "tuple") (GL X.K<|g1 pk):=nU λf s o T x u Q O d z N k np hd g G=>by
 cases d with
 |tup l=>
  cases g;have j:Rep X.K T O (.tup l) x:=hd.elim id λ⟨_,_,z⟩=>z.elim;obtain⟨p,h,rfl,q,r⟩:=j.tup;exact uK f s o T [_] [u] Q N (.cons k .nil) ⟨p,h,rfl,.inr ⟨q.sq,G _ T (λ_ _ e=>e) j⟩⟩
 |lst l=>
  cases g;obtain⟨p,h,rfl,q,r⟩:=kU hd;exact uK f s o T [_] [u] Q N (.cons k .nil) ⟨p,h,rfl,.inl ⟨q,λt i=>G.tup i (np t<|Mb i) r⟩⟩
 |_=>cases g
noncomputable def Am:D->Option (D×Bool)
 |.tup l=>Y (.lst l,J)
 |.lst l=>Y (.lst l,J)
 |_=>U
def acX:kH X (.type "list") (GL X.K<|g1 Am):=nU λf s k T x u Q O d z N j np hd g G=>by
 cases d with
 |tup l=>
  cases g;obtain⟨p,i,rfl,q,r⟩:=lr hd;exact wR f s k T [_] [u] Q N (.cons j .nil) ⟨p,i,rfl,.inr q,λt h=>G.lst h r⟩
 |lst l=>
  cases g;obtain⟨p,i,rfl,q,r⟩:=kU hd;exact wR f s k T [_] [u] Q N (.cons j .nil) ⟨p,i,rfl,.inl q,λt h=>G.lst h r⟩
 |_=>cases g
end
abbrev FT:=Dn->Option (Bool×Dn)
inductive tT(K:jl)(f:FT)(σ:L2.St)(H:Hp)(Q:Bool->Hp->Prop):Prop where
 |mk (δ:Dn) (T:B2) (b:Bool) (δ':Dn) (_:ER K H T σ δ) (_:f δ=A9 (b,δ')) (_:∀H',Bo σ δ H δ' H'->ER K H' T σ δ'->Q b H')
def Nb(X:Cx)(e:iT)(f:FT):Prop:=PT X e<|tT X.K f
def PWX(X:Cx)(e:iT)(f:FT):Prop:=PW X e<|tT X.K f
noncomputable def Kc:(D×Bool)×Dn->Option (Bool×Dn)
 |((.bl b,_),a)=>Y (b,a)
 |_=>U
def fT(f:F):FT:=λδ=>(f δ).bind Kc
def AU(h:Kc p=Y q):∃o,p=((.bl q.1,o),q.2):=by
 obtain⟨⟨d,o⟩,a⟩:=p
 cases d with
 |bl b=>cases h;exact⟨o,rfl⟩
 |_=>cases h
def Sq{K:jl}{f:F}{a:L2.St}{O:Hp}{Q:Bool->Hp->Prop}(h:tT K (fT f) a O Q):tF K f a O λx i=>∃c,x=.bl c/\Q c i:=by obtain⟨l,T,b,m,E,e,k⟩:=h;obtain⟨p,h1,j⟩:=iM e;obtain⟨o,rfl⟩:=AU j;refine⟨l,T,_,_,E,h1,λv g P=>?_⟩;obtain⟨d,r⟩:=P.rep E;exact⟨b,r.bl,k g P.1 d⟩
section
variable {X:Cx}{e a b c:iT}{w:ky}{i fb:FO}{f g:F}{n m:FT}{l:bu}
def PT.imp'(h:PT X e t)(k:∀j T Q,p j T Q->t j T Q):PT X e p:=λd s j T Q O o=>h d s j T Q O<|k j T Q o
def PW.imp'(h:PW X e t)(k:∀j T Q,p j T Q->t j T Q):PW X e p:=λwh d s j T Q O o=>h wh d s j T Q O<|k j T Q o
def QZ{r:R2}{g:D->D->Option (D×Bool)}(J:V3 X.K r g){t:L2.St}{H:Hp}{Q:VK}(M:tF X.K (jf g i fb) t H Q):Kn r (tO X.K i) (tO X.K fb) t H Q:=by obtain⟨U,T,P,Y,E,e,k⟩:=M;obtain⟨o,d,h1,e⟩:=iR e;obtain⟨N,q,C,e⟩:=iR e;obtain⟨x,I,e⟩:=iM e;obtain⟨y,L,e⟩:=iM e;obtain⟨z,O,e⟩:=iM e;obtain⟨rfl,rfl⟩:=jn e;refine⟨U,T,o,d,E,h1,λv F h=>⟨d,Bu T o v,N,q,h.er E,C,λu A s=>?_⟩⟩;have B:=Ops.cons E h<|Ops.cons (h.er E) s<|Ops.nil<|s.er<|h.er E;exact J x y z v u A _ Q (λp G=>B.np G) (B.view (j:=0) AM AM I) (B.view (j:=1) AM AM L) O (B.done k)
def XU{K:jl}{g:D->D->Option (D×Bool)}:V3 K (rD K g) g:=λx y z v u T O Q np h j d G=>⟨O,x,y,z,np,h,j,d,G⟩
noncomputable def Fb(f g:FT):FT:=λd=>(f d).bind λp=>if p.1=J then g p.2 else Y (C,p.2)
noncomputable def E9(f g:FT):FT:=λd=>(f d).bind λp=>if p.1=J then Y (J,p.2)else g p.2
noncomputable def uI(f:FT):FT:=λδ=>(f δ).bind λp=>Y (!p.1,p.2)
def xX(f g:F):F:=λd=>(f d).bind λp=>(Kc p).bind λq=>if q.1=J then g q.2 else Y ((.bl C,C),q.2)
def VG(f:F):F:=λd=>(f d).bind λp=>(Kc p).bind λq=>Y ((.bl (!q.1),C),q.2)
def Bk.pre{K:jl}{T:B2}{h:L2.St}{δ δ1 δ2:Dn}{Q j q:Hp}{r:D×Bool}{v:V}(k:Bo h δ Q δ1 j)(P:Bk K T h δ1 j r δ2 v q):Bk K T h δ Q r δ2 v q:=by
 refine⟨k.trans P.1,?_⟩;obtain⟨d,o⟩:=r
 cases o
 .exact P.2
 obtain⟨p,h1,s,t⟩:=P.2;refine⟨p,h1,?_,t⟩
 cases u:Q p with
 |none=>rfl
 |some x=>exact absurd s<|k.dm p (by rw[u];simp)
noncomputable def M5(t:FT)(f g:F):F:=λd=>(t d).bind λp=>if p.1=J then f p.2 else g p.2
end
inductive Out where
 |nx(δ:Dn)|rt(r:D×Bool)(δ:Dn)|bk(δ:Dn)|ct(δ:Dn)
abbrev FS:=Dn->Option Out
structure SK(A:kN)(σ:L2.St)(δ:Dn)(H:Hp)(σ':L2.St)(δ':Dn)(H':Hp):Prop where
 kp:∀a o,H a=A9 o->¬Aa σ δ a->H' a=A9 o
 owi:∀i a,Bf σ' δ' i a->Bf σ δ i a\/H a=AR\/(A i/\∃j,A j/\Bf σ δ j a)
 dm:∀a,H a≠AR->H' a≠AR
 as:∀i,¬A i->σ'[i]?=σ[i]?
structure LL where
 p:Nat->Prop
 st:Option L2.St
structure FI(A:kN)(L:LL)(H0:Hp)(σ:L2.St)(δ:Dn)(H:Hp):Prop where
 ow:∀i a,Bf σ δ i a->L.p i\/H0 a=AR
 dm:∀a,H0 a≠AR->H a≠AR
 al:∀j,A j->¬L.p j
 gh:∀z,L.st=A9 z->∀i,¬A i->σ[i]?=z[i]?
def RV(K:jl)(T:B2)(f:Hp)(r:D×Bool)(c:L2.St)(b:Dn)(v:V)(e:Hp):Prop:=
 match r with
 |(d,C)=>ER K e T c b/\Rep K e (λa=>Aa c b a\/T a) d v
 |(d,J)=>∃p,v=.ref p/\f p=U/\ER K e (λa=>T a\/a=p) c b/\DG K e (λa=>Aa c b a\/T a\/a=p) d p
section
variable {A:kN}{c b m:L2.St}{δ δ1 δ2:Dn}{H l g q:Hp}{L:LL}{K:jl}{T:B2}
def SK.refl:SK A c δ H c δ H:=⟨λ_ _ e _=>e,λ_ _ z=>.inl z,λ_ z=>z,λ_ _=>rfl⟩
def SK.ow(k:SK A c δ H b δ1 g)(a:iJ)(h:Aa b δ1 a):Aa c δ a\/H a=U:=by
 obtain⟨i,d,h1,o⟩:=h;rcases k.owi i a ⟨d,h1,o⟩with⟨e,f,n⟩|z|⟨_,j,_,e,f,n⟩
 .exact .inl ⟨i,e,f,n⟩
 .exact .inr z
 exact .inl ⟨j,e,f,n⟩
def SK.trans(x:SK A c δ H b δ1 g)(y:SK A b δ1 g m δ2 q):SK A c δ H m δ2 q where
 kp:=λa o e n=>y.kp a o (x.kp a o e n) λz=>(x.ow a z).elim n λz=>by rw[z]at e;cases e
 owi:=λi a z=>(y.owi i a z).elim (x.owi i a) λz=>z.elim (λz=>.inr (.inl (by
  cases h:H a with
  |none=>rfl
  |some o=>exact absurd z<|x.dm a<|by rw[h];simp))) λ⟨d,j,f,z⟩=>(x.owi j a z).elim (λz=>.inr (.inr ⟨d,j,f,z⟩)) λz=>z.elim (λz=>.inr (.inl z)) λ⟨_,k,ak,z⟩=>.inr (.inr ⟨d,k,ak,z⟩)
 dm:=λa z=>y.dm a<|x.dm a z
 as:=λi h=>(y.as i h).trans<|x.as i h
def Bo.sk(k:Bo c δ H δ1 g):SK A c δ H c δ1 g:=⟨k.kp,λi a z=>.inl (k.owi i a z),k.dm,λ_ _=>rfl⟩
def FI.step(f:FI A L l c δ H)(k:SK A c δ H b δ1 g):FI A L l b δ1 g where
 ow:=λi a z=>(k.owi i a z).elim (f.ow i a) λz=>.inr (z.elim (λz=>by
  cases h:l a with
  |none=>rfl
  |some o=>exact absurd z<|f.dm a<|by rw[h];simp) λQ=>by obtain⟨_,j,d,z⟩:=Q;exact (f.ow j a z).resolve_left<|f.al j d)
 dm:=λa z=>k.dm a<|f.dm a z
 al:=f.al
 gh:=λz e i n=>(k.as i n).trans<|f.gh z e i n
def FI.fresh(f:FI A L l c δ H)(a:H p=U):l p=U:=by
 cases h:l p with
 |none=>rfl
 |some o=>exact absurd a<|f.dm p (by rw[h];simp)
end
def V5(K:jl)(A:kN)(f:Hp)(D:Ends)(e:L2.St)(d:Dn)(Q:Hp)(T:B2)(out:Out):Prop:=
 match out with
 |.nx b=>∀a c,SK A e d Q a b c->ER K c T a b->D.nx a c
 |.bk b=>∀a c,SK A e d Q a b c->ER K c T a b->D.bk a c
 |.ct b=>∀a c,SK A e d Q a b c->ER K c T a b->D.ct a c
 |.rt r b=>∀v a c,SK A e d Q a b c->RV K T f r a b v c->D.rt v c
inductive tS(K:jl)(A:kN)(L:LL)(H0:Hp)(f:FS)(D:Ends)(σ:L2.St)(H:Hp):Prop where
 |mk (δ:Dn) (T:B2) (out:Out) (_:ER K H T σ δ) (_:FI A L H0 σ δ H) (_:f δ=A9 out) (_:V5 K A H0 D σ δ H T out)
def MJ(X:Cx)(A:kN)(L:LL)(a:Hp)(st:bn)(f:FS):Prop:=PS X st<|tS X.K A L a f
def Ft(X:Cx)(A:kN)(L:LL)(a:Hp)(st:List bn)(f:FS):Prop:=Ha X st<|tS X.K A L a f
noncomputable def jt:FS:=λδ=>Y<|.nx δ
noncomputable def iW(f g:FS):FS:=λδ=>(f δ).bind λo=>match o with
 |.nx δ1=>g δ1
 |o=>Y o
noncomputable def nC(f:F):FS:=λa=>(f a).bind λp=>Y<|.nx p.2
noncomputable def lA(f:F):FS:=λδ=>(f δ).bind λp=>Y<|.rt p.1 p.2
noncomputable def pT(i:Nat):FS:=λa=>match a[i]? with
 |some (Y (d,J))=>Y<|.rt (d,J)<|a.set i U
 |some (Y (d,C))=>Y<|.rt (d,C) a
 |_=>U
noncomputable def EJ(t:FT)(f g:FS):FS:=λδ=>(t δ).bind λp=>if p.1=J then f p.2 else g p.2
noncomputable def kn(i:Nat)(f:F):FS:=λa=>(f a).bind λp=>if i<(A2 p.2)then Y (.nx<|p.2.set i<|Y p.1)else U
section
variable {X:Cx}{A:kN}{L:LL}{d:Hp}{st:bn}{J5:List bn}{f g:FS}{l:F}{j:FT}{e c:iT}{i:bu}
def PS.imp'(h:PS X st t)(k:∀D b T,n D b T->t D b T):PS X st n:=λa s b T D Q m=>h a s b T D Q<|k D b T m
def Ha.imp'(h:Ha X J5 t)(k:∀D b T,n D b T->t D b T):Ha X J5 n:=λa s b T D Q m=>h a s b T D Q<|k D b T m
def UH(O:Nb X c j)(N:Ft X A L d a f)(I:Ft X A L d b g):MJ X A L d (.If c a b i) (EJ j f g):=PS.imp' (SM O N I) λD u M G=>by
 obtain⟨x,T,out,E,B,e,k⟩:=G;obtain⟨c,n,h1,e⟩:=iR e;refine⟨x,T,c,n,E,h1,λw z y=>?_⟩;have t:SK A u x M u n w:=z.sk
 have fin:∀(h:FS),h n=Y out->tS X.K A L d h D u w:=λh Q=>by
  refine⟨n,T,out,y,B.step t,Q,?_⟩
  cases out with
  |nx q=>exact λm o p s=>k m o (t.trans p) s
  |bk q=>exact λm o p s=>k m o (t.trans p) s
  |ct q=>exact λm o p s=>k m o (t.trans p) s
  |rt r q=>exact λv m o p R2=>k v m o (t.trans p) R2
 cases c with
 |true=>rw[jb AM]at e;exact(show(if J=J then tS X.K A L d f D u w else _)from by rw[jb AM];exact fin f e)
 |false=>rw[jr lG]at e;exact(show(if C=J then _ else tS X.K A L d g D u w)from by rw[jr lG];exact fin g e)
end
def nE{b:Type}{l:List b}{i j:Nat}{x y:b}(h:(l.set i x)[j]?=Y y):(i=j/\i<A2 l/\y=x)\/(i≠j/\l[j]?=Y y):=by
 rw[zk]at h;split at h
 .rename_i a;split at h
  .rename_i c;exact .inl ⟨a,c,(kT h).symm⟩
  cases h
 rename_i a;exact .inr ⟨a,h⟩
section
variable {K:jl}{T:B2}{f:L2.St}{l c:Dn}{H g:Hp}{x:D×Bool}{v:V}{i:Nat}
def Bf.store{j:Nat}{a:iJ}(h:Bf (f.set i<|Y v) (l.set i<|Y x) j a):(i≠j/\Bf f l j a)\/(i=j/\x.2=J/\v=.ref a):=by
 obtain⟨d,h1,m⟩:=h;rcases nE h1 with⟨e,_,q⟩|⟨ne,q⟩
 .rcases nE m with⟨_,_,k⟩|⟨b,_⟩
  .right;cases q;exact⟨e,rfl,(kT k).symm⟩
  exact absurd e b
 rcases nE m with⟨n,_,_⟩|⟨_,k⟩
 .exact absurd n ne
 exact .inl ⟨ne,d,q,k⟩
def Aa.store(h:Aa (f.set i<|Y v) (l.set i<|Y x) a):Aa f l a\/(x.2=J/\v=.ref a):=by
 obtain⟨j,d,h1,k⟩:=h;rcases Bf.store ⟨d,h1,k⟩with⟨_,e,b,m⟩|⟨_,b⟩
 .exact .inl ⟨j,e,b,m⟩
 exact .inr b
def ER.store(h:ER K g (Kf T x v) f c)(E:i<A2 c)(u:match x with|(d,C)=>Rep K g (λa=>Aa f c a\/T a) d v|(d,J)=>∃p,v=.ref p/\¬T p/\DG K g (λa=>Aa f c a\/T a\/a=p) d p):
  ER K g T (f.set i<|Y v) (c.set i<|Y x):=by
 have r:i<(A2 f):=by rw[h.len];exact E
 have sub:∀b,g b≠U->(Aa (f.set i<|Y v) (c.set i<|Y x) b\/T b)->(Aa f c b\/Kf T x v b):=λb _ z=>by
  rcases z with z|z
  .rcases z.store with z|z
   .exact .inl z
   exact .inr (.inr z)
  exact .inr (.inl z)
 refine⟨by rw[sJ,sJ];exact h.len,λj d o=>?_,λj d o=>?_,λj k d e a o hk h1 n=>?_,λa z=>?_,λa z=>h.dom a<|.inl z⟩
 .rcases nE o with⟨rfl,_,q⟩|⟨ne,q⟩
  .have q:=kT q;subst q
   exact⟨v,oo r,Rep.mono (λ_ _ e _=>e) (λb Q z=>by
    rcases z with z|z
    .rcases z.store with z|z
     .exact .inl z
     exact absurd z.1 (by simp)
    exact .inr z) u⟩
  obtain⟨w,h1,n⟩:=h.val j d q;exact⟨w,by rw[om ne];exact h1,Rep.mono (λ_ _ e _=>e) sub n⟩
 .rcases nE o with⟨rfl,_,q⟩|⟨ne,q⟩
  .have q:=kT q;subst q;obtain⟨p,rfl,np,ok⟩:=u;refine⟨p,oo r,ok.mono (λ_ _ e _=>e) (λb Q z=>?_) λ_ e=>e⟩;rcases z with z|z
   .rcases z.store with z|z
    .exact .inl z
    have:=z.2;cases this;exact .inr<|.inr I
   exact .inr (.inl z)
  obtain⟨a,h1,n⟩:=h.own j d q;exact⟨a,by rw[om ne];exact h1,n.mono (λ_ _ e _=>e) sub λ_ e=>e⟩
 .rcases Bf.store ⟨d,o,h1⟩with⟨L,y,g1,g2⟩|⟨B,g1,g2⟩
  .rcases Bf.store ⟨e,hk,n⟩with⟨O,s,g3,m⟩|⟨A,g3,m⟩
   .exact h.inj j k y s a g1 g3 g2 m
   exact absurd (bL ⟨g3,m⟩) (h.nT a ⟨j,y,g1,g2⟩)
  rcases Bf.store ⟨e,hk,n⟩with⟨O,s,g3,m⟩|⟨A,g3,m⟩
  .exact absurd (bL ⟨g1,g2⟩) (h.nT a ⟨k,s,g3,m⟩)
  exact B.symm.trans A
 rcases z.store with z|z
 .exact λt=>h.nT a z<|.inl t
 obtain⟨d,b⟩:=x
 cases b
 .exact absurd z.1 (by simp)
 obtain⟨p,rfl,np,_⟩:=u;have:=z.2;cases this;exact np
def SK.store(k:Bo f l H c g)(b:A i)(h:x.2=J->∀p,v=.ref p->H p=U):SK A f l H (f.set i<|Y v) (c.set i<|Y x) g where
 kp:=k.kp
 owi:=λj a z=>by
  rcases z.store with⟨_,z⟩|⟨_,m,n⟩
  .exact .inl (k.owi j a z)
  exact .inr (.inl<|h m a n)
 dm:=k.dm
 as:=λj d=>om λ(e:i=j)=>d (by subst e;exact b)
end
section
variable {X:Cx}{A:kN}{L:LL}{g:Hp}{f:F}{e c:iT}{b a:bu}
def zG{K:jl}{T:B2}{k:L2.St}{n j:Dn}{Q l:Hp}{r:D×Bool}{v:V}{i:Nat}(E:ER K Q T k n)(P:Bk K T k n Q r j v l)(u:i<A2 j)(t:A i):
  SK A k n Q (k.set i<|Y v) (j.set i<|Y r) l/\ER K l T (k.set i<|Y v) (j.set i<|Y r):=by
 have w:r.2=J->∀p,v=.ref p->Q p=U:=λh p hv=>by
  obtain⟨d,o⟩:=r
  cases o
  .cases h
  obtain⟨q,h1,m,_⟩:=P.2;rw[hv]at h1;cases h1;exact m
 refine⟨SK.store P.1 t w,ER.store (P.er E) u ?_⟩;obtain⟨d,o⟩:=r
 cases o
 .exact P.2.2
 obtain⟨p,rfl,m,x,s⟩:=P.2;exact⟨p,rfl,λz=>(E.dom p z).ne m,s⟩
end
abbrev Tg:=D->Dn->Option Dn
inductive tG(K:jl)(A:kN)(tg:Tg)(v:V)(σ:L2.St)(hp:Hp)(Q:L2.St->Hp->Prop):Prop where
 |mk (δ:Dn) (T:B2) (d:D) (δ':Dn) (_:ER K hp T σ δ) (_:Rep K hp (λa=>Aa σ δ a\/T a) d v) (_:tg d δ=A9 δ') (_:∀σ',SK A σ δ hp σ' δ' hp->ER K hp T σ' δ'->Q σ' hp)
def KC(X:Cx)(A:kN)(e:iT)(a:Tg):Prop:=PG X e<|tG X.K A a
noncomputable def iP(i:Nat):Tg:=λd δ=>if i<(A2 δ)then Y (δ.set i<|Y (d,C))else U
noncomputable def HL:List Tg->List D->Dn->Option Dn
 |[],[],a=>Y a
 |t::b,d::ds,a=>(t d a).bind<|HL b ds
 |_,_,_=>U
def BD(a:List Tg):Tg
 |.tup ds,δ=>HL a ds δ
 |_,_=>U
inductive NH(K:jl)(A:kN)(ts:List Tg)(vs:List V)(σ:L2.St)(hp:Hp)(Q:L2.St->Hp->Prop):Prop where
 |mk (δ:Dn) (T:B2) (ds:List D) (δ':Dn) (_:ER K hp T σ δ) (_:AG K hp (λa=>Aa σ δ a\/T a) ds vs) (_:HL ts ds δ=A9 δ') (_:∀σ',SK A σ δ hp σ' δ' hp->ER K hp T σ' δ'->Q σ' hp)
section
variable {X:Cx}{A:kN}{g:bu}{e:iT}{f:ky}{t:Tg}{c:List Tg}
def PG.imp'{t d:TG}(h:PG X e t)(k:∀v b T Q,d v b T Q->t v b T Q):PG X e d:=λa s b T v u Q O r i=>h a s b T v u Q O r<|k v b T Q i
def JO.imp'{t d:Ki}(h:JO X f t)(k:∀v b T Q,d v b T Q->t v b T Q):JO X f d:=λa s b T v u Q O r i=>h a s b T v u Q O r<|k v b T Q i
def aes:JO X [] (NH X.K A []):=JO.imp' Qs λv h O Q b=>by
 obtain⟨i,T,a,d,E,r,e,k⟩:=b
 cases a with
 |nil=>
  cases e;rw[AG]at r;exact⟨r,k h .refl E⟩
 |cons _ _=>cases e
def BJ(h1:KC X A e t)(p:JO X f (NH X.K A c))(u:(aX (e::f) X.env).map (·.2)=cz e X.env::(aX f X.env).map (·.2)):JO X (e::f) (NH X.K A (t::c)):=JO.imp' (aet h1 p u) λv O M Q w=>by
 obtain⟨G,T,h,i,E,r,e,k⟩:=w
 cases h with
 |nil=>cases e
 |cons d h=>rw[AG]at r;obtain⟨B,N,rfl,x,y⟩:=r;obtain⟨a,q,e⟩:=iM e;refine⟨B,N,rfl,G,T,d,a,E,x,q,λL l m=>⟨a,T,h,i,m,?_,e,λj o n=>k j (l.trans o) n⟩⟩;exact AG.mono (λ_ _ e _=>e) (λb s z=>z.elim (λz=>(l.ow b z).elim bH λz=>absurd z s) bL) y
def Qr{k:Nat}(o:X.calm=J)(h:JO X f (NH X.K A c)){n:Nat}(s:(aX f X.env).length=n)(p:c.length=n)(x:(aX f X.env).findIdx? (·.1)=U):KC X A (.Tuple f k g) (BD c):=PG.imp' (UN o h s x) λv z O Q u=>by
 obtain⟨i,T,d,j,E,r,e,k⟩:=u
 cases d with
 |tup b=>
  obtain⟨a,y,rfl,q,m⟩:=r.tup;refine⟨a,y,rfl,q.sq,?_,i,T,b,j,E,m,e,k⟩
  have:∀(c:List Tg)(b:List D)(i:Dn),HL c b i=Y j->b.length=c.length:=by
   intro c
   induction c with
   |nil=>intro b i h;cases b with|nil=>rfl|cons _ _=>cases h
   |cons t c w=>
    intro b i h
    cases b with
    |nil=>cases h
    |cons d b=>obtain⟨l,_,h⟩:=iM h;simp[w b l h]
  rw[m.length,this c b i e,p]
 |_=>cases e
end
abbrev SB:=Nat->Prop
def KD(B:SB)(T:B2)(c:L2.St)(b:Dn):B2:=λa=>(∃i,¬B i/\Bf c b i a)\/T a
def KD.own(h:KD B T σ δ a):Aa σ δ a\/T a:=h.imp (λQ=>by obtain⟨i,_,d,h1,b⟩:=Q;exact ⟨i,d,h1,b⟩) id
structure JP(K:jl)(J:It)(ds:List D)(P O:B2)(H1:Hp):Prop where
 go:∀(i:Nat) d Hi,ds[i]?=A9 d->(∀a o,H1 a=A9 o->¬P a->Hi a=A9 o)->J.go i Hi/\∀x H',J.yld i Hi x H'->(∀a o,Hi a=A9 o->H' a=A9 o)/\
  ∀O':B2,(∀b,H1 b≠AR->O' b->O b)->(∀b,Hi b=AR->¬O' b)->Rep K H' O' d x
 stop:∀(i:Nat) Hi,A2 ds<=i->(∀a o,H1 a=A9 o->¬P a->Hi a=A9 o)->J.stop i Hi
abbrev Dr:=Dn->Option (List D×Dn)
def tI(K:jl)(B:SB)(g:Dr):TI:=λc Q R=>∃e T f b,ER K Q T c e/\g e=Y (f,b)/\∀O d,Bo c e Q b d->ER K d T c b->JP K O f (KD B T c b) (λa=>Aa c b a\/T a) d->R O d
def Ju(X:Cx)(B:SB)(tg iter:iT)(a:Dr):Prop:=PI X tg iter<|tI X.K B a
noncomputable def zK:D->Option (List D)
 |.tup l=>Y l
 |.lst l=>Y l
 |_=>U
def Ai(f:FO):Dr:=λa=>(f a).bind λp=>(res p.2 p.1).bind λd=>(zK d).bind λl=>Y (l,p.2)
noncomputable def kG(f:F):Dr:=λδ=>(f δ).bind λp=>match p.1.1 with
 |.lst l=>Y (l,p.2)
 |.tup l=>Y (l,p.2)
 |_=>U
noncomputable def jA(lo:Int)(n:Nat):List D:=(am n).map λ(k:Nat)=>.int (lo+k)
def vB(f:FO):Dr:=λδ=>(kj [f] δ).bind λp=>match vp p.2 p.1 with
 |some [.int j]=>if -(2^62)<=j/\j<2^62 then Y (jA 0 j.toNat,p.2)else U
 |_=>U
def N1(B:SB)(f:FO):Prop:= ∀b i a,f b=Y (.slot i,a)->B i
def PU:N1 B (iX f):=λb i a h=>by obtain⟨p,_,h⟩:=iM h;cases h
def Dk(h:B i):N1 B (iK i):=λb j a e=>by
 unfold iK at e;split at e<;>cases e
 exact h
noncomputable def Mm:D->Bool
 |.lst _=>J
 |_=>C
def Hg(b:Bool)(K:jl)(T:Hp)(P:B2)(a:iJ)(c:List V):Prop:=if b=J then GX K T P a c else GW K T P a c
def Hg.mono{K T c}{P P':B2}(q:Hg b K T P a xs)(k:∀b o,T b=Y o->¬P b->c b=Y o)(d:∀b,P' b->P b):Hg b K c P' a xs:=by
 cases b
 .exact GW.mono (K:=K) q k λb _=>d b
 exact GX.mono q k λb _=>d b
def Hg.l{K T}(q:Hg J K T P a xs):Fd K T a xs:=GX.sq q
def Hg.t{K T}(q:Hg C K T P a xs):Gz K T a xs:=GW.sq (K:=K) q
def BH{K T}(h:zK d=Y l)(r:Rep K T O d v):∃a b,v=.ref a/\Hg (Mm d) K T O a b/\AG K T O l b:=by
 cases d with
 |tup m=>cases h;obtain⟨a,b,rfl,q,c⟩:=r.tup;exact⟨a,b,rfl,q,c⟩
 |lst m=>cases h;obtain⟨a,b,rfl,q,c⟩:=r.lst;exact⟨a,b,rfl,q,c⟩
 |_=>cases h
def Ops.seq{K:jl}{T N:B2}{h:L2.St}{A c:Dn}{M n:Hp}{os:List Bq}{y:List V}(E:ER K M T h A)(W:Ops K T h A M os y c n N){j:Nat}(h1:os[j]?=Y o)(x:y[j]?=Y v)(s:res c o=Y d)(t:zK d=Y l)(L:∀i,o=.slot i->B i):
  ∃a g,v=.ref a/\Hg (Mm d) K n (KD B T h c) a g/\AG K n (λa=>Aa h c a\/T a) l g:=by
 have fin:Rep K n (λa=>Aa h c a\/T a) d v->∃a g,v=.ref a/\Hg (Mm d) K n (KD B T h c) a g/\AG K n (λa=>Aa h c a\/T a) l g:=λr=>by obtain⟨a,g,rfl,q,u⟩:=BH t r;exact⟨a,g,rfl,q.mono (λ_ _ e _=>e) λa z=>z.own,u⟩
 cases o with
 |val r=>cases s;exact fin<|W.rep E h1 x
 |slot i=>
  have hk:=W.slt j i _ h1 x
  have hd:∃f,c[i]?=Y (Y (d,f)):=by
   unfold res at s;dsimp only at s;split at s<;>cases s
   exact⟨_,by assumption⟩
  obtain⟨f,hd⟩:=hd
  cases f
  .obtain⟨w,p,G⟩:=W.er.val i _ hd;rw[hk]at p;cases p;exact fin<|Rep.mono (λ_ _ e _=>e) (λb _ z=>z.imp id<|W.tt b) G
  obtain⟨a,p,ok⟩:=W.er.own i _ hd;rw[hk]at p;cases p
  cases d with
  |lst m=>
   cases t;obtain⟨g,e,u⟩:=ok;exact⟨a,g,rfl,.inl ⟨.inl e,λz=>z.elim (λa'=>by obtain⟨k,O,Q,g1,g2⟩:=a';exact O<|W.er.inj i k _ _ a hd g1 hk g2▸L i I) λz=>W.er.nT a ⟨i,_,hd,hk⟩<|W.tt a z⟩,AG.mono (λ_ _ e _=>e) (λb _ z=>z.imp id<|W.tt b) u⟩
  |tup m=>exact ok.elim
  |_=>cases t
section
variable {X:Cx}{B:SB}{tg e:iT}{f:F}{c:FO}{g p:bu}
def PI.imp'(h:PI X tg e t)(k:∀b T R,i b T R->t b T R):PI X tg e i:=λa s b T R Q d=>h a s b T R Q<|k b T R d
def PI.or(h:PI X tg e t)(d:PI X tg e j):PI X tg e (λb T R=>t b T R\/j b T R):=λa s b T R Q i=>i.elim (h a s b T R Q)<|d a s b T R Q
def ItS(b:Bool)(K:jl)(a:iJ):It:=if b=J then Itl K a else Itt K a
def aeU{K:jl}{P O:B2}{m:Hp}{a:iJ}{k:List V}{l:List D}(q:Hg b K m P a k)(r:AG K m O l k)(v:∀a,P a->O a):JP K (ItS b K a) l P O m:=by
 cases b<;>(
  refine⟨λi d Hi hd j=>?_,λi Hi w j=>?_⟩
  .have h:=Hg.mono q j λ_ z=>z
   first|replace h:=h.l|replace h:=h.t
   obtain⟨x,u,A⟩:=r.get hd;refine⟨⟨k,x,h,u⟩,λy T s=>?_⟩;obtain⟨rfl,s⟩:=s;have:=s k h;rw[u]at this;cases this;exact⟨λ_ _ e=>e,λE h1 Q=>Rep.mono (λb o e n=>j b o e λz=>n<|v b z) h1 A⟩
  exact⟨k,by first|exact(Hg.mono q j λ_ z=>z).l|exact(Hg.mono q j λ_ z=>z).t,by rw[r.length];exact w⟩)
def Aj{K:jl}{P O:B2}{b:Hp}(lo:Int)(n:Nat):JP K (N7 lo n) (jA lo n) P O b:=by
 refine⟨λi d Hi hd j=>?_,λi Hi a j=>?_⟩
 .unfold jA at hd;rw[kS]at hd;obtain⟨k,h1,h⟩:=jz hd;have a:i<n:=by have:=(tM.mp h1).1;simpa using this
  have hk:k=i:=by rw[List.getElem?_range a]at h1;exact(kT h1).symm
  subst hk;refine⟨a,λy m l=>?_⟩;obtain⟨rfl,rfl⟩:=l;refine⟨λ_ _ e=>e,λo _ _=>?_⟩;rw[<-h];exact Rep.mkInt
 unfold jA at a;have:n<=i:=by simpa using a
 exact this
def EA(h:PO X e c)(N:N1 B c):Ju X B tg e (Ai c):=PI.imp' (PI.or (Qq (tg:=tg) h)<|UM h) λy M R L=>by
 obtain⟨w,T,G,Q,E,e,k⟩:=L;obtain⟨o,u,h1,e⟩:=iR e;obtain⟨d,A,e⟩:=iM e;obtain⟨l,x,e⟩:=iM e;obtain⟨rfl,rfl⟩:=jn e
 have key:∀v n,G4 X.K T y w M o u v n->∃a s,v=.ref a/\Hg (Mm d) X.K n (KD B T y u) a s/\R (ItS (Mm d) X.K a) n:=λv n P=>by have W:=Ops.cons E P<|Ops.nil<|P.er E;obtain⟨a,s,rfl,q,O⟩:=W.seq E (j:=0) AM AM A x λi I=>N _ _ _ (I▸h1);exact⟨a,s,rfl,q,k _ n W.keep (W.er.mono (λ_ _ e _=>e) (λb _ z=>W.tt b z) λa z=>W.er.dom a<|W.tt a z) (aeU q O λa z=>z.own)⟩
 cases d with
 |lst m=>exact .inl ⟨w,T,_,_,E,h1,λv n P=>let⟨a,s,e,q,r⟩:=key v n P;⟨a,e,⟨s,q.l⟩,r⟩⟩
 |tup m=>exact .inr ⟨w,T,_,_,E,h1,λv n P=>let⟨a,s,e,q,r⟩:=key v n P;⟨a,e,⟨s,q.t⟩,r⟩⟩
 |_=>cases x
end
noncomputable def mB(b:Tg)(fb:FS):List D->FS
 |[],δ=>Y<|.nx δ
 |d::ds,δ=>(b d δ).bind λδ1=>(fb δ1).bind λo=>match o with
  |.nx a=>mB b fb ds a
  |.ct a=>mB b fb ds a
  |.bk a=>Y<|.nx a
  |.rt r a=>Y<|.rt r a
def ny(a:Dr)(tg:Tg)(fb:FS):FS:=λδ=>(a δ).bind λp=>mB tg fb p.1 p.2
section
variable {X:Cx}{A:kN}{L:LL}{l:Hp}{g iter:iT}{c:List bn}{j:Dr}{t:Tg}{f:FS}{h:bu}
def Qn(hp:dN (af X.prog X.w) X.A X.env X.xe)(hc:X.calm=Ap)(hi:Ju X (λ_=>False) g iter j)(hg:KC X A g t)(G:Ft X A L l c f)(hs:∀x,ap iter X.env x=pure x):
  MJ X A L l (.For g iter c [] h) (ny j t f):=PS.imp' (MT hp hc hi hg G hs) λD M H hw=>by
 obtain⟨δ,T,out,E,iz,e,k⟩:=hw;obtain⟨u,q,h1,e⟩:=iR e;refine⟨δ,T,u,q,E,h1,λJ Y K1 E1 ok=>?_⟩;have S:SK A M δ H M q Y:=K1.sk;refine⟨λi m s C'=>m=A2 u-i/\i<=A2 u/\∃p,SK A M q Y s p C'/\ER X.K C' T s p/\mB t f (u.drop i) p=A9 out,⟨A2 u,by simp,mV _,q,.refl,E1,by simpa using e⟩,?_⟩;rintro i m O H2 ⟨rfl,hle,I',S2,N,e2⟩;have Z:∀a o,Y a=A9 o->¬KD (λ_=>False) T M q a->H2 a=A9 o:=λa o ea n=>S2.kp a o ea λ⟨i,d,z⟩=>n<|.inl ⟨i,id,d,z⟩;by_cases W:i<A2 u
 .refine .inr ?_;have hd:u[i]?=A9 u[i]:=jT W;obtain⟨go,yl⟩:=ok.go i _ H2 hd Z;rw[uW W]at e2;obtain⟨R,h3,e3⟩:=iM e2;obtain⟨o,h4,V⟩:=iM e3;refine⟨go,λs C'=>∃p,SK A M q Y s p C'/\ER X.K C' T s p/\mB t f (u.drop<|i+1) p=A9 out,λs C' ⟨p,q1,q2,q3⟩=>⟨A2 u-(i+1),by omega,rfl,W,p,q1,q2,q3⟩,λx C' hy=>?_⟩;obtain⟨ext,rep⟩:=yl x C' hy;have dh:ER X.K C' T O I':=N.mono (λb ob eb _=>ext b ob eb) (λ_ _ z=>z) λa z=>(N.dom a z).up<|ext a;have eL:SK A M q Y O I' C':=S2.trans (Bo.ext ext).sk;have rx:=rep (λa=>Aa O I' a\/T a) (λb G z=>z.elim (λz=>(S2.ow b z).elim bH λz=>absurd z G) bL) λb G z=>z.elim (λz=>N.GS z G) λz=>(N.dom b z).ne G;refine⟨I',T,u[i],R,dh,rx,h3,λσ3 S3 E3=>?_⟩;have P:=eL.trans S3;refine⟨R,T,o,E3,(iz.step S).step P,h4,?_⟩
  cases o with
  |nx y=>exact λB F Q U=>⟨y,P.trans Q,U,V⟩
  |ct y=>exact λB F Q U=>⟨y,P.trans Q,U,V⟩
  |bk y=>cases V;exact λB F Q U=>k B F (S.trans<|P.trans Q) U
  |rt r y=>cases V;exact λv B F Q R4=>k v B F (S.trans<|P.trans Q) R4
 refine .inl ⟨ok.stop i H2 (by omega) Z,?_⟩;rw[sG<|by omega]at e2;cases e2;exact k O H2 (S.trans S2) N
end
noncomputable def pz(c:FT)(b:FS):Nat->FS
 |0,_=>U
 |n+1,d=>(c d).bind λp=>if p.1=J then(b p.2).bind λo=>(match o with
   |.nx a=>pz c b n a
   |.ct a=>pz c b n a
   |.bk a=>Y<|.nx a
   |.rt r a=>Y<|.rt r a)else Y (.nx p.2)
def J6(f g:FO):Dr:=λδ=>(kj [f,g] δ).bind λp=>match vp p.2 p.1 with
 |some [.int i,.int j]=>if -(2^62)<=i/\i<2^62/\ -(2^62)<=j/\j<2^62 then Y (jA i (j-i).toNat,p.2)else U
 |_=>U
section
variable {X:Cx}{A:kN}{L:LL}{s:Hp}{B:SB}{t e c a b:iT}{d:List bn}{f:FT}{g:FS}{x u:FO}{l p:bu}
def adk{n:Nat}(hp:dN (af X.prog X.w) X.A X.env X.xe)(hc:Nb X c f)(hb:Ft X A L s d g):MJ X A L s (.While c d [] l) (pz f g n):=PS.imp' (aeA hp hc hb) λD F H hw=>by
 obtain⟨U,T,out,E,iz,e,k⟩:=hw;refine⟨λm i I=>∃h,SK A F U H i h I/\ER X.K I T i h/\pz f g m h=Y out,⟨n,U,.refl,E,e⟩,?_⟩;rintro m J' H2 ⟨Y',S2,E2,e2⟩
 cases m with
 |zero=>cases e2
 |succ m=>
  obtain⟨S,C,Z,M⟩:=iR e2;refine⟨Y',T,S,C,E2,Z,λR V P=>?_⟩;have O:SK A F U H J' C R:=S2.trans V.sk
  cases S with
  |false=>rw[jr lG]at M;cases M;exact Vm<|k J' R O P
  |true=>
   rw[jb AM]at M;obtain⟨o,h4,N⟩:=iM M;refine Vl ⟨λi I=>∃h,SK A F U H i h I/\ER X.K I T i h/\pz f g m h=Y out,λi I q=>⟨m,CU _,q⟩,C,T,o,P,iz.step O,h4,?_⟩
   cases o with
   |nx j=>exact λy G z Q=>⟨j,O.trans z,Q,N⟩
   |ct j=>exact λy G z Q=>⟨j,O.trans z,Q,N⟩
   |bk j=>cases N;exact λy G z Q=>k y G (O.trans z) Q
   |rt r j=>cases N;exact λv y G z W=>k v y G (O.trans z) W
def tP{K:jl}{T v:B2}{E:L2.St}{Q m:Dn}{O r:Hp}{os:List Bq}{k:List V}{n:List D}(B:Ops K T E Q O os k m r v)(h:vp m os=Y n){j:Nat}{i:Int}(hd:n[j]?=Y (.int i)):k[j]?=Y (.int i):=by
 obtain⟨h1,w⟩:=pe h;obtain⟨o,q,y⟩:=w j _ hd;have z:j<(A2 k):=by have:=(tM.mp q).1;have:=B.len;lia
 have hv:k[j]?=Y k[j]:=jT z;have:=jB<|B.view q hv y;rw[hv,this]
end
abbrev Bn:=List (D×Bool)->Option ((D×Bool)×Dn)
def J7(K:jl)(e:Bn):Sp:=λd O Q _=>∃T a r b,ER K O T (d.map Y) (a.map Y)/\e a=Y (r,b)/\∀v c,Bk K T (d.map Y) (a.map Y) O r b v c->Q v c
noncomputable def jD(args:List (D×Bool))(δ:Dn):Dn:=args.zipIdx.map λp=>if p.1.2=J then(δ[p.2]?).join else Y p.1
def Be(n np:Nat)(asg:kb)(f:FS):Bn:=λargs=>
 if (A2 args)=np/\np<=n/\(args.zipIdx.all λp=>!(p.1.2&&asg.contains p.2))=J then
  match f (args.map Y++ah (n-np) U)with
  |some (.rt r δ)=>Y (r,jD args δ)
  |some (.nx δ)=>Y ((.Ar,C),jD args δ)
  |_=>U
 else U
def Nh(a:List (D×Bool))(b:Dn)(i:Nat):(jD a b)[i]?=a[i]?.map λx=>if x.2=J then(b[i]?).join else Y x:=by
 unfold jD;rw[kS,F7]
 cases a[i]? with
 |none=>rfl
 |some x=>simp
def oR(h:x.join=Y p):x=Y (Y p):=by
 cases x with
 |none=>cases h
 |some y=>exact nM Y h
section
variable {K:jl}{T:B2}{A:kN}{k:List V}{f:List (D×Bool)}{H q:Hp}{m:Nat}{l:L2.St}{g:Dn}{r:D×Bool}{v:V}
def D6{b:Type}{a:List b}{m i:Nat}{y:b}:(a.map Y++ah m U)[i]?=Y (Y y)↔a[i]?=Y y:=by
 by_cases h:i<A2 a
 .rw[uD<|by simpa using h,kS];cases a[i]?<;>simp
 rw[qi<|by simpa using h];constructor
 .intro e;rw[vN]at e;split at e<;>cases e
 intro e;exact absurd (tM.mp e).1 h
def rR{b:Type}{a:List b}{i:Nat}{y:b}:(a.map Y)[i]?=Y (Y y)↔a[i]?=Y y:=by rw[kS];cases a[i]?<;>simp
def KU{i:Nat}{a:iJ}:Bf (k.map Y++ah m U) (f.map Y++ah m U) i a↔Bf (k.map Y) (f.map Y) i a:=by unfold Bf;simp only[D6,rR]
def EC:Aa σ b a↔ ∃i,Bf σ b i a:=Iff.rfl
def Ng:Aa (k.map Y++ah m U) (f.map Y++ah m U) a↔Aa (k.map Y) (f.map Y) a:=by rw[EC,EC];exact exists_congr λi=>KU
def ER.pad(E:ER K H T (k.map Y) (f.map Y)):ER K H T (k.map Y++ah m U) (f.map Y++ah m U):=by
 have len:(A2 k)=(A2 f):=by simpa using E.len
 refine⟨by simp[len],λi d h=>?_,λi d h=>?_,λi j d e a h1 o p s=>?_,λa z=>E.nT a<|Ng.mp z,E.dom⟩
 .obtain⟨w,c,n⟩:=E.val i d<|rR.mpr<|D6.mp h;exact⟨w,D6.mpr<|rR.mp c,Rep.mono (λ_ _ e _=>e) (λb _ z=>z.imp Ng.mp id) n⟩
 .obtain⟨w,c,n⟩:=E.own i d<|rR.mpr<|D6.mp h;exact⟨w,D6.mpr<|rR.mp c,n.mono (λ_ _ e _=>e) (λb _ z=>z.imp Ng.mp id) λ_ e=>e⟩
 exact E.inj i j d e a (rR.mpr<|D6.mp h1) (rR.mpr<|D6.mp o) (rR.mpr<|D6.mp p) (rR.mpr<|D6.mp s)
def Ii{J:B2}(E:ER K H T (k.map A9) (f.map A9))(S:SK A (k.map A9++ah m AR) (f.map A9++ah m AR) H l g q)(hA:∀(i:Nat) d,f[i]?=A9 (d,Ap)->¬A i)
  (Q:ER K q J l g)(hT:∀b,H b≠AR->J b->T b):ER K q J (k.map A9) (jD f g)/\(∀b,Aa (k.map A9) (jD f g) b->Aa l g b)/\Bo (k.map A9) (f.map A9) H (jD f g) q:=by
 have len:(A2 k)=(A2 f):=by simpa using E.len
 have s:∀(i:Nat) d w,f[i]?=A9 (d,Ap)->k[i]?=A9 w->l[i]?=A9 (A9 w):=λi d w h1 p=>by rw[S.as i<|hA i d h1];exact D6.mpr p
 have t:∀(i:Nat) d b,(jD f g)[i]?=A9 (A9 (d,b))->(∃e,f[i]?=A9 (e,Ap)/\g[i]?=A9 (A9 (d,b)))\/(b=AX/\f[i]?=A9 (d,AX)):=λi d b h=>by
  rw[Nh]at h;obtain⟨⟨e,c⟩,h1,p⟩:=jz h
  cases c
  .right;have:A9 (e,AX)=A9 (d,b):=by simpa using p
   cases this;exact⟨rfl,h1⟩
  left;exact⟨e,h1,oR<|by simpa using p⟩
 have B:∀i a,Bf (k.map A9) (jD f g) i a->Bf l g i a/\Bf (k.map A9) (f.map A9) i a:=λi a a'=>by
  obtain⟨d,h1,p⟩:=a'
  rcases t i d Ap h1 with⟨e,u,x⟩|⟨z,_⟩
  .exact⟨⟨d,x,s i e _ u (rR.mp p)⟩,⟨e,rR.mpr u,p⟩⟩
  cases z
 have G:∀b,Aa (k.map A9) (jD f g) b->Aa l g b:=λb a'=>by
  obtain⟨i,d,h1,p⟩:=a'
  obtain⟨⟨e,I,L⟩,_⟩:=B i b ⟨d,h1,p⟩;exact⟨i,e,I,L⟩
 have C:∀b,Aa (k.map A9) (jD f g) b->Aa (k.map A9) (f.map A9) b:=λb a'=>by
  obtain⟨i,d,h1,p⟩:=a'
  obtain⟨_,⟨e,I,L⟩⟩:=B i b ⟨d,h1,p⟩;exact⟨i,e,I,L⟩
 have U:∀a o,H a=A9 o->¬Aa (k.map A9) (f.map A9) a->q a=A9 o:=λa o e n=>S.kp a o e λz=>n<|Ng.mp z;refine⟨⟨?_,λi d h=>?_,λi d h=>?_,λi j d e a h1 p u x=>?_,λa z=>Q.nT a<|G a z,Q.dom⟩,G,⟨U,λi a z=>(B i a z).2,S.dm⟩⟩
 .simp[jD,len]
 .have M:i<(A2 k):=by
   have:=(tM.mp h).1;simp[jD]at this
   lia
  have hv:k[i]?=A9 k[i]:=jT M;rcases t i d AX h with⟨e,u,x⟩|⟨_,u⟩
  .obtain⟨w,y,O⟩:=Q.val i d x;rw[s i e _ u hv]at y;cases y;exact⟨_,rR.mpr hv,Rep.mono (λ_ _ e _=>e) (λb _ z=>z.imp (G b) id) O⟩
  obtain⟨w,y,O⟩:=E.val i d<|rR.mpr u;exact⟨w,y,Rep.mono (λb o e n=>U b o e λz=>n<|.inl z) (λb F z=>z.imp (C b)<|hT b F) O⟩
 .have M:i<(A2 k):=by
   have:=(tM.mp h).1;simp[jD]at this
   lia
  have hv:k[i]?=A9 k[i]:=jT M;rcases t i d Ap h with⟨e,u,x⟩|⟨z,_⟩
  .obtain⟨w,y,O⟩:=Q.own i d x;rw[s i e _ u hv]at y;have N:k[i]=V.ref w:=by simpa using y
   exact⟨w,by rw[<-N];exact rR.mpr hv,O.mono (λ_ _ e _=>e) (λb _ z=>z.imp (G b) id) λ_ e=>e⟩
  cases z
 obtain⟨_,⟨Y,I,L⟩⟩:=B i a ⟨d,h1,u⟩;obtain⟨_,⟨D,P,R⟩⟩:=B j a ⟨e,p,x⟩;exact E.inj i j Y D a I P L R
def qJ(E:ER K H T (k.map Y) (f.map Y))(S:SK A (k.map Y++ah m U) (f.map Y++ah m U) H l g q)(j:∀(i:Nat) d,f[i]?=Y (d,J)->¬A i)
  (R:RV K T H r l g v q):Bk K T (k.map Y) (f.map Y) H r (jD f g) v q:=by
 obtain⟨d,b⟩:=r
 cases b
 .obtain⟨a,s⟩:=R;obtain⟨c,ow,h⟩:=Ii E S j a λ_ _ z=>z;exact⟨h,c,Rep.mono (λ_ _ e _=>e) (λb _ z=>z.imp (ow b) id) s⟩
 obtain⟨p,rfl,n,a,ok⟩:=R;obtain⟨c,ow,h⟩:=Ii E S j a (λb o z=>z.elim id λz=>by subst z;exact absurd n o);exact⟨h,p,rfl,n,c,ok.mono (λ_ _ e _=>e) (λb _ z=>z.imp (ow b) id) λ_ e=>e⟩
end
section
variable {P:jm}{w:je}{K:jl}{g:lE}{base:jg}{N:jw}{m:Nat}{b:kb}{fs:FS}{c:List V}{H:Hp}{Q:VK}{E:XK}
def HN(h:J7 K (Be (A2 N) m b fs) c H Q E):(A2 c)=m:=by
 obtain⟨T,a,r,d,E0,e,_⟩:=h;unfold Be at e;split at e
 .rename_i f;have:=E0.len;simp at this;rw[this];exact f.1
 cases e
def Ml(h:J7 K (Be (A2 N) m b fs) c H Q E):∃L:LL,(∀i,L.p i->i<m)/\tS K (λi=>i∈b) L H fs {nx:=λ_ l=>Q .Ar l,rt:=Q} (L2.oH N c) H:=by
 obtain⟨T,f,r,x,E0,e,u⟩:=h;unfold Be at e;split at e
 .rename_i I;obtain⟨h1,Y,C⟩:=I;have n:(A2 c)=(A2 f):=by simpa using E0.len
  refine⟨⟨λi=>∃d,f[i]?=A9 (d,Ap),AR⟩,λi ⟨d,hd⟩=>by have:=(tM.mp hd).1;lia,?_⟩;have M:L2.oH N c=c.map A9++ah (A2 N-m) AR:=by unfold L2.oH;rw[n,h1]
  have q:∀(i:Nat) d,f[i]?=A9 (d,Ap)->¬(i∈b):=λi d hd G=>by
   have J:(f.zipIdx)[i]?=A9 ((d,Ap),i):=by rw[F7,hd];simp
   have:=mJ.mp C _ (mW J);simp at this;exact this G
  rw[M]
  have B:FI (λi=>i∈b) ⟨λi=>∃d,f[i]?=A9 (d,Ap),AR⟩ H (c.map A9++ah (A2 N-m) AR) (f.map A9++ah (A2 N-m) AR) H:=⟨λi a z=>by obtain⟨d,U,_⟩:=KU.mp z;exact .inl ⟨d,rR.mp U⟩,λ_ z=>z,λj O ⟨d,hd⟩=>q j d hd O,λ_ h=>nomatch h⟩
  cases s:fs (f.map A9++ah (A2 N-m) AR)with
  |none=>rw[s]at e;cases e
  |some out=>
   rw[s]at e;refine⟨_,T,out,E0.pad,B,s,?_⟩
   cases out with
   |rt r1 k=>obtain⟨rfl,rfl⟩:=jn e;exact λv t l o A=>u v l<|qJ E0 o q A
   |nx k=>obtain⟨rfl,rfl⟩:=jn e;exact λt l o y=>u .Ar l<|qJ (r:=(.Ar,AX)) E0 o q ⟨y,Rep.GU⟩
   |bk k=>cases e
   |ct k=>cases e
 cases e
def Vu{x qual:au}{st:bn}{f:iJ}{j:mT}{e:jw}{k:Nat}(F:J3 K x qual st f j)(S:Bb N e (iU st))
  (o:∀(d:iQ)(A:jh)(a:List dO)(s:iN)(H:Hp)(E:XK)(L:LL),(∀i,L.p i->i<A2 e)->Bg k (A.deeper<|aV qual (iU st) s.heap.objs.size f d)->
   Ft (rB GP P w K g base N qual (iU st) f d A a s H E).Hx (λi=>i∈b) L H (mh st) fs):DV P w K g base GP (k+1) f j e (J7 K<|Be (A2 N) (A2 e) b fs):=
 F.ok S (λc H Q E h=>HN h) λd A a s H c Q E n h=>let⟨L,h1,l⟩:=Ml h;⟨_,o d A a s H E L h1 n,l⟩
end
noncomputable def yp(a:Dn):Bq->Option (D×Bool)
 |.val r=>Y (r.1,C)
 |.slot i=>(a[i]?).join
def kf(δ:Dn):List Bq->Option (List<|D×Bool)
 |[]=>Y []
 |o::os=>(yp δ o).bind λa=>(kf δ os).bind λl=>Y (a::l)
@[simp] def Yg(o:Bq)(a:D×Bool):List Nat:=match o with
 |.slot i=>if a.2=J then[i]else[]
 |.val _=>[]
noncomputable def jq:List Bq->List (D×Bool)->List Nat
 |[],_=>[]
 |_::_,[]=>[]
 |o::os,a::as=>Yg o a++jq os as
@[simp] def wb1(o:Bq)(a:D×Bool)(x:Sl)(b:Dn):Dn:=match o with
 |.slot i=>if a.2=J then b.set i x else b
 |.val _=>b
noncomputable def wb:List Bq->List (D×Bool)->Dn->Dn->Dn
 |[],_,_,δ=>δ
 |_::_,[],_,δ=>δ
 |_::_,_::_,[],δ=>δ
 |o::os,a::as,x::outs,δ=>wb os as outs<|wb1 o a x δ
def jc(ev:Bn)(fs:List FO):F:=λδ=>(kj fs δ).bind λp=>(kf p.2 p.1).bind λargs=>if(jq p.1 args).Nodup then(ev args).bind λq=>Y (q.1,wb p.1 args q.2 p.2)else U
def nV{δ:Dn}:∀{os:List Bq}{as:List (D×Bool)},kf δ os=Y as->A2 as=os.length/\∀(j:Nat) a,as[j]?=Y a->∃o,os[j]?=Y o/\yp δ o=Y a:=by
 intro k
 induction k with
 |nil=>intro as h;cases h;exact⟨rfl,λj d h=>by simp at h⟩
 |cons o os i=>
  intro as h;unfold kf at h;obtain⟨d,h1,h⟩:=iM h;obtain⟨l,c,h⟩:=iM h;cases h;obtain⟨f,g⟩:=i c;refine⟨by simp[f],λj e b=>?_⟩
  cases j with
  |zero=>simp at b;subst b;exact⟨o,rfl,h1⟩
  |succ j=>obtain⟨m,n,p⟩:=g j e (by simpa using b);exact⟨m,by simpa using n,p⟩
theorem ud:∀{os:List Bq}{as:List (D×Bool)}{j i:Nat}{d:D},os[j]?=Y (.slot i)->as[j]?=Y (d,J)->i∈jq os as
 |[],_,_,_,_,h,_=>by simp at h
 |_::_,[],_,_,_,_,h=>by simp at h
 |o::os,(e,b)::as,0,i,d,h1,a=>by simp at h1 a;obtain⟨rfl,rfl⟩:=a;subst h1;simp[jq]
 |o::os,(e,b)::as,j+1,i,d,h1,a=>by
  have c:=ud (os:=os) (as:=as) (j:=j) (i:=i) (d:=d) (by simpa using h1) (by simpa using a)
  cases o with
  |val r=>simpa[jq]using c
  |slot k=>
   cases b
   .simpa[jq]using c
   simp[jq,c]
theorem BP:∀{os:List Bq}{as:List (D×Bool)}{i:Nat},i∈jq os as->∃(j:Nat)(d:D),os[j]?=Y (.slot i)/\as[j]?=Y (d,J)
 |[],_,_,h=>by simp[jq]at h
 |o::_,[],_,h=>by cases o<;>simp[jq]at h
 |o::os,(e,b)::as,i,h=>by
  have a:i∈jq os as->∃(j:Nat)(d:D),(o::os)[j]?=Y (.slot i)/\((e,b)::as)[j]?=Y (d,J):=λh=>by obtain⟨j,d,h1,c⟩:=BP h;exact⟨j+1,d,by simpa using h1,by simpa using c⟩
  cases o with
  |val r=>exact a (by simpa[jq]using h)
  |slot k=>
   cases b
   .exact a (by simpa[jq]using h)
   simp[jq]at h;rcases h with rfl|h
   .exact⟨0,e,rfl,rfl⟩
   exact a h
theorem BQ:∀{os:List Bq}{as:List (D×Bool)}{j k i:Nat}{d e:D},(jq os as).Nodup->os[j]?=Y (.slot i)->as[j]?=Y (d,J)->os[k]?=Y (.slot i)->as[k]?=Y (e,J)->j=k
 |[],_,_,_,_,_,_,_,h,_,_,_=>by simp at h
 |_::_,[],_,_,_,_,_,_,_,h,_,_=>by simp at h
 |o::os,(n,b)::as,j,k,i,d,e,a,h1,c,f,g=>by
  cases j with
  |zero=>
   cases k with
   |zero=>rfl
   |succ k=>simp at h1 c;obtain⟨rfl,rfl⟩:=c;subst h1;have:=ud (os:=os) (as:=as) (j:=k) (by simpa using f) (by simpa using g);simp[jq]at a;exact absurd this a.1
  |succ j=>
   cases k with
   |zero=>simp at f g;obtain⟨rfl,rfl⟩:=g;subst f;have:=ud (os:=os) (as:=as) (j:=j) (by simpa using h1) (by simpa using c);simp[jq]at a;exact absurd this a.1
   |succ k=>
    have l:(jq os as).Nodup:=by
     cases o with
     |val r=>simpa[jq]using a
     |slot m=>
      cases b
      .simpa[jq]using a
      simp[jq]at a;exact a.2
    have:=BQ (os:=os) (as:=as) (j:=j) (k:=k) l (by simpa using h1) (by simpa using c) (by simpa using f) (by simpa using g)
    lia
theorem zA:∀{os:List Bq}{as:List (D×Bool)}{a δ:Dn}{i:Nat},i∉jq os as->(wb os as a δ)[i]?=δ[i]?
 |[],_,_,_,_,_=>by simp[wb]
 |o::_,[],_,_,_,_=>by cases o<;>simp[wb]
 |o::os,(e,b)::as,[],_,_,_=>by cases o<;>cases b<;>simp[wb]
 |o::os,(e,b)::as,x::a,δ,i,h=>by
  cases o with
  |val r=>simp only[wb];exact zA (by simpa[jq]using h)
  |slot k=>
   cases b with
   |true=>simp[jq]at h;rw[wb,zA h.2];exact om<|oF h.1
   |false=>simp only[wb];exact zA (by simpa[jq]using h)
theorem zB:∀{os:List Bq}{as:List (D×Bool)}{a δ:Dn},(wb os as a δ).length=A2 δ
 |[],_,_,_=>by simp[wb]
 |o::_,[],_,_=>by cases o<;>simp[wb]
 |o::os,(e,b)::as,[],_=>by cases o<;>cases b<;>simp[wb]
 |o::os,(e,b)::as,x::a,δ=>by
  cases o with
  |val r=>simp only[wb];exact zB
  |slot k=>
   cases b with
   |true=>simp only[wb];rw[zB];exact sJ
   |false=>simp only[wb];exact zB
theorem HF:∀{os:List Bq}{as:List (D×Bool)}{a δ:Dn}{i j:Nat}{d:D}{x:Sl},(jq os as).Nodup->os[j]?=Y (.slot i)->as[j]?=Y (d,J)->a[j]?=Y x->i<A2 δ->(wb os as a δ)[i]?=Y x
 |[],_,_,_,_,_,_,_,_,h,_,_,_=>by simp at h
 |o::_,[],_,_,_,_,_,_,_,_,h,_,_=>by simp at h
 |o::os,(e,b)::as,[],_,_,_,_,_,_,_,_,h,_=>by simp at h
 |o::os,(e,b)::as,y::a,δ,i,0,d,x,c,h1,f,g,l=>by simp at h1 f g;obtain⟨rfl,rfl⟩:=f;subst h1;subst g;simp[jq]at c;rw[wb,zA c.1];exact oo l
 |o::os,(e,b)::as,y::a,δ,i,j+1,d,x,c,h1,f,g,l=>by
  have n:(jq os as).Nodup:=by
   cases o with
   |val r=>simpa[jq]using c
   |slot m=>
    cases b
    .simpa[jq]using c
    simp[jq]at c;exact c.2
  cases o with
  |val r=>simp only[wb];exact HF n (by simpa using h1) (by simpa using f) (by simpa using g) l
  |slot k=>
   cases b with
   |true=>simp only[wb];exact HF n (by simpa using h1) (by simpa using f) (by simpa using g) (by show i<(δ.set k y).length;rw[sJ];exact l)
   |false=>simp only[wb];exact HF n (by simpa using h1) (by simpa using f) (by simpa using g) l
section
variable {K:jl}{T u:B2}{l:L2.St}{δ f:Dn}{H m s:Hp}{os:List Bq}{vs:List V}{c:List (D×Bool)}{g:Dn}{r:D×Bool}{v:V}
noncomputable def Tc(T:B2)(l:L2.St)(f:Dn)(vs:List V)(c:List (D×Bool)):B2:=λa=>T a\/(Aa l f a/\¬Aa (vs.map Y) (c.map Y) a)
def wt(B:Ops K T l δ H os vs f m u)(p:kf f os=Y c){j:Nat}{d:D}(h:c[j]?=Y (d,J)):∃(i:Nat)(a:iJ),os[j]?=Y (.slot i)/\f[i]?=Y (Y (d,J))/\vs[j]?=Y (.ref a)/\l[i]?=Y (Y<|.ref a):=by
 obtain⟨w,q⟩:=nV p;obtain⟨o,h1,b⟩:=q j _ h
 cases o with
 |val r=>cases b
 |slot i=>
  have e:f[i]?=Y (Y (d,J)):=oR b;have t:j<(A2 vs):=by have:=(tM.mp h1).1;have:=B.len;lia
  have hv:vs[j]?=Y vs[j]:=jT t;have k:=B.slt j i _ h1 hv;obtain⟨a,n,_⟩:=B.er.own i d e;rw[k]at n;have:vs[j]=V.ref a:=by simpa using n
  exact⟨i,a,h1,e,by rw[hv,this],by rw[k,this]⟩
def EM(B:Ops K T l δ H os vs f m u)(n:kf f os=Y c){j:Nat}{a:iJ}(h:Bf (vs.map Y) (c.map Y) j a):∃(i:Nat)(d:D),os[j]?=Y (.slot i)/\c[j]?=Y (d,J)/\Bf l f i a:=by obtain⟨d,h1,k⟩:=h;have e:=rR.mp h1;obtain⟨i,b,o,p,q,t⟩:=wt B n e;have:=rR.mp k;rw[q]at this;cases this;exact⟨i,d,o,e,d,p,t⟩
def IA(B:Ops K T l δ H os vs f m u)(k:kf f os=Y c)(h:Aa (vs.map Y) (c.map Y) a):Aa l f a:=by obtain⟨j,d,h1,b⟩:=h;obtain⟨i,_,_,_,e,n,o⟩:=EM B k ⟨d,h1,b⟩;exact⟨i,e,n,o⟩
def yT(E:ER K H T l δ)(B:Ops K T l δ H os vs f m u)(n:kf f os=A9 c)(nd:(jq os c).Nodup):ER K m (Tc T l f vs c) (vs.map A9) (c.map A9):=by
 obtain⟨F,Y⟩:=nV n
 have sub:∀b,(Aa (vs.map A9) (c.map A9) b\/Tc T l f vs c b)->Aa l f b\/T b:=λb z=>by
  rcases z with z|z|z
  .exact .inl (IA B n z)
  .exact .inr z
  exact .inl z.1
 refine⟨by simp[F,B.len],λj d h=>?_,λj d h=>?_,λj k d e a h1 p x y=>?_,λa z t=>?_,λa z=>?_⟩
 .have h:=rR.mp h;obtain⟨o,h1,p⟩:=Y j _ h;have D:j<(A2 vs):=by have:=(tM.mp h1).1;have:=B.len;lia
  have hv:vs[j]?=A9 vs[j]:=jT D;refine⟨_,rR.mpr hv,?_⟩
  cases o with
  |val q=>
   have:q.1=d:=by cases p;rfl
   subst this;exact Rep.mono (λ_ _ e _=>e) (λb _ z=>sub b z)<|B.rep E h1 hv
  |slot i=>
   have x:f[i]?=A9 (A9 (d,AX)):=oR p;have y:=B.slt j i _ h1 hv;obtain⟨w,Q,R⟩:=B.er.val i d x;rw[y]at Q;have:vs[j]=w:=by simpa using Q
   rw[this];exact Rep.mono (λ_ _ e _=>e) (λb _ z=>(sub b z).imp id<|B.tt b) R
 .obtain⟨i,a,O,A,C,I⟩:=wt B n<|rR.mp h;obtain⟨b,L,U⟩:=B.er.own i d A;rw[I]at L;cases L;exact⟨a,rR.mpr C,U.mono (λ_ _ e _=>e) (λb _ z=>(sub b z).imp id<|B.tt b) λ_ e=>e⟩
 .obtain⟨i,S,O,A,G,C,I⟩:=EM B n ⟨d,h1,x⟩;obtain⟨P,V,g1,g2,J,M,N⟩:=EM B n ⟨e,p,y⟩;have:=B.er.inj i P G J a C M I N;subst this;exact BQ nd O A g1 g2
 .rcases t with t|t
  .exact B.er.nT a (IA B n z) (B.tt a t)
  exact t.2 z
 rcases z with z|z
 .exact B.er.dom a (B.tt a z)
 exact B.er.Ht z.1
def Jb{T' Td:B2}(E:ER K H T l δ)(B:Ops K T l δ H os vs f m u)(N:kf f os=A9 c)(nd:(jq os c).Nodup)(kC:Bo (vs.map A9) (c.map A9) m g s)
  (Y:ER K s Td (vs.map A9) g)(t1:∀b,Tc T l f vs c b->Td b)(t2:∀b,T' b->Td b)(t3:∀b,m b≠AR->T' b->T b):
  ER K s T' l (wb os c g f)/\(∀b,Aa l (wb os c g f) b->Aa (vs.map A9) g b\/Tc T l f vs c b)/\Bo l f m (wb os c g f) s:=by
 obtain⟨hl,hg⟩:=nV N;have ol:(A2 g)=(A2 c):=by have:=Y.len;have:=B.len;simp at*;lia
 have R:∀(i:Nat)(x:Sl),(wb os c g f)[i]?=A9 x->(i∉jq os c/\f[i]?=A9 x)\/∃(j:Nat)(d:D),os[j]?=A9 (.slot i)/\c[j]?=A9 (d,Ap)/\g[j]?=A9 x:=λi x h=>by
  by_cases A:i∈jq os c
  .right;obtain⟨j,d,h1,p⟩:=BP A;have hj:j<(A2 g):=by have:=(tM.mp p).1;lia
   have Z:g[j]?=A9 g[j]:=jT hj;have hi:i<(A2 f):=by have:=(tM.mp h).1;rwa [zB]at this
   have:=HF (δ:=f) nd h1 p Z hi;rw[h]at this;cases this;exact⟨j,d,h1,p,Z⟩
  left;rw[zA A]at h;exact⟨A,h⟩
 have I:∀{i:Nat}{a:iJ},i∉jq os c->Bf l f i a->¬Aa (vs.map A9) (c.map A9) a:=λ{i a} A ⟨e,q,C'⟩ ⟨j,d,h1,p⟩=>by obtain⟨P,d2,g1,g2,S,G,g4⟩:=EM B N ⟨d,h1,p⟩;have:=B.er.inj i P e S a q G C' g4;subst this;exact A<|ud g1 g2
 have U:∀i a,Bf l (wb os c g f) i a->Bf l f i a/\(Aa (vs.map A9) g a\/Tc T l f vs c a):=λi a a'=>by
  obtain⟨d,h1,p⟩:=a'
  rcases R i _ h1 with⟨A,y⟩|⟨j,e,g1,g2,G⟩
  .exact⟨⟨d,y,p⟩,.inr<|.inr ⟨⟨i,d,y,p⟩,I A ⟨d,y,p⟩⟩⟩
  obtain⟨P,b,q,C',J,L⟩:=wt B N g2;rw[g1]at q;cases q;rw[p]at L;cases L;exact⟨⟨e,C',p⟩,.inl ⟨j,d,G,rR.mpr J⟩⟩
 have X:∀b,Aa l (wb os c g f) b->Aa (vs.map A9) g b\/Tc T l f vs c b:=λb ⟨i,d,h1,p⟩=>(U i b ⟨d,h1,p⟩).2
 have F:∀b,Aa l (wb os c g f) b->Aa l f b:=λb a'=>by
  obtain⟨i,d,h1,p⟩:=a'
  obtain⟨⟨e,q,C'⟩,_⟩:=U i b ⟨d,h1,p⟩;exact⟨i,e,q,C'⟩
 have W:∀a o,m a=A9 o->¬Aa l f a->s a=A9 o:=λa o e n=>kC.kp a o e λz=>n<|IA B N z
 have O:∀b,(Aa l (wb os c g f) b\/T' b)->Aa (vs.map A9) g b\/Td b:=λb z=>by
  rcases z with z|z
  .exact(X b z).imp id (t1 b)
  exact .inr (t2 b z)
 refine⟨⟨by rw[zB];exact B.er.len,λi d h=>?_,λi d h=>?_,λi k d e a h1 p y h4=>?_,λa z t=>?_,λa z=>Y.dom a<|t2 a z⟩,X,⟨W,λi a z=>(U i a z).1,kC.dm⟩⟩
 .rcases R i _ h with⟨A,y⟩|⟨j,e,g1,g2,G⟩
  .obtain⟨w,Q,M⟩:=B.er.val i d y;exact⟨w,Q,Rep.mono (λb o e n=>W b o e λz=>n<|.inl z) (λb V z=>z.imp (F b) λz=>B.tt b<|t3 b V z) M⟩
  obtain⟨P,b,q,C',J,L⟩:=wt B N g2;rw[g1]at q;cases q;obtain⟨w,Q,M⟩:=Y.val j d G;have:=rR.mp Q;rw[J]at this;cases this;exact⟨_,L,Rep.mono (λ_ _ e _=>e) (λb _ z=>O b z) M⟩
 .rcases R i _ h with⟨A,y⟩|⟨j,e,g1,g2,G⟩
  .obtain⟨a,Q,M⟩:=B.er.own i d y;exact⟨a,Q,M.mono (λb o e n=>W b o e λz=>n<|.inl z) (λb V z=>z.imp (F b) λz=>B.tt b<|t3 b V z) λo e=>kC.kp a o e<|I A ⟨d,y,Q⟩⟩
  obtain⟨P,b,q,C',J,L⟩:=wt B N g2;rw[g1]at q;cases q;obtain⟨a,Q,M⟩:=Y.own j d G;have:=rR.mp Q;rw[J]at this;cases this;exact⟨_,L,M.mono (λ_ _ e _=>e) (λb _ z=>O b z) λ_ e=>e⟩
 .obtain⟨⟨e1,q,C'⟩,_⟩:=U i a ⟨d,h1,y⟩;obtain⟨⟨S,J,L⟩,_⟩:=U k a ⟨e,p,h4⟩;exact B.er.inj i k e1 S a q J C' L
 exact B.er.nT a (F a z) (B.tt a<|t3 a (B.er.GS<|F a z) t)
def wQ(E:ER K H T l δ)(B:Ops K T l δ H os vs f m u)(k:kf f os=Y c)(o:(jq os c).Nodup)(P:Bk K (Tc T l f vs c) (vs.map Y) (c.map Y) m r g v s):
  Bk K T l δ H r (wb os c g f) v s:=by
 obtain⟨d,b⟩:=r
 cases b
 .obtain⟨kC,h,w⟩:=P;obtain⟨i,ow,j⟩:=Jb (T':=T) E B k o kC h (λ_ z=>z) (λ_ z=>.inl z) λ_ _ z=>z;refine⟨B.keep.trans j,i,Rep.mono (λ_ _ e _=>e) (λb _ z=>?_) w⟩;rcases z with z|z
  .exact ow b z
  exact .inr (.inl z)
 obtain⟨kC,p,rfl,n,h,ok⟩:=P;obtain⟨i,ow,j⟩:=Jb (T':=λa=>T a\/a=p) E B k o kC h (λ_ z=>.inl z) (λb z=>z.elim (λz=>.inl (.inl z)) .inr) (λb t z=>z.elim id λz=>by subst z;exact absurd n t);refine⟨B.keep.trans j,p,rfl,?_,i,ok.mono (λ_ _ e _=>e) (λb _ z=>?_) λ_ e=>e⟩
 .cases q:H p with
  |none=>rfl
  |some x=>exact absurd n<|B.keep.dm p (by rw[q];simp)
 rcases z with z|z|z
 .exact(ow b z).imp id .inl
 .exact .inr (.inl<|.inl z)
 exact .inr (.inr z)
end
section
variable {X:Cx}{e:iT}{b:ky}{fs:List FO}{a p:bu}{k:Nat}{f:iJ}{g:mT}{d:jw}{c:Bn}{x:au}
def Qg(F:DV X.prog X.w X.K X.mg X.base GP k f g d (J7 X.K c))(L:Bg k X.A)(C:Gl X x)(I:X.mg x=A9 (.ref f))(hk:bD X.K (.ref f)=Ap)(y:Binds X.K g d [])
  (u:PA X (e::b) (tA X.K fs))(G:(x==("__debug__":au))=AX)(z:ac (e::b) X.env=(AX,aW e X.env)::ac b X.env)(s:(aT a<|ac b X.env).any (·.1)=AX):
  PX X (.Call (.Name x p) (e::b) [] a) (jc c fs):=PX.imp (Ds F L C I hk y (.nil) SQ u G z s) λN H Q O=>by
 obtain⟨J,T,Y,M,E,e,k⟩:=O;obtain⟨os,j,h1,e⟩:=iR e;obtain⟨h,l,e⟩:=iM e;dsimp only at e;split at e
 .rename_i m;obtain⟨r,i,t,e⟩:=iR e;obtain⟨rfl,rfl⟩:=jn e;refine⟨J,T,os,j,E,h1,λn q U B=>?_⟩;show J7 X.K c (n++[]) q Q E0;rw[uE];exact⟨Tc T N j n h,h,r,i,yT E B l m,t,λv o P=>k v o<|wQ E B l m P⟩
 cases e
end
structure JN(A:kN)(d:iJ)(σ:L2.St)(δ:Dn)(H:Hp)(σ':L2.St)(δ':Dn)(H':Hp):Prop where
 kp:∀a o,H a=A9 o->¬Aa σ δ a->a≠d->H' a=A9 o
 owi:∀i a,Bf σ' δ' i a->Bf σ δ i a\/H a=AR\/(A i/\∃j,A j/\Bf σ δ j a)
 dm:∀a,H a≠AR->H' a≠AR
 as:∀i,¬A i->σ'[i]?=σ[i]?
section
variable {A:kN}{d:iJ}{c b f:L2.St}{δ δ1 δ2:Dn}{H g l:Hp}
def SK.Kp(k:SK A c δ H b δ1 g):JN A d c δ H b δ1 g:=⟨λa o e n _=>k.kp a o e n,k.owi,k.dm,k.as⟩
def JN.ow(k:JN A d c δ H b δ1 g)(a:iJ)(h:Aa b δ1 a):Aa c δ a\/H a=U:=by
 obtain⟨i,e,h1,o⟩:=h;rcases k.owi i a ⟨e,h1,o⟩with⟨e,m,n⟩|z|⟨_,j,_,e,m,n⟩
 .exact .inl ⟨i,e,m,n⟩
 .exact .inr z
 exact .inl ⟨j,e,m,n⟩
def JN.trans(x:JN A d c δ H b δ1 g)(y:JN A d b δ1 g f δ2 l):JN A d c δ H f δ2 l where
 kp:=λa o e n p=>y.kp a o (x.kp a o e n p) (λz=>(x.ow a z).elim n λz=>by rw[z]at e;cases e) p
 owi:=λi a z=>(y.owi i a z).elim (x.owi i a) λz=>z.elim (λz=>.inr (.inl (by
  cases h:H a with
  |none=>rfl
  |some o=>exact absurd z<|x.dm a<|by rw[h];simp))) λ⟨m,j,q,z⟩=>(x.owi j a z).elim (λz=>.inr (.inr ⟨m,j,q,z⟩)) λz=>z.elim (λz=>.inr (.inl z)) λ⟨_,k,ak,z⟩=>.inr (.inr ⟨m,k,ak,z⟩)
 dm:=λa z=>y.dm a<|x.dm a z
 as:=λi h=>(y.as i h).trans<|x.as i h
end
noncomputable def vY(p:(Int->Bool)×Nat)(d:D):(Int->Bool)×Nat:=match d with
 |.int k=>(λa=>p.1 a||decide (a=k),if p.1 k then p.2 else p.2+1)
 |_=>p
def nQ(l:List D):(Int->Bool)×Nat:=l.foldl vY (λ_=>C,0)
def BG(l:List D)(k:Int):nQ (l++[.int k])=((λa=>(nQ l).1 a||decide (a=k)),if(nQ l).1 k then(nQ l).2 else(nQ l).2+1):=by unfold nQ;rw[F6];rfl
def P7:∀(l:List D)(p:(Int->Bool)×Nat),(l.foldl vY p).2<=p.2+(A2 l):=by
 intro b
 induction b with
 |nil=>intro p;exact kc _
 |cons d l a=>
  intro p;have:=a<|vY p d
  have h:(vY p d).2<=p.2+1:=by
   unfold vY;split
   .dsimp only;split<;>lia
   lia
  simp only[sD,kP]
  lia
def AtD(S:Option Bool)(K:jl)(T:Hp)(O:B2)(d:iJ)(a:List D):Prop:=match S with
 |some C=>∃c,T d=Y (.lst c)/\AG K T O a c
 |some J=>T d=Y (.set (nQ a).1 (nQ a).2)
 |none=>∃b,DZ K (T d) .set [] a b/\AG K T O a b
structure BS(S:Option Bool)(K:jl)(d:iJ)(T:B2)(σ:L2.St)(δ:Dn)(acc:List D)(H:Hp):Prop where
 er:ER K H T σ δ
 td:T d
 at':AtD S K H (λa=>Aa σ δ a\/T a) d acc
abbrev FB:=List D->Dn->Option (List D×Dn)
inductive Hw(S:Option Bool)(K:jl)(A:kN)(d:iJ)(f:FB)(σ:L2.St)(H:Hp)(N:L2.St->Hp->Prop):Prop where
 |mk (δ:Dn) (T:B2) (acc j4:List D) (δ':Dn) (_:BS S K d T σ δ acc H) (_:f acc δ=A9 (j4,δ')) (_:∀σ' H',JN A d σ δ H σ' δ' H'->BS S K d T σ' δ' j4 H'->N σ' H')
noncomputable def ki(f:F):FB:=λa δ=>(f δ).bind λp=>if (A2 a)<sizeLine then Y (a++[p.1.1],p.2)else U
noncomputable def lJ(c:Tg)(d:FT)(b:FB):List D->FB
 |[],acc,a=>Y (acc,a)
 |x::xs,acc,a=>(c x a).bind λδ1=>(d δ1).bind λp=>(if p.1=J then b acc p.2 else Y (acc,p.2)).bind λq=>lJ c d b xs q.1 q.2
def KG(c:Dr)(d:Tg)(e:FT)(b:FB):FB:=λa f=>(c f).bind λp=>lJ d e b p.1 a p.2
section
variable {K:jl}{A:kN}{d:iJ}{T:B2}{f r:L2.St}{j s:Dn}{p:List D}{H q:Hp}
def BS.step(b:BS S K d T f j p H)(k:SK A f j H r s q)(t:ER K q T r s):BS S K d T r s p q:=by
 refine⟨t,b.td,?_⟩;have h:=b.at'
 have m:∀{l:List D}{i:List V},AG K H (λa=>Aa f j a\/T a) l i->AG K q (λa=>Aa r s a\/T a) l i:=λg=>by
  refine AG.mono (λb o e n=>k.kp b o e λz=>n<|.inl z) (λc u z=>?_) g;rcases z with z|z
  .exact(k.ow c z).elim bH λz=>absurd z u
  exact .inr z
 rcases S with _|_|_
 .obtain⟨v,h1,g⟩:=h;exact⟨v,h1.keep λo e=>k.kp d o e λz=>b.er.nT d z b.td,m g⟩
 .obtain⟨i,h1,g⟩:=h;exact⟨i,k.kp d _ h1 λz=>b.er.nT d z b.td,m g⟩
 exact k.kp d _ h λz=>b.er.nT d z b.td
def Iv(hg:∀v f H Q,tG K A tg v f H Q->g v f H Q)(hi:∀f H Q,tT K ft f H Q->ti f H Q)(hb:∀f H N,Hw S K A d fb f H N->tb f H N)
  (b:BS S K d T f j p H)(P O:B2)(ok:JP K J' ds P O q)(s1:∀a o,q a=Y o->¬P a->H a=Y o)(s0:∀a,q a≠AR->Aa f j a\/a=d->P a)(s2:∀a,q a≠AR->(Aa f j a\/T a)->O a)(s3:∀a,q a≠AR->H a≠AR)(e:lJ tg ft fb ds p j=Y (j4,B))
  (k:∀E t,JN A d f j H E B t->BS S K d T E B j4 t->N E t):HM J' g ti tb f H N:=by
 refine⟨λi m l w=>m=A2 ds-i/\i<=A2 ds/\∃h G,JN A d f j H l h w/\BS S K d T l h G w/\lJ tg ft fb (ds.drop i) G h=Y (j4,B),⟨A2 ds,by simp,mV _,j,p,SK.refl.Kp,b,by simpa using e⟩,?_⟩;rintro i m l w ⟨rfl,hle,h,G,Y',I',e2⟩
 have hO:∀a,q a≠AR->(Aa l h a\/T a)->O a:=λa W z=>by
  rcases z with z|z
  .exact(Y'.ow a z).elim (λz=>s2 a W<|.inl z) λz=>absurd z<|s3 a W
  exact s2 a W (.inr z)
 have t6:∀a o,q a=Y o->¬P a->w a=Y o:=λa o V n=>Y'.kp a o (s1 a o V n) (λz=>n<|s0 a (by rw[V];simp)<|.inl z) λz=>n<|s0 a (by rw[V];simp)<|.inr z;by_cases F:i<A2 ds
 .refine .inr ?_;have hd:ds[i]?=Y ds[i]:=jT F;obtain⟨go,yl⟩:=ok.go i _ w hd t6;rw[uW F]at e2;obtain⟨C,h3,e3⟩:=iM e2;obtain⟨c,u,h4,e4⟩:=iR e3;obtain⟨y,M,D,e5⟩:=iR e4;refine⟨go,λx t hy=>?_⟩;obtain⟨ext,rep⟩:=yl x t hy;have dh:ER K t T l h:=I'.er.mono (λb ob eb _=>ext b ob eb) (λ_ _ z=>z) λa z=>(I'.er.dom a z).up<|ext a;have SX:SK A l h w l h t:=(Bo.ext ext).sk;have R:=I'.step SX dh;have eL:JN A d f j H l h t:=Y'.trans SX.Kp;have rx:=rep (λa=>Aa l h a\/T a) hO λb hb z=>z.elim (λz=>I'.er.GS z hb) λz=>(I'.er.dom b z).ne hb;refine hg _ _ _ _ ⟨h,T,ds[i],C,dh,rx,h3,λU S3 Z=>?_⟩;have B3:=R.step S3 Z;have bT:=eL.trans S3.Kp;refine hi _ _ _ ⟨C,T,c,u,Z,h4,λH4 K4 E4=>?_⟩;have S4:SK A U C t U u H4:=K4.sk;have X:=B3.step S4 E4;have L:=bT.trans S4.Kp
  cases c with
  |false=>rw[jr lG]at D;obtain⟨rfl,rfl⟩:=jn D;exact Vm ⟨A2 ds-(i+1),by lia,rfl,F,u,G,L,X,e5⟩
  |true=>rw[jb I]at D;exact Vl<|hb _ _ _ ⟨u,T,G,y,M,X,D,λσ5 H5 S5 B5=>⟨A2 ds-(i+1),by lia,rfl,F,M,y,L.trans S5,B5,e5⟩⟩
 refine .inl ⟨ok.stop i w (by lia) t6,?_⟩;rw[sG<|by lia]at e2;obtain⟨rfl,rfl⟩:=jn e2;exact k l w Y' I'
end
section
variable {X:Cx}{A:kN}{d:iJ}{b:iT}{f:F}
def PB.imp'{code:d7 Unit}{t e:TB}(h:PB X code t)(k:∀c T N,e c T N->t c T N):PB X code e:=λa s c T N Q g=>h a s c T N Q<|k c T N g
def Qv{S:Option Bool}{e:iT}{depth:Nat}{c:pK}{r:Dr}{u:Tg}{s:FT}{q:FB}(Q:X.xe=λ_ _=>False)(hc:X.calm=Ap)
  (hl:(∃b g l p,e=.ListComp b g l p)\/(∃b g l p,e=.SetComp b g l p))(hg:(bP e)[depth+1]?=A9 c)(Y:c.is_async=0)(k6:∀t,(bP e)[depth+1+1]?=A9 t->t.is_async=0)
  (hs:∀x,ap c.iter X.env x=pure x)(pi:Ju X (λ_=>False) c.target c.iter r)(pg:KC X A c.target u)(M:JT X c.ifs (tT X.K s))(pb:PB X (jX e (depth+1) (.ref d) X.env) (Hw S X.K A d q)):
  PB X (jX e depth (.ref d) X.env) (Hw S X.K A d<|KG r u s q):=PB.imp' (UU Q hc hl hg Y k6 hs pi pg M pb) λw H N D=>by
 obtain⟨v,T,G,P,F,B,e,k⟩:=D;obtain⟨U,j,h1,e⟩:=iR e;refine⟨v,T,U,j,B.er,h1,λJ I L C ok=>?_⟩;have n:SK A w v H w j I:=L.sk;exact Iv (λ_ _ _ _ h=>h) (λ_ _ _ h=>h) (λ_ _ _ h=>h) (B.step n C) _ _ ok (λa o e _=>e) (λa _ z=>z.elim (λa'=>by obtain⟨i,x,z⟩:=a';exact .inl ⟨i,id,x,z⟩) λz=>.inr (z▸B.td)) (λa _ z=>z) (λa z=>z) e λm E O y=>k m E (n.Kp.trans O) y
end
def jL(caps:kb)(k:Nat)(fi:Dr)(b:Tg)(ti:FT)(a:FB):F:=λδ=>(fi δ).bind λp=>(kf p.2<|caps.map .slot).bind λargs=>if(jq (caps.map .slot) args).Nodup then(lJ b ti a p.1 []<|args.map Y++ah k U).bind λq=>Y ((.lst q.1,J),wb (caps.map .slot) args (jD args q.2) p.2)else U
noncomputable def yu(a:kb)(k:Nat)(b:L2.St):L2.St:=(a.map λj=>(b[j]?).join)++ah k U
def o0(S:Option Bool):HO:=match S with
 |some C=>.lst []
 |some J=>.set (λ_=>C) 0
 |none=>.B1 []
noncomputable def qS(S:Option Bool)(Q:VK):VK:=match S with
 |some C|none=>Q
 |some J=>λx b=>∃S n,∃a,x=.ref a/\b a=Y (.set S n)/\Q (.int n) b
def rS(S:Option Bool)(a:List D):D×Bool:=match S with
 |some C=>(.lst a,J)
 |none=>(.B4 .set [] a,J)
 |some J=>(.int (nQ a).2,C)
def VI(S:Option Bool)(b:kb)(k:Nat)(d:Dr)(e:Tg)(f:FT)(c:FB):F:=λg=>(d g).bind λp=>(kf p.2<|b.map .slot).bind λa=>if(jq (b.map .slot) a).Nodup then(lJ e f c p.1 []<|a.map Y++ah k U).bind λq=>Y (rS S q.1,wb (b.map .slot) a (jD a q.2) p.2)else U
def Ce{S:Option Bool}{K:jl}{f:kb}{k:Nat}{fi:Dr}{tg:Tg}{ti:FT}{fb:FB}{p:L2.St}{H:Hp}{Q:VK}(h:tF K (VI S f k fi tg ti fb) p H Q):
  tI K (λi=>i∉f) fi p H λJ' q=>Ej (o0 S) J' (tG K (λi=>A2 f<=i) tg) (tT K ti) (λd=>Hw S K (λi=>A2 f<=i) d fb) (yu f k) p q (qS S Q):=by
 obtain⟨δ,T,rr,δr,E,e,kq⟩:=h;obtain⟨ds,s,h1,e⟩:=iR e;obtain⟨g,t,e⟩:=iM e;dsimp only at e t;split at e
 case isFalse=>cases e
 rename_i Y;obtain⟨m,δ',h2,e⟩:=iR e;obtain⟨rfl,rfl⟩:=jn e;refine⟨δ,T,ds,s,E,h1,λJ' q D A ok d hd=>?_⟩;obtain⟨hl,hg⟩:=nV t;have aM:(A2 g)=(A2 f):=by simpa using hl
 let C:List V:=f.map λj=>((p[j]?).join).getD .Ar
 have there:∀(i j:Nat),f[i]?=A9 j->∃v,p[j]?=A9 (A9 v):=λi j l=>by
  have hi:i<(A2 g):=by have:=(tM.mp l).1;lia
  obtain⟨o,u,q2⟩:=hg i _ (jT hi);rw[kS,l]at u;cases u;have O:=oR q2;generalize g[i]=y at O;obtain⟨x,b⟩:=y
  cases b
  .obtain⟨v,h,_⟩:=A.val j x O;exact⟨v,h⟩
  obtain⟨a,h,_⟩:=A.own j x O;exact⟨_,h⟩
 have gv:∀(i j:Nat),f[i]?=A9 j->∃v,C[i]?=A9 v/\p[j]?=A9 (A9 v):=λi j l=>by obtain⟨v,hv⟩:=there i j l;refine⟨v,?_,hv⟩;show(f.map λj=>((p[j]?).join).getD .Ar)[i]?=A9 v;rw[kS,l];simp[hv]
 have ag:yu f k p=C.map A9++ah k AR:=by
  unfold yu
  congr 1
  apply zi;intro i;show _=((f.map λj=>((p[j]?).join).getD .Ar).map A9)[i]?;rw[kS,kS,kS]
  cases l:f[i]? with
  |none=>rfl
  |some j=>obtain⟨v,hv⟩:=there i j l;simp[hv]
 have I:Ops K T p s q (f.map Bq.slot) C s q T:=by
  refine⟨by simp[C],.refl,A,λ_ z=>z,λj x v l=>?_,λj x v l=>?_,λj i v l hv=>?_⟩
  .rw[kS]at l;obtain⟨_,_,z⟩:=jz l;cases z
  .rw[kS]at l;obtain⟨_,_,z⟩:=jz l;cases z
  rw[kS]at l;obtain⟨c,X,z⟩:=jz l;cases z;obtain⟨v',u,q2⟩:=gv j i X;rw[hv]at u;cases u;exact q2
 have L:=yT A I t Y
 have R:∀(i:Nat) x,g[i]?=A9 (x,J)->¬(A2 f<=i):=λi x B=>by
  have:=(tM.mp B).1
  lia
 rw[ag];have B:=lO (o:=o0 S) hd
 have nz:∀a,q a≠AR->upd q d (o0 S) a≠AR:=λa z=>by
  cases U:q a with
  |none=>exact absurd U z
  |some o=>rw[B a o U];simp
 have b0:BS S K d (λa=>Tc T p s C g a\/a=d) (C.map A9++ah k AR) (g.map A9++ah k AR) [] (upd q d<|o0 S):=by
  refine⟨(L.pad).mono (λb o eb _=>B b o eb) (λb hb z=>z.elim id λz=>by subst z;exact absurd hd hb) λa z=>?_,.inr AM,?_⟩
  .rcases z with z|z
   .exact(L.dom a z).up (B a)
   subst z;rw[jv];rcases S with _|_|_<;>trivial
  rcases S with _|_|_
  .exact⟨[],⟨rfl,[],jv,.nil⟩,AG.nil⟩
  .exact⟨[],jv,AG.nil⟩
  exact jv
 refine Iv (λ_ _ _ _ h=>h) (λ_ _ _ h=>h) (λ_ _ _ h=>h) b0 _ _ ok (λa o N _=>B a o N) (λa W z=>?_) (λa W z=>?_) nz h2 λσ' G M w=>?_
 .rcases z with z|z
  .obtain⟨j,x,g1,g2⟩:=Ng.mp z;obtain⟨i,_,u,_,O⟩:=EM I t ⟨x,g1,g2⟩;refine .inl ⟨i,λn=>n ?_,O⟩;rw[kS]at u;obtain⟨c,X,e⟩:=jz u;cases e;exact mW X
  subst z;exact absurd hd W
 .rcases z with z|z|z
  .exact .inl (IA I t<|Ng.mp z)
  .rcases z with z|z
   .exact .inr z
   exact .inl z.1
  subst z;exact absurd hd W
 have F:SK (λi=>A2 f<=i) (C.map A9++ah k AR) (g.map A9++ah k AR) q σ' δ' G:=
  ⟨λa o N n=>M.kp a o (B a o N) n (by intro z;subst z;rw[N]at hd;cases hd),λi a z=>(M.owi i a z).imp id λz=>z.imp (λz=>by
   cases U:q a with
   |none=>rfl
   |some o=>exact absurd z<|nz a<|by rw[U];simp) id,λa z=>M.dm a<|nz a z,M.as⟩
 rcases S with _|_|_
 .obtain⟨us,Z,ry⟩:=w.at';have P:=qJ (r:=(.B4 .set [] m,J)) (v:=.ref d) L F R ⟨d,rfl,hd,w.er,us,Z,AG.mono (λ_ _ e _=>e) (λb _ z=>z) ry⟩;exact kq (.ref d) G<|(wQ A I t Y P).pre D
 .obtain⟨ys,Z,ry⟩:=w.at';have P:=qJ (r:=(.lst m,J)) (v:=.ref d) L F R ⟨d,rfl,hd,w.er,ys,Z,AG.mono (λ_ _ e _=>e) (λb _ z=>z) ry⟩;exact kq (.ref d) G<|(wQ A I t Y P).pre D
 have P:=qJ (r:=(.int (nQ m).2,AX)) (v:=.int (nQ m).2) L F R ⟨w.er.mono (λ_ _ e _=>e) (λb _ z=>.inl z) λa z=>w.er.dom a<|.inl z,Rep.mkInt⟩;exact⟨_,_,d,rfl,w.at',kq (.int (nQ m).2) G<|(wQ A I t Y P).pre D⟩
def Fh{K:jl}{a:kb}{k:Nat}{c:Dr}{e:Tg}{ti:FT}{b:FB}{f:L2.St}{T:Hp}{Q:VK}(h:tF K (jL a k c e ti b) f T Q):
  Su (tI K (λi=>i∉a) c) (tG K (λi=>A2 a<=i) e) (tT K ti) (λd=>Hw C K (λi=>A2 a<=i) d b) (yu a k) f T Q:=Ce (S:=C) h
section
variable {X:Cx}{elt:iT}{c:pK}{rest:pM}{scope:jS}{pos g0 py:bu}{N':jw}{caps:kb}{k:Nat}{fi:Dr}{tg:Tg}{ti:FT}{fb:FB}{A:kN}{L:LL}{H0:Hp}
structure Ep(X:Cx)(N':jw)(scope:jS)(caps:kb)(k:Nat):Prop where
 cell:∀y∈scope.names,y.2=.cell->scope.names.lookup y.1=A9 .cell
 kind:scope.kind=.function
 names:∀y∈scope.names,y.2=.local->scope.names.lookup y.1=A9 .local
 free:∀y∈scope.names,y.2=.free->X.env.scope.names.lookup y.1=A9 .cell\/X.env.scope.names.lookup y.1=A9 .free
 len:(A2 caps)+k=A2 N'
 caps:∀(i j:Nat)(x:au),caps[i]?=A9 j->N'[i]?=A9 x->X.N[j]?=A9 x/\scope.names.lookup x=A9 .free
def Ep.MY(T:Ep X N' scope caps k):Dl X N' scope (yu caps k):=by
 refine⟨T.cell,T.kind,T.names,T.free,λd=>by simp[yu,T.len],λd i v x h1 f=>?_⟩;unfold yu at h1;by_cases b:i<A2 caps
 .rw[uD<|by simpa using b,kS,jT b]at h1;obtain⟨g,h⟩:=T.caps i caps[i] x (jT b) f;refine⟨h,caps[i],g,?_⟩;have a:(d[caps[i]]?).join=Y v:=by simpa using h1
  cases e:d[caps[i]]? with
  |none=>rw[e]at a;cases a
  |some y=>rw[e]at a;exact nM Y a
 rw[qi<|by simpa using b,vN]at h1;split at h1<;>cases h1
def Qi(T:Ep X N' scope caps k)(m:X.calm=J)(l:c.is_async=0)(p:∀e,rest[0]?=Y e->e.is_async=0)
  (n:∀x,ap c.iter X.env x=pure x)(q:Ju X (λi=>i∉caps) c.target c.iter fi)
  (s:∀(j:lF)(T:iJ)(r:iN)(f:Hp)(fp:kY)(a:jG),let b:=X.comp N' scope j T r f fp a
   KC b (λi=>A2 caps<=i) c.target tg/\JT b c.ifs (tT X.K ti)/\∀d,PB b (jX (.ListComp elt (c::rest) scope pos) 0 (.ref d) b.env)<|Hw C X.K (λi=>A2 caps<=i) d fb):
  PX X (.ListComp elt (c::rest) scope pos) (jL caps k fi tg ti fb):=PX.imp (Ig (o:=.lst []) (fp:=c.iter.pos) (new:=v8 []) (g:=tG X.K (λi=>A2 caps<=i) tg) (ti:=tT X.K ti) (tb:=λd=>Hw C X.K (λi=>A2 caps<=i) d fb) T.MY m l p n q s (λ_ _ _ k=>oi<|k _ λ_=>⟨mV _,[],0,.nil,kE _ rfl⟩) (.inl ⟨_,_,_,_,rfl⟩) (hev:=by cases c;rfl)) λt O Q h=>Fh h
def aez{y:au}{i:Nat}(m:bG (.ListComp elt (c::rest) scope pos) (Y<|.Name y py) g0.line X.env=pure Ap)
  (C:Ep X N' scope caps k)(w:X.calm=Ap)(u:c.is_async=0)(O:∀h,rest[0]?=Y h->h.is_async=0)
  (B:∀x,ap c.iter X.env x=pure x)(Q:Ju X (λi=>i∉caps) c.target c.iter fi)(o:PG X (.Name y py) (EY i))(t:A i)
  (J:∀(n:lF)(C:iJ)(G:iN)(l:Hp)(p:kY)(a:jG),let b:=X.comp N' scope n C G l p a
   KC b (λi=>A2 caps<=i) c.target tg/\JT b c.ifs (tT X.K ti)/\∀d,PB b (jX (.ListComp elt (c::rest) scope pos) 0 (.ref d) b.env)<|Hw AX X.K (λi=>A2 caps<=i) d fb):
  MJ X A L H0 (.Assign [.Name y py] (.ListComp elt (c::rest) scope pos) g0) (kn i<|jL caps k fi tg ti fb):=PS.imp' (aeC (g:=tG X.K (λi=>A2 caps<=i) tg) (ti:=tT X.K ti) (tb:=λd=>Hw AX X.K (λi=>A2 caps<=i) d fb) m C.MY w u O B Q o J) λD N H I=>by
 obtain⟨M,T,out,E,fi,e,k⟩:=I;obtain⟨r,f,s,e⟩:=iR e;obtain⟨z,rfl⟩:=jo e;refine Fh ⟨M,T,r,f,E,s,λv j P=>?_⟩;obtain⟨h1,q⟩:=zG (A:=A) E P z t;exact k _ j h1 q
end
section
variable {K:jl}{T:B2}{d:L2.St}{c:Dn}{H:Hp}{i:Nat}{l m:List D}{a:iJ}{g:List V}
def Bf.ET{j:Nat}{b:iJ}(hd:c[i]?=Y (Y (k,J)))(h:Bf d (c.set i<|Y (d',J)) j b):Bf d c j b:=by
 obtain⟨e,h1,f⟩:=h;rcases nE h1 with⟨rfl,_,_⟩|⟨_,q⟩
 .exact⟨_,hd,f⟩
 exact⟨e,q,f⟩
def ER.ET(E:ER K H T d c)(hd:c[i]?=A9 (A9 (U',Ap)))(t:d[i]?=A9 (A9<|.ref a))(r:DG K (upd H a o) (λb=>Aa d c b\/T b) d' a):
  ER K (upd H a o) T d (c.set i<|A9 (d',Ap))/\Bo d c H (c.set i<|A9 (d',Ap)) (upd H a o):=by
 have Y:i<(A2 c):=(tM.mp hd).1;have v:Aa d c a:=⟨i,_,hd,t⟩
 have B:∀b,Aa d (c.set i<|A9 (d',Ap)) b->Aa d c b:=λb a'=>by
  obtain⟨j,e,h1,s⟩:=a'
  obtain⟨O,x,y⟩:=Bf.ET hd ⟨e,h1,s⟩;exact⟨j,O,x,y⟩
 have I:∀b u,H b=A9 u->¬(Aa d c b\/T b)->upd H a o b=A9 u:=λb u e n=>by rw[jx<|by intro z;subst z;exact n<|.inl v];exact e
 have L:∀b,H b≠U->upd H a o b≠U:=λb z=>by
  by_cases C:b=a
  .subst C;rw[jv];simp
  rw[jx C];exact z
 have sub:∀b,(Aa d (c.set i<|A9 (d',Ap)) b\/T b)->Aa d c b\/T b:=λb z=>z.imp (B b) id;refine⟨⟨by rw[sJ];exact E.len,λj e h=>?_,λj e h=>?_,λj k e f b h hk h1 s=>?_,λb z=>E.nT b<|B b z,λb z=>by have ne:b≠a:=λe=>E.nT a v<|e▸z;rw[jx ne];exact E.dom b z⟩,⟨λb u e n=>by rw[jx<|by intro z;subst z;exact n v];exact e,λj b z=>Bf.ET hd z,L⟩⟩
 .rcases nE h with⟨_,_,q⟩|⟨_,q⟩
  .cases q
  obtain⟨w,p,A⟩:=E.val j e q;exact⟨w,p,Rep.mono I (λb _ z=>sub b z) A⟩
 .rcases nE h with⟨rfl,_,q⟩|⟨ne,q⟩
  .cases q;exact⟨a,t,r.mono (λ_ _ e _=>e) (λb _ z=>sub b z) λ_ e=>e⟩
  obtain⟨b,p,A⟩:=E.own j e q;refine⟨b,p,A.mono I (λb _ z=>sub b z) λu J=>?_⟩;rw[jx]
  .exact J
  intro z;subst z;exact ne<|E.inj i j _ _ _ hd q t p
 obtain⟨Q,x,y⟩:=Bf.ET hd ⟨e,h,h1⟩;obtain⟨G,M,N⟩:=Bf.ET hd ⟨f,hk,s⟩;exact E.inj j k Q G b x M y N
def ER.write(E:ER K H T d c)(hd:c[i]?=Y (Y (.lst l,J)))(f:d[i]?=Y (Y<|.ref a))(r:AG K H (λb=>Aa d c b\/T b) m g):
  ER K (upd H a<|.lst g) T d (c.set i<|Y (.lst m,J))/\Bo d c H (c.set i<|Y (.lst m,J)) (upd H a<|.lst g):=
 E.ET hd f ⟨g,jv,AG.mono (λb o e n=>by rw[jx<|by intro z;subst z;exact n<|.inl ⟨i,_,hd,f⟩];exact e) (λ_ _ z=>z) r⟩
end
noncomputable def md(i:Nat)(f:F):F:=λa=>match a[i]? with
 |some (Y (.lst _,J))=>(f a).bind λp=>match p.2[i]? with
  |some (Y (.lst l,J))=>if (A2 l)<sizeLine then Y ((.Ar,C),p.2.set i<|Y (.lst<|l++[p.1.1],J))else U
  |_=>U
 |_=>U
def Az(i:Nat)(f:FO):F:=λa=>match a[i]? with
 |some (Y (.lst _,J))=>(f a).bind λp=>match res p.2 p.1,p.2[i]? with
  |some (.int k),Y (Y (.lst l,J))=>if -(2^63)<=k/\k<2^63 then(GN (A2 l) k).bind λj=>(l[j]?).bind λd=>Y ((d,C),p.2.set i<|Y (.lst<|l.eraseIdx j,J))else U
  |_,_=>U
 |_=>U
def pZ(i:Nat)(f:F)(g:FO):FS:=λa=>(f a).bind λp=>match p.2[i]? with
 |some (Y _)=>(g p.2).bind λq=>match res q.2 q.1,q.2[i]? with
  |some (.int k),Y (Y (.lst l,J))=>(GN (A2 l) k).bind λj=>Y<|.nx<|q.2.set i<|Y (.lst<|l.set j p.1.1,J)
  |_,_=>U
 |_=>U
section
variable {X:Cx}{e c:iT}{f:F}{k:FO}{b m a g:bu}{i:Nat}{x:au}{A:kN}{L:LL}{n:Hp}
theorem AG.erase{K T}{O:B2}:∀{l:List D}{o:List V}(j:Nat),AG K T O l o->AG K T O (l.eraseIdx j) (o.eraseIdx j)
 |[],o,j,h=>by rw[AG]at h;subst h;simp[AG]
 |d::l,o,0,h=>by rw[AG]at h;obtain⟨v,r,rfl,h1,p⟩:=h;exact p
 |d::l,o,j+1,h=>by rw[AG]at h;obtain⟨v,r,rfl,h1,p⟩:=h;exact AG.cons h1<|AG.erase j p
end
noncomputable def Ue(b:Tg)(f:F):FS:=λc=>(f c).bind λp=>(b p.1.1 p.2).bind λa=>Y<|.nx a
section
variable {X:Cx}{A:kN}{L:LL}{m:Hp}{a b h e:iT}{fs:List F}{f:F}{t:Tg}{c l k pt d:bu}{x y:au}{i j:Nat}{kt k2}
def Dq{id:String}{p:bu}{n:ky}{o:List FO}{g:List D->Option (D×Bool)}{z:au}(s:kH X (.builtin id) (GL X.K g))(v:Gl X z)(w:X.mg z=U)(hv:aE z=Y (.builtin id))(r:PA X (e::n) (tA X.K o))(B:z≠"__name__")(T:(z==("__debug__":au))=C)
  (u:ac (e::n) X.env=(C,aW e X.env)::ac n X.env)(q:(aT c<|ac n X.env).any (·.1)=C):PX X (.Call (.Name z p) (e::n) [] c) (ju g o):=pxn<|sV s v w hv r B T u q
def HW{id:String}{p:bu}{n:ky}{o:List FO}{g:List D->Option (D×Bool)}{z:au}(s:kH X (.type id) (GL X.K g))(v:Gl X z)(w:X.mg z=U)(hv:aE z=Y (.type id))(r:PA X (e::n) (tA X.K o))(B:z≠"__name__")(T:(z==("__debug__":au))=C)
  (u:ac (e::n) X.env=(C,aW e X.env)::ac n X.env)(q:(aT c<|ac n X.env).any (·.1)=C):PX X (.Call (.Name z p) (e::n) [] c) (ju g o):=pxn<|qv s v w hv r B T u q
end
def VU:aE "len"=Y (.builtin "len"):=by decide+kernel
noncomputable def uk(N:jw)(c scope:jS)(b:jw)(a:kb)(k:Nat):Bool:=
 (scope.names.all λy=>y.2 != .cell||scope.names.lookup y.1==Y .cell)&&decide (scope.kind=.function)&&(scope.names.all λy=>y.2 != .local||scope.names.lookup y.1==Y .local)&&
 (scope.names.all λy=>y.2 != .free||(c.names.lookup y.1==Y .cell||c.names.lookup y.1==Y .free))&&decide (A2 a+k=A2 b)&&
 ((a.zip b).all λp=>N[p.1]?==Y p.2&&scope.names.lookup p.2==Y .free)
def DX(n:X.N=N)(q:X.env.scope=sc)(h:uk N sc scope c a k=J):Ep X c scope a k:=by
 subst n;subst q;unfold uk at h;simp only[lg,mJ,rZ]at h;obtain⟨⟨⟨⟨⟨h1,d⟩,f⟩,g⟩,l⟩,m⟩:=h;refine⟨λy b e=>?_,d,λy b e=>?_,λy b e=>?_,l,λi j x o r=>?_⟩
 .have:=h1 y b;rw[e]at this;simpa using this
 .have:=f y b;rw[e]at this;simpa using this
 .have:=g y b;rw[e]at this;simpa using this
 have p:(j,x)∈a.zip c:=by
  have:(a.zip c)[i]?=Y (j,x):=by rw[Fu];exact⟨o,r⟩
  exact mW this
 have:=m _ p;simpa using this
noncomputable def jZ:FT:=λδ=>Y (J,δ)
inductive Ty where
 |int|bool|str|tuple|list|dict
noncomputable def Ty.n:Ty->String
 |.int=>"int"|.bool=>"bool"|.str=>"str"|.tuple=>"tuple"|.list=>"list"|.dict=>"dict"
noncomputable def Hf:D->Ty->Bool
 |.bl _,.bool=>J
 |.bl _,.int=>J
 |.int _,.int=>J
 |.str _,.str=>J
 |.tup _,.tuple=>J
 |.lst _,.list=>J
 |.B4 .dct _ _,.dict=>J
 |_,_=>C
noncomputable def tyD:D->String
 |.Ar=>"NoneType"|.bl _=>"bool"|.int _=>"int"|.str _=>"str"|.tup _=>"tuple"|.lst _=>"list"|.B4 .dct _ _=>"dict"|.B4 .set _ _=>"set"|.B4 _ _ _=>"NoneType"
section
variable {X:Cx}{b:jG}{c:L2.St}{H:Hp}{s:iN}
def DF(K:jl)(d:D)(t:Ty):c8 K (.type<|tyD d) (.type t.n)=Y (Hf d t):=by
 cases d with
 |B4 k _ _=>cases k<;>cases t<;>with_unfolding_all rfl
 |_=>cases t<;>with_unfolding_all rfl
def zU(Q:Inv X b c H s)(h:DZ X.K (H a) k l i us)(hk:k=.dct\/k=.set:=by first|exact .inl rfl|exact .inr I):s.TypeIs (.ref a) (tyD<|.B4 k l i):=by
 cases k with
 |dct=>
  rcases h with⟨d,e,_⟩|⟨d,e,_⟩
  .obtain⟨_,_,i,_,o,g,j,h1,f,_⟩:=(show Au X.prog X.w H s.heap a (.dK d)from Q.hok a _ e)
   exact⟨o,h1,f.1⟩
  obtain⟨_,_,p,_,o,g,j,h1,f,_⟩:=(show Au X.prog X.w H s.heap a (.dT d)from Q.hok a _ e)
  exact⟨o,h1,f.1⟩
 |set=>
  obtain⟨_,m,e,_⟩:=h;obtain⟨g,n,t,h1,_⟩:=(show Au X.prog X.w H s.heap a (.B1 m)from Q.hok a _ e)
  exact⟨_,h1,rfl⟩
 |exc T=>rcases hk with z|z<;>cases z
 |_=>exact h.elim
def oq{K H}(h:kg K H O (.B4 k g f) v):KA (λa d=>DZ K (H a) k g f d) (AG K H O f) v:=by
 rcases h with h|⟨a,rfl,h⟩
 .obtain⟨a,d,e,q,r⟩:=h.B4;exact⟨a,d,e,q.2,r⟩
 obtain⟨d,e,r⟩:=h;exact⟨a,d,rfl,e,r⟩
end
theorem mK(K:jl)(d:D):∀a:List Ty,eC K (.type<|tyD d) (a.map λt=>b3 t.n)=Y (a.any<|Hf d)
 |[]=>rfl
 |t::a=>by
  rw[jP,eC,DF,sA]
  cases Hf d t
  .simpa using mK K d a
  rfl
def Ta{K:jl}{T:Nat}(h:∀n∈["int","bool","str","tuple","list","dict"],c8 K (.ref T) (.type n)=Y C)(t:Ty){ks vs:List D}:c8 K (.ref T) (.type t.n)=Y (Hf (.B4 (.exc T) ks vs) t):=by
 cases t<;>exact h _ (by simp[Ty.n])
theorem IQ{K:jl}{T:Nat}(h:∀n∈["int","bool","str","tuple","list","dict"],c8 K (.ref T) (.type n)=Y C){ks vs:List D}:∀a:List Ty,eC K (.ref T) (a.map λt=>b3 t.n)=Y (a.any<|Hf<|.B4 (.exc T) ks vs)
 |[]=>rfl
 |t::a=>by
  rw[jP,eC,Ta h t (ks:=ks) (vs:=vs),sA]
  cases Hf (.B4 (.exc T) ks vs) t
  .simpa using IQ h a
  rfl
section
variable {X:Cx}{c:jG}{f:L2.St}{H:Hp}{s:iN}
def aaA(N:Inv X c f H s)(hd:kg X.K H O d x)(g:RelV x u)(h:∀j,Q (.bool<|Hf d t) {s with toks:=j}):
  ae (af X.prog X.w) A (call (.builtin "isinstance") [u,.type t.n]) Q E s:=by
 cases d with
 |Ar=>have:=Eb hd;subst this;cases g;exact rd ia N.G8 bq (DF X.K .Ar t) (λz=>nomatch z) h
 |bl b=>have:=Dc hd;subst this;cases g;exact rd il N.G8 bq (DF X.K (.bl b) t) (λz=>nomatch z) h
 |int b=>have:=jB hd;subst this;obtain⟨j,rfl⟩:=g;exact rd iC N.G8 bq (DF X.K (.int b) t) (λz=>nomatch z) h
 |str b=>have:=vS hd;subst this;obtain⟨j,rfl⟩:=g;exact rd iq N.G8 bq (DF X.K (.str b) t) (λz=>nomatch z) h
 |tup l=>obtain⟨a,y,rfl,q,_⟩:=lr hd;cases g;obtain⟨r,_,⟨o,h1,i,_⟩,_⟩:=N.tuple q;exact rd hL N.G8 ⟨o,h1,i⟩ (DF X.K (.tup l) t) (λz=>nomatch z) h
 |lst l=>obtain⟨a,y,rfl,q,_⟩:=kU hd;cases g;obtain⟨r,_,⟨o,n,h1,i,_⟩,_⟩:=N.list q;exact rd ib N.G8 ⟨o,h1,i⟩ (DF X.K (.lst l) t) (λz=>nomatch z) h
 |B4 k m p=>
  obtain⟨a,B,rfl,q,_⟩:=oq hd;cases g
  cases k with
  |dct=>exact rd ig N.G8 (zU N q) (DF X.K (.B4 .dct m p) t) (λz=>nomatch z) h
  |set=>exact rd iB N.G8 (zU N q) (DF X.K (.B4 .set m p) t) (λz=>nomatch z) h
  |exc T=>obtain⟨_,o,e,h1,i,v⟩:=q;exact rd (i a) N.G8 (show Au X.prog X.w H s.heap a (.D3 o<|.own 0)from N.hok a _ e).1 (Ta v t) (λz=>nomatch z) h
  |_=>exact q.elim
def aaz{A:jh}{E:jy}{Q:jy}(M:Inv X c f H s){O:B2}{d:D}{x:V}{u:iQ}{ts:List Ty}{p:iJ}{dd:Option iJ}{n:Nat}{L:ya}(hd:kg X.K H O d x)(i:RelV x u)
  (g:s.heap.get? p=Y ⟨.type "tuple",dd,.seq (ts.map λt=>b3 t.n).toArray n,L⟩)(h:∀m,Q (.bool<|ts.any<|Hf d) {s with toks:=m}):ae (af X.prog X.w) A (call (.builtin "isinstance") [u,.ref p]) Q E s:=by
 cases d with
 |Ar=>have:=Eb hd;subst this;cases i;exact qZ ia M.G8 bq g (mK X.K .Ar ts) (λz=>nomatch z) h
 |bl b=>have:=Dc hd;subst this;cases i;exact qZ il M.G8 bq g (mK X.K (.bl b) ts) (λz=>nomatch z) h
 |int b=>have:=jB hd;subst this;obtain⟨m,rfl⟩:=i;exact qZ iC M.G8 bq g (mK X.K (.int b) ts) (λz=>nomatch z) h
 |str b=>have:=vS hd;subst this;obtain⟨m,rfl⟩:=i;exact qZ iq M.G8 bq g (mK X.K (.str b) ts) (λz=>nomatch z) h
 |tup l=>obtain⟨a,T,rfl,q,_⟩:=lr hd;cases i;obtain⟨y,_,⟨o,h1,j,_⟩,_⟩:=M.tuple q;exact qZ hL M.G8 ⟨o,h1,j⟩ g (mK X.K (.tup l) ts) (λz=>nomatch z) h
 |lst l=>obtain⟨a,T,rfl,q,_⟩:=kU hd;cases i;obtain⟨y,_,⟨o,n,h1,j,_⟩,_⟩:=M.list q;exact qZ ib M.G8 ⟨o,h1,j⟩ g (mK X.K (.lst l) ts) (λz=>nomatch z) h
 |B4 k r v=>
  obtain⟨a,G,rfl,q,_⟩:=oq hd;cases i
  cases k with
  |dct=>exact qZ ig M.G8 (zU M q) g (mK X.K (.B4 .dct r v) ts) (λz=>nomatch z) h
  |set=>exact qZ iB M.G8 (zU M q) g (mK X.K (.B4 .set r v) ts) (λz=>nomatch z) h
  |exc N=>obtain⟨_,o,e,h1,j,B⟩:=q;exact qZ (j a) M.G8 (show Au X.prog X.w H s.heap a (.D3 o<|.own 0)from M.hok a _ e).1 g (IQ B ts) (λz=>nomatch z) h
  |_=>exact q.elim
end
def wB(ts:List Ty)(d:D):Option (D×Bool):=Y (.bl<|ts.any<|Hf d,C)
section
variable {X:Cx}{e:iT}{g:FO}{f p c:bu}{z:au}
def Uz{t:Ty}(L:PO X e g)(J:Gl X "isinstance")(M:X.mg "isinstance"=AR)(m:Gl X z)(w:X.mg z=AR)(Y:aE z=A9 (.type t.n))(N:z≠"__name__")(i6:(z==("__debug__":au))=AX)(hv:aE "isinstance"=A9 (.builtin "isinstance"))
  (s1:ac [e,.Name z c] X.env=(AX,aW e X.env)::ac [.Name z c] X.env)(s2:ac [.Name z c] X.env=(AX,aW (.Name z c) X.env)::ac [] X.env)(y:(aT f<|ac [.Name z c] X.env).any (·.1)=AX):
  PX X (.Call (.Name "isinstance" p) [e,.Name z c] [] f) (ma (wB [t]) g):=by
 have G:kH X (.builtin "isinstance") (λl H Q=>∃(O:B2)(d:D)(x:V),l=[x,.ty t.n]/\kg X.K H O d x/\Q (.bl<|Hf d t) H):=by intro i s W H l us Q I r h;obtain⟨O,d,x,rfl,hd,q⟩:=h;obtain⟨u,w',rfl,P,F⟩:=vT r;cases F;exact aaA I hd P λtk=>⟨.bl _,H,I.tok _,rfl,q⟩
 refine PX.imp (sV G J M hv (lP L (lP (yM (v:=.ty t.n) m w Y AM N i6) oz s2) s1) (by decide) (by decide) s1 y) λW H Q U=>?_;obtain⟨R,T,rr,S,E,e,k⟩:=U;obtain⟨o,a,h1,e⟩:=iR e;obtain⟨x,A,e⟩:=iM e;obtain⟨zz,C,e⟩:=iM e;cases C;obtain⟨rfl,rfl⟩:=jn e;refine⟨R,T,o,a,E,h1,λv Z b=>?_⟩;have B:=Ops.cons E b<|Ops.nil<|b.er E;refine⟨_,x,v,rfl,B.view (j:=0) AM AM A,?_⟩;have:=(B.done k).bl;simpa using this
def Qh{t m:Ty}{z i:au}{l y:bu}{w}(ha:PO X e g)(hg:Gl X "isinstance")(hm:X.mg "isinstance"=AR)(aO:Gl X z)(ej:X.mg z=AR)(hz:aE z=A9 (.type t.n))(hn:z≠"__name__")(i6:(z==("__debug__":au))=AX)
  (cS:Gl X i)(A:X.mg i=AR)(fm:aE i=A9 (.type m.n))(cP:i≠"__name__")(cX:(i==("__debug__":au))=AX)(hv:aE "isinstance"=A9 (.builtin "isinstance"))
  (s1:ac [e,.Tuple [.Name z c,.Name i l] w y] X.env=(AX,aW e X.env)::ac [.Tuple [.Name z c,.Name i l] w y] X.env)(s2:ac [.Tuple [.Name z c,.Name i l] w y] X.env=(AX,aW (.Tuple [.Name z c,.Name i l] w y) X.env)::ac [] X.env)
  (s3:ac [.Name z c,.Name i l] X.env=(AX,aW (.Name z c) X.env)::ac [.Name i l] X.env)(s4:ac [.Name i l] X.env=(AX,aW (.Name i l) X.env)::ac [] X.env)
  (f7:(aT f<|ac [.Tuple [.Name z c,.Name i l] w y] X.env).any (·.1)=AX):
  PX X (.Call (.Name "isinstance" p) [e,.Tuple [.Name z c,.Name i l] w y] [] f) (ma (wB [t,m]) g):=by
 have S:kH X (.builtin "isinstance") (λF H Q=>∃(O:B2)(d:D)(x:V)(q:iJ),F=[x,.ref q]/\H q=A9 (.tup [.ty t.n,.ty m.n])/\kg X.K H O d x/\Q (.bl<|[t,m].any<|Hf d) H):=by intro Y s P H F us Q I r h;obtain⟨O,d,x,q,rfl,N,hd,k⟩:=h;obtain⟨u,w',rfl,ru,Z⟩:=vT r;cases Z;obtain⟨_,b6,v1,o,h1,G,n,J⟩:=I.hok q _ N;obtain⟨u1,u2,rfl,r1,r2⟩:=vT v1;cases r1;cases r2;obtain⟨R,dd,dt,sl⟩:=o;simp only at G J;subst G;subst J;exact aaz (ts:=[t,m]) I hd ru h1 λtk=>⟨.bl _,H,I.tok _,rfl,k⟩
 refine PX.imp (sV S hg hm hv (lP ha (lP (M9<|lP (yM (v:=.ty t.n) aO ej hz AM hn i6) (lP (yM (v:=.ty m.n) cS A fm AM cP cX) oz s4) s3) oz s2) s1) (by decide) (by decide) s1 f7) λP H Q W=>?_;obtain⟨δ,T,rr,δ',E,e,k⟩:=W;obtain⟨o,L,h1,e⟩:=iR e;obtain⟨x,G,e⟩:=iM e;obtain⟨zz,J,e⟩:=iM e;cases J;obtain⟨rfl,rfl⟩:=jn e;refine⟨δ,T,o,L,E,h1,λv H1 U=>⟨by show 2<=sizeLine;decide,λq N=>?_⟩⟩;have B:=Ops.cons E U<|Ops.nil<|U.er E;have M:=lO (o:=.tup [.ty t.n,.ty m.n]) N;have C:=B.view (j:=0) AM AM G;refine⟨λa=>Aa P L a\/T a,x,v,q,rfl,jv,?_,?_⟩
 .rcases C with C|⟨a,rfl,C⟩
  .exact .inl (Rep.mono (λb o e _=>M b o e) (λ_ _ z=>z) C)
  exact .inr ⟨a,rfl,C.mono (λb o e _=>M b o e) (λ_ _ z=>z) λo e=>M a o e⟩
 exact(B.done k) _ _ M Rep.Hm
end
noncomputable def oN:List D->Option (List Bool)
 |[]=>Y []
 |.bl b::l=>(oN l).map (b:: ·)
 |_::_=>U
def vC:D->Option (D×Bool)
 |.lst l=>(oN l).map λbs=>(.bl<|bs.all id,C)
 |_=>U
def EZ:D->Option (D×Bool)
 |.lst l=>(oN l).map λbs=>(.bl<|bs.any id,C)
 |_=>U
theorem yo{K T}{O:B2}:∀{l:List D}{bs:List Bool}{e:List V}{d:jN},oN l=Y bs->AG K T O l e->Vals e d->LSm.BoolsAre d bs
 |[],bs,e,d,h,r,v=>by
  cases h;rw[AG]at r;subst r;cases v;exact .nil
 |.bl b::l,bs,e,d,h,r,v=>by
  obtain⟨f,h1,rfl⟩:=jz h;rw[AG]at r;obtain⟨x,j,rfl,g,i⟩:=r;have:=g.bl;subst this
  cases v with
  |cons a c=>cases a;exact .cons b<|yo h1 i c
 |.Ar::l,_,_,_,h,_,_=>by cases h
 |.int _::l,_,_,_,h,_,_=>by cases h
 |.str _::l,_,_,_,h,_,_=>by cases h
 |.tup _::l,_,_,_,h,_,_=>by cases h
 |.lst _::l,_,_,_,h,_,_=>by cases h
 |.B4 _ _ _::l,_,_,_,h,_,_=>by cases h
section
variable {X:Cx}
def abO{h a:jg}{o:fD}(hk:∀b x,b∉[h.objs.size]->(h.push o).get? b=Y x->a.get? b=Y x)(b:iJ)(x:fD)(e:h.get? b=Y x):a.get? b=Y x:=
 hk b x (λz=>by have:=Fw.mp z;subst this;exact absurd (km e)<|oX _) (ke _ e)
def Ja(q:Bool)(B:X.calm=Ap):kH X (.builtin (if q then "all" else "any")) (GL X.K<|g1 (if q then vC else EZ)):=nU λm s J M x u Q O d z I N np hd j G=>by
 cases d with
 |lst l=>
  cases q<;>(
   obtain⟨bs,y,rfl⟩:=jz j;obtain⟨p,T,rfl,q,r⟩:=kU hd;cases N;obtain⟨f,v,a,_⟩:=I.list q;have are:=yo y r v;have k:X.A.in1.handled=U:=I.ok.hd B;have c:p<s.heap.objs.size:=by obtain⟨_,e,_⟩:=a.isList;exact km e
   first|refine call_all_walk (xH a.isList ⟨s.heap.objs.size,[s.heap.objs.size,p],[s.heap.objs.size],f.toArray.size,_,_,λi=>(bs[i]?).getD Ap,rfl,CS k _ p (kF c) f.toArray,⟨⟨_,kE _ rfl,rfl,rfl⟩,a.isList.push _⟩,λi w E o n h g=>?_,λt L hk=>?_⟩)|refine call_any_walk<|xH a.isList ⟨s.heap.objs.size,[s.heap.objs.size,p],[s.heap.objs.size],f.toArray.size,_,_,λi=>(bs[i]?).getD C,rfl,CS k _ p (kF c) f.toArray,⟨⟨_,kE _ rfl,rfl,rfl⟩,a.isList.push _⟩,λi w E o n h g=>?_,λt L hk=>?_⟩
   .obtain⟨b,e,rfl⟩:=are.get i w (by simpa using h);dsimp only at g;rw[e]at g;exact sN g
   rw[kz,are.length];(first|rw[LSm.range_all]|rw[LSm.range_any])
   exact⟨.bl _,M,I.kept<|abO hk,rfl,G.bl⟩)
 |_=>cases q<;>cases j
def adS(a:X.calm=J):kH X (.builtin "all") (GL X.K<|g1 vC):=Ja J a
def ael(a:X.calm=J):kH X (.builtin "any") (GL X.K<|g1 EZ):=Ja C a
def Of:=gI λi j=>Y<|.int (if j>i then j else i)
def II:=gI λi j=>Y<|.int (if j<i then j else i)
def acW(c:X.calm=J):kH X (.builtin "max") (GL X.K<|g2 Of):=OQ λa s k T x y h Q O d e z N r np h1 b g G=>by obtain⟨i,j,w,rfl,rfl,f,rfl⟩:=yP g;cases f;exact aeh c a s k T [x,y] h Q N r ⟨i,j,by rw[jB h1,jB b],G.int⟩
def acV(c:X.calm=J):kH X (.builtin "min") (GL X.K<|g2 II):=OQ λa s k T x y h Q O d e z N r np h1 b g G=>by obtain⟨i,j,w,rfl,rfl,f,rfl⟩:=yP g;cases f;exact aeg c a s k T [x,y] h Q N r ⟨i,j,by rw[jB h1,jB b],G.int⟩
def zL{lo:Int}{n:Nat}{a:nJ}(h:nf (λi v=>∃t,v=.int (lo+(i:Int)*1) t) a n):Vals ((am n).map λ(k:Nat)=>V.int<|lo+k) a.toList:=by
 have key:∀(l:jN)(m:Nat),(∀(j:Nat) v,l[j]?=Y v->∃t,v=.int (lo+((m+j:Nat):Int)) t)->Vals ((bN m<|A2 l).map λ(k:Nat)=>V.int<|lo+k) l:=by
  intro l
  induction l with
  |nil=>intro m _;exact .nil
  |cons v l d=>intro m hv;obtain⟨t,e⟩:=hv 0 v I;refine .cons ⟨t,by simpa using e⟩<|d (m+1) λj w c=>?_;obtain⟨f,b⟩:=hv (j+1) w (by simpa using c);exact⟨f,by rw[b];congr 2;first|done|lia⟩
 have:=key a.toList 0 λj v hv=>by obtain⟨t,e⟩:=h.2 j v (by simpa using hv);exact⟨t,by rw[e];congr 1⟩
 rw[lT,h.1,<-List.range_eq_range']at this;exact this
def acw{K T}(lo:Int)(n:Nat):AG K T O (jA lo n) ((am n).map λ(k:Nat)=>V.int<|lo+k):=by
 unfold jA
 induction(am n)with
 |nil=>exact AG.nil
 |cons k l a=>exact AG.cons Rep.mkInt a
end
def Eo(lo a:Int):Prop:= -(2^62)<=lo/\lo<2^62/\ -(2^62)<=a/\a<2^62/\(a-lo).toNat<=2^24
instance(lo hi:Int):Decidable (Eo lo hi):=by unfold Eo;infer_instance
noncomputable def Jn(lo a:Int):List V:=(am (a-lo).toNat).map λ(k:Nat)=>V.int<|lo+k
def Eo.small{lo a:Int}(h:Eo lo a):y4 lo a 1=J:=small_one h.1 h.2.1 h.2.2.1 h.2.2.2.1
def HR(lo a:Int):fM lo a 1=((a-lo).toNat:Nat):=by rw[No];split<;>lia
section
variable {c:jm}{w:je}{A:jh}{E:jy}{s:iN}
def acT{Q:List iQ->Shared->Prop}{r:iJ}{lo n:Int}{t u v:wf}(O:A.handled=U)(x:Tl s.heap r lo n 1 t u v)(ok:Eo lo n)
  (B:∀(g:jg) k (d:nJ),(∀b o,s.heap.get? b=Y o->g.get? b=Y o)->nf (λi v=>∃t,v=.int (lo+(i:Int)*1) t) d (n-lo).toNat->Q d.toList {s with heap:=g,toks:=k}):
  ae (af c w) A (gm<|.ref r) Q E s:=by
 unfold gm;refine iL<|F5<|qf F.entry_proto_collect ?_;rw[uB F.plain_proto_collect _];refine iL (m:=v8 [])<|oi ?_;refine ja ⟨sy F.plain_list_iadd _,qf F.entry_list_iadd ?_⟩;rw[uB F.plain_list_iadd _];have z:=kE s.heap (o:=({cls:=.type "list",data:=.seq ([]:List iQ).toArray}:fD)) I
 let R:m9->Shared->Prop:=λr j=>∃(g:jg)(k:Nat)(d:nJ)(l:Nat),r=.ok (.ret<|.ref s.heap.objs.size)/\j={s with heap:=g,toks:=k}/\(∀b o,s.heap.get? b=Y o->g.get? b=Y o)/\
  g.get? s.heap.objs.size=Y {cls:=.type "list",dict:=U,data:=.seq d l,slots:= #[]}/\nf (λi v=>∃t,v=.int (lo+(i:Int)*1) t) d (n-lo).toNat
 have fin:∀{r j},R r j->∃v,r=.ok (.ret v)/\ae (af c w) A (match v with
   |Value.ref a=>do
    match(<-load a).data with
     |Data.seq xs _=>pure xs.toList
     |_=>o8 "internal:collect"
   |_=>o8 "internal:collect") Q E j:=λ{r j} T=>by
  obtain⟨g,k,d,l,rfl,rfl,hk,p,y⟩:=T;exact⟨_,rfl,iL (m:=load s.heap.objs.size)<|C6 p<|ja<|B g k d hk y⟩
 refine oj (wpAny_extend_range (A:=A) (R:=R) (s:={s with heap:=s.heap.push {cls:=.type "list",data:=.seq ([]:List iQ).toArray}}) O (ke _ x) ok.small (HR lo n) ok.2.2.2.2 _ _ 0 z λg k N l hk p y=>⟨g,k,N,l,rfl,rfl,λb o e=>hk b o (kF<|km e)<|ke _ e,p,y⟩) (λf j h=>?_) λe j h=>?_
 .cases f with
  |done f=>obtain⟨v,hv,q⟩:=fin h;cases hv;exact q
  |again l=>exact⟨h.1,rL h.2 λr L x=>by obtain⟨v,rfl,q⟩:=fin x;exact q⟩
 obtain⟨v,hv,_⟩:=fin h;cases hv
def abV{Q₁:jy}{r:iJ}{lo g:Int}{t u v:wf}(p:A.handled=U)(l:Tl s.heap r lo g 1 t u v)(ok:Eo lo g)
  (h:∀(d:jg) k (a:nJ),(∀b o,s.heap.get? b=Y o->d.get? b=Y o)->nf (λi v=>∃t,v=.int (lo+(i:Int)*1) t) a (g-lo).toNat->Q₁ (.ref d.objs.size) {s with heap:=d.push {cls:=.type "tuple",data:=.seq a},toks:=k}):
  cb (af c w) A (.call (.builtin "tuple.__new__") ⟨[.type "tuple",.ref r],[]⟩) (Go Q₁ E) s:=by
 refine xv ?_;refine iL (m:=c7 "tuple.__new__" _)<|vL (F.newCall_tuple_1 _)<|ja ⟨sy F.plain_tuple_new _,qf F.entry_tuple_new ?_⟩;rw[uB F.plain_tuple_new _];have z:=sub_tuple_self;have j:=init_tuple_lookup;have q:=madeHere_tuple;have y:s.TypeIs (.ref r) "range":=⟨_,l,rfl⟩
 have f:A.in1.handled=U:=p
 wp_walk using vM y,acT f l ok
 intro d k a hk n;have x:a.size<=sizeLine:=by rw[n.1,kK];have:=ok.2.2.2.2;omega
 refine iL (m:=bc a.toList.toArray) ?_;unfold bc;refine oi ?_ (by show a.toList.toArray.size<=sizeLine;simpa using x);refine ja ?_;have e:a.toList.toArray=a:=by simp
 rw[e];exact h d k a hk n
def abG{Q:jy}{r:iJ}{lo g:Int}{t u v:wf}(k:A.handled=U)(m:Tl s.heap r lo g 1 t u v)(ok:Eo lo g)
  (h:∀(f:jg) j (e:nJ),(∀b o,s.heap.get? b=Y o->f.get? b=Y o)->nf (λi v=>∃t,v=.int (lo+(i:Int)*1) t) e (g-lo).toNat->Q (.ref f.objs.size) {s with heap:=f.push {cls:=.type "tuple",data:=.seq e},toks:=j}):
  ae (af c w) A (call (.type "tuple") [.ref r]) Q E s:=by
 refine I8 (Q₁:=λobj a=>a.TypeIs obj "tuple"/\Q obj a) Pp (F.typeCall_tuple_1 _) Ly
  (abV k m ok λf j e l n=>⟨⟨_,kE _ rfl,rfl⟩,h f j e l n⟩) λobj a d=>?_
 exact⟨d.1,Lx obj _,object_init_meets Pp.init.lookup Pp.made (by decide) c w A.in1 _ a ⟨d.1,rfl,d.2⟩⟩
end
section
variable {X:Cx}
def Cg:kH X (.type "range") (λc T Q=>∃i j,c=[.int i,.int j]/\∀r,T r=U->Q (.ref r) (upd T r<|.rng i j)):=by intro a s k T c g Q O r h;obtain⟨i,j,rfl,h⟩:=h;obtain⟨u,f,rfl,⟨t,rfl⟩,⟨d,rfl⟩⟩:=vT r;exact SS ⟨.ref _,_,O.laid (o:=.rng i j) (λb o e=>ke _ e) (kc _) ⟨_,_,_,kE _ rfl⟩,rfl,h _ O.fresh⟩
def abH(i:X.calm=J):kH X (.type "list") (λf T Q=>∃r lo a,f=[.ref r]/\T r=Y (.rng lo a)/\Eo lo a/\∀l,T l=U->Q (.ref l) (upd T l<|.lst<|Jn lo a)):=by intro d s x T f q Q O g h;obtain⟨r,lo,a,rfl,j,ok,h⟩:=h;obtain⟨u,rfl,m⟩:=qm g;cases m;obtain⟨t,u,v,er⟩:=O.hok r _ j;refine call_list_range (A:=X.A) (O.ok.hd i) er ok.small (HR lo a) ok.2.2.2.2 λo p b c k e items=>?_;have n:=zL items;refine⟨.ref _,_,O.laid k (kc _) (show Au X.prog X.w _ _ _ (.lst<|Jn lo a)from⟨?_,b.toList,c,n,by simpa using e⟩),rfl,h _ O.fresh⟩;have:=ok.2.2.2.2;simp only[Jn,kd,n5,kK];omega
def abi(k:X.calm=J):kH X (.type "tuple") (λi T Q=>∃r lo c,i=[.ref r]/\T r=Y (.rng lo c)/\Eo lo c/\∀l,T l=U->Q (.ref l) (upd T l<|.tup<|Jn lo c)):=by intro d s y T i z Q O j h;obtain⟨r,lo,c,rfl,m,ok,h⟩:=h;obtain⟨u,rfl,p⟩:=qm j;cases p;obtain⟨t,u,v,er⟩:=O.hok r _ m;refine abG (A:=X.A) (O.ok.hd k) er ok λg x a n items=>?_;have q:=zL items;have f:Inv X d y T {s with heap:=g,toks:=x}:=O.kept n;refine⟨.ref _,_,f.laid (λb o e=>ke _ e) (kc _) (show Au X.prog X.w _ _ _ (.tup<|Jn lo c)from⟨?_,a.toList,q,by have:=CZ g a;simpa using this⟩),rfl,h _ f.fresh⟩;have:=ok.2.2.2.2;simp only[Jn,kd,n5,kK];omega
def JX(mk:List D->D)(o:Bool):List D->Option (D×Bool)
 |[.int j]=>if Eo 0 j then Y (mk<|jA 0 j.toNat,o)else U
 |[.int i,.int j]=>if Eo i j then Y (mk<|jA i (j-i).toNat,o)else U
 |_=>U
def HS{K T}(lo a:Int):AG K T O (jA lo (a-lo).toNat) (Jn lo a):=acw lo _
variable {a b:iT}{n m:FO}{p g d f:bu}
def Ef(h:upd T r o l=U):T l=U:=by
 by_cases e:l=r
 .subst e;rw[jv]at h;cases h
 rwa [jx e]at h
def Cq{K:jl}{T q:B2}{s:L2.St}{r c:Dn}{Q o:Hp}{os:List Bq}{l:List V}{e:List D}(B:Ops K T s r Q os l c o q)(h:vp c os=Y e){is:iZ}(hd:e=is.map .int):l=is.map .int:=by
 obtain⟨h1,t⟩:=pe h;apply zi;intro j;by_cases k:j<A2 is
 .rw[tP B h (j:=j) (i:=is[j])<|by rw[hd];simp[k]];simp[k]
 have u:=B.len;subst hd;simp at h1;rw[hZ<|by lia,hZ<|by simp;lia]
def Uu{T:String}{z:au}{mk:List D->D}{o:Bool}(hT:(T="list"/\mk=.lst/\o=Ap)\/(T="tuple"/\mk=.tup/\o=AX))(U:X.calm=Ap)(Y:Gl X z)(hm:X.mg z=AR)(hv:aE z=A9 (.type T))(hn:z≠"__name__")(i6:(z==("__debug__":au))=AX)
  (J:Gl X "range")(G:X.mg "range"=AR)(N:PA X [a,b] (tA X.K [n,m]))
  (s1:ac [.Call (.Name "range" g) [a,b] [] f] X.env=(AX,aW (.Call (.Name "range" g) [a,b] [] f) X.env)::ac [] X.env)(s2:ac [a,b] X.env=(AX,aW a X.env)::ac [b] X.env)
  (M:(aT d<|ac [] X.env).any (·.1)=AX)(O:(aT f<|ac [b] X.env).any (·.1)=AX):
  PX X (.Call (.Name z p) [.Call (.Name "range" g) [a,b] [] f] [] d) (ju (JX mk o) [n,m]):=by
 have t:∀{w c:Dn}{os:List Bq},kj [n,m] w=A9 (os,c)->os.length=2:=λ{w c os} h1=>by unfold kj at h1;obtain⟨p,q1,h1⟩:=iM h1;obtain⟨q,v,h1⟩:=iM h1;unfold kj at v;obtain⟨p3,q3,v⟩:=iM v;obtain⟨q4,F,v⟩:=iM v;unfold kj at F;cases F;obtain⟨rfl,rfl⟩:=jn h1;cases v;rfl
 rcases hT with⟨rfl,rfl,rfl⟩|⟨rfl,rfl,rfl⟩
 .refine PX.imp (qv (abH U) Y hm hv (lP (qv Cg J G C5 N (by decide) (by decide) s2 O) oz s1) hn i6 s1 M) λZ H Q C=>?_;obtain⟨w,T,S,L,E,e,k⟩:=C;obtain⟨os,c,h1,e⟩:=iR e;obtain⟨R,y,e⟩:=iM e;obtain⟨W,h,e⟩:=iM e;obtain⟨rfl,rfl⟩:=jn e;refine⟨w,T,os,c,E,h1,λV x P B=>?_⟩;unfold JX at h;split at h
  .obtain⟨s,_⟩:=pe y;have:=t h1;simp at s;omega
  .rename_i i j;obtain⟨ok,rfl⟩:=jo h;refine⟨i,j,Cq B y (is:=[i,j]) AM,λr A=>⟨r,i,j,rfl,jv,ok,λl s=>?_⟩⟩;have I:∀a u,x a=A9 u->upd (upd x r<|.rng i j) l (.lst<|Jn i j) a=A9 u:=λa u e=>lO s a u<|lO A a u e;exact(B.done k) l _ (Ef s) I ⟨Jn i j,jv,HS i j⟩
  cases h
 refine PX.imp (qv (abi U) Y hm hv (lP (qv Cg J G C5 N (by decide) (by decide) s2 O) oz s1) hn i6 s1 M) λZ H Q C=>?_;obtain⟨w,T,S,L,E,e,k⟩:=C;obtain⟨os,c,h1,e⟩:=iR e;obtain⟨R,y,e⟩:=iM e;obtain⟨W,h,e⟩:=iM e;obtain⟨rfl,rfl⟩:=jn e;refine⟨w,T,os,c,E,h1,λV x P B=>?_⟩;unfold JX at h;split at h
 .obtain⟨s,_⟩:=pe y;have:=t h1;simp at s;omega
 .rename_i i j;obtain⟨ok,rfl⟩:=jo h;refine⟨i,j,Cq B y (is:=[i,j]) AM,λr A=>⟨r,i,j,rfl,jv,ok,λl s=>?_⟩⟩;have I:∀a u,x a=A9 u->upd (upd x r<|.rng i j) l (.tup<|Jn i j) a=A9 u:=λa u e=>lO s a u<|lO A a u e;exact(B.done k) _ _ I (Rep.Hu ⟨jv,B.np<|Mb<|Ef s⟩<|HS i j)
 cases h
end
def Src(h:jg)(it l:iJ)(i:Nat)(a:nJ):Prop:=(h.IsListIter it l i/\h.IsList l a)\/(h.IsTupleIter it l i/\h.IsTuple l a)
section
variable {prog:jm}{w:je}{A:jh}{E:jy}{s:iN}{it l:iJ}{i:Nat}{xs:nJ}
def Src.ne(x:Src h it l i xs):l≠it:=by intro e;subst e;rcases x with⟨⟨o,h1,b,a⟩,c,g1,g2,n,g3⟩|⟨⟨o,h1,b,a⟩,c,g1,g2,n,g3⟩<;>(rw[h1]at g1;cases g1;rw[a]at g3;cases g3)
def Src.lt(x:Src h it l i xs):it<h.objs.size/\l<h.objs.size:=by rcases x with⟨⟨o,h1,_⟩,a,g1,_⟩|⟨⟨o,h1,_⟩,a,g1,_⟩<;>exact⟨km h1,km g1⟩
def Src.keep(x:Src h it l i xs)(c:∀o,h.get? it=Y o->h'.get? it=Y o)(d:∀o,h.get? l=Y o->h'.get? l=Y o):Src h' it l i xs:=by
 rcases x with⟨⟨o,h1,r⟩,a,g1,b⟩|⟨⟨o,h1,r⟩,a,g1,b⟩
 .exact .inl ⟨⟨o,c _ h1,r⟩,a,d _ g1,b⟩
 exact .inr ⟨⟨o,c _ h1,r⟩,a,d _ g1,b⟩
def BC{Q:jy}(c:s.heap.IsTupleIter it l i)(q:s.heap.IsTuple l xs)(n:∀x,xs[i]?=Y x->∀b,b.IsTupleIter it l (i+1)->ay it s.heap b->Q x {s with heap:=b})
  (g:xs[i]?=U->A.handled=U/\∀b e,eR it s.heap b->(∃o,b.get? e=Y o/\o.cls=.type "StopIteration")->E (.ref e) {s with heap:=b}):ae (af prog w) A (aL<|.ref it) Q E s:=by
 obtain⟨o,d,p,hd⟩:=id c;obtain⟨t,k,_,r,j⟩:=q;unfold aL;refine iL<|sM (name:=bS "__next__") c.typeIs Lw<|pO Lw c.typeIs F.entry_tuple_iterator_next ?_<|F.args_tuple_iterator_next_1 _;refine iL (m:=j2 (.ref it) 0)<|oW d hd (x:=.ref l) I ?_;show ae _ _ (if(bK l==ao)=J then _ else _) _ _ s;rw[jr (by show ¬(bK l==ao)=J;exact lG)];refine iL (m:=j2 (.ref it) 1)<|oW d hd (x:=.int i 0) I ?_;refine iL (m:=seqItems?<|.ref l)<|qX k j ?_
 cases f:xs[i]? with
 |some x=>simp only[uZ,f];refine iL<|uV d hd (by simp)<|ja ⟨x,rfl,ja<|n x f _ ⟨_,sL _ d (CQ<|uA hd _),(CP ..).trans p,?_⟩ (qW ..)⟩;rw[uA hd];simp[ce]
 |none=>
  obtain⟨h,g⟩:=g f;simp only[uZ,f];refine iL<|uC<|iL<|uV d hd (by simp) ?_;refine iL (m:=mA (.type "StopIteration") []) ?_;simp -iota only[mA,pp];refine iL<|oi (iL (m:=cK _ _)<|vL (a:=ao) (by first|rfl|(simp -iota only[cK];rfl)) ?_) (by size_fits);refine oi ?_ (by size_fits);simp -iota only[Ix];refine iL<|F4 ?_
  first|rw[show A.in1.handled=U from h]|rw[h]
  exact iL<|ja<|F3<|g _ _ (((qW ..).extBut.push _).push _) ⟨_,kE _ rfl,rfl⟩
def Src.item{x:iQ}{Q:jy}(st:Src s.heap it l i xs)(g:xs[i]?=Y x)(h:∀c,Src c it l (i+1) xs->ay it s.heap c->Q x {s with heap:=c}):
  ae (af prog w) A (aL<|.ref it) Q E s:=by
 have ne:=st.ne;rcases st with⟨a,b⟩|⟨a,b⟩
 .exact wpAny_nextOf_list_item a b g λc f d=>h c (.inl ⟨f,b.extBut d.extBut ne⟩) d
 exact BC a b (λj e c f d=>by rw[g]at e;cases e;exact h c (.inr ⟨f,b.extBut d.extBut ne⟩) d) λe=>by rw[g]at e;cases e
def Src.stop{Q:jy}(f:A.handled=U)(st:Src s.heap it l i xs)(g:xs[i]?=U)
  (d:∀c e,eR it s.heap c->(∃o,c.get? e=Y o/\o.cls=.type "StopIteration")->E (.ref e) {s with heap:=c}):ae (af prog w) A (aL<|.ref it) Q E s:=by
 rcases st with⟨a,b⟩|⟨a,b⟩
 .exact wpAny_nextOf_list_end f a b g d
 exact BC a b (λx e=>by rw[g]at e;cases e) λ_=>⟨f,d⟩
def Src.new(a:s.heap.IsList l xs\/s.heap.IsTuple l xs)(d:∀c,Src c s.heap.objs.size l 0 xs->c.objs.size=s.heap.objs.size+1->(∀b o,s.heap.get? b=Y o->c.get? b=Y o)->Q (.ref s.heap.objs.size) {s with heap:=c}):
  ae (af prog w) A (c6<|.ref l) Q E s:=by
 rcases a with a|a
 .exact xH a (d _ (.inl ⟨⟨_,kE _ rfl,rfl,rfl⟩,a.push _⟩) (qg ..) λb o e=>ke _ e)
 exact Gk a (d _ (.inr ⟨⟨_,kE _ rfl,rfl,rfl⟩,a.push _⟩) (qg ..) λb o e=>ke _ e)
end
section
variable {f:jm}{w:je}{A:jh}{E:jy}{s:iN}{e it l:iJ}{i:Nat}{c:Int}{h:nJ}
def ad7{x old:iQ}{Q:jy}(he:eU s.heap e it c old)(st:Src s.heap it l i h)(hx:h[i]?=A9 x)(U:e≠it)(eh:e≠l)
  (hQ:∀L,k7 L e it (c+1) x s.heap.objs.size->Src L it l (i+1) h->L.get? s.heap.objs.size=A9 {cls:=.type "tuple",data:=.seq #[.int c s.toks,x]}->L.objs.size=s.heap.objs.size+1->
   (∀b o,b≠e->b≠it->s.heap.get? b=A9 o->L.get? b=A9 o)->Q (.ref s.heap.objs.size) {s with heap:=L,toks:=s.toks+1}):
  ae (af f w) A (aY.«enumerate.__next__» ⟨[.ref e],[]⟩) (λfin s'=>∃v,fin=.done (.ret v)/\Q v s') E s:=by
 obtain⟨C,g,d,k,os⟩:=s;refine iL (m:=j2 (.ref e) 2)<|oW he AM (x:=.ref it) AM<|iL<|st.item hx λj I G=>?_;replace G:ay it C j:=G;have V:eU j e it c old:=(G.2 e U).trans he;refine iL (m:=j2 (.ref e) 3)<|oW (s:=⟨j,g,d,k,os⟩) V AM (x:=ce c) AM ?_;refine iL (m:=j2 (.ref e) 4)<|oW (s:=⟨j,g,d,k,os⟩) V AM (x:=.none) AM ?_;refine iL (m:=mkInt c)<|wpAny_mkInt (s:=⟨j,g,d,k,os⟩) ?_;refine iL (m:=pc (.ref e) 3<|ce<|c+1)<|uz (s:=⟨j,g,d,k+1,os⟩) V (by simp) λp S T=>?_;replace T:ay e j p:=T;replace S:eU p e it (c+1) old:=S;refine iL (m:=pc (.ref e) 4 .none)<|uz (s:=⟨p,g,d,k+1,os⟩) S (by simp) λa R O=>?_;replace O:ay e p a:=O;replace R:eU a e it (c+1) old:=R;refine iL (m:=pp [.int c k,x])<|F1 (s:=⟨a,g,d,k+1,os⟩) ?_;have H:a.objs.size=C.objs.size:=by rw[O.1,T.1,G.1]
 have N:eU (a.push {cls:=.type "tuple",data:=.seq #[.int c k,x]}) e it (c+1) old:=ke _ R;have W:e<C.objs.size:=km he;have y:(a.push {cls:=.type "tuple",data:=.seq #[.int c k,x]}).get? C.objs.size=A9 {cls:=.type "tuple",data:=.seq #[.int c k,x]}:=by rw[<-H];exact kE _ rfl
 have up:∀b o,b≠e->b≠it->C.get? b=A9 o->(a.push {cls:=.type "tuple",data:=.seq #[.int c k,x]}).get? b=A9 o:=λb o B D q=>ke _ (O.extBut b o B<|T.extBut b o B<|G.extBut b o D q);have z:Src (a.push {cls:=.type "tuple",data:=.seq #[.int c k,x]}) it l (i+1) h:=I.keep (λo q=>ke _ (O.extBut _ o U.symm (T.extBut _ o U.symm q))) λo q=>ke _ (O.extBut _ o eh.symm (T.extBut _ o eh.symm q));have X:(a.push {cls:=.type "tuple",data:=.seq #[.int c k,x]}).objs.size=C.objs.size+1:=by rw[qg,H]
 rw[H];generalize (a.push {cls:=.type "tuple",data:=.seq #[.int c k,x]})=n at N y up z X;refine iL (m:=bo<|.ref e) ?_;unfold bo;refine iL<|oW (s:=⟨n,g,d,k+1,os⟩) N AM (x:=.none) AM<|ja ?_;simp -iota only[kQ];refine iL<|uC<|iL<|oW (s:=⟨n,g,d,k+1,os⟩) N AM (x:=old) AM<|iL<|uz (s:=⟨n,g,d,k+1,os⟩) N (by simp) λr P Y=>?_;replace Y:ay e n r:=Y;replace P:eU r e it (c+1) x:=P;refine iL (m:=bi (.ref e)<|.ref C.objs.size) ?_;unfold bi;refine iL<|uz (s:=⟨r,g,d,k+1,os⟩) P (by simp) λt K M=>?_;replace M:ay e r t:=M;replace K:k7 t e it (c+1) x C.objs.size:=K;refine uz (s:=⟨t,g,d,k+1,os⟩) K (by simp) λu F J=>?_;replace J:ay e t u:=J;replace F:k7 u e it (c+1) x C.objs.size:=F;have all:∀b o,b≠e->n.get? b=A9 o->u.get? b=A9 o:=λb o B q=>J.extBut b o B<|M.extBut b o B<|Y.extBut b o B q;refine iL<|FZ<|ja ⟨_,rfl,hQ u F (z.keep (λo q=>all _ o U.symm q) λo q=>all _ o eh.symm q) (all _ _ (pP W) y) ?_ λb o B D q=>all b o B<|up b o B D q⟩;rw[J.1,M.1,Y.1,X]
def xN{x old:iQ}{Q:Bw}(m:eU s.heap e it c old)(st:Src s.heap it l i h)(q:h[i]?=Y x)(r:e≠it)(n:e≠l)
  (p:∀g,k7 g e it (c+1) x s.heap.objs.size->Src g it l (i+1) h->g.get? s.heap.objs.size=Y {cls:=.type "tuple",data:=.seq #[.int c s.toks,x]}->g.objs.size=s.heap.objs.size+1->
   (∀b o,b≠e->b≠it->s.heap.get? b=Y o->g.get? b=Y o)->Q (Y<|.ref s.heap.objs.size) {s with heap:=g,toks:=s.toks+1}):
  ae (af f w) A (cw<|.ref e) Q E s:=by
 have j:s.TypeIs (.ref e) "enumerate":=⟨_,m,rfl⟩
 unfold cw
 exact iL (sv (sM (name:=bS "__next__") j CN (pO CN j Lv
  (ad7 m st q r n λg a b c d k=>ja<|p g a b c d k) (Lu _))))
def yt{old:iQ}{Q:Bw}(p:A.handled=U)(g:eU s.heap e it c old)(st:Src s.heap it l i h)(r:h[i]?=U)
  (k:∀a,eR it s.heap a->Q U {s with heap:=a}):ae (af f w) A (cw<|.ref e) Q E s:=by
 have d:s.TypeIs (.ref e) "enumerate":=⟨_,g,rfl⟩
 unfold cw;refine iL<|sv<|sM (name:=bS "__next__") d CN<|pO CN d Lv ?_<|Lu _;refine iL (m:=j2 (.ref e) 2)<|oW g I (x:=.ref it) I<|iL<|st.stop p r ?_;rintro a x j ⟨o,q,n⟩;exact iL<|xt (T:="StopIteration") (b:=J) ⟨o,q,n⟩ CM<|ja<|k _ j
end
section
variable {X:Cx}{d:jG}{g:L2.St}{H:Hp}{s:iN}{f:jg}
def By{t':Nat}{ch:kY}{a:iJ}{o:HO}(M:Inv X d g H s)(j:∀b∈ch,tL X d H b)(k:∀b u,b∉ch->s.heap.get? b=Y u->f.get? b=Y u)(p:s.heap.objs.size<=a)(new:Au X.prog X.w (upd H a o) f a o):
  Inv X d g (upd H a o) {s with heap:=f,toks:=t'}:=by
 have E:=M.hok.fresh p;have l:∀b u,H b=Y u->b∉ch:=λb u e z=>by have:=(j b z).1;rw[this]at e;cases e
 have up:∀b u,H b=Y u->upd H a o b=Y u:=λb u e=>by rw[jx<|lu e E];exact e
 have fr:∀b u,s.heap.get? b=Y u->H b=U->upd H a o b=U:=λb u e n=>by rw[jx λz=>by subst z;exact absurd (km e)<|LP.mpr p];exact n
 refine M.step (g':=s.gens) (d':=s.drawn) (ch:=ch) (λb i=>?_) (λb u _ _ h e _=>k b u h e) (λb u _ _ h e _=>⟨u.slots,k b u h e⟩) (λb u _ e n=>fr b u e n)
  (λb u h e=>⟨u,k b u h e⟩) (λb O e=>up b _ e) (λb _ _ e=>up b _ e) (λb T e=>⟨#[],by rw[up b _ e];simp⟩) (λm N=>?_) (λb u e=>?_) M.bare
 .obtain⟨_,f1,Q,y,A,B⟩:=j b i;exact⟨y,f1,A,B⟩
 .obtain⟨u,x,t,L,r⟩:=N;exact⟨u,x,t,k _ u (λz=>(j _ z).2.1 I) L,r⟩
 by_cases i:b=a
 .subst i;rw[jv]at e;cases e;exact new
 rw[jx i]at e;refine(M.hok b u e).Bm (λc v h q=>k c v ?_ q) (λc q=>up c _ q) (λc O q=>up c _ q) λc _ _ q=>up c _ q;rcases h with z|z
 .rw[z];exact l b u e
 exact l c _ z
def Bz{t':Nat}{ch:kY}(Q:Inv X d g H s)(h:∀b∈ch,tL X d H b)(k:∀b u,b∉ch->s.heap.get? b=Y u->f.get? b=Y u):Inv X d g H {s with heap:=f,toks:=t'}:=by
 have i:∀b u,H b=Y u->b∉ch:=λb u e z=>by have:=(h b z).1;rw[this]at e;cases e
 refine Q.step (g':=s.gens) (d':=s.drawn) (ch:=ch) (λb w=>?_) (λb u _ _ a e _=>k b u a e) (λb u _ _ a e _=>⟨u.slots,k b u a e⟩) (λb u _ e n=>n)
  (λb u a e=>⟨u,k b u a e⟩) (λb A e=>e) (λb _ _ e=>e) (λb T e=>⟨#[],by rw[e];simp⟩) (λm x=>?_) (λb u e=>?_) Q.bare
 .obtain⟨_,f1,B,o,p,t⟩:=h b w;exact⟨o,f1,p,t⟩
 .obtain⟨u,l,j,y,r⟩:=x;exact⟨u,l,j,k _ u (λz=>(h _ z).2.1 I) y,r⟩
 refine(Q.hok b u e).Bm (λc v a q=>k c v ?_ q) (λc q=>q) λc A q=>q;rcases a with z|z
 .rw[z];exact i b u e
 exact i c _ z
end
def GV(b:Bool)(K:jl)(T:Hp)(l:iJ)(a:List V):Prop:=if b=J then Fd K T l a else Gz K T l a
def JA(b:Bool)(h:jg)(it l:iJ)(i:Nat):Prop:=if b=J then h.IsListIter it l i else h.IsTupleIter it l i
def JA.keep(x:JA b h it l i)(k:∀o,h.get? it=Y o->h'.get? it=Y o):JA b h' it l i:=by
 cases b
 .exact PySem.Heap.IsTupleIter.at (show h.IsTupleIter it l i from x) k
 exact PySem.Heap.IsListIter.at (show h.IsListIter it l i from x) k
def JA.obj(x:JA b h it l i):∃o,h.get? it=Y o/\∀v,o.data≠ .cell v:=by
 cases b<;>(obtain⟨o,e,c,d⟩:=x;exact⟨o,e,λv z=>by rw[d]at z;cases z⟩)
section
variable {X:Cx}{d:jG}{e:L2.St}{H:Hp}{s:iN}
def tU(T:Inv X d e H s)(q:GV b X.K H l xs)(t:JA b s.heap it l i):∃a,Vals xs a/\Src s.heap it l i a.toArray:=by
 cases b
 .obtain⟨a,v,p,_⟩:=T.tuple q;exact⟨a,v,.inr ⟨t,p⟩⟩
 obtain⟨a,v,p,_⟩:=T.list q;exact⟨a,v,.inl ⟨t,p.isList⟩⟩
def Di(T:Inv X d e H s)(q:GV b X.K H l xs)(a:GV b X.K H l c):xs=c:=by
 cases b
 .exact T.EH q a
 exact T.Fo q a
def G3(t:JA b h it l i)(m:Src h it l i xs)(j:Src k it l p xs)(n:∀o,h.get? l=Y o->k.get? l=Y o):JA b k it l p:=by
 cases b
 .rcases j with⟨a,c⟩|⟨a,_⟩
  .rcases m with⟨⟨o,h1,f,_⟩,_⟩|⟨_,o,h1,f,_⟩
   .obtain⟨g,g1,g2,_⟩:=t;rw[h1]at g1;cases g1;rw[f]at g2;injection g2 with g2;exact absurd g2 (by decide)
   obtain⟨g,g1,g2,_⟩:=c;rw[n _ h1]at g1;cases g1;rw[f]at g2;injection g2 with g2;exact absurd g2 (by decide)
  exact a
 rcases j with⟨a,_⟩|⟨a,c⟩
 .exact a
 rcases m with⟨_,o,h1,f,_⟩|⟨⟨o,h1,f,_⟩,_⟩
 .obtain⟨g,g1,g2,_⟩:=c;rw[n _ h1]at g1;cases g1;rw[f]at g2;injection g2 with g2;exact absurd g2 (by decide)
 obtain⟨g,g1,g2,_⟩:=t;rw[h1]at g1;cases g1;rw[f]at g2;injection g2 with g2;exact absurd g2 (by decide)
end
def N8(b:Bool)(K:jl)(l:iJ)(c:Int):It:=⟨λi Q=>∃a x,GV b K Q l a/\a[i]?=Y x,
 λi Q x d=>∃(T:iJ)(y:V),x=.ref T/\Q T=U/\d=upd Q T (.tup [.int<|c+i,y])/\∀a,GV b K Q l a->a[i]?=Y y,λi Q=>∃a,GV b K Q l a/\(A2 a)<=i⟩
def adK{P:jm}{w:je}{K:jl}{m:ky}{k1}{U:bu}(b:Bool)(e it l:iJ)(c:Int)(i8:e≠it):
  Turn P w K (.Tuple m k1 U) (N8 b K l c) [e,it] e (λi h=>(∃old,eU h e it (c+i) old)/\JA b h it l i) where
 mem:=by simp
 obj:=λi h st a B=>by
  obtain⟨⟨old,f⟩,st⟩:=st;have w5:a=e\/a=it:=by simpa using B
  rcases w5 with rfl|rfl
  .exact⟨_,f,λv z=>by have z':io _=f8 v:=z;cases z'⟩
  exact st.obj
 keep:=λi h h' st k=>by obtain⟨⟨old,f⟩,st⟩:=st;exact⟨⟨old,k e (by simp) _ f⟩,st.keep λo q=>k it (by simp) o q⟩
 item:=by
  intro X G M T R i g s W H E I r st J;subst G M T;obtain⟨⟨old,f⟩,st⟩:=st;obtain⟨xs,x,C,N⟩:=J;obtain⟨b6,Y,d⟩:=tU I C st;obtain⟨u,hu,ru⟩:=Y.get N
  have Q:e≠l:=λz=>by subst z;have S:=(r e<|by simp).1;rcases d with⟨_,o,h1,A,_⟩|⟨_,o,h1,A,_⟩<;>(have D:s.heap.get? e=_:=f;rw[h1]at D;cases D;injection A with A;exact absurd A<|by decide)
  refine xN f d (x:=u) (by simpa using hu) i8 Q λh' ho t hT hsz kp=>⟨.ref s.heap.objs.size,rfl,?_⟩
  refine wpAny_letOwnedTupleGo_enum ho λj n O=>?_;have p:e<s.heap.objs.size:=km f
  have F:∀a o,a∉[e,it]->s.heap.get? a=A9 o->j.get? a=A9 o:=λa o L q=>by have V:a≠e:=λz=>L (by simp[z]);have n2:a≠it:=λz=>L (by simp[z]);exact O.extBut a o V<|kp a o V n2 q
  have dc:j.get? s.heap.objs.size=A9 {cls:=.type "tuple",data:=.seq #[.int (c+i) s.toks,u]}:=O.extBut _ _ (pP p) hT
  have Z:Inv X g W (upd H s.heap.objs.size<|.tup [.int<|c+i,x]) {s with heap:=j,toks:=s.toks+1}:=
   By I r F (kc _) (show Au X.prog X.w _ _ _ (.tup [.int<|c+i,x])from⟨by show 2<=sizeLine;decide,[.int (c+i) s.toks,u],.cons ⟨_,rfl⟩<|.cons ru .nil,_,dc,rfl,0,rfl⟩)
  have y:JA b j it l (i+1):=by refine G3 st d (t.keep (λo q=>O.extBut _ o i8.symm q) λo q=>O.extBut _ o Q.symm q) λo q=>F l o ?_ q;have:=d.ne;simp only[kM,lN,mC,pN];exact⟨Q.symm,this⟩
  refine⟨.ref s.heap.objs.size,_,Z,rfl,⟨_,x,rfl,I.fresh,rfl,λys hy=>by rw[Di I hy C];exact N⟩,⟨⟨u,?_⟩,y⟩,λa B=>?_⟩
  .have e1:c+((i+1:Nat):Int)=c+i+1:=by lia
   show eU j e it (c+((i+1:Nat):Int)) u;rw[e1];exact n
  have S:=(r a B).1;rw[jx]
  .exact S
  intro z;have k6:a=e\/a=it:=by simpa using B
  rcases k6 with rfl|rfl
  .exact absurd z (kF p)
  exact absurd z (kF d.lt.1)
 done:=by intro X G M T R i g s W H E I r st J;subst G M T;obtain⟨⟨old,f⟩,st⟩:=st;obtain⟨xs,C,N⟩:=J;obtain⟨b6,Y,d⟩:=tU I C st;have hl:=Y.length;exact yt (I.ok.hd R) f d (by simp;lia) λh' eb=>⟨rfl,Bz (t':=s.toks) I r λa o L q=>eb a o (λz=>L<|by simp[z]) q⟩
 self:=λ_ _ _ _ _ st h=>by obtain⟨⟨old,f⟩,_⟩:=st;exact vl f h
def zH{K T}(q:Hg b K T P a xs):GV b K T a xs:=by
 cases b
 .exact q.t
 exact q.l
def ac9{K:jl}{P O:B2}{h:Hp}{a:iJ}{g:List V}{l:List D}{b:Bool}{c:Int}(q:Hg b K h P a g)(r:AG K h O l g)(A:∀a,P a->O a):
  JP K (N8 b K a c) (l.zipIdx.map λp=>.tup [.int<|c+p.2,p.1]) P O h:=by
 have sq:∀Hi,(∀a o,h a=Y o->¬P a->Hi a=Y o)->GV b K Hi a g:=λHi f=>zH<|q.mono f λ_ z=>z;refine⟨λi d Hi hd f=>?_,λi Hi N f=>⟨g,sq Hi f,by rw[r.length];simpa using N⟩⟩;rw[kS]at hd;obtain⟨⟨Q,j⟩,h1,u⟩:=jz hd;rw[F7]at h1;obtain⟨G,v,w⟩:=jz h1;obtain⟨rfl,rfl⟩:=sd w;obtain⟨x,s,M⟩:=r.get v;refine⟨⟨g,x,sq Hi f,s⟩,λy I E=>?_⟩;obtain⟨T,z,rfl,m,rfl,k⟩:=E;have k:=k g<|sq Hi f;rw[s]at k;cases k;have ext:=lO (o:=.tup [.int<|c+i,x]) m;refine⟨ext,λL h1 t=>?_⟩;subst u;refine Rep.Hu ⟨jv,t T m⟩<|AG.cons ?_<|AG.cons (Rep.mono (λb o e n=>ext b o<|f b o e λz=>n<|A b z) (λb B z=>h1 b B z) M) AG.nil;simp only[fW];exact Rep.mkInt
open AutoSeq1 (wpAny_loadPart')
section
variable {f:jm}{w:je}{A:jh}{E:jy}{s:iN}
def Vo{T a:String}{self:iQ}{rz:jN}{kw:List (au×iQ)}(g:gX (.type T) "__init__"=pure (Y<|.builtin "object.__init__"))(h:Bind.madeBy (.type T)=pure (Y a))(i:(Y a !=Y "object.__new__")=J):
  wl (aY.«object.__init__» ⟨self::rz,kw⟩) (λ_ R s=>s.TypeIs self T/\R (.ok<|.ret .none) s):=by
 refine Meets.of_wp λf w A R s d=>?_;obtain⟨e,c⟩:=d;by_cases b:(!rz.isEmpty||!kw.isEmpty)=J
 .unfold aY.«object.__init__»;simp only[b,kQ]
  repeat (any_goals (first|assumption|wp_step))
  exact⟨_,rfl,c⟩
 unfold aY.«object.__init__»;simp only[b,kR];exact ja ⟨_,rfl,c⟩
def ac1{T b:String}{q:aY}{a:jN}{kw:List (au×iQ)}{S:PySem.Spec}{Q:jy}(i:TypeCalled T b "object.__init__")(N:(Y b !=Y "object.__new__")=Ap)(B:O0 T ⟨a,kw⟩=pure ())
  (x:c7 b ⟨.type T::a,kw⟩=pure ())(o:∀obj,hH "object.__init__" ⟨obj::a,kw⟩)(j:g7 vv b=Y q)(g:wl (q ⟨.type T::a,kw⟩) S)
  (h:S A.in1 (Go (λobj d=>d.TypeIs obj T/\Q obj d) E) s):ae (af f w) A (call (.type T) a kw) Q E s:=by
 obtain⟨c,J,u⟩:=i.mro;have n:=i.made;have G:=i.sub;refine xG<|xv ?_;show ae _ _ (callAny (.type T) _) _ _ _;refine ja ⟨FY _ (by decide+kernel),qf F.entry_type_call ?_⟩;rw[ip (Lr T a kw)<|units_type_call_type T a kw];have h1:=i.notType;have L:=i.canCreate
 repeat (any_goals (first|assumption|wp_step))
 refine rL (zh i.plain j<|vL x<|g f w A.in1 _ s h) λr d p=>?_
 cases r with
 |error e=>exact p
 |ok y=>
  cases y with
  |ret obj=>
   obtain⟨t,v⟩:=p;have I:=i.init.lookup;have O:=i.init.bind obj
   repeat (any_goals (first|assumption|wp_step))
   have z:=Vo (self:=obj) (rz:=a) (kw:=kw) i.init.lookup i.made N;refine rL (zh i.init.plain Ly<|i.init.check _ _ _ _ _ _ _ _ t (o obj) (z f w A.in1 (Go (λr k=>r=.none/\Q obj k) E) d ⟨t,rfl,v⟩)) λl k m=>?_
   cases l with
   |error e=>exact m
   |ok M=>
    cases M with
    |ret r=>
     obtain⟨rfl,v⟩:=m
     repeat (any_goals (first|assumption|wp_step))
    |_=>exact m.elim
  |_=>exact p.elim
def abQ(a b:iQ):O0 "enumerate" ⟨[a],[("start",b)]⟩=pure ():=by kernel_rfl
def acj(a b:iQ):c7 "enumerate.__new__" ⟨[.type "enumerate",a],[("start",b)]⟩=pure ():=by kernel_rfl
def abR(o a b:iQ):hH "object.__init__" ⟨[o,a],[("start",b)]⟩:=by unfold hH;rw[signature?_of (id:="object.__init__") (n:=['_','_','t','i','n','i','_','_']) (o:=['t','c','e','j','b','o']) (by kernel_rfl) F.owner_object];kernel_rfl
noncomputable def pX(it:iJ)(c:Int):Obj:={cls:=.type "enumerate",data:=.fields #[.none,.bool C,.ref it,ce c,.none,.none]}
def ad6(l:iJ)(i:nJ):wl (aY.«enumerate.__new__» ⟨[.type "enumerate",.ref l],[]⟩) (λ_ R s=>(s.heap.IsList l i\/s.heap.IsTuple l i)/\
  ∀e,Src e s.heap.objs.size l 0 i->e.objs.size=s.heap.objs.size+1->(∀b o,s.heap.get? b=Y o->e.get? b=Y o)->R (.ok<|.ret<|.ref e.objs.size) {s with heap:=e.push (pX s.heap.objs.size 0)}):=
 .of_wp λf w A R s h=>by
  obtain⟨k,g,d,n,os⟩:=s;obtain⟨j,h⟩:=h;have m:=M0
  wp_walk
  refine z8 λst=>ja ?_;generalize bY _ _ _ _=b;cases b<;>(wp_walk using Src.new j;intro e a b c;wp_walk;exact⟨_,rfl,h e a b c⟩)
def ad5(l:iJ)(i:nJ)(c:Int)(t:wf)(k:bh c=J):wl (aY.«enumerate.__new__» ⟨[.type "enumerate",.ref l],[("start",.int c t)]⟩) (λ_ R s=>(s.heap.IsList l i\/s.heap.IsTuple l i)/\
  ∀e,Src e s.heap.objs.size l 0 i->e.objs.size=s.heap.objs.size+1->(∀b o,s.heap.get? b=Y o->e.get? b=Y o)->R (.ok<|.ret<|.ref e.objs.size) {s with heap:=e.push (pX s.heap.objs.size c)}):=
 .of_wp λf w A R s h=>by
  obtain⟨m,g,d,p,os⟩:=s;obtain⟨j,h⟩:=h;have n:=M0
  wp_walk
  refine z8 λst=>ja ?_;generalize bY _ _ _ _=b;cases b<;>(wp_walk using Src.new j;intro e a b c;wp_walk;exact⟨_,rfl,h e a b c⟩)
def acZ(e:s.heap.IsList l xs\/s.heap.IsTuple l xs)
  (h:∀d,Src d s.heap.objs.size l 0 xs->d.objs.size=s.heap.objs.size+1->(∀b o,s.heap.get? b=Y o->d.get? b=Y o)->Q (.ref d.objs.size) {s with heap:=d.push (pX s.heap.objs.size 0)}):
  ae (af f w) A (call (.type "enumerate") [.ref l]) Q E s:=
 Tk F.called_enumerate (by decide) (F.typeCall_enumerate_1 _) (F.newCall_enumerate_1 _) (λobj=>Lx obj _) Lq (ad6 l xs) ⟨e,λd a b c=>⟨⟨_,kE _ rfl,rfl⟩,h d a b c⟩⟩
def acY(g:s.heap.IsList l xs\/s.heap.IsTuple l xs)(e:bh c=J)
  (h:∀d,Src d s.heap.objs.size l 0 xs->d.objs.size=s.heap.objs.size+1->(∀b o,s.heap.get? b=Y o->d.get? b=Y o)->Q (.ref d.objs.size) {s with heap:=d.push (pX s.heap.objs.size c)}):
  ae (af f w) A (call (.type "enumerate") [.ref l] [("start",.int c t)]) Q E s:=
 ac1 F.called_enumerate (by decide) (abQ _ _) (acj _ _) (λobj=>abR obj _ _) Lq (ad5 l xs c t e) ⟨g,λd a b c=>⟨⟨_,kE _ rfl,rfl⟩,h d a b c⟩⟩
end
section
variable {X:Cx}{g:jG}{i:L2.St}{H:Hp}{s:iN}{m:ky}{y:Nat}{n:bu}
def IU{R:It->Hp->Prop}{E:jy}{b:Bool}{l:iJ}{L:List V}{u:jN}{h':jg}{c:Int}(Q:Inv X g i H s)(q:GV b X.K H l L)(j:Src h' s.heap.objs.size l 0 u.toArray)(h:h'.objs.size=s.heap.objs.size+1)
  (B:∀b o,s.heap.get? b=Y o->h'.get? b=Y o)(r:R (N8 b X.K l c) H):ae (af X.prog X.w) X.A (c6<|.ref h'.objs.size) (PIE X g i (.Tuple m y n) R) E {s with heap:=h'.push (pX s.heap.objs.size c)}:=by
 have k:eU (h'.push<|pX s.heap.objs.size c) h'.objs.size s.heap.objs.size c .none:=kE _ rfl;refine vl k ?_;have d:Inv X g i H {s with heap:=h'.push (pX s.heap.objs.size c)}:=Q.kept (t':=s.toks) λb o e=>ke _ (B b o e);have x:h'.objs.size≠s.heap.objs.size:=by rw[h];exact Nat.succ_ne_self _
 refine⟨h'.objs.size,[h'.objs.size,s.heap.objs.size],_,_,H,rfl,d,adK b h'.objs.size s.heap.objs.size l c x,⟨⟨.none,by simpa using k⟩,?_⟩,λa v=>?_,r⟩
 .have t:=j.keep (h':=h'.push<|pX s.heap.objs.size c) (λo e=>ke _ e) (λo e=>ke _ e)
  cases b
  .rcases t with⟨_,o,h1,f,_⟩|⟨a,_⟩
   .obtain⟨_,_,p,_⟩:=d.tuple q;obtain⟨T,g1,g2,_⟩:=p;rw[h1]at g1;cases g1;rw[f]at g2;injection g2 with g2;exact absurd g2 (by decide)
   exact a
  rcases t with⟨a,_⟩|⟨_,o,h1,f,_⟩
  .exact a
  obtain⟨_,_,p,_⟩:=d.list q;obtain⟨T,g1,g2,_⟩:=p.isList;rw[h1]at g1;cases g1;rw[f]at g2;injection g2 with g2;exact absurd g2 (by decide)
 have z:a=h'.objs.size\/a=s.heap.objs.size:=by simpa using v
 rcases z with rfl|rfl
 .exact Q.JI (by rw[h];exact zm _) (Q.hok.fresh<|by rw[h];exact zm _)
 exact Q.JI (kc _) (Q.hok.fresh<|kc _)
def Ob(K:jl)(c:Int)(d:TA):TI:=λi H R=>d i H λe a=>∃b l f,e=[.ref l]/\GV b K a l f/\R (N8 b K l c) a
def Dh(T:Inv X g i H s)(q:GV b X.K H l xs):∃a,Vals xs a/\(s.heap.IsList l a.toArray\/s.heap.IsTuple l a.toArray):=by
 cases b
 .obtain⟨a,v,p,_⟩:=T.tuple q;exact⟨a,v,.inr p⟩
 obtain⟨a,v,p,_⟩:=T.list q;exact⟨a,v,.inl p.isList⟩
def Jf:aE "enumerate"=Y (.type "enumerate"):=by decide+kernel
def aer{a:iT}{j:TA}{p c:bu}(o:Gl X "enumerate")(t:X.mg "enumerate"=U)(k:PA X [a] j)(v:ac [a] X.env=[(C,aW a X.env)]):PI X (.Tuple m y n) (.Call (.Name "enumerate" p) [a] [] c) (Ob X.K 0 j):=by intro g s i H R Q h;refine Call_<|sZ Q o t Jf<|zp (Bl (k c g s i H _ Q h) ?_) v I;rintro us s1 ⟨E,H1,e,z,b,l,xs,hv,f,q⟩;subst hv;obtain⟨u,rfl,A⟩:=qm z;cases A;obtain⟨B,_,r⟩:=Dh e f;exact acZ r λT d w x=>IU e f d w x q
def yE{M:gr}{A:jh}{E:jy}{s:iN}{b:dO}{c:bu}{T:String}{e:iT}{j:List wn}{Q:jy}
  (h:ae M A (vw<|aT c<|ac [e] b) (λw d=>ae M A (evalAll ((fL c<|dA j b).map (·.2))) (λo f=>ae M A (call (.type T) w (((fL c<|dA j b).filterMap (·.1)).zip o)) Q E f) E d) E s)
  (u:aT c (ac [e] b)=(C,aW e b)::aT c (ac [] b))(q:(aT c<|ac [e] b).any (·.1)=C)(p:(fL c<|dA j b).all (·.1.isSome)=J)(l:(fL c<|dA j b).any (·.1.isNone)=C):
  ae M A (callWith c (.type T) [] (aT c<|ac [e] b)<|fL c<|dA j b) Q E s:=by
 have t:ae M A (evalArgs (.type T) J (aT c<|ac [e] b)<|fL c<|dA j b) (λa d=>ae M A (call (.type T) ([]++a.pos) a.kw) Q E d) E s:=by rw[u]at h ⊢;exact evalArgs_kwB p h
 unfold callWith;refine iL<|mv<|oj t (λa d k=>iL<|vd ?_) λ_ _ x=>x;simp only[q,l,u6];exact iL<|ja<|iL<|oj k (λr f v=>iL<|mv<|FX<|ja v) λ_ _ x=>x
def aeq{a:iT}{o:TA}{p d M e:bu}{c:Int}{z:Nat}(O:Gl X "enumerate")(T:X.mg "enumerate"=AR)(C:PA X [a] o)(E:bh c=Ap)
  (L:aT d (ac [a] X.env)=(AX,aW a X.env)::aT d (ac [] X.env))(A:(aT d<|ac [a] X.env).any (·.1)=AX):
  PI X (.Tuple m y n) (.Call (.Name "enumerate" p) [a] [⟨Y "start",.Constant (.int c) z M,e⟩] d) (Ob X.K c o):=by
 intro g s i H R I h;refine va<|sZ I O T Jf<|yE (Bl (C d g s i H _ I h) ?_) L A AM AM;rintro us s1 ⟨vs,H1,w,N,b,l,xs,hv,k,q⟩;subst hv;obtain⟨u,rfl,U⟩:=qm N;cases U;refine kws_cons<|Bl (Na g s1 i H1 (λv r=>v=.int c/\r=H1) w ⟨rfl,rfl⟩) λv s2 ⟨x,H2,j,Y',G,B⟩=>kws_nil ?_;subst G;subst B;obtain⟨t,rfl⟩:=Y';obtain⟨D,_,Q⟩:=Dh j k;exact acY Q E λF f J e=>IU j k f J e q
noncomputable def xS(c:Int)(f:F):Dr:=λa=>(f a).bind λp=>match p.1.1 with
 |.tup l=>Y (l.zipIdx.map λq=>.tup [.int<|c+q.2,q.1],p.2)
 |.lst l=>Y (l.zipIdx.map λq=>.tup [.int<|c+q.2,q.1],p.2)
 |_=>U
def Qz{K:jl}{T:B2}{i:L2.St}{d c:Dn}{H:Hp}{r:D×Bool}{f:F}{Q:List V->Hp->Prop}(E:ER K H T i d)(h:f d=Y (r,c))(k:∀v l,Bo i d H c l->ER K l T i c->Rep K l (λa=>Aa i c a\/T a) r.1 v->Q [v] l):tA K [iX f] i H Q:=by
 refine⟨d,T,[.val r],c,E,?_,λu o w B=>?_⟩
 .show((iX f d).bind λp=>(kj [] p.2).bind λq=>Y (p.1::q.1,q.2))=_;simp only[iX,h,uu,kj]
 have t:=B.len;rcases u with _|⟨v,_|⟨_,_⟩⟩<;>try cases t
 exact k v o B.keep (B.er.mono (λ_ _ e _=>e) (λb _ z=>B.tt b z) λa z=>B.er.dom a<|B.tt a z)<|B.rep E (j:=0) I I
def Fe{K:jl}{B:SB}{c:Int}{f:F}{i:L2.St}{H:Hp}{R:It->Hp->Prop}(A:tI K B (xS c f) i H R):Ob K c (tA K [iX f]) i H R:=by
 obtain⟨L,T,w,r,E,e,k⟩:=A;obtain⟨⟨⟨d,o⟩,h⟩,h1,e⟩:=iM e;refine Qz E h1 λv j u t O=>?_
 have key:∀{l},zK d=Y l->Y (l.zipIdx.map λq=>D.tup [.int<|c+q.2,q.1],h)=Y (w,r)->∃b a p,[v]=[V.ref a]/\GV b K j a p/\R (N8 b K a c) j:=λx e=>by obtain⟨rfl,rfl⟩:=jn e;obtain⟨a,p,rfl,q,Q⟩:=BH x O;have q:=q.mono (λ_ _ e _=>e) (P':=KD B T i h) λa z=>z.own;exact⟨_,a,p,rfl,zH q,k _ j u t (ac9 q Q λa z=>z.own)⟩
 cases d with
 |tup l=>exact key I e
 |lst l=>exact key I e
 |_=>cases e
def adn{B:SB}{a:iT}{f:F}{p b r q:bu}{c:Int}{z:Nat}(k:Gl X "enumerate")(l:X.mg "enumerate"=U)(e:PX X a f)(h:bh c=J)(s0:ac [a] X.env=(C,aW a X.env)::ac [] X.env)
  (j:aT b (ac [a] X.env)=(C,aW a X.env)::aT b (ac [] X.env))(d:(aT b<|ac [a] X.env).any (·.1)=C):
  Ju X B (.Tuple m y n) (.Call (.Name "enumerate" p) [a] [⟨Y "start",.Constant (.int c) z r,q⟩] b) (xS c f):=PI.imp' (aeq k l (qw (PX.po e) we s0) h j d) λi H R o=>Fe o
end
section
variable {j:jm}{w:je}{A:jh}{E:jy}{s:iN}{z TI TO f d n l:iJ}{k:Nat}{i g:nJ}{x y a b:iQ}
def Tn{Q:jy}(D:px z TI TO f d n l)(hz:eX s.heap z TI TO .none)(t8:cj s.heap TI (.ref f) (.ref d))(aa:cj s.heap TO a b)(h1:Src s.heap f n k i)(h2:Src s.heap d l k g)
  (hQ:∀x y,i[k]?=A9 x->g[k]?=A9 y->∀G,eX G z TI TO (ce s.heap.objs.size)->cj G TO x y->Src G f n (k+1) i->Src G d l (k+1) g->cj G s.heap.objs.size x y->(∀c o,c≠z->c≠TO->c≠f->c≠d->s.heap.get? c=A9 o->G.get? c=A9 o)->Q (.ref s.heap.objs.size) {s with heap:=G})
  (hE:i[k]?=AR\/g[k]?=AR->A.handled=AR/\∀G e,(∀c o,c≠z->c≠TO->c≠f->c≠d->s.heap.get? c=A9 o->G.get? c=A9 o)->(∃o,G.get? e=A9 o/\o.cls=.type "StopIteration")->E (.ref e) {s with heap:=G}):
  ae (af j w) A (aY.«zip.__next__» ⟨[.ref z],[]⟩) (λfin s'=>∃v,fin=.done (.ret v)/\Q v s') E s:=by
 have L:∀{h:jg}{e:iJ}{oe:fD}{f0:iQ},eX h z TI TO f0->h.get? e=A9 oe->oe.cls=.type "StopIteration"->e≠z:=λhzz cM K q=>by subst q;have V:_=_:=hzz;rw[cM]at V;cases V;injection K with K;exact absurd K (by decide)
 refine iL (m:=j2 (.ref z) 2)<|oW hz AM (x:=.bool AX) AM<|iL (m:=j2 (.ref z) 3)<|oW hz AM (x:=.ref TI) AM<|iL<|qX t8 AM<|iL (m:=bo<|.ref z) ?_;unfold bo;refine iL<|oW hz AM (x:=.none) AM<|ja ?_;simp -iota only[kQ];refine iL<|uC<|iL<|oW hz AM (x:=.ref TO) AM<|iL<|uz hz (by simp) λH dY R=>?_;replace dY:eX H z TI TO .ellipsis:=dY;refine iL ?_;simp -iota only[oO,List.zipIdx_nil,eI,s9];have c1:Src H f n k i:=h1.keep (λo e=>R.extBut _ o D.i1z e) λo e=>R.extBut _ o D.l1z e
 cases hx:i[k]? with
 |none=>obtain⟨hh,hE⟩:=hE<|.inl hx;refine iL<|iL<|zg<|iL (m:=aL<|.ref f)<|c1.stop (s:={s with heap:=H}) hh hx ?_;rintro r e U ⟨oe,cM,K⟩;have M:eX r z TI TO .ellipsis:=U _ _ D.i1z.symm dY;exact uz (s:={s with heap:=r}) M (by simp) λt _ T=>hE t e (λc o O _ d3 _ q=>T.extBut _ _ O (U _ _ d3 (R.extBut _ _ O q))) ⟨oe,T.extBut _ _ (L M cM K) cM,K⟩
 |some x=>
  refine iL<|iL<|zg<|iL (m:=aL<|.ref f)<|c1.item (s:={s with heap:=H}) hx λr X U=>ja ?_;have B:cj r TO a b:=U.extBut _ _ D.TOi1 (R.extBut _ _ D.TOz aa);refine iL<|qX (s:={s with heap:=r}) B AM<|iL<|Lp (s:={s with heap:=r}) B λt da T=>iL<|FZ<|ja ?_;replace da:cj t TO x b:=da;have c2:Src t d l k g:=h2.keep (λo e=>T.extBut _ o D.TOi2.symm (U.extBut _ o D.i12.symm (R.extBut _ o D.i2z e))) λo e=>T.extBut _ o D.l2TO (U.extBut _ o D.l2i1 (R.extBut _ o D.l2z e))
  cases hy:g[k]? with
  |none=>obtain⟨hh,hE⟩:=hE<|.inr hy;refine iL<|iL<|zg<|iL (m:=aL<|.ref d)<|c2.stop (s:={s with heap:=t}) hh hy ?_;rintro u e P ⟨oe,cM,K⟩;have dX:eX u z TI TO .ellipsis:=P _ _ D.i2z.symm (T.extBut _ _ D.TOz.symm (U.extBut _ _ D.i1z.symm dY));exact uz (s:={s with heap:=u}) dX (by simp) λp _ F=>hE p e (λc o O d2 d3 d4 q=>F.extBut _ _ O (P _ _ d4 (T.extBut _ _ d2 (U.extBut _ _ d3 (R.extBut _ _ O q))))) ⟨oe,F.extBut _ _ (L dX cM K) cM,K⟩
  |some y=>
   refine iL<|iL<|zg<|iL (m:=aL<|.ref d)<|c2.item (s:={s with heap:=t}) hy λu c2₄ P=>ja ?_;have C:cj u TO x b:=P.extBut _ _ D.TOi2 da;refine iL<|qX (s:={s with heap:=u}) C AM<|iL<|Lp (s:={s with heap:=u}) C λp bQ F=>iL<|FZ<|ja<|ja ?_;replace bQ:cj p TO x y:=bQ;refine iL<|qX (s:={s with heap:=p}) bQ AM<|iL<|F1 (s:={s with heap:=p}) ?_;have hsz:p.objs.size=s.heap.objs.size:=by rw[F.1,P.1,T.1,U.1,R.1]
   have N:eX p z TI TO .ellipsis:=F.extBut _ _ D.TOz.symm (P.extBut _ _ D.i2z.symm (T.extBut _ _ D.TOz.symm (U.extBut _ _ D.i1z.symm dY)));have hk₅:∀c o,c≠z->c≠TO->c≠f->c≠d->s.heap.get? c=A9 o->p.get? c=A9 o:=λc o O d2 d3 d4 e=>F.extBut _ _ d2 (P.extBut _ _ d4 (T.extBut _ _ d2 (U.extBut _ _ d3 (R.extBut _ _ O e))));have Z:Src p f n (k+1) i:=X.keep (λo e=>F.extBut _ o D.TOi1.symm (P.extBut _ o D.i12 (T.extBut _ o D.TOi1.symm e))) λo e=>F.extBut _ o D.l1TO (P.extBut _ o D.l1i2 (T.extBut _ o D.l1TO e));have c2₅:Src p d l (k+1) g:=c2₄.keep (λo e=>F.extBut _ o D.TOi2.symm e) λo e=>F.extBut _ o D.l2TO e;have S:z<p.objs.size:=km N;refine iL (m:=bi (.ref z)<|.ref p.objs.size) ?_;unfold bi;have hz₆:eX (p.push {cls:=.type "tuple",data:=.seq #[x,y]}) z TI TO .ellipsis:=ke _ N;refine iL<|uz (s:={s with heap:=p.push {cls:=.type "tuple",data:=.seq #[x,y]}}) hz₆ (by simp) λW gn cu=>?_;replace gn:eX W z TI TO (ce p.objs.size):=gn;refine uz (s:={s with heap:=W}) gn (by simp) λI fk Y=>?_;replace fk:eX I z TI TO (ce p.objs.size):=fk;have up:∀c o,c≠z->p.get? c=A9 o->I.get? c=A9 o:=λc o O e=>Y.extBut _ _ O (cu.extBut _ _ O (ke _ e));have J:cj I p.objs.size x y:=Y.extBut _ _ (pP S) (cu.extBut _ _ (pP S) (kE _ rfl));rw[hsz]at fk J;refine ja ⟨_,rfl,?_⟩;show Q (.ref p.objs.size) _;rw[hsz];exact hQ x y hx hy I fk (up _ _ D.TOz bQ) (Z.keep (λo e=>up _ o D.i1z e) λo e=>up _ o D.l1z e) (c2₅.keep (λo e=>up _ o D.i2z e) λo e=>up _ o D.l2z e) J λc o O d2 d3 d4 e=>up c o O<|hk₅ c o O d2 d3 d4 e
def zN{Q:Bw}(D:px z TI TO f d n l)(t:eX s.heap z TI TO .none)(M:cj s.heap TI (.ref f) (.ref d))(I:cj s.heap TO a b)(h1:Src s.heap f n k i)(L:Src s.heap d l k g)
  (O:∀x y,i[k]?=Y x->g[k]?=Y y->∀h,eX h z TI TO (ce s.heap.objs.size)->cj h TO x y->Src h f n (k+1) i->Src h d l (k+1) g->cj h s.heap.objs.size x y->(∀c o,c≠z->c≠TO->c≠f->c≠d->s.heap.get? c=Y o->h.get? c=Y o)->Q (Y<|.ref s.heap.objs.size) {s with heap:=h})
  (m:i[k]?=U\/g[k]?=U->A.handled=U/\∀h,(∀c o,c≠z->c≠TO->c≠f->c≠d->s.heap.get? c=Y o->h.get? c=Y o)->Q U {s with heap:=h}):
  ae (af j w) A (cw<|.ref z) Q E s:=by
 have p:s.TypeIs (.ref z) "zip":=⟨_,t,rfl⟩
 unfold cw
 exact iL (sv (sM (name:=bS "__next__") p F.slot_zip_next (pO F.slot_zip_next p F.entry_zip_next
  (Tn D t M I h1 L (λx y q r h a1 u v B N H=>ja<|O x y q r h a1 u v B N H) λq=>⟨(m q).1,λh e hk ⟨o,J',G⟩=>iL<|xt (T:="StopIteration") (b:=J) ⟨o,J',G⟩ CM<|ja<|(m q).2 _ hk⟩) (F.args_zip_next_1 _))))
end
def Pr(j c:iJ)(l i:nJ):wl (aY.«zip.__new__» ⟨[.type "zip",.ref j,.ref c],[]⟩) (λ_ R s=>(s.heap.IsList j l\/s.heap.IsTuple j l)/\(s.heap.IsList c i\/s.heap.IsTuple c i)/\
  ∀h1 a,Src h1 s.heap.objs.size j 0 l->h1.objs.size=s.heap.objs.size+1->(∀b o,s.heap.get? b=Y o->h1.get? b=Y o)->Src a h1.objs.size c 0 i->a.objs.size=h1.objs.size+1->(∀b o,h1.get? b=Y o->a.get? b=Y o)->
   R (.ok<|.ret<|.ref ((a.push {cls:=.type "tuple",data:=.seq #[.ref s.heap.objs.size,.ref h1.objs.size]}).push {cls:=.type "tuple",data:=.seq #[.none,.none]}).objs.size)
    {s with heap:=((a.push {cls:=.type "tuple",data:=.seq #[.ref s.heap.objs.size,.ref h1.objs.size]}).push {cls:=.type "tuple",data:=.seq #[.none,.none]}).push {cls:=.type "zip",data:=.fields #[.none,.bool C,.bool C,.ref a.objs.size,.ref (a.push {cls:=.type "tuple",data:=.seq #[.ref s.heap.objs.size,.ref h1.objs.size]}).objs.size]}}):=
 .of_wp λm w A R s h=>by
  obtain⟨y,g,d,v,os⟩:=s;obtain⟨p,x,h⟩:=h;have z:=sub_zip
  wp_walk using Src.new p
  intro h1 a1 n k
  have f:h1.IsList c i\/h1.IsTuple c i:=by
   rcases x with⟨o,e,r⟩|⟨o,e,r⟩
   .exact .inl ⟨o,k _ _ e,r⟩
   exact .inr ⟨o,k _ _ e,r⟩
  wp_walk using Src.new (s:=⟨h1,g,d,v,os⟩) f
  intro a q t u
  wp_walk
  exact⟨_,rfl,h h1 a a1 n k q t u⟩
def ItZ(c d:Bool)(K:jl)(e f:iJ):It:=⟨λi Q=>∃a b x y,GV c K Q e a/\GV d K Q f b/\a[i]?=Y x/\b[i]?=Y y,
 λi Q x g=>∃(T:iJ)(u v:V),x=.ref T/\Q T=U/\g=upd Q T (.tup [u,v])/\∀a b,GV c K Q e a->GV d K Q f b->a[i]?=Y u/\b[i]?=Y v,
 λi Q=>∃a b,GV c K Q e a/\GV d K Q f b/\(A2 a<=i\/(A2 b)<=i)⟩
structure ZA(z TI TO i1 i2:iJ):Prop where
 a1:TI≠z
 a2:TO≠z
 a3:i1≠z
 a4:i2≠z
 a5:TI≠TO
 a6:TI≠i1
 a7:TI≠i2
 a8:TO≠i1
 a9:TO≠i2
 a10:i1≠i2
def vW{b:Bool}{K:jl}{T:Hp}{l:iJ}{m:List V}{X:Cx}{c:jG}{p:L2.St}{s:iN}(Q:Inv X c p T s)(k:X.K=K)(q:GV b K T l m){g:kY}(h:∀a∈g,tL X c T a):l∉g:=by
 subst k;intro i;have d:=(h l i).1
 have base:∀o,X.K.lookup l=Y o->False:=λo e=>by
  have f:=Q.mod.kin l o e;rcases(h l i).2.2.2.1 with z|z
  .exact Q.ok.noex l o f z
  have:=(Q.ok.bs l o f).1;exact absurd (km this)<|LP.mpr z
 cases b
 .rcases q with(q|⟨o,q⟩)|⟨o,j,n,e,_⟩
  .rw[d]at q;cases q
  .rw[d]at q;cases q
  exact base o e
 rcases q with(q|⟨o,q⟩)|⟨o,j,n,e,_⟩
 .rw[d]at q;cases q
 .rw[d]at q;cases q
 exact base o e
def aeI{P:jm}{w:je}{K:jl}{Y:ky}{k1}{pos:bu}(b1 b2:Bool)(z TI TO m n J M:iJ)(D:ZA z TI TO m n):
  Turn P w K (.Tuple Y k1 pos) (ItZ b1 b2 K J M) [z,TI,TO,m,n] z (λi h=>eX h z TI TO .none/\cj h TI (.ref m) (.ref n)/\(∃a b,cj h TO a b)/\JA b1 h m J i/\JA b2 h n M i) where
 mem:=by simp
 obj:=λi h st a G=>by
  obtain⟨l,p,⟨u,v,t⟩,s1,C⟩:=st;simp only[kM,lN,mC]at G;rcases G with rfl|rfl|rfl|rfl|rfl
  .exact⟨_,l,λv e=>by have U:io _=f8 v:=e;cases U⟩
  .exact⟨_,p,λv e=>by have U:PP _ _=f8 v:=e;cases U⟩
  .exact⟨_,t,λv e=>by have U:PP _ _=f8 v:=e;cases U⟩
  .exact s1.obj
  exact C.obj
 keep:=λi h h' st k=>by obtain⟨l,p,⟨u,v,t⟩,s1,C⟩:=st;exact⟨k z (by simp) _ l,k TI (by simp) _ p,⟨u,v,k TO (by simp) _ t⟩,s1.keep λo q=>k m (by simp) o q,C.keep λo q=>k n (by simp) o q⟩
 item:=by
  intro X hP hw L hc i B s σ H E I A st hg;obtain⟨l,p,⟨a0,b0,t⟩,s1,C⟩:=st;obtain⟨xs,ys,x,y,T,Q,hx,hy⟩:=hg;have d:=vW I L T A;have f:=vW I L Q A;simp only[kM,lN,mC,pN]at d f;subst hP hw L;obtain⟨cB,fX,S⟩:=tU I T s1;obtain⟨b9,Z,N⟩:=tU I Q C;obtain⟨u,hu,ru⟩:=fX.get hx;obtain⟨v,hv,rv⟩:=Z.get hy;have AP:px z TI TO m n J M:=⟨D.a1,D.a2,D.a3,D.a4,D.a5,D.a6,D.a7,D.a8,D.a9,D.a10,d.1,d.2.2.1,d.2.2.2.1,d.2.2.2.2,f.1,f.2.2.1,f.2.2.2.1,f.2.2.2.2⟩
  refine zN AP l p t S N (λx' y' q r h' z' t1 c1 c2 hT V=>?_) λq=>absurd q (by simp[hu,hv]);obtain rfl:u=x':=by simpa[hu]using q
  obtain rfl:v=y':=by simpa[hv]using r
  refine⟨.ref s.heap.objs.size,rfl,?_⟩;refine wpAny_letOwnedTupleGo_zip (s:={s with heap:=h'}) z' λO z'' j=>?_;replace j:ay z h' O:=j
  have W:∀a o,a∉[z,TI,TO,m,n]->s.heap.get? a=A9 o->O.get? a=A9 o:=λa o g q=>by simp only[kM,lN,mC,pN]at g;exact j.extBut a o g.1<|V a o g.1 g.2.2.1 g.2.2.2.1 g.2.2.2.2 q
  have lt:∀{c o},s.heap.get? c=A9 o->s.heap.objs.size≠c:=λe=>pP<|km e;have dc:cj O s.heap.objs.size u v:=j.extBut _ _ (lt l) hT
  have I1:Inv X B σ (upd H s.heap.objs.size<|.tup [x,y]) {s with heap:=O}:=
   By (t':=s.toks) I A W (kc _) (show Au X.prog X.w _ _ _ (.tup [x,y])from⟨by show 2<=sizeLine;decide,[u,v],.cons ru<|.cons rv .nil,_,dc,rfl,0,rfl⟩)
  have F:JA b1 O m J (i+1):=G3 s1 S (c1.keep (λo q=>j.extBut _ o D.a3 q) λo q=>j.extBut _ o d.1 q) λo q=>W J o (by simp only[kM,lN,mC,pN];exact d) q;have R:JA b2 O n M (i+1):=G3 C N (c2.keep (λo q=>j.extBut _ o D.a4 q) λo q=>j.extBut _ o f.1 q) λo q=>W M o (by simp only[kM,lN,mC,pN];exact f) q;refine⟨.ref s.heap.objs.size,_,I1,rfl,⟨_,x,y,rfl,I.fresh,rfl,λdn ys' q1 q2=>by rw[Di I q1 T,Di I q2 Q];exact⟨hx,hy⟩⟩,⟨z'',j.extBut _ _ D.a1 (V _ _ D.a1 D.a5 D.a6 D.a7 p),⟨u,v,j.extBut _ _ D.a2 t1⟩,F,R⟩,λa G=>?_⟩;have n0:=(A a G).1;rw[jx]
  .exact n0
  intro e;simp only[kM,lN,mC]at G;rcases G with rfl|rfl|rfl|rfl|rfl
  .exact lt l e.symm
  .exact lt p e.symm
  .exact lt t e.symm
  .exact absurd e (kF S.lt.1)
  exact absurd e (kF N.lt.1)
 done:=by
  intro X hP hw L hc i B s σ H E I A st hg;obtain⟨l,p,⟨a0,b0,t⟩,s1,C⟩:=st;obtain⟨xs,ys,T,Q,hend⟩:=hg;have d:=vW I L T A;have f:=vW I L Q A;simp only[kM,lN,mC,pN]at d f;subst hP hw L;obtain⟨cB,fX,S⟩:=tU I T s1;obtain⟨b9,Z,N⟩:=tU I Q C;have e1:=fX.length;have e2:=Z.length;have AP:px z TI TO m n J M:=⟨D.a1,D.a2,D.a3,D.a4,D.a5,D.a6,D.a7,D.a8,D.a9,D.a10,d.1,d.2.2.1,d.2.2.2.1,d.2.2.2.2,f.1,f.2.2.1,f.2.2.2.1,f.2.2.2.2⟩
  refine zN AP l p t S N (λx y q r=>?_) λ_=>⟨I.ok.hd hc,λh' V=>⟨rfl,Bz (t':=s.toks) I A λa o g q=>?_⟩⟩
  .have z1:=(KO.mp q).1;have z2:=(KO.mp r).1;simp at z1 z2;omega
  simp only[kM,lN,mC,pN]at g;exact V a o g.1 g.2.2.1 g.2.2.2.1 g.2.2.2.2 q
 self:=λ_ _ _ _ _ st h=>wE st.1 h
def aeT{K:jl}{P O:B2}{g:Hp}{a1 r:iJ}{f h:List V}{A B:List D}{s t:Bool}(l:Hg s K g P a1 f)(L:AG K g O A f)(m:Hg t K g P r h)(Q:AG K g O B h)(C:∀a,P a->O a):
  JP K (ItZ s t K a1 r) ((A.zip B).map λp=>.tup [p.1,p.2]) P O g:=by
 have sq:∀{b:Bool}{a:iJ}{f:List V},Hg b K g P a f->∀Hi,(∀a o,g a=A9 o->¬P a->Hi a=A9 o)->GV b K Hi a f:=λq Hi c=>zH<|q.mono c λ_ z=>z;refine⟨λi d Hi hd c=>?_,λi Hi U c=>⟨f,h,sq l Hi c,sq m Hi c,by rw[L.length,Q.length];simp at U;lia⟩⟩;rw[kS]at hd;obtain⟨⟨X,Z⟩,h1,J⟩:=jz hd;obtain⟨M,N⟩:=Fu.mp h1;obtain⟨x,H,F⟩:=L.get M;obtain⟨y,I,R⟩:=Q.get N;refine⟨⟨f,h,x,y,sq l Hi c,sq m Hi c,H,I⟩,λv S k=>?_⟩;obtain⟨T,u,w,rfl,E,rfl,Y⟩:=k;obtain⟨g1,g2⟩:=Y f h (sq l Hi c)<|sq m Hi c;rw[H]at g1;cases g1;rw[I]at g2;cases g2;have ext:=lO (o:=.tup [x,y]) E;refine⟨ext,λW h1 G=>?_⟩;subst J;exact Rep.Hu ⟨jv,G T E⟩<|AG.cons (Rep.mono (λb o e n=>ext b o<|c b o e λz=>n<|C b z) (λb j z=>h1 b j z) F)<|AG.cons (Rep.mono (λb o e n=>ext b o<|c b o e λz=>n<|C b z) (λb j z=>h1 b j z) R) AG.nil
section
variable {X:Cx}{d:ky}{n:Nat}{r:bu}
def VT:aE "zip"=Y (.type "zip"):=by decide+kernel
def aaC(K:jl)(g:TA):TI:=λk T R=>g k T λh a=>∃e f b c i j,h=[.ref b,.ref c]/\GV e K a b i/\GV f K a c j/\R (ItZ e f K b c) a
def IG(Q:Inv X pins σ T s)(f:GV b X.K T l xs)(c:Src s.heap it l i h):JA b s.heap it l i:=by
 cases b
 .rcases c with⟨_,o,h1,e,_⟩|⟨a,_⟩
  .obtain⟨_,_,p,_⟩:=Q.tuple f;obtain⟨g,g1,g2,_⟩:=p;rw[h1]at g1;cases g1;rw[e]at g2;injection g2 with g2;exact absurd g2 (by decide)
  exact a
 rcases c with⟨a,_⟩|⟨_,o,h1,e,_⟩
 .exact a
 obtain⟨_,_,p,_⟩:=Q.list f;obtain⟨g,g1,g2,_⟩:=p.isList;rw[h1]at g1;cases g1;rw[e]at g2;injection g2 with g2;exact absurd g2 (by decide)
def UL{a b:iT}{O:TA}{p j:bu}(hg:Gl X "zip")(hm:X.mg "zip"=AR)(w:PA X [a,b] O)(hs:ac [a,b] X.env=(C,aW a X.env)::ac [b] X.env)(f7:(aT j<|ac [b] X.env).any (·.1)=C):
  PI X (.Tuple d n r) (.Call (.Name "zip" p) [a,b] [] j) (aaC X.K O):=by
 intro i s0 Q T R A h;refine va<|sZ A hg hm VT<|zp (Bl (w j i s0 Q T _ A h) ?_) hs f7;rintro us s ⟨vs,H',I',r1,M,N,E,L,xs,ys,hv,C',B,q⟩;subst hv;obtain⟨u,v,rfl,ru,rv⟩:=vT r1;cases ru;cases rv;obtain⟨P,_,J⟩:=Dh I' C';obtain⟨U,_,y9⟩:=Dh I' B;refine Tk F.called_zip (by decide) (F.typeCall_zip_2 _ _) (F.newCall_zip_2 _ _) (λobj=>F.args_object_init_3 obj _ _) F.entry_zip_new (Pr E L P.toArray U.toArray) ⟨J,y9,λh1 f Y z1 n D z2 z=>?_⟩;generalize k:({cls:=.type "tuple",data:=.seq #[.ref s.heap.objs.size,.ref h1.objs.size]}:fD)=g;generalize l:({cls:=.type "tuple",data:=.seq #[.none,.none]}:fD)=o4;have z3:(f.push g).objs.size=f.objs.size+1:=qg ..;have z4:((f.push g).push o4).objs.size=f.objs.size+2:=by rw[qg,z3]
 generalize m:({cls:=.type "zip",data:=.fields #[.none,.bool C,.bool C,.ref f.objs.size,.ref (f.push g).objs.size]}:fD)=o5;have g5:(((f.push g).push o4).push o5).get? ((f.push g).push o4).objs.size=A9 o5:=kE _ (by rw[<-m];rfl);have Z:(((f.push g).push o4).push o5).get? (f.push g).objs.size=A9 o4:=ke _ (kE _ (by rw[<-l];rfl));have W:(((f.push g).push o4).push o5).get? f.objs.size=A9 g:=ke _ (ke _ (kE _ (by rw[<-k];rfl)));have t:∀c o,f.get? c=A9 o->(((f.push g).push o4).push o5).get? c=A9 o:=λc o e=>ke _ (ke _ (ke _ e));have y:eX (((f.push g).push o4).push o5) ((f.push g).push o4).objs.size f.objs.size (f.push g).objs.size .none:=by show _=_;rw[g5,<-m]
 have t8:cj (((f.push g).push o4).push o5) f.objs.size (.ref s.heap.objs.size) (.ref h1.objs.size):=by show _=_;rw[W,<-k]
 have G:cj (((f.push g).push o4).push o5) (f.push g).objs.size .none .none:=by show _=_;rw[Z,<-l]
 have x:Inv X i Q H' {s with heap:=((f.push g).push o4).push o5}:=I'.kept (t':=s.toks) λc o e=>t c o<|z c o<|n c o e;have S:=Y.keep (h':=((f.push g).push o4).push o5) (λo e=>t _ o (z _ o e)) λo e=>t _ o (z _ o e);have V:=D.keep (h':=((f.push g).push o4).push o5) (λo e=>t _ o e) λo e=>t _ o e;refine⟨⟨_,y,rfl⟩,wE (s:={s with heap:=((f.push g).push o4).push o5}) y ?_⟩;refine⟨((f.push g).push o4).objs.size,[((f.push g).push o4).objs.size,f.objs.size,(f.push g).objs.size,s.heap.objs.size,h1.objs.size],_,_,H',rfl,x,aeI M N _ _ _ _ _ E L ⟨?_,?_,?_,?_,?_,?_,?_,?_,?_,?_⟩,⟨y,t8,⟨_,_,G⟩,IG x C' S,IG x B V⟩,λa w=>?_,q⟩
 case refine_11=>
  have le:s.heap.objs.size<=a:=by simp only[kM,lN,mC]at w;rcases w with rfl|rfl|rfl|rfl|rfl<;>lia
  exact I'.JI le<|I'.hok.fresh le
 all_goals lia
def xR(f g:FO):Dr:=λδ=>(f δ).bind λp=>(g p.2).bind λq=>(res q.2 p.1).bind λx=>(res q.2 q.1).bind λy=>(zK x).bind λl=>(zK y).bind λm=>Y ((l.zip m).map λp=>.tup [p.1,p.2],q.2)
def aeF{B:SB}{a b:iT}{f g:FO}{p c:bu}(hg:Gl X "zip")(hm:X.mg "zip"=AR)(ha:PO X a f)(hb:PO X b g)(I:N1 B f)(L:N1 B g)(w:ac [a,b] X.env=(AX,aW a X.env)::ac [b] X.env)(G:ac [b] X.env=(AX,aW b X.env)::ac [] X.env)(J:(aT c<|ac [b] X.env).any (·.1)=AX):
  Ju X B (.Tuple d n r) (.Call (.Name "zip" p) [a,b] [] c) (xR f g):=PI.imp' (UL hg hm (qw ha (qw hb we G) w) w J) λσ H R F=>by
 obtain⟨δ,T,ds,δ',E,e,k⟩:=F;obtain⟨K,δ1,h1,e⟩:=iR e;obtain⟨P,t,h,e⟩:=iR e;obtain⟨x,M,e⟩:=iM e;obtain⟨y,N,e⟩:=iM e;obtain⟨l,U,e⟩:=iM e;obtain⟨m,Y,e⟩:=iM e;obtain⟨rfl,rfl⟩:=jn e;dsimp only at h;refine⟨δ,T,[K,P],t,E,?_,λS O T1 W=>?_⟩
 .simp only[kj,h1,h,uu]
 have D:=W.len;rcases S with _|⟨v,_|⟨u,_|⟨_,_⟩⟩⟩<;>try cases D
 obtain⟨a1,V,rfl,A,q⟩:=W.seq E (j:=0) AM AM M U λi o=>I _ _ _ (o▸h1);obtain⟨Q,Z,rfl,C,s⟩:=W.seq E (j:=1) AM AM N Y λi o=>L _ _ _ (o▸h);exact⟨_,_,a1,Q,V,Z,rfl,zH A,zH C,k _ O W.keep (W.er.mono (λ_ _ e _=>e) (λb _ z=>W.tt b z) λa z=>W.er.dom a<|W.tt a z) (aeT A q C s λa z=>z.own)⟩
end
end PX
namespace TS
def Ask(M:gr)(A:jh)(G:Shared->Prop)(it:Nat->eY)(d:r6)(N:Nat)(lt:Nat->Nat->Bool):Prop:= ∀i j,i<N->j<N->∀s,G s->∀a,ae M A (K2 d (it i).1 (it j).1) (λb c=>G c/\b=lt i j) a s
structure Cs where
 M:gr
 A:jh
 E:iQ->Shared->Prop
 G:Shared->Prop
 it:Nat->eY
 lt:Nat->Nat->Bool
 κ:r6
 N:Nat
 as:∀i j,lt i j=Ap->lt j i=AX
 tr:∀{i j k},lt j i=AX->lt k j=AX->lt k i=AX
 ask:Ask M A G it κ N lt
section
variable {X:Cs}{α β:Type}{f:α->StateT rW d7 β}{Q:β->rW->Prop}{st:rW}
def wp(X:Cs){α:Type}(m:StateT rW d7 α)(Q:α->rW->Prop)(st:rW):Prop:= ∀s,X.G s->ae X.M X.A (m.run st) (λr a=>X.G a/\Q r.1 r.2) X.E s
def iY{a:β}(h:Q a st):wp X (pure a) Q st:=λs g=>by rw[StateT.run_pure];exact ja ⟨g,h⟩
def kL{m:StateT rW d7 α}(h:wp X m (λa c=>wp X (f a) Q c) st):wp X (m>>=f) Q st:=λs g=>by rw[StateT.run_bind];exact iL<|oj (h s g) (λr d b=>b.2 d b.1) λ_ _ e=>e
def HC{m:StateT rW d7 α}{Q b:α->rW->Prop}(h:wp X m Q st)(i:∀a c,Q a c->b a c):wp X m b st:=λs g=>oj (h s g) (λr _ d=>⟨d.1,i _ _ d.2⟩) λ_ _ e=>e
def jF{c:Prop}[Decidable c]{t e:StateT rW d7 β}(h1:c->wp X t Q st)(a: ¬c->wp X e Q st):wp X (if c then t else e) Q st:=by split<;>simp_all
def oY{f:rW->StateT rW d7 β}(h:wp X (f st) Q st):wp X (get>>=f) Q st:=kL λs g=>by rw[StateT.run_get];exact ja ⟨g,h⟩
def vf{g:rW->rW}{f:PUnit->StateT rW d7 β}(h:wp X (f ⟨⟩) Q (g st)):wp X (modify g>>=f) Q st:=kL λs g=>by rw[StateT.run_modify];exact ja ⟨g,h⟩
def HD{m:d7 α}(h:∀s,X.G s->ae X.M X.A m (λa b=>X.G b/\wp X (f a) Q st) X.E s):wp X (liftM m>>=f) Q st:=kL λs g=>by show ae X.M X.A ((StateT.lift m:StateT rW d7 α).run st) _ X.E s;rw[StateT.run_lift];exact iL<|oj (h s g) (λa b c=>ja c) λ_ _ e=>e
def tN{x:String}{f:Unit->StateT rW d7 β}(h:wp X (f ()) Q st):wp X (liftM (rule x)>>=f) Q st:=HD λs g=>uC ⟨g,h⟩
def PM{e:Nat}{g:Nat->α->StateT rW d7 (ForInStep α)}{T:Nat->α->rW->Prop}{O:α->rW->Prop}
  (m:∀i c st,i<e->T i c st->wp X (g i c) (λr b=>match r with|.done d=>O d b|.yield d=>T (i+1) d b) st)(l:∀c st,T e c st->O c st):
  ∀(n a:Nat)(c:α)(st:rW),a+n=e->T a c st->wp X (forIn (bN a n 1) c g) O st:=by
 intro p
 induction p with
 |zero=>intro a c st rfl h;exact iY<|l _ _ h
 |succ n o=>
  intro a c st q h;rw[zf,eI];refine kL<|HC (m a c st (by lia) h) λr b k=>?_
  cases r with
  |done j=>exact iY k
  |yield j=>exact o _ j b (by lia) k
def mQ{g:Nat->α->StateT rW d7 (ForInStep α)}(T:Nat->α->rW->Prop)(O:α->rW->Prop){a b:Nat}{c:α}(h:T a c st)
  (l:∀i c st,i<a+(b-a)->T i c st->wp X (g i c) (λr e=>match r with|.done d=>O d e|.yield d=>T (i+1) d e) st)
  (j:∀c st,T (a+(b-a)) c st->O c st)(k:∀c st,O c st->wp X (f c) Q st):wp X (forIn [a:b] c g>>=f) Q st:=by
 refine kL<|HC ?_ k;rw[Std.Legacy.Range.forIn_eq_forIn_range'];exact PM l j _ _ _ _ (by simp[Std.Legacy.Range.size]) h
noncomputable abbrev ar(X:Cs)(l:kb):Array Keyed:=(l.map X.it).toArray
def mD{l:kb}{i x:Nat}{f:eY->StateT rW d7 β}(e:l[i]?=Y x)(h:wp X (f<|X.it x) Q st):wp X (elem' (ar X l) i>>=f) Q st:=kL (by rw[elem'_eq,show(ar X l)[i]?=Y (X.it x) by simp[e]];exact iY h)
def D9{i j:Nat}{f:Option Bool->StateT rW d7 β}(hk:kindOf st=X.κ)(k:i<X.N)(l:j<X.N)(h:∀b,X.lt i j=b->wp X (f<|Y b) Q st):wp X (lt' (X.it i) (X.it j)>>=f) Q st:=kL (by rw[lt'_eq];refine oY ?_;rw[hk];refine HD λs g=>sv<|oj (X.ask i j k l s g λ_ _=>False) (λb m c=>?_) λe m d=>d.elim;obtain⟨a,rfl⟩:=c;exact⟨a,iY<|h _ rfl⟩)
structure Rp(X:Cs)(q:Array (Nat×Nat×Nat))(L:kb)(st:rW):Prop where
 a:Ls st=ar X L
 k:kindOf st=X.κ
 f:ro st=AR
 q:pendingOf st=q
 p:L.Perm (am X.N)
def Rp.n{q:Array (Nat×Nat×Nat)}{L:kb}(R:Rp X q L st){i x:Nat}(e:L[i]?=Y x):x<X.N:=by simpa using R.p.mem_iff.mp<|mW e
def Ea{q:Array (Nat×Nat×Nat)}{L:kb}(R:Rp X q L st){i j x y:Nat}{f:Option Bool->StateT rW d7 β}(c:L[i]?=Y x)(d:L[j]?=Y y)(h:∀b,X.lt x y=b->wp X (f<|Y b) Q st):wp X (ltAt' i j>>=f) Q st:=kL (by rw[ltAt'_eq];refine oY ?_;rw[R.a];exact mD c<|mD d<|by rw[<-bind_pure (lt' _ _)];exact D9 R.k (R.n c) (R.n d) λb e=>iY<|h b e)
def acb{α:Type}(T A R:List α){d:Nat}(hd:d=(A2 A) / 2):mirror (T++(A++R)).toArray (A2 T) (A2 T+A2 A) d=(T++(A.reverse++R)).toArray:=by
 have hd:d=(A2 T+A2 A-A2 T) / 2:=by lia
 subst hd;apply Array.ext_getElem?;intro k;rw[getElem?_mirror_all<|by simp];simp only[List.getElem?_toArray];by_cases h1:k<A2 T
 .rw[jr<|by lia,uD h1,uD h1]
 obtain⟨k,rfl⟩:=Nat.exists_eq_add_of_le<|sa h1;rw[qi (by lia) (l₂:=A.reverse++R),FW];by_cases a:k<A2 A
 .rw[jb<|by lia,qi<|by lia,uD<|by lia,uD<|by simpa using a,List.getElem?_reverse a]
  congr 1;lia
 rw[jr<|by lia,qi<|by lia,FW,qi<|by lia,qi<|by simpa using a,Ln]
def acm{α:Type}(R:List α)(x:α):∀(A T:List α){i:Nat},i=A2 T+A2 A->bubble (T++(A++x::R)).toArray i (A2 A)=(T++(x::(A++R))).toArray:=by
 intro c
 induction c with
 |nil=>intro T i h;exact I
 |cons a A b=>
  intro T i h;have:=b (T++[a]) (i:=i) (by simp at h ⊢;lia);rw[kP,bubble_succ,show T++(a::A++x::R)=T++[a]++(A++x::R) by simp,this];have e:i-A2 A=A2 T+1:=by simp at h;lia
  rw[e,nP];simp[Array.swapIfInBounds]
variable {q:Array (Nat×Nat×Nat)}{T A R:kb}{i j x:Nat}
def L0{b:Bv}{L a:kb}(S:Rp X q L st)(e:b=ar X a)(p:a.Perm L):Rp X q a (setArr st b):=⟨e,S.k,S.f,S.q,p.trans S.p⟩
def Gu{f:Unit->StateT rW d7 β}(S:Rp X q (T++(A++R)) st)(c:i=A2 T)(e:j=A2 T+A2 A)(h:∀b,Rp X q (T++(A.reverse++R)) b->wp X (f ()) Q b):wp X (P2 i j>>=f) Q st:=by rw[reverseSlice'_eq];subst c e;refine vf<|h _ (L0 S ?_<|((ze A).append_right R).append_left T);have:=acb (T.map X.it) (A.map X.it) (R.map X.it) (d:=(A2 T+A2 A-A2 T) / 2) (by simp);simpa[ar,S.a]using this
def TR{f:Unit->StateT rW d7 β}(S:Rp X q (T++(A++x::R)) st)(c:i=A2 T+A2 A)(d:j=A2 T)(h:∀b,Rp X q (T++(x::(A++R))) b->wp X (f ()) Q b):wp X (moveDown' i j>>=f) Q st:=by rw[moveDown'_eq];subst c d;refine vf<|h _ (L0 S ?_<|Pl.symm.append_left T);have:=acm (R.map X.it) (X.it x) (A.map X.it) (T.map X.it) (i:=A2 T+A2 A) (by simp);simpa[ar,S.a]using this
end
abbrev Cs.le(X:Cs)(i j:Nat):Prop:=X.lt j i=C
section
variable {X:Cs}{o:Type}{Q:o->rW->Prop}{st:rW}{q:Array (Nat×Nat×Nat)}{T A B D R L:kb}{i j x y:Nat}{r:Nat->Nat->Prop}
def Ka(h:i=A2 T+A2 A):(T++(A++x::R))[i]?=Y x:=by subst h;simp
def ix1(h:i=A2 T+A2 A+1):(T++(A++x::y::R))[i]?=Y y:=by subst h;rw[<-qh,qi<|by simp];simp
def Er(u:D.Pairwise r)(h:∀z∈D,r z y):(D++[y]).Pairwise r:=uL.mpr ⟨u,Lm _ _,λa c b d=>Fw.mp d▸h a c⟩
def ES(e:∀{a b c},r a b->r b c->r a c)(u:(D++[x]).Pairwise r)(h:r x y):∀z∈D++[x],r z y:=λz d=>by
 rcases pQ.mp d with d|d
 .exact e ((uL.mp u).2.2 z d x jW) h
 rw[Fw.mp d];exact h
def L7{g:Nat->Option (Option Nat)×Nat->StateT rW d7 (ForInStep<|Option (Option Nat)×Nat)}{f:Option (Option Nat)×Nat->StateT rW d7 o}{lo n m:Nat}
  (p:∀i n,g i (U,n)=(ltAt' (lo+n) (lo+n-1)>>=λx=>match x with|some b=>if b=J then pure (.done (U,n))else pure (.yield (U,n+1))|_=>pure<|.done (Y U,n)))
  (S:Rp X q (T++(A++x::R)) st)(v:(A2 T)=lo)(t:n=A2 A+1)(a:m=n+R.length)(u:(A++[x]).Pairwise X.le)
  (h:∀A x R,Rp X q (T++(A++x::R)) st->m=A2 A+1+R.length->(A++[x]).Pairwise X.le->(∀y l,R=y::l->X.lt y x=J)->wp X (f (U,A2 A+1)) Q st):wp X (forIn [n:m] (U,n) g>>=f) Q st:=by
 refine mQ (λi c s=>s=st/\c=(U,i)/\∃A x R,Rp X q (T++(A++x::R)) st/\i=A2 A+1/\m=i+R.length/\(A++[x]).Pairwise X.le)
  (λc s=>s=st/\∃A x R,Rp X q (T++(A++x::R)) st/\c=(U,A2 A+1)/\m=A2 A+1+R.length/\(A++[x]).Pairwise X.le/\∀y l,R=y::l->X.lt y x=J) ⟨rfl,rfl,A,x,R,S,t,a,u⟩ ?_ ?_ ?_
 .rintro i c s d ⟨rfl,rfl,A,x,R,S,rfl,h1,u⟩;rw[p];obtain⟨y,l,rfl⟩:=sj (l:=R) (by lia);refine Ea S (ix1<|by lia) (Ka<|by lia) λb e=>?_
  cases b
  .exact iY ⟨rfl,rfl,A++[x],y,l,by simpa using S,by simp,by simp at h1;lia,Er u<|ES X.tr u e⟩
  exact iY ⟨rfl,A,x,_,S,rfl,h1,u,λ_ _ k=>by cases k;exact e⟩
 .rintro c s ⟨rfl,rfl,A,x,R,S,d,h1,u⟩;exact⟨rfl,A,x,R,S,by rw[d],by lia,u,λy l e=>by subst e;simp at h1;lia⟩
 rintro c s ⟨rfl,A,x,R,S,rfl,a,u,e⟩;exact h A x R S a u e
def L4{c:Prop}[Decidable c]{k:StateT rW d7 o}(S:Rp X q (T++(A++R)) st)(e:i=A2 T)(f:j=A2 T+A2 A)(d: ¬c->A2 A=1)(h:∀b,Rp X q (T++(A.reverse++R)) b->wp X k Q b):wp X (if c then P2 i j>>=λ_=>k else k) Q st:=jF (λ_=>Gu S e f h) λz=>h _ (by obtain⟨a,rfl⟩:=List.length_eq_one_iff.mp<|d z;exact S)
def dnT(d:(A++B).Pairwise λa b=>X.le b a)(u:B.Pairwise X.le):(A++B.reverse).Pairwise λa b=>X.le b a:=by rw[uL]at d ⊢;exact⟨d.1,Gq.mpr u,λa c b e=>d.2.2 a c b<|d0.mp e⟩
def Cs.rf(X:Cs)(i:Nat):X.le i i:=n7.mpr λh=>o7<|h.symm.trans<|X.as i i h
def Sn{k m:StateT rW d7 o}(P:rW->Prop)(b:(∀a,P a->wp X k Q a)->wp X m Q st)(hk:∀a,P a->wp X k Q a):wp X m Q st:=b hk
def aem{lo m:Nat}{Q:Option Nat->rW->Prop}(S:Rp X q (T++x::R) st)(p:(A2 T)=lo)(f:m=1+R.length)(h:∀A R g,Rp X q (T++(A++R)) g->A≠[]->A.Pairwise X.le->m=A2 A+R.length->Q (Y<|A2 A) g):wp X (countRun' lo m) Q st:=by
 have fin:∀A x R g,Rp X q (T++(A++x::R)) g->m=A2 A+1+R.length->(A++[x]).Pairwise X.le->Q (Y<|A2 A+1) g:=λA x R g S f u=>by simpa using h (A++[x]) R g (by simpa using S) (by simp) u (by simpa using f)
 have ge:∀{a b c},X.le b a->X.le c b->X.le c a:=λh1 t=>X.tr t h1;rw[countRun'_eq];dsimp only;refine L7 (λ_ _=>rfl) (A:=[]) S p AM f (by simp) λA x R S f u I=>?_;refine jF (λ_=>iY<|fin A x R _ S f u) λO=>?_;obtain⟨y,l,rfl⟩:=sj (l:=R) (by simp at O;lia);apply Sn λg=>Rp X q (T++((A++[x]).reverse++y::l)) g/\∀z∈A++[x],X.le y z
 .intro F;have w:=X.as _ _ (I y l AM);refine jF (λh1=>?_) λh1=>F _ ?_
  .obtain⟨a,A,rfl⟩:=sj (l:=A)<|Nat.lt_of_succ_lt_succ h1;refine Ea S (x:=a) (y:=x) (Ka (A:=[])<|by simpa using p.symm) (Ka<|by simp;lia) λb e=>?_
   cases b
   .refine Gu (A:=a::A++[x]) (by simpa using S) p.symm (by simp;lia) λg n=>F _ ⟨n,λz k=>X.tr (X.tr w e) ?_⟩;rcases kM.mp k with rfl|k
    .exact X.rf _
    exact(D7.mp u).1 z k
   exact iY<|fin _ x _ _ S f u
  obtain rfl:=zd (l:=A) (by simpa using h1);exact⟨S,by simpa using w⟩
 rintro st ⟨S,d⟩;have t:(A2 A)+2<=m:=by simp at f;lia
 dsimp only
 refine tN (mQ (λi c s=>∃N B x R,c=(U,i,A2 B)/\Rp X q (T++(N++(B++x::R))) s/\i=A2 N+A2 B+1/\m=i+R.length/\(N++(B++[x])).Pairwise (λa b=>X.le b a)/\(B++[x]).Pairwise X.le)
  (λc s=>∃N B x R,c=(U,A2 N+A2 B+1,A2 B)/\Rp X q (T++(N++(B++x::R))) s/\m=A2 N+A2 B+1+R.length/\(N++(B++[x])).Pairwise (λa b=>X.le b a)/\(B++[x]).Pairwise X.le) ⟨(A++[x]).reverse,[],y,l,rfl,S,by simp,by simp at f ⊢;lia,?_,by simp⟩ ?_ ?_ ?_)
 .exact Er (Gq.mpr u) λz k=>d z<|d0.mp k
 .rintro i c s v ⟨N,B,x,R,rfl,S,rfl,f,d,u⟩;obtain⟨y,l,rfl⟩:=sj (l:=R) (by lia);rw[<-qh]at S;refine Ea S (ix1<|by simp;lia) (Ka<|by simp;lia) λb e=>?_
  cases b
  .refine Ea S (Ka<|by simp;lia) (ix1<|by simp;lia) λb M=>?_
   cases b
   .refine iY ⟨N,B++[x],y,l,by simp,by simpa using S,by simp;lia,by simp at f;lia,?_,Er u<|ES X.tr u e⟩;rw[<-qh]at d ⊢;rw[<-qh];exact Er d<|ES (r:=λa b=>X.le b a) ge d M
   exact iY ⟨N,B,x,_,rfl,by simpa using S,f,d,u⟩
  refine L4 (T:=T++N) (A:=B++[x]) (by simpa using S) (by simp;lia) (by simp;lia) (λz=>by simp at z ⊢;exact z) λg n=>iY ⟨N++(B++[x]).reverse,[],y,l,rfl,by simpa using n,by simp;lia,by simp at f;lia,Er (dnT d u) λz k=>?_,by simp⟩;rw[<-qh]at d;exact ES (r:=λa b=>X.le b a) ge d (X.as _ _ e) z (by simpa[or_comm]using k)
 .rintro c s ⟨N,B,x,R,rfl,S,v,f,d,u⟩;exact⟨N,B,x,R,by rw[v],S,by lia,d,u⟩
 rintro c s ⟨N,B,x,R,rfl,S,f,d,u⟩;refine L4 (T:=T++N) (A:=B++[x]) (by simpa using S) (by simp;lia) (by simp;lia) (λz=>by simp at z ⊢;exact z) λg n=>?_;refine Gu (T:=T) (A:=N++(B++[x]).reverse) (by simpa using n) p.symm (by simp;lia) λg n=>?_;have u:=Gq.mpr<|dnT d u;rcases Ll (N++(B++[x]).reverse).reverse with e|⟨E,G,e⟩
 .simp at e
 rw[e,Lk]at n u;have k:=nM dM e;simp at k;exact L7 (λ_ _=>rfl) (A:=E) (x:=G) (R:=R) (by simpa using n) p (by dsimp only;lia) (by dsimp only;lia) u λA x R S f u _=>iY<|fin A x R _ S f u
end
section
variable {X:Cs}{g:Type}{Q:g->rW->Prop}{st:rW}{q:Array (Nat×Nat×Nat)}{T A B D R L:kb}{i j x y:Nat}{p:Nat->Bool}
abbrev Mo(X:Cs)(p:Nat->Bool):Prop:= ∀a b,X.le a b->p b=J->p a=J
abbrev Lo(p:Nat->Bool)(A:kb)(a:Nat):Prop:= ∀i,i<a->p (A.getD i 0)=J
abbrev Hi(p:Nat->Bool)(A:kb)(a:Nat):Prop:= ∀i,a<=i->i<A2 A->p (A.getD i 0)=C
def Nz:Mo X λz=>!X.lt x z:=λa b h c=>by simp only[fS]at c ⊢;exact X.tr h c
def Yb:Mo X λz=>X.lt z x:=λa b h c=>by
 cases e:X.lt a x
 .exact o7<|(X.tr e h).symm.trans c
 exact e
def upD(u:A.Pairwise X.le)(b:i<=j)(h:j<A2 A):X.le (A.getD i 0) (A.getD j 0):=by
 have a:i<(A2 A):=by lia
 simp only[lM,jT h,jT a,lm];rcases nL b with e|rfl
 .exact Pk.mp u i j a h e
 exact X.rf _
def EL(u:A.Pairwise X.le)(m:Mo X p)(h:i<A2 A)(e:p (A.getD i 0)=J):Lo p A (i+1):=λj a=>m _ _ (upD u (by lia) h) e
def EW(u:A.Pairwise X.le)(m:Mo X p)(e:p (A.getD i 0)=C):Hi p A i:=λj a h=>by
 cases c:p (A.getD j 0)with
 |false=>rfl
 |true=>exact(m _ _ (upD u a h) c).symm.trans e
def Iz(h:Lo p A i):∀z∈A.take i,p z=J:=λz a=>by obtain⟨k,hk,rfl⟩:=CJ a;have hk:=rK▸hk;have:=h k (by lia);simpa[show k<(A2 A) by lia]using this
def IH(h:Hi p A i):∀z∈A.drop i,p z=C:=λz a=>by obtain⟨k,hk,rfl⟩:=CJ a;simp at hk;have:=h (i+k) (by lia) (by lia);simpa[show i+k<(A2 A) by lia]using this
def ixD(a:(A2 T)=j)(h:i<A2 A):(T++(A++R))[j+i]?=Y (A.getD i 0):=by subst a;rw[qi<|by lia,FW,uD h];simp[h]
def aaB(u:A.Pairwise X.le)(h1:∀z∈A.take i,(!X.lt y z)=J)(e:∀z∈A.drop i,(!X.lt y z)=C):(A.take i++y::A.drop i).Pairwise X.le:=by
 rw[<-si i A,uL]at u;refine uL.mpr ⟨u.1,D7.mpr ⟨λz f=>X.as _ _ (by simpa using e z f),u.2.1⟩,λa d b c=>?_⟩;rcases kM.mp c with rfl|c
 .simpa using h1 a d
 exact u.2.2 a d b c
def TU{lo n k:Nat}{Q:Bool->rW->Prop}(S:Rp X q (T++(A++R)) st)(M:(A2 T)=lo)(E:(A2 A)=k)(O:0<k)(o:n<=k+R.length)(hk:k<=n)(u:A.Pairwise X.le)
  (h:∀A R w,Rp X q (T++(A++R)) w->A2 A=n->A.Pairwise X.le->Q J w):wp X (binarySort' lo n k) Q st:=by
 rw[binarySort'_eq,show max k 1=k by lia];dsimp only;refine mQ (λk c s=>c=(U,())/\∃A R,Rp X q (T++(A++R)) s/\(A2 A)=k/\A.Pairwise X.le/\n<=k+R.length) (λc s=>c=(U,())/\∃A R,Rp X q (T++(A++R)) s/\(A2 A)=n/\A.Pairwise X.le) ⟨rfl,A,R,S,E,u,o⟩ ?_ ?_ ?_
 .rintro k c s m ⟨rfl,A,R,S,rfl,u,o⟩;obtain⟨y,l,rfl⟩:=sj (l:=R) (by lia)
  refine mQ (λi c r=>r=s/\∃a b,c=(U,a,b)/\a<=b/\b<=A2 A/\b<=a+(A2 A-i)/\Lo (λz=>!X.lt y z) A a/\Hi (λz=>!X.lt y z) A b)
   (λc r=>r=s/\∃a b,c=(U,a,b)/\a<=A2 A/\Lo (λz=>!X.lt y z) A a/\Hi (λz=>!X.lt y z) A a) ⟨rfl,0,A2 A,rfl,by lia,by lia,by lia,λi h=>by lia,λi h G=>by lia⟩ ?_ ?_ ?_
  .rintro i c _ m ⟨rfl,a,b,rfl,h1,t,v,d,f⟩;dsimp only;refine jF (λe=>iY ⟨rfl,a,b,rfl,by lia,d,(show a=b by lia)▸f⟩) λe=>?_;refine Ea S (Ka<|by lia) (ixD M<|by lia) λc e=>?_
   cases c
   .exact iY ⟨rfl,_,b,rfl,by lia,by lia,by lia,EL u Nz (by lia)<|by rw[e];rfl,f⟩
   exact iY ⟨rfl,a,_,rfl,by lia,by lia,by lia,d,EW u Nz<|by rw[e];rfl⟩
  .rintro c _ ⟨rfl,a,b,rfl,h1,t,v,d,f⟩;exact⟨rfl,a,b,rfl,by lia,d,(show a=b by lia)▸f⟩
  rintro c _ ⟨rfl,a,b,rfl,h1,t,v⟩;refine TR (T:=T++A.take a) (A:=A.drop a) (by rw[qh,<-qh (A.take a),si];exact S) (by simp;lia) (by simp;lia) λr N=>iY ⟨rfl,A.take a++y::A.drop a,l,by simpa using N,by simp;lia,aaB u (Iz t)<|IH v,by simp at o;lia⟩
 .rintro c s ⟨rfl,A,R,S,m,u,o⟩;exact⟨rfl,A,R,S,by lia,u⟩
 rintro c s ⟨rfl,A,R,S,m,u⟩;exact iY<|h A R s S m u
noncomputable def RC:Bool->eY->Array eY->Nat->Nat->Nat->StateT rW d7 (Option Nat):=sortPriv%PySem.Builtin.gallop
noncomputable def aeY:Array eY->Array eY->StateT rW d7 (Array eY):=sortPriv%PySem.Builtin.mergeLo
noncomputable def aeZ:Array eY->Array eY->StateT rW d7 (Array eY):=sortPriv%PySem.Builtin.mergeHi
noncomputable def P5:Nat->StateT rW d7 Unit:=sortPriv%PySem.Builtin.setMinGallop
def Xj{k:Nat->Nat->StateT rW d7 g}{m:StateT rW d7 g}(P:Nat->Nat->Prop)(c:(∀a b,P a b->wp X (k a b) Q st)->wp X m Q st)(hk:∀a b,P a b->wp X (k a b) Q st):wp X m Q st:=c hk
noncomputable abbrev gp(X:Cs)(left:Bool)(x z:Nat):Bool:=if left=J then X.lt z x else !X.lt x z
def C9{left:Bool}{base:Nat}{f:Option Bool->StateT rW d7 g}(hk:kindOf st=X.κ)(k:∀z∈A,z<X.N)(c:x<X.N)(l:(A2 T)=base)(a:i<A2 A)(h:∀b,gp X left x (A.getD i 0)=b->wp X (f<|Y b) Q st):
  wp X ((elem' (ar X<|T++(A++R)) (base+i)>>=λz=>if left=J then lt' z (X.it x)else lt' (X.it x) z>>=λr=>pure<|wr (λx=>!x) r)>>=f) Q st:=by
 have d:A.getD i 0<X.N:=k _ (by simp[a]);refine kL<|mD (ixD l a) ?_
 cases left
 .exact D9 hk c d λb e=>iY<|h (!b)<|nM not e
 rw[jb I,<-bind_pure (lt' _ _)];exact D9 hk d c λb e=>iY<|h b e
def xK{left:Bool}{base n hint:Nat}{Q:Option Nat->rW->Prop}(hk:kindOf st=X.κ)(t:∀z∈A,z<X.N)(w:x<X.N)(u:A.Pairwise X.le)(G:L=T++(A++R))(v:(A2 T)=base)(H:(A2 A)=n)(C:hint<n)
  (h:∀r,r<=n->(∀z∈A.take r,gp X left x z=Ap)->(∀z∈A.drop r,gp X left x z=AX)->Q (Y r) st):wp X (RC left (X.it x) (ar X L) base n hint) Q st:=by
 subst G
 have m:Mo X (gp X left x):=by
  cases left
  .exact Nz
  exact Yb
 apply Xj λa b=>a<=b/\b<=n/\Lo (gp X left x) A a/\Hi (gp X left x) A b
 .intro F;refine C9 hk t w v (H▸C) λb e=>?_;refine jF (λz=>?_) λz=>?_
  .subst z
   refine mQ (λi c s=>st=s/\∃a b,c=(U,a,b)/\a<b/\i<b/\hint+a<n/\Lo (gp X left x) A (hint+a+1)) (λc s=>st=s/\∃a b,c=(U,a,b)/\a<b/\hint+a<n/\Lo (gp X left x) A (hint+a+1)/\(n-hint<=b\/Hi (gp X left x) A (hint+b)))
    ⟨rfl,0,1,rfl,by lia,by lia,C,EL u m (H▸C) e⟩ ?_ ?_ ?_
   .rintro i c _ E ⟨rfl,a,b,rfl,h1,o,l,f⟩;dsimp only;refine jF (λz=>iY ⟨rfl,a,b,rfl,h1,l,f,.inl z⟩) λz=>C9 hk t w v (by lia) λc e=>?_
    cases c
    .exact iY ⟨rfl,a,b,rfl,h1,l,f,.inr<|EW u m e⟩
    exact iY ⟨rfl,_,_,rfl,by lia,by lia,by lia,EL u m (by lia) e⟩
   .rintro c _ ⟨rfl,a,b,rfl,h1,o,l,f⟩;exact⟨rfl,a,b,rfl,h1,l,f,.inl<|by lia⟩
   rintro c _ ⟨rfl,a,b,rfl,h1,l,f,k⟩;dsimp only;generalize I:hint+a+1=c at*;generalize O:hint+min b (n-hint)=d;refine F c d ⟨by lia,by lia,f,λi J M=>?_⟩;rcases k with k|k
   .lia
   exact k i (by lia) M
  refine mQ (λi c s=>st=s/\∃a b,c=(U,a,b)/\a<b/\i<b/\a<=hint/\Hi (gp X left x) A (hint-a)) (λc s=>st=s/\∃a b,c=(U,a,b)/\a<b/\a<=hint/\Hi (gp X left x) A (hint-a)/\(hint<b\/Lo (gp X left x) A (hint-b+1)))
   ⟨rfl,0,1,rfl,by lia,by lia,by lia,EW u m<|by simpa[z]using e⟩ ?_ ?_ ?_
  .rintro i c _ E ⟨rfl,a,b,rfl,h1,o,l,f⟩;dsimp only;refine jF (λz=>iY ⟨rfl,a,b,rfl,h1,l,f,.inl z⟩) λz=>C9 hk t w v (by lia) λc e=>?_
   cases c
   .exact iY ⟨rfl,_,_,rfl,by lia,by lia,by lia,EW u m e⟩
   exact iY ⟨rfl,a,b,rfl,h1,l,f,.inr<|EL u m (by lia) e⟩
  .rintro c _ ⟨rfl,a,b,rfl,h1,o,l,f⟩;exact⟨rfl,a,b,rfl,h1,l,f,.inl<|by lia⟩
  rintro c _ ⟨rfl,a,b,rfl,h1,l,f,k⟩;dsimp only;generalize O:hint-a=d at*;generalize I:hint+1-min b (hint+1)=c;refine F c d ⟨by lia,by lia,λi J=>?_,f⟩;rcases k with k|k
  .lia
  exact k i (by lia)
 rintro a b ⟨h1,o,l,f⟩;refine mQ (λi c s=>st=s/\∃a b,c=(U,a,b)/\a<=b/\b<=n/\b<=a+(n-i)/\Lo (gp X left x) A a/\Hi (gp X left x) A b) (λc s=>st=s/\∃a,c=(U,a,a)/\a<=n/\Lo (gp X left x) A a/\Hi (gp X left x) A a) ⟨rfl,a,b,rfl,h1,o,by lia,l,f⟩ ?_ ?_ ?_
 .rintro i c _ E ⟨rfl,a,b,rfl,h1,o,l,f,k⟩;refine jF (λz=>?_) λz=>C9 hk t w v (by dsimp only at z ⊢;lia) λc e=>?_
  .have:a=b:=by dsimp only at z;lia
   subst this;exact iY ⟨rfl,a,rfl,o,f,k⟩
  dsimp only at z
  cases c
  .exact iY ⟨rfl,a,_,rfl,by dsimp only;lia,by dsimp only;lia,by dsimp only;lia,f,EW u m e⟩
  exact iY ⟨rfl,_,b,rfl,by dsimp only;lia,o,by dsimp only;lia,EL u m (by dsimp only;lia) e,k⟩
 .rintro c _ ⟨rfl,a,b,rfl,h1,o,l,f,k⟩;have:a=b:=by lia
  subst this;exact⟨rfl,a,rfl,o,f,k⟩
 rintro c _ ⟨rfl,a,rfl,o,f,k⟩;exact iY<|h a o (Iz f)<|IH k
end
section
variable {X:Cs}{β:Type}{Q:β->rW->Prop}{st:rW}{pq:Array (Nat×Nat×Nat)}{q r L Z a b o k:kb}{i j x y:Nat}{le:Nat->Nat->Prop}{out:Bv}
structure MG(le:Nat->Nat->Prop)(Z a b o:kb):Prop where
 s:o.Pairwise le
 c:∀x∈o,∀y∈a++b,le x y
 p:(o++(a++b)).Perm Z
 ua:a.Pairwise le
 ub:b.Pairwise le
def MG.put(m:MG le Z (k++a) b o)(h:∀x∈k,∀y∈b,le x y):MG le Z a b (o++k):=by
 have f:=uL.mp m.ua;refine⟨uL.mpr ⟨m.s,f.1,λx e y d=>m.c x e y<|by simp[d]⟩,λx e y d=>?_,by simpa using m.p,f.2.1,m.ub⟩;rcases pQ.mp e with e|e
 .refine m.c x e y ?_;simp at d ⊢;exact .inr d
 rcases pQ.mp d with d|d
 .exact f.2.2 x e y d
 exact h x e y d
def Mg(X:Cs)(le:Nat->Nat->Prop)(Z a b:kb)(out:Bv):Prop:= ∃o,out=ar X o/\MG le Z a b o
def Rs(X:Cs)(Z:kb)(out:Bv):Prop:= ∃o,out=ar X o/\o.Pairwise X.le/\o.Perm Z
def Mg.sw(m:Mg X le Z a b out):Mg X le Z b a out:=by obtain⟨o,e,m⟩:=m;exact⟨o,e,m.s,λx d y f=>m.c x d y<|by simpa[or_comm]using f,(Sj.append_left o).trans m.p,m.ub,m.ua⟩
def Mg.put(m:Mg X le Z a b out){a':kb}{c:Bv}(e:a=k++a')(h:∀x∈k,∀y∈b,le x y)(d:c=out++ar X k):Mg X le Z a' b c:=by obtain⟨o,rfl,m⟩:=m;exact⟨o++k,by simpa[ar]using d,(e▸m).put h⟩
def Mg.a1(m:Mg X le Z (q.drop i) b out)(c:i<A2 q)(h:∀y∈b,le q[i] y):Mg X le Z (q.drop<|i+1) b (out.push<|X.it q[i]):=m.put (k:=[q[i]]) (uW c) (by simpa using h) (by simp[ar])
def Mg.ak(m:Mg X le Z (q.drop i) b out)(h:∀x∈(q.drop i).take j,∀y∈b,le x y):Mg X le Z (q.drop<|i+j) b (out++(ar X q).extract i (i+j)):=m.put (by rw[<-List.drop_drop,si]) h (by simp[ar,CH])
def Mg.fin(m:Mg X X.le Z (q.drop i) (r.drop j) out)(h:∀x∈q.drop i,∀y∈r.drop j,X.le x y):Rs X Z (out++(ar X q).extract i (ar X q).size++(ar X r).extract j (ar X r).size):=by obtain⟨o,e,m⟩:=((m.put (k:=q.drop i) (a':=[]) (by simp) h I).sw).put (k:=r.drop j) (a':=[]) (by simp) (by simp) I;exact⟨o,by rw[<-e];simp[ar,CH,zc],m.s,by simpa using m.p⟩
def Mg.end(m:Mg X X.le Z (q.drop i) (r.drop j) out)(h:(A2 q)<=i\/(A2 r)<=j):Rs X Z (out++(ar X q).extract i (ar X q).size++(ar X r).extract j (ar X r).size):=m.fin λx c y d=>by
 rcases h with h|h
 .rw[sG h]at c;cases c
 rw[sG h]at d;cases d
def Mg.hd(m:Mg X le Z (q.drop i) b out)(f:∀{a b c},le a b->le b c->le a c)(e:i<A2 q)(h:le x q[i]):∀y∈q.drop i,le x y:=λy d=>by
 obtain⟨o,_,m⟩:=m;have:=m.ua;rw[uW e]at this d;rcases kM.mp d with rfl|d
 .exact h
 exact f h ((D7.mp this).1 y d)
def M6{P:d->Prop}{f:α->β->d}{T:α->β->Prop}{c:d}(x:∃a b,c=f a b/\T a b)(h:∀a b,T a b->P (f a b)):P c:=by obtain⟨_,_,rfl,i⟩:=x;exact h _ _ i
def eX4{P:g->Prop}{f:α->β->l->m->g}{T:α->β->l->m->Prop}{c:g}(x:∃a b d e,c=f a b d e/\T a b d e)(h:∀a b c d,T a b c d->P (f a b c d)):P c:=by obtain⟨_,_,_,_,rfl,i⟩:=x;exact h _ _ _ _ i
def NX{P:l->Prop}{f:α->β->m->n->ζ->l}{T:α->β->m->n->ζ->Prop}{c:l}(x:∃a b d e g,c=f a b d e g/\T a b d e g)(h:∀a b c d e,T a b c d e->P (f a b c d e)):P c:=by obtain⟨_,_,_,_,_,rfl,i⟩:=x;exact h _ _ _ _ _ i
def NW{P:l->Prop}{f:α->β->m->n->ζ->η->l}{T:α->β->m->n->ζ->η->Prop}{c:l}(x:∃a b d e g k,c=f a b d e g k/\T a b d e g k)(h:∀a b c d e g,T a b c d e g->P (f a b c d e g)):P c:=by obtain⟨_,_,_,_,_,_,rfl,i⟩:=x;exact h _ _ _ _ _ _ i
def ME{a b c d e P:Prop}(h:a->b->c->d->e->P)(x:a/\b/\c/\d/\e):P:=h x.1 x.2.1 x.2.2.1 x.2.2.2.1 x.2.2.2.2
def C8{f:Unit->StateT rW d7 β}{n:Nat}(S:Rp X pq L st)(h:∀c,Rp X pq L c->wp X (f ()) Q c):wp X (P5 n>>=f) Q st:=vf (g:=λs=>SortSt.mk' (kindOf s) (Ls s) (pendingOf s) n<|ro s)<|h _ ⟨S.a,S.k,S.f,S.q,S.p⟩
def HE{e:Type}{k:e->Nat->StateT rW d7 β}{m:StateT rW d7 β}(P:e->Nat->rW->Prop)(f:(∀c n d,P c n d->wp X (k c n) Q d)->wp X m Q st)(hk:∀c n d,P c n d->wp X (k c n) Q d):wp X m Q st:=f hk
def L5{k:Nat->StateT rW d7 β}{m:StateT rW d7 β}(P:Nat->rW->Prop)(d:(∀n c,P n c->wp X (k n) Q c)->wp X m Q st)(hk:∀n c,P n c->wp X (k n) Q c):wp X m Q st:=d hk
def Xi{Q:Array eY->rW->Prop}(S:Rp X pq L st)(u1:q.Pairwise X.le)(u2:r.Pairwise X.le)(M:∀z∈q,z<X.N)(U:∀z∈r,z<X.N)(h1:0<A2 q)(h2:0<A2 r)(hd:∀y∈q,X.le r[0] y)(top:∀x∈r,X.le x q[A2 q-1])
  (h:∀out s,Rp X pq L s->Rs X (q++r) out->Q out s):wp X (aeY (ar X q)<|ar X r) Q st:=by
 have sq:(ar X q).size=(A2 q):=by simp
 have sr:(ar X r).size=(A2 r):=by simp
 have K:Mg X X.le (q++r) (q.drop 0) (r.drop 1) #[X.it r[0]]:=Mg.sw<|Mg.a1 (q:=r) (i:=0) (out:= #[]) ⟨[],rfl,.nil,by simp,by simpa using Sj,by simpa using u2,by simpa using u1⟩ h2 hd
 have last:∀{out i j},Mg X X.le (q++r) (q.drop i) (r.drop j) out->i+1=A2 q->Rs X (q++r) (out++(ar X r).extract j (ar X r).size++(ar X q).extract i (ar X q).size):=λ{_ i j} m e=>m.sw.fin λx O y B=>by
  have hi:i<(A2 q):=by lia
  rw[uW hi,sG<|by lia,Fw]at B;have:=top x<|zb O;simpa only[B,<-e,nP]using this
 refine tN<|mD (x:=r[0]) (by simp[h2]) ?_;refine jF (λe=>iY<|h _ _ S (K.end<|.inr<|by simp at e;lia)) λe=>jF (λp=>iY<|h _ _ S (last K<|by simpa using p)) λp=>oY ?_
 let I:=λ(c:Nat) out d f s=>Rp X pq L s/\Mg X X.le (q++r) (q.drop d) (r.drop f) out/\d+1<A2 q/\f<A2 r/\c<=d+f
 refine mQ (λi c s=>∃out d f C,c=(AR,out,d,f,C)/\I (i+1) out d f s) (λc s=>∃out t,c=(A9 out,t)/\Rp X pq L s/\Rs X (q++r) out) ⟨_,0,1,_,rfl,S,K,by simp at p;lia,by simp at e;lia,by lia⟩ ?_ ?_ ?_
 .intro i c s _ h;apply eX4 h;clear h;intro out d f C i0;refine mQ (λj c s=>∃out d f v w,c=(AR,out,d,f,v,w)/\I (i+1+j) out d f s) (λc s=>(∃out t,c=(A9 out,t)/\Rp X pq L s/\Rs X (q++r) out)\/∃out d f v w,c=(AR,out,d,f,v,w)/\I (i+1) out d f s) ⟨_,_,_,_,_,rfl,i0⟩ ?_ ?_ ?_
  .intro j c s _ h;apply NX h;clear h;refine λout d f v w=>ME λS m E l H=>?_;dsimp only;refine mD (x:=r[f]) (by simp[l]) (mD (x:=q[d]) (by simp)<|D9 S.k (U _ (by simp)) (M _ (by simp)) λb e=>?_)
   cases b
   .have n:=m.a1 (by lia)<|m.sw.hd X.tr l e;exact mD (x:=q[d]) (by simp)<|jF (λe=>iY<|.inl ⟨_,_,rfl,S,last n<|by simpa using e⟩) λe=>jF (λ_=>iY<|.inr ⟨_,_,_,_,_,rfl,S,n,by simp at e;lia,l,by lia⟩) λ_=>iY ⟨_,_,_,_,_,rfl,S,n,by simp at e;lia,l,by lia⟩
   have n:=(m.sw.a1 l<|m.hd X.tr (by lia)<|X.as _ _ e).sw;exact mD (x:=r[f]) (by simp[l])<|jF (λe=>iY<|.inl ⟨_,_,rfl,S,n.end<|.inr<|by simp at e;lia⟩) λe=>jF (λ_=>iY<|.inr ⟨_,_,_,_,_,rfl,S,n,E,by simp at e;lia,by lia⟩) λ_=>iY ⟨_,_,_,_,_,rfl,S,n,E,by simp at e;lia,by lia⟩
  .refine λc s h=>aJ ?_;obtain⟨_,d,f,_,_,_,S,m,E,l,H⟩:=h;lia
  intro c s z;refine z.elim (λh=>?_) λh=>?_
  .apply M6 h;exact λout _ Y=>iY ⟨out,_,rfl,Y⟩
  apply NX h;clear h z;refine λout d f v w i0=>tN<|mQ (λj c s=>∃out d f C v w,c=(AR,out,d,f,C,v,w)/\I (i+1+j) out d f s) (λc s=>(∃out t,c=(A9 out,t)/\Rp X pq L s/\Rs X (q++r) out)\/∃out d f C v w,c=(AR,out,d,f,C,v,w)/\I (i+2) out d f s) ⟨_,_,_,_,_,_,rfl,i0⟩ ?_ ?_ ?_
  .intro j c s _ h;apply NW h;clear h;refine λout d f C v w=>ME λS m E l H=>?_;dsimp only;apply L5 λ_ s=>Rp X pq L s
   .intro F;refine jF (λ_=>?_) λ_=>?_
    .generalize C-1=g;exact F g s S
    exact F C s S
   intro g s S;refine C8 S λs S=>mD (x:=r[f]) (by simp[l])<|kL<|xK (T:=q.take d) (A:=q.drop d) (R:=[]) S.k (λz D=>M z<|zb D) (U _ (by simp)) (u1.sublist<|FV _ _) (by simp) (by simp;lia) (by simp) (by simp;lia) λk _ P V=>?_;dsimp only;apply HE λout d s=>Rp X pq L s/\Mg X X.le (q++r) (q.drop d) (r.drop f) out/\d+1<A2 q/\i+1+j<=d+f/\∀y∈q.drop d,X.le r[f] y
   .intro F;have mk:=m.ak (j:=k) λx O y B=>m.sw.hd (x:=x) X.tr l (by simpa using P x O) y B;have u:∀y∈q.drop (d+k),X.le r[f] y:=λy B=>X.as _ _ (by simpa using V y<|by simpa using B);refine jF (λe=>?_) λe=>?_
    .refine jF (λJ=>iY<|.inl ⟨_,_,rfl,S,last mk<|by simpa using J⟩) λJ=>jF (λp=>iY<|.inl ⟨_,_,rfl,S,mk.end<|.inl<|by simp at p;lia⟩) λp=>?_;generalize out++(ar X q).extract d (d+k)=out at mk ⊢;generalize W:d+k=ic at mk u J p ⊢;exact F out ic s ⟨S,mk,by simp at J p;lia,by lia,u⟩
    rw[show k=0 by lia]at u;exact F out d s ⟨S,m,E,H,u⟩
   refine λout d s=>ME λS m E H u=>?_;have n:=(m.sw.a1 l u).sw;refine mD (x:=r[f]) (by simp[l])<|jF (λe=>iY<|.inl ⟨_,_,rfl,S,n.end<|.inr<|by simp at e;lia⟩) λe=>mD (x:=q[d]) (by simp)<|kL<|xK (T:=r.take<|f+1) (A:=r.drop<|f+1) (R:=[]) S.k (λz D=>U z<|zb D) (M _ (by simp)) (u2.sublist<|FV _ _) (by simp) (by simp;lia) (by simp) (by simp at e ⊢;lia) λG _ P V=>?_;dsimp only;apply HE λout f s=>Rp X pq L s/\Mg X X.le (q++r) (q.drop d) (r.drop f) out/\f<A2 r/\i+1+j<d+f/\∀y∈r.drop f,X.le q[d] y
   .intro F;have mk:=(n.sw.ak (j:=G) λx O y B=>n.hd X.tr (by lia) (X.as _ _ (P x O)) y B).sw;have u:∀y∈r.drop (f+1+G),X.le q[d] y:=λy B=>V y (by simpa using B);refine jF (λ_=>?_) λe3=>?_
    .refine jF (λp=>iY<|.inl ⟨_,_,rfl,S,mk.end<|.inr<|by simp at p;lia⟩) λp=>?_;generalize out.push (X.it r[f])++(ar X r).extract (f+1) (f+1+G)=out at mk ⊢;generalize W:f+1+G=ic at mk u p ⊢;exact F out ic s ⟨S,mk,by simp at p;lia,by lia,u⟩
    rw[show G=0 by lia]at u;exact F _ _ s ⟨S,n,by simp at e;lia,by lia,u⟩
   refine λout f s=>ME λS m l H u=>?_;have n:=m.a1 (by lia) u;exact mD (x:=q[d]) (by simp)<|jF (λe=>iY<|.inl ⟨_,_,rfl,S,last n<|by simpa using e⟩) λe=>jF (λ_=>iY<|.inr ⟨_,_,_,_,_,_,rfl,S,n,by simp at e;lia,l,by lia⟩) λ_=>iY ⟨_,_,_,_,_,_,rfl,S,n,by simp at e;lia,l,by lia⟩
  .refine λc s h=>aJ ?_;obtain⟨_,d,f,_,_,_,_,S,m,E,l,H⟩:=h;lia
  intro c s z;refine z.elim (λh=>?_) λh=>?_
  .apply M6 h;exact λout _ Y=>iY ⟨out,_,rfl,Y⟩
  apply NW h;clear h z;exact λ_ _ _ _ _ _ h=>C8 h.1 λs S=>iY ⟨_,_,_,_,rfl,S,h.2⟩
 .refine λc s h=>aJ ?_;obtain⟨_,d,f,_,_,S,m,E,l,H⟩:=h;lia
 intro c s x;apply M6 x;exact λ_ _ m=>iY<|h _ _ m.1 m.2
end
section
variable {X:Cs}{u:Type}{Q:u->rW->Prop}{st:rW}{l:Array (Nat×Nat×Nat)}{q r L Z a b o k:kb}{i j x y n:Nat}{out:Bv}
theorem ss1(n:Nat):n+1-1=n:=rfl
abbrev Cs.ge(X:Cs)(i j:Nat):Prop:=X.le j i
def Mg.h1(m:Mg X X.ge Z (q.take<|n+1).reverse b out)(c:n<A2 q)(h:∀y∈b,X.le y q[n]):Mg X X.ge Z (q.take n).reverse b (out.push<|X.it q[n]):=m.put (k:=[q[n]]) (by rw[CG];simp[c]) (by simpa using h) (by simp[ar])
def Mg.hk(m:Mg X X.ge Z (q.take n).reverse b out)(c:i<=n)(h:∀x∈(q.take n).drop i,∀y∈b,X.le y x):Mg X X.ge Z (q.take i).reverse b (out++((ar X q).extract i n).reverse):=m.put (k:=((q.take n).drop i).reverse) (by rw[<-List.reverse_append,<-xq c,<-gJ,xq c,si]) (by simpa using h) (by simp[ar,List.extract_eq_drop_take'])
def Mg.Mt(m:Mg X X.ge Z (q.take i).reverse (r.take j).reverse out)(h:∀x∈q.take i,∀y∈r.take j,X.le x y):Rs X Z ((ar X q).extract 0 i++(ar X r).extract 0 j++out.reverse):=by obtain⟨o,e,m⟩:=(m.sw.put (k:=(r.take j).reverse) (a':=[]) (by simp) (by simpa using λx c y d=>h y d x c) I).sw.put (k:=(q.take i).reverse) (a':=[]) (by simp) (by simp) I;refine⟨o.reverse,?_,Gq.mpr m.s,(ze o).trans<|by simpa using m.p⟩;have:=nM Array.reverse e;simpa[ar,CH]using this
def Mg.JZ(m:Mg X X.ge Z (q.take i).reverse (r.take j).reverse out)(h:i=0\/j=0):Rs X Z ((ar X q).extract 0 i++(ar X r).extract 0 j++out.reverse):=m.Mt λx c y d=>by
 rcases h with rfl|rfl
 .cases c
 cases d
def Mg.NO(m:Mg X X.ge Z (q.take<|n+1).reverse b out)(d:n<A2 q)(h:X.le q[n] x):∀y∈(q.take<|n+1).reverse,X.le y x:=λy c=>by
 obtain⟨o,_,m⟩:=m;have:=m.ua;rw[show(q.take<|n+1).reverse=q[n]::(q.take n).reverse by rw[CG];simp[d]]at this c;rcases kM.mp c with rfl|c
 .exact h
 exact X.tr ((D7.mp this).1 y c) h
def aX7{a b c d e f g P:Prop}(h:a->b->c->d->e->f->g->P)(x:a/\b/\c/\d/\e/\f/\g):P:=ME (λa b c d e=>h a b c d e.1 e.2.1 e.2.2) x
def aX6{a b c d e f P:Prop}(h:a->b->c->d->e->f->P)(x:a/\b/\c/\d/\e/\f):P:=ME (λa b c d e=>h a b c d e.1 e.2) x
def Xk{Q:Array eY->rW->Prop}(S:Rp X l L st)(u1:q.Pairwise X.le)(u2:r.Pairwise X.le)(hq:∀z∈q,z<X.N)(hr:∀z∈r,z<X.N)(h1:0<A2 q)(h2:0<A2 r)(hd:∀y∈q,X.le r[0] y)(top:∀x∈r,X.le x q[A2 q-1])
  (h:∀out s,Rp X l L s->Rs X (q++r) out->Q out s):wp X (aeZ (ar X q)<|ar X r) Q st:=by
 have sq:(ar X q).size=(A2 q):=by simp
 have sr:(ar X r).size=(A2 r):=by simp
 have W:Mg X X.ge (q++r) (q.take<|A2 q-1).reverse (r.take<|A2 r).reverse #[X.it q[A2 q-1]]:=Mg.h1 (out:= #[]) ⟨[],rfl,.nil,by simp,by simpa[nF h1]using(ze q).append (ze r),by simpa[nF h1,Gq]using u1,by simpa[Gq]using u2⟩ (by lia) (by simpa using top)
 have last:∀{out i},Mg X X.ge (q++r) (q.take i).reverse (r.take 1).reverse out->Rs X (q++r) ((ar X r).extract 0 1++(ar X q).extract 0 i++out.reverse):=λm=>m.sw.Mt λx K y D=>by obtain⟨b,r,rfl⟩:=sj h2;simp at K;subst K;exact hd y<|uU D
 refine tN<|mD (x:=q[A2 q-1]) (by simp[h1]) ?_;rw[sq,sr];refine jF (λe=>iY<|h _ _ S (W.JZ<|.inl<|by simpa using e)) λe=>jF (λC=>iY<|h _ _ S ?_) λC=>oY ?_
 .have C:(A2 r)=1:=by simpa using C
  rw[C]at W ⊢;exact last W
 let I:=λ(c:Nat) out d f s=>Rp X l L s/\Mg X X.ge (q++r) (q.take d).reverse (r.take f).reverse out/\0<d/\d<=A2 q/\1<f/\f<=A2 r/\c+d+f<=A2 q+A2 r
 refine mQ (λi c s=>∃d f out G,c=(AR,d,f,out,G)/\I (i+1) out d f s) (λc s=>∃out t,c=(A9 out,t)/\Rp X l L s/\Rs X (q++r) out) ⟨_,_,_,_,rfl,S,W,by simp at e;lia,by lia,by simp at C;lia,by lia,by lia⟩ ?_ ?_ ?_
 .intro i c s _ h;apply eX4 h;clear h;intro d f out G i0;refine mQ (λj c s=>∃d f out w B,c=(AR,d,f,out,w,B)/\I (i+1+j) out d f s) (λc s=>(∃out t,c=(A9 out,t)/\Rp X l L s/\Rs X (q++r) out)\/∃d f out w B,c=(AR,d,f,out,w,B)/\I (i+1) out d f s) ⟨_,_,_,_,_,rfl,i0⟩ ?_ ?_ ?_
  .intro j c s _ h;apply NX h;clear h;refine λd f out w B=>aX7 λS m J M E H U=>?_;obtain⟨n,rfl⟩:∃n,d=n+1:=⟨d-1,by lia⟩
   obtain⟨p,rfl⟩:∃n,f=n+1:=⟨f-1,by lia⟩
   dsimp only[ss1];refine mD (x:=r[p]) (by simp)<|mD (x:=q[n]) (by simp)<|D9 S.k (hr _ (by simp)) (hq _ (by simp)) λb e=>?_
   cases b
   .have v:=(m.sw.h1 (by lia)<|m.NO (by lia) e).sw;refine mD (x:=r[p]) (by simp)<|jF (λe=>?_) λe=>jF (λ_=>iY<|.inr ⟨_,_,_,_,_,rfl,S,v,J,M,by simp at e;lia,by lia,by lia⟩) λ_=>iY ⟨_,_,_,_,_,rfl,S,v,J,M,by simp at e;lia,by lia,by lia⟩;obtain rfl:p=1:=by simpa using e
    exact iY<|.inl ⟨_,_,rfl,S,last v⟩
   have v:=m.h1 (by lia)<|m.sw.NO (by lia)<|X.as _ _ e;exact mD (x:=q[n]) (by simp)<|jF (λe=>iY<|.inl ⟨_,_,rfl,S,v.JZ<|.inl<|by simpa using e⟩) λe=>jF (λ_=>iY<|.inr ⟨_,_,_,_,_,rfl,S,v,by simp at e;lia,by lia,E,H,by lia⟩) λ_=>iY ⟨_,_,_,_,_,rfl,S,v,by simp at e;lia,by lia,E,H,by lia⟩
  .refine λc s h=>aJ ?_;obtain⟨_,_,_,_,_,_,S,m,J,M,E,H,U⟩:=h;lia
  intro c s z;refine z.elim (λh=>?_) λh=>?_
  .apply M6 h;exact λout _ hs=>iY ⟨out,_,rfl,hs⟩
  apply NX h;clear h z;refine λd f out w B i0=>tN<|mQ (λj c s=>∃d f out G w B,c=(AR,d,f,out,G,w,B)/\I (i+1+j) out d f s) (λc s=>(∃out t,c=(A9 out,t)/\Rp X l L s/\Rs X (q++r) out)\/∃d f out G w B,c=(AR,d,f,out,G,w,B)/\I (i+2) out d f s) ⟨_,_,_,_,_,_,rfl,i0⟩ ?_ ?_ ?_
  .intro j c s _ h;apply NW h;clear h;refine λd f out G w B=>aX7 λS m J M E H U=>?_;obtain⟨p,rfl⟩:∃n,f=n+1:=⟨f-1,by lia⟩
   dsimp only[ss1];apply L5 λ_ s=>Rp X l L s
   .intro F;refine jF (λ_=>?_) λ_=>?_
    .generalize G-1=g;exact F g s S
    exact F G s S
   intro g s S;refine C8 S λs S=>mD (x:=r[p]) (by simp)<|kL<|xK (T:=[]) (A:=q.take d) (R:=q.drop d) S.k (λz hz=>hq z<|uU hz) (hr _ (by simp)) (u1.sublist<|xF _ _) (by simp) AM (by simp;lia) (by lia) λk hk t1 t2=>?_;dsimp only;apply HE λout d s=>Rp X l L s/\Mg X X.ge (q++r) (q.take d).reverse (r.take<|p+1).reverse out/\0<d/\d<=A2 q/\i+1+j+d+p<A2 q+A2 r/\∀y∈q.take d,X.le y r[p]
   .intro F;have mk:=m.hk hk λx K y D=>m.sw.NO (x:=x) (by lia) (X.as _ _ (by simpa using t2 x K)) y D;have Y:∀y∈q.take k,X.le y r[p]:=λy D=>by simpa using t1 y (by rwa [gJ,xq hk])
    refine jF (λe=>?_) λe=>?_
    .refine jF (λO=>iY<|.inl ⟨_,_,rfl,S,mk.JZ<|.inl<|by simpa using O⟩) λO=>?_;generalize out++((ar X q).extract k d).reverse=out at mk ⊢;generalize ea:k=ic at mk Y O ⊢;exact F out ic s ⟨S,mk,by simp at O;lia,by lia,by lia,Y⟩
    obtain rfl:k=d:=by lia
    exact F out _ s ⟨S,m,J,M,by lia,Y⟩
   refine λout V s=>aX6 λS m J M U Y=>?_;have v:=(m.sw.h1 (by lia)<|by simpa using Y).sw;obtain⟨n,rfl⟩:∃n,V=n+1:=⟨V-1,by lia⟩
   dsimp only[ss1];refine mD (x:=r[p]) (by simp)<|jF (λe=>?_) λe=>mD (x:=q[n]) (by simp)<|kL<|xK (T:=[]) (A:=r.take p) (R:=r.drop p) S.k (λz hz=>hr z<|uU hz) (hq _ (by simp)) (u2.sublist<|xF _ _) (by simp) AM (by simp;lia) (by lia) λP bJ t1 t2=>?_
   .obtain rfl:p=1:=by simpa using e
    exact iY<|.inl ⟨_,_,rfl,S,last v⟩
   dsimp only;apply HE λout f s=>Rp X l L s/\Mg X X.ge (q++r) (q.take<|n+1).reverse (r.take f).reverse out/\1<f/\f<=A2 r/\i+1+j+(n+1)+f<A2 q+A2 r/\∀y∈r.take f,X.le y q[n]
   .intro F;have mk:=(v.sw.hk bJ λx K y D=>v.NO (x:=x) (by lia) (t2 x K) y D).sw;have hc:∀y∈r.take P,X.le y q[n]:=λy D=>X.as _ _ (t1 y<|by rwa [gJ,xq bJ]);refine jF (λ_=>?_) λe3=>?_
    .refine jF (λO=>?_) λO=>jF (λC=>iY<|.inl ⟨_,_,rfl,S,mk.JZ<|.inr<|by simpa using C⟩) λC=>?_
     .obtain rfl:P=1:=by simpa using O
      exact iY<|.inl ⟨_,_,rfl,S,last mk⟩
     generalize out.push (X.it r[p])++((ar X r).extract P p).reverse=out at mk ⊢;generalize ea:P=ic at mk hc O C ⊢;exact F out ic s ⟨S,mk,by simp at O C;lia,by lia,by lia,hc⟩
    obtain rfl:P=p:=by lia
    exact F _ _ s ⟨S,v,by simp at e;lia,by lia,U,hc⟩
   refine λout f s=>aX6 λS m E H U Y=>?_;have v:=m.h1 (by lia) (by simpa using Y);exact mD (x:=q[n]) (by simp)<|jF (λe=>iY<|.inl ⟨_,_,rfl,S,v.JZ<|.inl<|by simpa using e⟩) λe=>jF (λ_=>iY<|.inr ⟨_,_,_,_,_,_,rfl,S,v,by simp at e;lia,by lia,E,H,by lia⟩) λ_=>iY ⟨_,_,_,_,_,_,rfl,S,v,by simp at e;lia,by lia,E,H,by lia⟩
  .refine λc s h=>aJ ?_;obtain⟨_,_,_,_,_,_,_,S,m,J,M,E,H,U⟩:=h;lia
  intro c s z;refine z.elim (λh=>?_) λh=>?_
  .apply M6 h;exact λout _ hs=>iY ⟨out,_,rfl,hs⟩
  apply NW h;exact λ_ _ _ _ _ _ h=>C8 h.1 λs S=>iY ⟨_,_,_,_,rfl,S,h.2⟩
 .refine λc s h=>aJ ?_;obtain⟨_,_,_,_,_,S,m,J,M,E,H,U⟩:=h;lia
 intro c s x;apply M6 x;exact λ_ _ m=>iY<|h _ _ m.1 m.2
end
section
variable {X:Cs}{t:Type}{Q:t->rW->Prop}{st:rW}{d:Array (Nat×Nat×Nat)}{T A B R L:kb}{i j x y n s:Nat}{o C:List (List Nat)}{r w:List (Nat×Nat×Nat)}
def Om{c:Type}:∀(m K T R:List c)(j a:Nat),a+j=A2 T->K.length=A2 m->(m.zipIdx j).foldl (λ(x:Array c) (p:c×Nat)=>x.setIfInBounds (a+p.2) p.1) (T++(K++R)).toArray=(T++(m++R)).toArray:=by
 intro f
 induction f with
 |nil=>intro K T R j a h b;rw[zd b];rfl
 |cons y m e=>intro K T R j a h b;obtain⟨k,K,rfl⟩:=sj (l:=K) (by simp[b]);rw[oO,sD];have:=e K (T++[y]) R (j+1) a (by simp;lia) (by simpa using b);simpa[h]using this
def Rn(X:Cs):Nat->List (List Nat)->List (Nat×Nat×Nat)->Prop
 |_,[],[]=>True
 |s,A::o,p::r=>p.1=s/\p.2.1=A2 A/\A≠[]/\A.Pairwise X.le/\Rn X (s+A2 A) o r
 |_,_,_=>False
theorem Rn.cut:∀{r:List (Nat×Nat×Nat)}{s:Nat}{o:List (List Nat)},Rn X s o (r++w)->∃a L2,o=a++L2/\Rn X (s+A2 a.flatten) L2 w/\∀M q,Rn X (s+A2 a.flatten) M q->Rn X s (a++M) (r++q)
 |[],s,o,h=>⟨[],o,rfl,h,λ_ _ h=>h⟩
 |p::r,s,[],h=>h.elim
 |p::r,s,A::o,h=>by
  obtain⟨h1,b,c,f,g⟩:=h;obtain⟨a,L2,rfl,k,l⟩:=Rn.cut g;have e:s+(A::a).flatten.length=s+A2 A+(A2 a.flatten):=by simp;lia
  exact⟨A::a,L2,rfl,e▸k,λM q h=>⟨h1,b,c,f,l M q<|e▸h⟩⟩
def TQ{s:rW}{f:PUnit->StateT rW d7 t}(h:wp X (f ⟨⟩) Q s):wp X (set s>>=f) Q st:=kL λ_ g=>by rw[StateT.run_set];exact ja ⟨g,h⟩
def upA(u:A.Pairwise X.le)(v:B.Pairwise X.le)(h:∀a∈A,∀b∈B,X.le a b):(A++B).Pairwise X.le:=uL.mpr ⟨u,v,h⟩
def Ti(a:L=T++(A++R))(b:i=A2 T)(c:j=A2 T+A2 A):(ar X L).extract i j=ar X A:=by subst a b c;simp[ar,CH]
def Sm{Q:Bool->rW->Prop}(S:Rp X d (o.flatten++R) st)(hr:Rn X 0 o d.toList)(hi:i+1<d.size)(h:∀e9 cx iG,Rp X cx (iG.flatten++R) e9->Rn X 0 iG cx.toList->cx.size+1=d.size->A2 iG.flatten=A2 o.flatten->Q Ap e9):wp X (mergeAt' i) Q st:=by
 obtain⟨d⟩:=d
 obtain⟨H,⟨Y,D,K⟩,⟨sb,F,eT⟩,U,rfl,rfl⟩:∃H x y U,d=H++x::y::U/\(A2 H)=i:=by have hi:i+1<(A2 d):=hi;exact⟨d.take i,d[i],d[i+1],d.drop<|i+2,by simp,by simp;lia⟩
 obtain⟨L1,L2,rfl,h2,h3⟩:=Rn.cut hr
 obtain⟨A,B,L2,rfl⟩:∃A B L,L2=A::B::L:=by
  match L2,h2 with
  |A::B::L,_=>exact⟨A,B,L,rfl⟩
  |[A],h=>exact h.2.2.2.2.elim
  |[],h=>exact h.elim
 obtain⟨O,Z,a1,P,hb,ei,b1,V,h4⟩:=h2;dsimp only at O Z hb ei;obtain⟨κ',a',p',g,f'⟩:=st;have e1:a'=_:=S.a;have e2:p'=_:=S.q;subst e1 e2;rw[show(L1++A::B::L2).flatten++R=L1.flatten++(A++(B++(L2.flatten++R))) by simp]at S ⊢
 have fin:∀e9 M,Rp X (H++(Y,D+F,K)::U).toArray (L1.flatten++(M++(L2.flatten++R))) e9->M.Perm (A++B)->M.Pairwise X.le->Q Ap e9:=λe9 M J em u=>by have em:=em.length_eq;rw[nA,<-Z,<-ei]at em;refine h _ (H++(Y,D+F,K)::U).toArray (L1++M::L2) (by simpa using J) (h3 _ _ ⟨O,em.symm,λe=>a1 ?_,u,by rwa [em,Z,ei,<-xp]⟩) (by simp;lia) (by simp;lia);exact zd (by rw[e]at em;simp at em;lia)
 have ep:∀z,((H++(Y,D,K)::(sb,F,eT)::U).toArray.setIfInBounds (A2 H) z).eraseIdxIfInBounds (A2 H+1)=(H++z::U).toArray:=λz=>by simp[sm,List.eraseIdx_append];intro;lia
 clear h h3 h4 hr;generalize L1.flatten=T at*;generalize L2.flatten++R=R at*;have hN:∀z,z∈A\/z∈B->z<X.N:=λz l=>by simpa using S.p.mem_iff.mp<|qk _ (by rcases l with h|h<;>simp[h])
 obtain⟨y,B',eB⟩:=List.exists_cons_of_ne_nil b1
 have hy:∀z∈B,X.le y z:=λz l=>by
  rw[eB]at V l;rcases kM.mp l with rfl|l
  .exact X.rf _
  exact(D7.mp V).1 z l
 refine oY ?_;dsimp only;rw[show(H++(Y,D,K)::(sb,F,eT)::U).toArray[A2 H]?=A9 (Y,D,K) by simp,show(H++(Y,D,K)::(sb,F,eT)::U).toArray[A2 H+1]?=A9 (sb,F,eT) by simp];dsimp only;rw[ep];refine TQ<|mD (x:=y) (by rw[eB];exact Ka<|by lia)<|kL<|xK S.k (λz h=>hN z<|.inl h) (hN y<|.inr<|by simp[eB]) P I (by lia) Z.symm (by have:=Sk.mpr a1;lia) λk hk t1 t2=>?_;have S2:Rp X (H++(Y,D+F,K)::U).toArray (T++(A++(B++R))) (SortSt.mk' κ' (ar X<|T++(A++(B++R))) (H++(Y,D+F,K)::U).toArray g f'):=⟨rfl,S.k,S.f,rfl,S.p⟩
 have done:(∀a∈A,X.le a y)->Q Ap (SortSt.mk' κ' (ar X<|T++(A++(B++R))) (H++(Y,D+F,K)::U).toArray g f'):=λz=>fin _ (A++B) (by simpa using S2) (.refl _) (upA P V λa O b hb=>X.tr (z a O)<|hy b hb);rw[Z]at hk;obtain⟨v,E,rfl,rfl⟩:∃v E,A=v++E/\(A2 v)=k:=⟨A.take k,A.drop k,by simp,by simp;lia⟩
 have t1:∀z∈v,X.le z y:=λz l=>by simpa using t1 z (by simpa using l)
 have t2:∀z∈E,X.le y z:=λz l=>X.as _ _ (by simpa using t2 z<|by simpa using l);rw[nA]at Z hb;dsimp only;rcases Ll E with e|⟨A3,x,e⟩
 .subst e;rw[jb<|by simp[Z]];exact iY<|done (by simpa using t1)
 rw[Lk]at e;have l1:0<(A2 E):=by simp[e]
 rw[jr<|by simp;lia];refine mD (x:=x) (by rw[e,show T++(v++(A3++[x])++(B++R))=T++((v++A3)++x::(B++R)) by simp];exact Ka (by have:=nM dM e;simp at this ⊢;lia))<|kL<|xK (T:=T++(v++E)) (R:=R) S.k (λz h=>hN z<|.inr h) (hN x<|.inl<|by simp[e]) V (by rw[<-qh]) (by simp;lia) ei.symm (by have:=Sk.mpr b1;lia) λk2 bJ t3 t4=>?_;rw[ei]at bJ;obtain⟨I',G,rfl,rfl⟩:∃I' G,B=I'++G/\(A2 I')=k2:=⟨B.take k2,B.drop k2,by simp,by simp;lia⟩
 have v3:∀z∈I',X.le z x:=λz l=>X.as _ _ (by simpa using t3 z<|by simpa using l);have v4:∀z∈G,X.le x z:=λz l=>by simpa using t4 z (by simpa using l)
 have lx:∀a∈v++E,X.le a x:=by rw[e,<-qh]at P ⊢;exact ES X.tr P<|X.rf x
 cases I' with
 |nil=>exact iY<|done λa O=>X.tr (lx a O)<|v4 y (by simp[show G=y::B' from eB])
 |cons b I'=>
  obtain rfl:b=y:=(uT eB).1;refine jF (λc=>by simp at c) λ_=>?_;rw[Ti (A:=E) (T:=T++v) (R:=b::I'++G++R) (by simp) (by simp;lia)<|by simp;lia,Ti (A:=b::I') (T:=T++(v++E)) (R:=G++R) (by simp) (by simp;lia)<|by simp;lia]
  have W:∀out s,Rp X (H++(Y,D+F,K)::U).toArray (T++(v++E++(b::I'++G++R))) s->Rs X (E++b::I') out->Q (ro s).isNone (setArr s<|out.toList.zipIdx.foldl (λa x=>a.setIfInBounds (Y+A2 v+x.2) x.1)<|Ls s):=λout s J ho=>by
   obtain⟨M,rfl,u,hp⟩:=ho;rw[J.f,J.a];refine fin _ (v++(M++G)) ⟨?_,J.k,J.f,J.q,TW ?_ J.p⟩ ?_ ?_
   .have:=Om (M.map X.it) ((E++b::I').map X.it) ((T++v).map X.it) ((G++R).map X.it) 0 (Y+A2 v) (by simp;lia) (by simpa using hp.length_eq.symm);simpa[ar]using this
   .simpa using(((hp.append_right<|G++R).append_left v).append_left T)
   .simpa using((hp.append_right G).append_left v)
   rw[uL]at P V;refine upA P.1 (upA u V.2.1 λa O c m=>?_) λa O c m=>?_
   .rcases pQ.mp (hp.mem_iff.mp O)with O|O
    .exact X.tr (lx a<|by simp[O]) (v4 c m)
    exact V.2.2 a O c m
   have m:c∈E\/c∈b::I'++G:=by
    rcases pQ.mp m with m|m
    .rcases pQ.mp (hp.mem_iff.mp m)with m|m
     .exact .inl m
     exact .inr (C7 _ m)
    exact .inr (qk _ m)
   rcases m with m|m
   .exact P.2.2 a O c m
   exact X.tr (t1 a O) (hy c m)
  have hd:∀z∈E,X.le (b::I')[0] z:=t2;have top:∀z∈b::I',X.le z E[A2 E-1]:=λz l=>by subst e;simpa using v3 z l
  have l2:0<(b::I').length:=by simp
  have h3:∀z∈E,z<X.N:=λz l=>hN z<|.inl (by simp[l]);have h4:∀z∈b::I',z<X.N:=λz l=>hN z<|.inr<|C7 _ l;have u1:=(uL.mp P).2.1;have u2:=(uL.mp V).1;exact jF (λc=>kL<|Xi S2 u1 u2 h3 h4 l1 l2 hd top λout s J ho=>vf<|oY<|iY<|W out s J ho) λc=>kL<|Xk S2 u1 u2 h3 h4 l1 l2 hd top λout s J ho=>vf<|oY<|iY<|W out s J ho
end
section
variable {X:Cs}{st:rW}{b:Array (Nat×Nat×Nat)}{A L:kb}
theorem Rn.mod{w:Nat}:∀{c:List (Nat×Nat×Nat)}{s:Nat}{a:List (List Nat)}(i:Nat),Rn X s a c->Rn X s a (c.modify i λx=>(x.1,x.2.1,w))
 |[],s,a,i,h=>by cases i<;>exact h
 |p::c,s,[],i,h=>h.elim
 |p::c,s,A::a,0,h=>h
 |p::c,s,A::a,i+1,h=>⟨h.1,h.2.1,h.2.2.1,h.2.2.2.1,Rn.mod i h.2.2.2.2⟩
theorem Rn.le:∀{c:List (Nat×Nat×Nat)}{s:Nat}{a:List (List Nat)},Rn X s a c->A2 c<=A2 a.flatten
 |[],s,a,h=>mV _
 |p::c,s,[],h=>h.elim
 |p::c,s,A::a,h=>by have:=Rn.le h.2.2.2.2;have:=Sk.mpr h.2.2.1;simp at*;omega
theorem Rn.push{A:kb}{w:Nat}:∀{d:List (Nat×Nat×Nat)}{s:Nat}{c:List (List Nat)},Rn X s c d->A≠[]->A.Pairwise X.le->Rn X s (c++[A]) (d++[(s+A2 c.flatten,A2 A,w)])
 |[],s,[],h,a,u=>⟨rfl,rfl,a,u,trivial⟩
 |[],s,A::c,h,a,u=>h.elim
 |p::d,s,[],h,a,u=>h.elim
 |p::d,s,B::c,h,a,u=>⟨h.1,h.2.1,h.2.2.1,h.2.2.2.1,by simpa[xp]using Rn.push (w:=w) h.2.2.2.2 a u⟩
def PL{Q:Unit->rW->Prop}(S:Rp X #[] L st)(h:∀E b L,Rp X b L E->L.Pairwise X.le->Q () E):wp X sortRuns' Q st:=by
 have I:(Ls st).size=X.N:=by rw[S.a];simpa using S.p.length_eq
 have w:∀{b L st},Rp X b L st->A2 L=X.N:=λS=>by simpa using S.p.length_eq
 rw[sortRuns'_eq];refine oY ?_;rw[I];dsimp only;refine mQ (λi c s=>∃b,∃g:List (List Nat),∃R,c=(U,A2 g.flatten)/\Rp X b (g.flatten++R) s/\Rn X 0 g b.toList/\i<=A2 g.flatten) (λc s=>c.1=U/\∃b g,Rp X b g.flatten s/\Rn X 0 g b.toList) ⟨#[],[],L,rfl,S,trivial,mV _⟩ ?_ ?_ ?_
 .rintro i c s t ⟨b,g,R,rfl,S,d,o⟩;have r:=w S;dsimp only;refine jF (λe=>?_) λe=>?_
  .obtain rfl:R=[]:=zd (by simp at r e;omega);exact iY ⟨rfl,b,g,by simpa using S,d⟩
  obtain⟨x,R,rfl⟩:=sj (l:=R) (by simp at r e;omega);refine kL<|aem S AM (by simp at r ⊢;omega) λA R s S a1 u M=>?_;apply L5 λn s=>∃A R,n=A2 A/\Rp X b (g.flatten++(A++R)) s/\A≠[]/\A.Pairwise X.le
  .intro F;have T:=Sk.mpr a1;refine jF (λe=>?_) λe=>?_
   .refine tN (kL<|TU S AM AM T (by simp at r;omega) (by omega) u λA R s S o u=>jF (λc=>by simp at c) λ_=>?_);generalize J:min (X.N-A2 g.flatten) (minRun' X.N X.N 0)=n at o ⊢;exact F n s ⟨A,R,o.symm,S,by intro z;subst z;simp at o e;omega,u⟩
   exact F (A2 A) s ⟨A,R,rfl,S,a1,u⟩
  rintro _ s ⟨A,R,rfl,S,a1,u⟩;refine oY ?_;apply Sn λs=>∃b m,Rp X b (m.flatten++(A++R)) s/\Rn X 0 m b.toList/\(A2 m.flatten)=A2 g.flatten
  .intro F;rw[S.q]
   cases b.back? with
   |none=>exact F s ⟨b,g,S,d,rfl⟩
   |some z=>
    refine mQ (λ_ c s=>c=(U,())/\∃b m,Rp X b (m.flatten++(A++R)) s/\Rn X 0 m b.toList/\(A2 m.flatten)=A2 g.flatten) (λc s=>c=(U,())/\∃b m,Rp X b (m.flatten++(A++R)) s/\Rn X 0 m b.toList/\(A2 m.flatten)=A2 g.flatten) ⟨rfl,b,g,S,d,rfl⟩ ?_ (λ_ _ h=>h) ?_
    .rintro j c s _ ⟨rfl,b,m,S,d,o⟩;refine oY ?_;rw[S.q]
     cases H:(if b.size>1 then b[b.size-2]? else U)with
     |none=>exact iY ⟨rfl,b,m,S,d,o⟩
     |some z=>
      refine jF (λ_=>iY ⟨rfl,b,m,S,d,o⟩) λ_=>kL<|Sm S d ?_ λs v y S d _ O=>jF (λc=>by simp at c) λ_=>iY ⟨rfl,v,y,S,d,O.trans o⟩;split at H
      .omega
      cases H
    rintro c s ⟨rfl,b,m,S,d,o⟩;exact vf<|F _ ⟨_,m,⟨S.a,S.k,S.f,rfl,S.p⟩,by rw[S.q,Array.toList_modify];exact d.mod _,o⟩
  rintro s ⟨b,m,S,d,o⟩;refine vf<|iY ⟨_,m++[A],R,?_,⟨by simpa using S.a,S.k,S.f,rfl,by simpa using S.p⟩,?_,?_⟩
  .rw[List.flatten_append,nA,o];simp
  .rw[S.q,mj,<-o,<-fW (A2 m.flatten)];exact d.push a1 u
  have:=Sk.mpr a1;simp at*;omega
 .rintro c s ⟨b,g,R,rfl,S,d,o⟩;have r:=w S;obtain rfl:R=[]:=zd (by simp at r o;omega);exact⟨rfl,b,g,by simpa using S,d⟩
 rintro⟨_,c⟩ s ⟨rfl,b,g,S,d⟩;have r:=w S;have G:=d.le;refine mQ (λi c s=>c=(U,())/\∃b g,Rp X b g.flatten s/\Rn X 0 g b.toList/\(b.size<=1\/b.size+i<=X.N)) (λc s=>c=(U,())/\∃b g,Rp X b g.flatten s/\Rn X 0 g b.toList/\b.size<=1) ⟨rfl,b,g,S,d,.inr<|by rw[lT]at G;omega⟩ ?_ ?_ ?_
 .rintro i c s _ ⟨rfl,b,g,S,d,t⟩;refine oY ?_;rw[S.q];refine jF (λe=>iY ⟨rfl,b,g,S,d,e⟩) λe=>kL<|Sm (R:=[]) (by simpa using S) d ((λc:Bool=>show(if c=Ap then b.size-2-1 else b.size-2)+1<b.size by split<;>omega) _) λs v y S d I _=>jF (λc=>by simp at c) λ_=>iY ⟨rfl,v,y,by simpa using S,d,.inr<|by omega⟩
 .rintro c s ⟨rfl,b,g,S,d,t⟩;exact⟨rfl,b,g,S,d,by omega⟩
 rintro c s ⟨rfl,b,g,S,d,t⟩;refine iY<|h s b _ S ?_;obtain⟨C'⟩:=b
 match C',g,d,t with
 |[],[],_,_=>exact .nil
 |[p],[A],d,_=>simpa using d.2.2.2.1
 |p::[],A::B::g,d,_=>exact d.2.2.2.2.elim
 |[],A::g,d,_=>exact d.elim
 |p::C',[],d,_=>exact d.elim
 |p::U'::C',g,d,t=>simp at t
end
end TS
namespace PX
open L2 PySem.SeqAt
open PySem.AutoSeq1 (wpAny_loadPart')
open PySem.MeetsSeq PySem.MeetsSeq2 PySem.MeetsSeq3
noncomputable def lK(op:cF)(i j:Int):Bool:=match op with
 |.Lt=>decide (i<j)|.LtE=>decide (i<=j)|.Gt=>decide (i>j)|_=>decide<|i>=j
def BW(a:cF):Prop:=a=.Lt\/a=.LtE\/a=.Gt\/a=.GtE
def Si(op:cF)(A:jh)(s:iN)(y x:iQ)(b:Bool):Prop:= ∀(a:jm)(w:je)(E:jy)(Q:jy),Q (.bool b) s->ae (af a w) A (richCompare op y x) Q E s
def Pj(op:cF)(A:jh)(s:iN)(fin:Bool):List (iQ×iQ)->Bool->Prop
 |[],r=>r=fin
 |(y,x)::rest,r=>∃e,EqAt A s y x e/\(if e=J then Pj op A s fin rest r else Si op A s y x r)
def Eh{op:cF}{f:aY}(B:op=.Lt/\f=aY.«tuple.__lt__»\/op=.LtE/\f=aY.«tuple.__le__»)(l b:iJ)(items j:nJ)(n T:Nat)(dd t:Option iJ)(E Q:ya)(r:Bool):
  wl (f ⟨[.ref l,.ref b],[]⟩) (λA R s=>s.heap.get? l=Y {cls:=.type "tuple",dict:=dd,data:=.seq items n,slots:=E}/\s.heap.get? b=Y {cls:=.type "tuple",dict:=t,data:=.seq j T,slots:=Q}/\
   Pj op A.in1 s (lK op items.size j.size) (items.toList.zip j.toList) r/\R (.ok<|.ret<|.bool r) s):=by
 rcases B with⟨h1,rfl⟩|⟨h1,rfl⟩
 all_goals
  refine .of_wp λc w A R s h=>?_;obtain⟨p,g,d,q,os⟩:=s;obtain⟨z,u,a,h⟩:=h;have O:=AutoSeq1.sub_tuple_tuple
  wp_walk using z9 z,z9 u,xo _ (λi b m=>b.1=U/\m=⟨p,g,d,q,os⟩/\Pj op A.in1 ⟨p,g,d,q,os⟩ (lK op items.size j.size) i r) _
  case turn=>
   rintro⟨y,x⟩ i b m ⟨o,rfl,e,v,a⟩;refine iL<|v c w _ _ ?_
   cases e with
   |true=>
    simp only[kQ]at a
    wp_walk
    exact⟨rfl,rfl,a⟩
   |false=>
    simp only[ku,kR]at a;subst h1;have k:=a c w
    wp_walk using k
    exact⟨_,rfl,by simpa using h⟩
  case fin=>
   rintro⟨N,L⟩ m ⟨o,rfl,a⟩;subst h1;simp only at o;subst o;have a:r=_:=a;rw[a]at h
   wp_walk
   exact⟨_,rfl,by simpa[xz,lK]using h⟩
  case h=>exact⟨rfl,rfl,a⟩
section
variable {A:jh}{s:iN}{l b:iJ}{items a:nJ}{r:Bool}
def aeu(z:op=.Lt\/op=.LtE)(y:s.heap.IsTuple l items)(v:s.heap.IsTuple b a)(j:A.units<aP)(k:Pj op A.in1 s (lK op items.size a.size) (items.toList.zip a.toList) r):Si op A s (.ref l) (.ref b) r:=λo w E Q h=>by
 obtain⟨⟨u,dd,g,p⟩,e,i,n,hd⟩:=id y;obtain⟨⟨B,f,data2,t⟩,d,q,m,c⟩:=id v;simp only at i hd q c;subst i hd q c;rcases z with rfl|rfl
 .exact Lj (op:=.Lt) ⟨_,e,rfl⟩ ⟨_,d,rfl⟩ PySem.F.slot_tuple_lt PySem.F.entry_tuple_lt (PySem.F.args_tuple_lt_2 _ _) (Eh (.inl ⟨rfl,rfl⟩) l b items a n m dd f p t r) ⟨e,d,k,show dE r≠hV/\Q (.bool r) s from⟨(λx=>nomatch x),h⟩⟩ j
 exact Lj (op:=.LtE) ⟨_,e,rfl⟩ ⟨_,d,rfl⟩ PySem.F.slot_tuple_le PySem.F.entry_tuple_le (PySem.F.args_tuple_le_2 _ _) (Eh (.inr ⟨rfl,rfl⟩) l b items a n m dd f p t r) ⟨e,d,k,show dE r≠hV/\Q (.bool r) s from⟨(λx=>nomatch x),h⟩⟩ j
end
mutual
noncomputable def nK(a:cF):D->D->Option Bool
 |.int i,e=>match e with|.int j=>Y (lK a i j)|_=>U
 |.tup l,e=>match e with|.tup m=>if a=.Lt\/a=.LtE then nr a l m else U|_=>U
 |_,_=>U
noncomputable def nr(a:cF):List D->List D->Option Bool
 |[],m=>Y<|lK a 0<|A2 m
 |x::l,e=>match e with|[]=>Y (lK a ((x::l).length) 0)|y::m=>if D.Ba x y=J then nr a l m else nK a x y
end
def rm(c:cF)(a b k:Int):lK c (a+k) (b+k)=lK c a b:=by
 cases c<;>simp[lK]
section
variable {X:Cx}{c:jG}{f:L2.St}{H:Hp}{s:iN}
def Ew(b:BW op):Si op A s (.int i t) (.int j u) (lK op i j):=λa w E Q h=>by
 rcases b with rfl|rfl|rfl|rfl
 .exact(Ch h:ae (af a w) A (aw .Lt _ _) Q E s)
 .exact(abK h:ae (af a w) A (aw .LtE _ _) Q E s)
 .exact(abJ h:ae (af a w) A (aw .Gt _ _) Q E s)
 exact(Db h:ae (af a w) A (aw .GtE _ _) Q E s)
def MC(ho:BW op)(I:Inv X c f H s):∀(n:Nat)(d e:D)(v u:V)(a b:iQ)(O B:B2)(A:jh)(r:Bool),kg X.K H O d v->kg X.K H B e u->RelV v a->RelV u b->d.dep<=n->e.dep<20000->A.units+n<aP->nK op d e=Y r->Si op A s a b r:=by
 intro n
 induction n with
 |zero=>
  intro d e v u a b O B A r hd G J M N W hA g
  cases d with
  |int i=>
   cases e with
   |int j=>have:=jB hd;subst this;have:=jB G;subst this;obtain⟨t,rfl⟩:=J;obtain⟨t',rfl⟩:=M;simp only[nK]at g;rw[<-kT g];exact Ew ho
   |_=>cases g
  |tup l=>rw[D.dep]at N;lia
  |_=>cases g
 |succ n ih=>
  intro d e v u a b O B A r hd G J M N W hA g
  cases d with
  |int i=>
   cases e with
   |int j=>have:=jB hd;subst this;have:=jB G;subst this;obtain⟨t,rfl⟩:=J;obtain⟨t',rfl⟩:=M;simp only[nK]at g;rw[<-kT g];exact Ew ho
   |_=>cases g
  |tup l=>
   cases e with
   |tup m=>
    simp only[nK]at g;split at g
    case isFalse=>cases g
    rename_i U;rw[D.dep]at N W;obtain⟨p,E,rfl,q,z⟩:=lr hd;obtain⟨p2,L,rfl,q2,h⟩:=lr G;cases J;cases M;obtain⟨o,T,pl,_⟩:=I.tuple q;obtain⟨w,C,h9,_⟩:=I.tuple q2;have Q:A.in1.units=A.units+1:=rfl
    have key:∀(l m:List D)(E L:List V)(o w:jN)(k:Int),D.Bp l+1<=n+1->D.Bp m<20000->AG X.K H O l E->AG X.K H B m L->Vals E o->Vals L w->nr op l m=Y r->Pj op A.in1 s (lK op (o.length+k)<|w.length+k) (o.zip w) r:=by
     intro l
     induction l with
     |nil=>
      intro m E L o w k F P z h T C g;rw[AG]at z;subst z;cases T;simp only[nr]at g;have e1:=h.length;have e2:=C.length;show r=_;rw[rm,<-kT g]
      congr 1
      lia
     |cons x l Y'=>
      intro m E L o w k F P z h T C g;rw[AG]at z;obtain⟨Z,xr,rfl,g1,g2⟩:=z
      cases T with
      |cons a1 a2=>
       cases m with
       |nil=>
        rw[AG]at h;subst h;cases C;simp only[nr]at g;have e1:=g2.length;have e2:=a2.length;rw[l7];show r=_;rw[rm,<-kT g]
        congr 1
        simp only[kP];lia
       |cons y m=>
        rw[AG]at h;obtain⟨vy,yr,rfl,R,g4⟩:=h
        cases C with
        |cons b1 b2=>
         simp only[nr]at g;rw[D.Bp]at F P;rw[uS];refine⟨D.Ba x y,AE I n x y Z vy _ _ O B A.in1 (.inl g1) (.inl R) a1 b1 (by lia) (by lia) (by rw[Q];lia),?_⟩
         cases S:D.Ba x y with
         |true=>
          rw[S,jb AM]at g;rw[jb AM];have:=Y' m xr yr _ _ (k+1) (by lia) (by lia) g2 g4 a2 b2 g;simp only[kP];have e:∀a:Nat,(((a+1:Nat):Int)+k)=(a:Int)+(k+1):=λa=>by lia
          rw[e,e];exact this
         |false=>rw[S,jr lG]at g;rw[jr lG];exact ih x y Z vy _ _ O B A.in1 r (.inl g1) (.inl R) a1 b1 (by lia) (by lia) (by rw[Q];lia) g
    have:=key l m E L o w 0 (by lia) (by lia) z h T C g;refine aeu U pl h9 (by lia) ?_;simpa using this
   |_=>cases g
  |_=>cases g
def pH(a:cF)(d e:D):Option (D×Bool):=if d.dep<=50/\e.dep<=50 then(nK a d e).map λb=>(.bl b,C)else U
def QH(b:BW op)(l:X.A.units+60<aP):DO X (aw op) (rD X.K<|pH op):=by
 intro c s f H x y v u Q T j k h;obtain⟨O,d,e,z,np,h1,g,a,G⟩:=h;unfold pH at a;split at a
 .rename_i hd;obtain⟨r,i,rfl⟩:=jz a;have:=MC b T 50 d e x y v u O O X.A r h1 g j k hd.1 (by lia) (by lia) i X.prog X.w X.xe (EP X c f Q) ⟨.bl r,H,T,rfl,G.bl⟩;rcases b with rfl|rfl|rfl|rfl<;>exact this
 cases a
end
open TS
section
variable {b:jm}{w:je}{A:jh}{E:jy}{s:iN}
noncomputable def qp(h:jg)(a:iJ)(c:jN):Heap:=((h.update a<|bb λ_=> #[]).push<|b5 "tuple" c.toArray 0).push<|b5 "list" #[] 0
noncomputable def N5(a:jN)(i:Nat):Keyed:=(a.getD i ao,a.getD i ao)
def uH{a:iJ}{c:jN}{n:Nat}{P:PySem.Fin->Shared->Prop}{κ:r6}{lt:Nat->Nat->Bool}(r:s.heap.get? a=Y (b5 "list" c.toArray n))(z:(A2 c)<=sizeLine)(as:∀i j,lt i j=Ap->lt j i=AX)(J:∀{i j k},lt j i=AX->lt k j=AX->lt k i=AX)
  (hk:2<=A2 c->ae (af b w) A (keyKind' c.toArray) (λg d=>d={s with heap:=qp s.heap a c}/\g=κ) (λ_ _=>False) {s with heap:=qp s.heap a c})
  (ask:2<=A2 c->Ask (af b w) A (λd=>d={s with heap:=qp s.heap a c}) (N5 c) κ (A2 c) lt)
  (h:∀p:List Nat,p.Perm (am<|A2 c)->p.Pairwise (λi j=>lt j i=AX)->P (.done<|.ret .none) {s with heap:=(qp s.heap a c).update a (bb λ_=>(p.map λi=>c.getD i ao).toArray)}):
  ae (af b w) A (aY.«list.sort» ⟨[.ref a],[]⟩) P E s:=by
 rw[list_sort_plain];have M:a<s.heap.objs.size:=km r;refine iL<|listItems_at r AM<|iL<|FU r AM ?_ (by rw[kz];exact z)<|mV _;obtain⟨u,H⟩:∃u,(s.heap.update a<|bb λ_=>(#[]:Array iQ)).get? a=Y (b5 "list" #[] u):=⟨_,FR r λ_=> #[]⟩
 refine iL<|FQ H AM<|iL<|F1 ?_ (by show (A2 c)<=_;exact z);refine iL<|Ms ?_<|mV _;refine mv ?_;have q:(qp s.heap a c).get? a=Y (b5 "list" #[] u):=ke _ (ke _ H);show ae (af b w) A _ P E {s with heap:=qp s.heap a c};dsimp only;by_cases l:c.toArray.size<2
 .rw[jb l,jb l];refine iL<|ja ?_;rw[StateT.run_pure];refine iL<|ja ?_;dsimp only;refine iL<|FQ q AM<|iL<|FU q AM ?_ (mV _) ?_
  .simp only[sH,ku,kR];refine ja ?_;have t:(A2 c)<2:=by simpa using l
   have:=h (am<|A2 c) (uR _) (by rw[Pk];intro i j m T N;simp at m T;lia)
   have e:((c.toArray.zip c.toArray).map (·.2))=((am<|A2 c).map λi=>c.getD i ao).toArray:=by
    apply FM
    .simp
    intro i h1 O;have m:i<(A2 c):=by simpa using h1
    simp[m]
   rw[e];exact this
  rw[Array.size_map,Array.size_zip];simp;lia
 rw[jr l,jr l];have t:2<=(A2 c):=by simpa using l
 refine iL<|oj (hk t) (λg d y=>?_) λ_ _ x=>x.elim;obtain⟨rfl,rfl⟩:=y;refine iL (oj (PL (X:=⟨_,A,E,λd=>d={s with heap:=qp s.heap a c},N5 c,lt,g,A2 c,as,J,ask t⟩) (L:=am<|A2 c) ⟨?_,rfl,rfl,rfl,.refl _⟩ (Q:=λ_ o=>∃p,(Ls o).map (·.2)=(p.map λi=>c.getD i ao).toArray/\ro o=U/\p.Perm (am<|A2 c)/\p.Pairwise λi j=>lt j i=AX) (λo _ p R v=>⟨p,?_,R.f,R.p,v⟩) _ rfl) ?_ λ_ _ e=>e)
 .show c.toArray.zip c.toArray=_;apply FM
  .simp
  intro i h1 O;have m:i<(A2 c):=by simpa using h1
  simp[N5,m]
 .rw[R.a];simp[N5]
 rintro⟨⟨⟩,o⟩ d ⟨rfl,B,out,I,C,v⟩;dsimp only;have G:(A2 B)=(A2 c):=by simpa using C.length_eq
 refine iL<|FQ q AM<|iL<|FU q AM ?_ (mV _) ?_
 .rw[I];simp only[sH,ku,kR];rw[out];exact ja<|h B C v
 rw[out,kz,kd,G];lia
end
mutual
noncomputable def cT:D->D->Ordering
 |.int i,e=>match e with|.int j=>if i<j then .lt else if i=j then .eq else .gt|_=>.lt
 |.tup l,e=>match e with|.int _=>.gt|.tup m=>cL l m|_=>.lt
 |_,e=>match e with|.int _=>.gt|.tup _=>.gt|_=>.eq
noncomputable def cL:List D->List D->Ordering
 |[],m=>match m with|[]=>.eq|_::_=>.lt
 |x::l,m=>match m with|[]=>.gt|y::m=>match cT x y with
  |.lt=>.lt
  |.gt=>.gt
  |.eq=>cL l m
end
mutual
theorem Jc:∀x:D,cT x x=.eq
 |.int i=>by simp[cT]
 |.tup l=>by simp only[cT];exact Je l
 |.Ar=>by simp[cT]
 |.bl _=>by simp[cT]
 |.str _=>by simp[cT]
 |.lst _=>by simp[cT]
 |.B4 _ _ _=>by simp[cT]
theorem Je:∀l:List D,cL l l=.eq
 |[]=>by simp[cL]
 |x::l=>by simp only[cL,Jc x];exact Je l
end
mutual
theorem yU:∀x y:D,cT y x=(cT x y).swap
 |.int i,.int j=>by
  simp only[cT,cT];by_cases h1:i<j
  .rw[jb h1,jr<|by lia,jr<|by lia];rfl
  rw[jr h1];by_cases a:i=j
  .rw[jb a,jr<|by lia,jb a.symm];rfl
  rw[jr a,jb<|by lia];rfl
 |.tup l,.tup m=>by simp only[cT,cT];exact Jd l m
 |.int _,.tup _=>by simp[cT]
 |.int _,.Ar=>by simp[cT]
 |.int _,.bl _=>by simp[cT]
 |.int _,.str _=>by simp[cT]
 |.int _,.lst _=>by simp[cT]
 |.int _,.B4 _ _ _=>by simp[cT]
 |.tup _,.int _=>by simp[cT]
 |.tup _,.Ar=>by simp[cT]
 |.tup _,.bl _=>by simp[cT]
 |.tup _,.str _=>by simp[cT]
 |.tup _,.lst _=>by simp[cT]
 |.tup _,.B4 _ _ _=>by simp[cT]
 |.Ar,y=>by cases y<;>simp[cT]
 |.bl _,y=>by cases y<;>simp[cT]
 |.str _,y=>by cases y<;>simp[cT]
 |.lst _,y=>by cases y<;>simp[cT]
 |.B4 _ _ _,y=>by cases y<;>simp[cT]
theorem Jd:∀l m:List D,cL m l=(cL l m).swap
 |[],[]=>by simp[cL]
 |[],_::_=>by simp[cL]
 |_::_,[]=>by simp[cL]
 |x::l,y::m=>by
  simp only[cL,cL,yU x y];cases h:cT x y<;>simp[gj]
  exact Jd l m
end
def NM(h1:cT x y≠ .gt)(a:cT y x≠ .gt):cT x y=.eq:=by
 rw[yU x y]at a
 cases h:cT x y with
 |lt=>rw[h]at a;exact absurd I a
 |eq=>rfl
 |gt=>exact absurd h h1
mutual
theorem wV:∀x y z:D,cT x y≠ .gt->cT y z≠ .gt->cT x z≠ .gt
 |.int i,y,z,h1,d=>by
  cases z with
  |int k=>
   cases y with
   |int j=>
    simp only[cT]at h1 d ⊢
    have a:i<=j:=by
     by_cases a:i<j
     .lia
     rw[jr a]at h1;by_cases b:i=j
     .lia
     rw[jr b]at h1;exact absurd I h1
    have b:j<=k:=by
     by_cases a:j<k
     .lia
     rw[jr a]at d;by_cases b:j=k
     .lia
     rw[jr b]at d;exact absurd I d
    by_cases c:i<k
    .rw[jb c];simp
    rw[jr c,jb<|by lia];simp
   |_=>simp[cT]at d
  |_=>simp[cT]
 |.tup l,y,z,h1,d=>by
  cases y with
  |int j=>simp[cT]at h1
  |tup m=>
   cases z with
   |int k=>simp[cT]at d
   |tup n=>simp only[cT]at h1 d ⊢;exact Fm l m n h1 d
   |_=>simp[cT]
  |_=>cases z<;>simp_all [cT]
 |.Ar,y,z,h1,d=>by cases y<;>cases z<;>simp_all [cT]
 |.bl _,y,z,h1,d=>by cases y<;>cases z<;>simp_all [cT]
 |.str _,y,z,h1,d=>by cases y<;>cases z<;>simp_all [cT]
 |.lst _,y,z,h1,d=>by cases y<;>cases z<;>simp_all [cT]
 |.B4 _ _ _,y,z,h1,d=>by cases y<;>cases z<;>simp_all [cT]
 termination_by x y z=>sizeOf x+sizeOf y+sizeOf z
theorem Fm:∀l m n:List D,cL l m≠ .gt->cL m n≠ .gt->cL l n≠ .gt
 |[],m,n,_,_=>by cases n<;>simp[cL]
 |x::l,[],n,h1,_=>by simp[cL]at h1
 |x::l,y::m,[],_,a=>by simp[cL]at a
 |x::l,y::m,z::n,h1,a=>by
  have a1:cT x y≠ .gt:=λh=>by simp only[cL,h]at h1;exact h1 I
  have c:cT y z≠ .gt:=λh=>by simp only[cL,h]at a;exact a I
  have g:=wV x y z a1 c;simp only[cL]
  cases b:cT x z with
  |lt=>simp
  |gt=>exact absurd b g
  |eq=>
   have f:cT z x≠ .gt:=by rw[yU x z,b];simp[gj]
   have d:cT x y=.eq:=NM a1<|wV y z x c f;have e:cT y z=.eq:=NM c<|wV z x y f a1;simp only[cL,d]at h1;simp only[cL,e]at a;exact Fm l m n h1 a
 termination_by l m n=>sizeOf l+sizeOf m+sizeOf n
end
def DY(x y:D):Bool:=cT x y== .lt
def Yc:DY x y=J↔cT x y=.lt:=by simp[DY]
def BO:DY x y=C↔cT x y≠ .lt:=by simp[DY]
def S0:DY y x=C↔cT x y≠ .gt:=by rw[BO,yU x y];cases cT x y<;>simp[gj]
def YQ(x y:D)(h:DY x y=J):DY y x=C:=by rw[S0,Yc.mp h];simp
def Xn(h1:DY y x=C)(a:DY z y=C):DY z x=C:=S0.mpr<|wV _ _ _ (S0.mp h1) (S0.mp a)
mutual
noncomputable def D.pr:D->Bool
 |.int _=>J
 |.tup l=>D.Hs l
 |_=>C
noncomputable def D.Hs:List D->Bool
 |[]=>J
 |x::l=>D.pr x&&D.Hs l
end
mutual
theorem He:∀x y:D,D.pr x=J->D.pr y=J->D.Ba x y=(cT x y== .eq)
 |.int i,.int j,_,_=>by
  simp only[D.Ba,cT];by_cases h:i=j
  .subst h;simp
  rw[jr h];by_cases a:i<j<;>simp[h,a]
 |.int _,.tup _,_,_=>by simp[D.Ba,cT]
 |.tup _,.int _,_,_=>by simp[D.Ba,cT]
 |.tup l,.tup m,h1,a=>by simp only[D.Ba,cT];rw[D.pr]at h1 a;exact IT l m h1 a
 |.Ar,_,h,_=>by simp[D.pr]at h
 |.bl _,_,h,_=>by simp[D.pr]at h
 |.str _,_,h,_=>by simp[D.pr]at h
 |.lst _,_,h,_=>by simp[D.pr]at h
 |.B4 _ _ _,_,h,_=>by simp[D.pr]at h
 |_,.Ar,_,h=>by simp[D.pr]at h
 |_,.bl _,_,h=>by simp[D.pr]at h
 |_,.str _,_,h=>by simp[D.pr]at h
 |_,.lst _,_,h=>by simp[D.pr]at h
 |_,.B4 _ _ _,_,h=>by simp[D.pr]at h
theorem IT:∀l m:List D,D.Hs l=J->D.Hs m=J->D.D1 l m=(cL l m== .eq)
 |[],[],_,_=>by simp[D.D1,cL]
 |[],_::_,_,_=>by simp[D.D1,cL]
 |_::_,[],_,_=>by simp[D.D1,cL]
 |x::l,y::m,h1,a=>by rw[D.Hs,lg]at h1 a;simp only[D.D1,cL];rw[He x y h1.1 a.1,IT l m h1.2 a.2];cases cT x y<;>simp
end
mutual
theorem AN:∀x y:D,D.pr x=J->D.pr y=J->cT x y=.eq->x=y
 |.int i,.int j,_,_,h=>by
  simp only[cT]at h;by_cases h1:i<j
  .rw[jb h1]at h;cases h
  rw[jr h1]at h;by_cases c:i=j
  .rw[c]
  rw[jr c]at h;cases h
 |.tup l,.tup m,a,b,h=>by simp only[cT]at h;rw[D.pr]at a b;rw[Fn l m a b h]
 |.int _,.tup _,_,_,h=>by simp[cT]at h
 |.tup _,.int _,_,_,h=>by simp[cT]at h
 |.Ar,_,a,_,_=>by simp[D.pr]at a
 |.bl _,_,a,_,_=>by simp[D.pr]at a
 |.str _,_,a,_,_=>by simp[D.pr]at a
 |.lst _,_,a,_,_=>by simp[D.pr]at a
 |.B4 _ _ _,_,a,_,_=>by simp[D.pr]at a
 |_,.Ar,_,a,_=>by simp[D.pr]at a
 |_,.bl _,_,a,_=>by simp[D.pr]at a
 |_,.str _,_,a,_=>by simp[D.pr]at a
 |_,.lst _,_,a,_=>by simp[D.pr]at a
 |_,.B4 _ _ _,_,a,_=>by simp[D.pr]at a
theorem Fn:∀l m:List D,D.Hs l=J->D.Hs m=J->cL l m=.eq->l=m
 |[],[],_,_,_=>rfl
 |[],_::_,_,_,h=>by simp[cL]at h
 |_::_,[],_,_,h=>by simp[cL]at h
 |x::l,y::m,a,b,h=>by
  rw[D.Hs,lg]at a b;simp only[cL]at h
  cases e:cT x y with
  |eq=>rw[e]at h;rw[AN x y a.1 b.1 e,Fn l m a.2 b.2 h]
  |lt=>rw[e]at h;cases h
  |gt=>rw[e]at h;cases h
end
mutual
theorem yS:∀x y:D,D.pr x=J->D.pr y=J->∀b,nK .Lt x y=Y b->b=DY x y
 |.int i,.int j,_,_,b,h=>by
  simp only[nK]at h;rw[<-kT h,DY];simp only[cT,lK];by_cases h1:i<j
  .simp[h1]
  rw[jr h1];by_cases a:i=j<;>simp[h1,a]
 |.int _,.tup _,_,_,b,h=>by simp[nK]at h
 |.tup _,.int _,_,_,b,h=>by simp[nK]at h
 |.tup l,.tup m,h1,a,b,h=>by simp only[nK]at h;rw[jb<|.inl trivial]at h;rw[D.pr]at h1 a;rw[DY];simp only[cT];exact IZ l m h1 a b h
 |.Ar,_,h,_,_,_=>by simp[D.pr]at h
 |.bl _,_,h,_,_,_=>by simp[D.pr]at h
 |.str _,_,h,_,_,_=>by simp[D.pr]at h
 |.lst _,_,h,_,_,_=>by simp[D.pr]at h
 |_,.Ar,_,h,_,_=>by simp[D.pr]at h
 |_,.bl _,_,h,_,_=>by simp[D.pr]at h
 |_,.str _,_,h,_,_=>by simp[D.pr]at h
 |_,.lst _,_,h,_,_=>by simp[D.pr]at h
theorem IZ:∀l m:List D,D.Hs l=J->D.Hs m=J->∀b,nr .Lt l m=Y b->b=(cL l m== .lt)
 |[],[],_,_,b,h=>by simp only[nr]at h;rw[<-kT h];simp[lK,cL]
 |[],_::_,_,_,b,h=>by simp only[nr]at h;rw[<-kT h];simp[lK,cL]<;>lia
 |_::_,[],_,_,b,h=>by simp only[nr]at h;rw[<-kT h];simp[lK,cL]<;>lia
 |x::l,y::m,h1,a,b,h=>by
  rw[D.Hs,lg]at h1 a;simp only[nr]at h;rw[He x y h1.1 a.1]at h;simp only[cL]
  cases c:cT x y with
  |eq=>rw[c]at h;simp at h;exact IZ l m h1.2 a.2 b h
  |lt=>rw[c]at h;simp at h;have:=yS x y h1.1 a.1 b h;rw[this,DY,c]
  |gt=>rw[c]at h;simp at h;have:=yS x y h1.1 a.1 b h;rw[this,DY,c]
end
section
variable {a:Type}(lt:a->a->Bool)
noncomputable def DJ(x:a):List a->List a
 |[]=>[x]
 |y::l=>if lt y x=J then y::DJ x l else x::y::l
def pR:List a->List a
 |[]=>[]
 |x::l=>DJ lt x<|pR l
theorem uf(x:a):∀l:List a,(DJ lt x l).Perm (x::l)
 |[]=>uR _
 |y::l=>by
  rw[DJ];split
  .exact((uf x l).cons y).trans (i5 x y l)
  exact uR _
theorem mE:∀l:List a,(pR lt l).Perm l
 |[]=>uR _
 |x::l=>(uf lt x _).trans<|(mE l).cons x
end
def aeW{x:D}:∀{l:List D},(l.Pairwise λx y=>DY y x=C)->(DJ DY x l).Pairwise λx y=>DY y x=C:=by
 intro d
 induction d with
 |nil=>intro _;exact Lm _ _
 |cons y l c=>
  intro h;have h:=D7.mp h;rw[DJ]
  cases b:DY y x
  .refine D7.mpr ⟨λz a=>?_,D7.mpr h⟩;rcases kM.mp a with rfl|a
   .exact b
   exact Xn b (h.1 z a)
  refine D7.mpr ⟨λz a=>?_,c h.2⟩;rcases kM.mp ((uf DY x l).mem_iff.mp a)with rfl|a
  .exact YQ _ _ b
  exact h.1 z a
theorem qo:∀l:List D,(pR DY l).Pairwise λx y=>DY y x=C
 |[]=>c3
 |x::l=>aeW<|qo l
def Mk{l m:List D}(h:∀x∈m,D.pr x=J)(a:l.Perm m)(c:l.Pairwise λx y=>DY y x=C):l=pR DY m:=
 Uf (λx y d e h1 b=>AN x y (h x<|a.mem_iff.mp d) (h y<|(mE DY m).mem_iff.mp e)<|NM (S0.mp h1)<|S0.mp b) c (qo m) (a.trans (mE DY m).symm)
def adN{a:List D}{p:kb}(pr:∀x∈a,D.pr x=J)(d:p.Perm (am<|A2 a))(f:p.Pairwise λi j=>DY (a.getD j .Ar) (a.getD i .Ar)=C):p.map (λi=>a.getD i .Ar)=pR DY a:=by
 have e:(am<|A2 a).map (λi=>a.getD i .Ar)=a:=by apply zi;intro i;by_cases c:i<A2 a<;>simp[c]
 have b:=d.map λi=>a.getD i .Ar;rw[e]at b;exact Mk pr b<|vJ.mpr f
noncomputable def lV:D->Option Nat
 |.int _=>Y 0
 |.tup (.int _::_)=>Y 1
 |.tup (.tup _::_)=>Y 2
 |_=>U
noncomputable def IE:Nat->r6
 |0=>oneType'
 |1=>TD J
 |_=>TD C
structure GO(k:Nat)(l:List D):Prop where
 hd:∀x∈l,lV x=A9 k
 pr:∀x∈l,D.pr x=Ap
 dp:∀x∈l,x.dep<=50
 cm:∀x∈l,∀y∈l,(nK .Lt x y).isSome=Ap
def oy(l:List D):Bool:=A2 l<=1||match l with
 |[]=>J
 |x::_=>(lV x).isSome&&(l.all λy=>lV y==lV x&&D.pr y&&decide (y.dep<=50))&&l.all λy=>l.all λz=>(nK .Lt y z).isSome
def BF(h:oy l=J):(A2 l)<=1\/∃k,GO k l:=by
 unfold oy at h;rw[xm]at h;rcases h with h|h
 .left;simpa using h
 right
 cases l with
 |nil=>exact⟨0,λx a=>absurd a lN,λx a=>absurd a lN,λx a=>absurd a lN,λx a=>absurd a lN⟩
 |cons x m=>simp only[lg,mJ,rZ]at h;obtain⟨⟨h1,c⟩,d⟩:=h;obtain⟨k,hk⟩:=KP.mp h1;refine⟨k,λy b=>?_,λy b=>(c y b).1.2,λy b=>(c y b).2,λy b z e=>d y b z e⟩;have:=(c y b).1.1;rw[hk]at this;simpa using this
section
variable {X:Cx}{d:jG}{f:L2.St}{H:Hp}{s:iN}
def tQ(v:Vals xs a)(b:i<a.length):RelV (xs.getD i .Ar) (a.getD i ao):=by
 have e:=v.length;have h:xs[i]?=Y xs[i]:=jT (by omega);obtain⟨w,c,j⟩:=v.get h;have h1:xs.getD i .Ar=xs[i]:=by simp[show i<xs.length by omega]
 have g:a.getD i ao=w:=by rw[jT b]at c;have:=kT c;simp[b,this]
 rw[h1,g];exact j
def tX(r:AG X.K H O ds xs)(a:i<ds.length):Rep X.K H O (ds.getD i .Ar) (xs.getD i .Ar):=by
 have e:=r.length;have hd:ds[i]?=Y ds[i]:=jT a;obtain⟨v,b,g⟩:=r.get hd;have h1:ds.getD i .Ar=ds[i]:=by simp[a]
 have c:xs.getD i .Ar=v:=by rw[jT<|by lia]at b;have:=kT b;simp[show i<xs.length by lia,this]
 rw[h1,c];exact g
def Ac{ds:List D}{i:Nat}(a:i<A2 ds):ds.getD i .Ar∈ds:=by simp[a]
theorem EV(I:Inv X d f H s){A:jh}{b:Bool}{O z:B2}(hA:A.units+60<aP){r:Bool}{Q:rX}(j:Q r s):∀(l m:List D)(u v:List V)(n o:jN)(k:Int)(i:Nat),D.Bp l<=50->D.Bp m<=50->
  ((b&&i==0)=J->∀x y l' m',l=x::l'->m=y::m'->(∃a,x=.int a)/\∃c,y=.int c)->AG X.K H O l u->AG X.K H z m v->Vals u n->Vals v o->nr .Lt l m=A9 r->
  ∀fin:Bool,fin=lK .Lt (n.length+k) (o.length+k)->PySem.W.KatLex X.prog X.w A b fin Q (n.zip o) i s
 |[],m,u,v,n,o,k,i,_,_,_,p,q,v1,v2,g,fin,hf=>by
  rw[AG]at p;subst p;cases v1;simp only[nr]at g;have U':=q.length;have Y:=v2.length;show Q fin s;rw[hf,rm];rw[<-kT g]at j;have:lK .Lt ((([]:List iQ).length:Nat):Int) (o.length:Int)=lK .Lt 0 (m.length:Int):=by congr 1;lia
  rw[this];exact j
 |x::l,[],u,v,n,o,k,i,_,_,_,p,q,v1,v2,g,fin,hf=>by
  rw[AG]at q;subst q;cases v2;simp only[nr]at g;have U':=p.length;have Y:=v1.length;rw[l7];show Q fin s;rw[hf,rm];rw[<-kT g]at j;have:lK .Lt (n.length:Int) ((([]:List iQ).length:Nat):Int)=lK .Lt (((x::l).length:Nat):Int) 0:=by congr 1;lia
  rw[this];exact j
 |x::l,y::m,u,v,n,o,k,i,J',N,hb,p,q,v1,v2,g,fin,hf=>by
  rw[AG]at p q;obtain⟨L,R,rfl,g1,g2⟩:=p;obtain⟨T,S,rfl,C,F⟩:=q
  cases v1 with
  |cons a1 G=>
   cases v2 with
   |cons B M=>
    simp only[nr]at g;rw[D.Bp]at J' N;rw[uS];refine PySem.W.kat_cons<|AE I 50 x y L T _ _ O z A (.inl g1) (.inl C) a1 B (by lia) (by lia) (by lia) X.prog X.w _ _ ?_
    cases E:D.Ba x y with
    |true=>
     rw[E,jb AM]at g;refine PySem.W.kat_yes<|EV I hA j l m R S _ _ (k+1) (i+1) (by lia) (by lia) (λh=>by simp at h) g2 F G M g fin ?_;rw[hf];simp only[kP];have e:∀a:Nat,(((a+1:Nat):Int)+k)=(a:Int)+(k+1):=λa=>by lia
     rw[e,e]
    |false=>
     rw[E,jr lG]at g;refine PySem.W.kat_no ?_
     cases P:(b&&i==0)with
     |true=>obtain⟨⟨a,rfl⟩,c,rfl⟩:=hb P x y l m AM AM;have:=g1.int;subst this;have:=C.int;subst this;obtain⟨t,rfl⟩:=a1;obtain⟨Z,rfl⟩:=B;simp only[nK]at g;rw[<-kT g]at j;exact oneLt_int j
     |false=>exact PySem.W.kat_one _ _ (MC (.inl AM) I 50 x y L T _ _ O z A r (.inl g1) (.inl C) a1 B (by lia) (by lia) (by lia) g X.prog X.w _ _ j)
def YO(I:Inv X d f H s){O:B2}{r:List D}{N:List V}{C:jN}{A:jh}(hA:A.units+60<aP)(rr:AG X.K H O r N)(v:Vals N C){k:Nat}(B:GO k r):
  Ask (af X.prog X.w) A (λT=>T=s) (N5 C) (IE k) C.length (λi j=>DY (r.getD i .Ar)<|r.getD j .Ar):=by
 intro i j hi hj T av E';subst av;have e1:=rr.length;have e2:=v.length;have J:r.getD i .Ar∈r:=Ac (by lia);have M:r.getD j .Ar∈r:=Ac (by lia);have ri:=tX rr (i:=i) (by lia);have rj:=tX rr (i:=j) (by lia);have vi:=tQ v hi;have vj:=tQ v hj;obtain⟨b,E⟩:=KP.mp<|B.cm _ J _ M;have i3:=yS _ _ (B.pr _ J) (B.pr _ M) b E;have g:=B.hd _ J;have e:=B.hd _ M;have di:=B.dp _ J;have dj:=B.dp _ M;show ae _ _ (K2 (IE k) (C.getD i ao)<|C.getD j ao) _ _ _;dsimp only;rw[<-i3];generalize r.getD i .Ar=x at*;generalize r.getD j .Ar=y at*;generalize N.getD i .Ar=vx at*;generalize N.getD j .Ar=vy at*;generalize C.getD i ao=a at*;generalize C.getD j ao=c at*
 have u:∀(l m:List D)(G:Bool),x=.tup l->y=.tup m->(G=Ap->∀x y Z m',l=x::Z->m=y::m'->(∃a,x=.int a)/\∃c,y=.int c)->ae (af X.prog X.w) A (K2 (TD G) a c) (λU R=>R=T/\U=b) E' T:=λl m G F P hh=>by subst F P;obtain⟨p,us,rfl,q,r1⟩:=ri.tup;obtain⟨p2,ws,rfl,q2,r2⟩:=rj.tup;cases vi;cases vj;obtain⟨S,w1,⟨o,ho,hc,n,hd⟩,_⟩:=I.tuple q.sq;obtain⟨L,w2,⟨o2,t7,u5,n2,Y⟩,_⟩:=I.tuple q2.sq;simp only[nK]at E;rw[jb<|.inl trivial]at E;rw[D.dep]at di dj;refine PySem.W.kat_lt ho hd t7 Y ?_;have:=EV I (b:=G) hA (Q:=λU R=>R=T/\U=b) ⟨rfl,rfl⟩ l m us ws S L 0 0 (by lia) (by lia) (λh=>hh<|by simpa using h) r1 r2 w1 w2 E (decide<|S.toArray.size<L.toArray.size) (by simp[lK]);simpa using this
 match k,g,e with
 |0,g,e=>
  cases x with
  |int ix=>
   cases y with
   |int iy=>have:=ri.int;subst this;have:=rj.int;subst this;obtain⟨t,rfl⟩:=vi;obtain⟨t',rfl⟩:=vj;simp only[nK]at E;rw[<-kT E];show ae _ _ (K2 oneType' _ _) _ _ _;rw[keyLt'_oneType];exact oneLt_int ⟨rfl,rfl⟩
   |tup m=>cases m with
    |nil=>simp[lV]at e
    |cons z m=>cases z<;>simp[lV]at e
   |_=>simp[lV]at e
  |tup m=>cases m with
   |nil=>simp[lV]at g
   |cons z m=>cases z<;>simp[lV]at g
  |_=>simp[lV]at g
 |1,g,e=>
  cases x with
  |tup l=>
   cases y with
   |tup m=>
    refine u l m Ap AM AM λ_ x y Z m' F P=>?_;subst F P;refine⟨?_,?_⟩
    .cases x with
     |int a=>exact⟨a,rfl⟩
     |_=>simp[lV]at g
    cases y with
    |int a=>exact⟨a,rfl⟩
    |_=>simp[lV]at e
   |_=>simp[lV]at e
  |_=>simp[lV]at g
 |(n+2),g,e=>
  cases x with
  |tup l=>
   cases y with
   |tup m=>exact u l m AX AM AM λh=>absurd h lG
   |_=>simp[lV]at e
  |_=>simp[lV]at g
end
open PySem.W
section
variable {X:Cx}{c:jG}{y:L2.St}{H:Hp}{s:iN}
def E8(I:Inv X c y H s){O:B2}{T:iQ}(P:D->Prop)(t:∀x v u,P x->Rep X.K H O x v->RelV v u->Looks (af X.prog X.w) s.heap (tp u) T):∀{ds:List D}{b:List V}{a:jN},AG X.K H O ds b->Vals b a->
  (∀d∈ds,∃x l,d=.tup (x::l)/\P x)->∃fs,KatTups s.heap a fs/\(A2 fs)=A2 a/\∀f∈fs,Looks (af X.prog X.w) s.heap (tp f) T:=by
 intro E
 induction E with
 |nil=>intro b a r v _;rw[AG]at r;subst r;cases v;exact⟨[],KatTups.nil,rfl,λf A=>absurd A lN⟩
 |cons d ds C'=>
  intro b a r v h;rw[AG]at r;obtain⟨S,W,rfl,g1,g2⟩:=r
  cases v with
  |cons a1 j=>
   obtain⟨fs,L,Q,G⟩:=C' g2 j λd hd=>h d<|jU _ hd;obtain⟨x,l,rfl,J⟩:=h d jW;obtain⟨p,R,rfl,q,i⟩:=g1.tup;cases a1;obtain⟨Y,N,⟨o,B,z,n,hd⟩,_⟩:=I.tuple q.sq;rw[AG]at i;obtain⟨M,Z,rfl,m,F⟩:=i
   cases N with
   |cons k U'=>
    rename_i f fr;refine⟨f::fs,KatTups.cons B z hd (by simp) L,by simp[Q],λg e=>?_⟩;rcases kM.mp e with rfl|e
    .exact t x M _ J m k
    exact G g e
def Vf(I:Inv X c y H s){O:B2}{ds:List D}{J:List V}{b:jN}{A:jh}(f:AG X.K H O ds J)(v:Vals J b){k:Nat}(B:GO k ds)(N:2<=b.length):
  ae (af X.prog X.w) A (keyKind' b.toArray) (λL s'=>s'=s/\L=IE k) (λ_ _=>False) s:=by
 have R:=f.length;have S:=v.length
 match k,B with
 |0,B=>
  refine kas_kind (T:=.type "int") N (λu F=>?_) AM AM ⟨rfl,rfl⟩;obtain⟨i,Q,e⟩:=CJ F;have G:=tX f (i:=i) (by lia);have E:=tQ v Q;have hd:=B.hd _ (Ac (ds:=ds) (i:=i)<|by lia);have:b.getD i ao=u:=by simp[Q,e]
  rw[this]at E
  cases h:ds.getD i .Ar with
  |int a=>rw[h]at G;have:=G.int;rw[this]at E;obtain⟨t,rfl⟩:=E;exact Looks.of_pure AM
  |tup l=>
   rw[h]at hd
   cases l with
   |nil=>simp[lV]at hd
   |cons z m=>cases z<;>simp[lV]at hd
  |_=>rw[h]at hd;simp[lV]at hd
 |1,B=>
  obtain⟨fs,f1,M,g⟩:=E8 I (T:=.type "int") (λx=>∃a,x=.int a) (λx P u j C r=>by
   obtain⟨a,rfl⟩:=j;have:=C.int;subst this;obtain⟨t,rfl⟩:=r
   exact Looks.of_pure AM) f v λd hd=>by
    have:=B.hd d hd
    cases d with
    |tup l=>
     cases l with
     |nil=>simp[lV]at this
     |cons z m=>
      cases z with
      |int a=>exact⟨_,m,rfl,a,rfl⟩
      |_=>simp[lV]at this
    |_=>simp[lV]at this
  exact kat_kind f1 (by lia) g AM ⟨rfl,rfl⟩
 |(n+2),B=>
  obtain⟨fs,f1,M,g⟩:=E8 I (T:=.type "tuple") (λx=>∃a,x=.tup a) (λx P u j C r=>by
   obtain⟨a,rfl⟩:=j;obtain⟨p,us,rfl,q,Z⟩:=C.tup;cases r;obtain⟨W,w1,⟨o,Y,U,n,hd⟩,_⟩:=I.tuple q.sq;have:Looks (af X.prog X.w) s.heap (tp<|.ref p) o.cls:=(Looks.ld Y).andThen .now
   rw[U]at this;exact this) f v λd hd=>by
    have:=B.hd d hd
    cases d with
    |tup l=>
     cases l with
     |nil=>simp[lV]at this
     |cons z m=>
      cases z with
      |tup a=>exact⟨_,m,rfl,a,rfl⟩
      |_=>simp[lV]at this
    |_=>simp[lV]at this
  exact kat_kind f1 (by lia) g AM ⟨rfl,rfl⟩
def ly(l:List D):Option (D×Bool):=if oy l=J/\(A2 l)<=sizeLine then Y (.lst<|pR DY l,J)else U
def wA(d:D):Option (D×Bool):=(zK d).bind ly
def aeG{b:List V}{a:jN}(v:Vals b a):∀(p:kb),(∀i∈p,i<A2 a)->Vals (p.map λi=>b.getD i .Ar) (p.map λi=>a.getD i ao):=by
 intro f
 induction f with
 |nil=>intro _;exact .nil
 |cons i p e=>intro h;exact .cons (tQ v<|h i jW)<|e λj d=>h j<|jU _ d
def aeQ{O:B2}{a:List D}{b:List V}(r:AG X.K H O a b):∀(p:kb),(∀i∈p,i<A2 a)->AG X.K H O (p.map λi=>a.getD i .Ar) (p.map λi=>b.getD i .Ar):=by
 intro f
 induction f with
 |nil=>intro _;exact AG.nil
 |cons i p e=>intro h;exact AG.cons (tX r<|h i jW)<|e λj d=>h j<|jU _ d
def acK{b:List D}{n:Nat}(e:n=A2 b)(h1:(A2 b)<=1){p:kb}(a:p.Perm (am n)):p.map (λi=>b.getD i .Ar)=pR DY b:=by
 subst e
 match b,h1,a with
 |[],_,a=>
  have:p=[]:=by simpa using a.length_eq
  subst this;rfl
 |[d],_,a=>
  have e:(A2 p)=1:=by simpa using a.length_eq
  match p,e,a with
  |[i],_,a=>
   have:i=0:=by have:=a.mem_iff.mp<|Fw.mpr I;simpa using this
   subst this;rfl
def tV(hu:X.A.units+62<aP)(I:Inv X c y H s){O:B2}{f:List D}{M:List V}{a:jN}{x:iQ}{Q:VK}{z:D×Bool}(u:AG X.K H O f M)(v:Vals M a)(hg:ly f=A9 z)(G:Gen X.K H O z Q)
  (hc:∀(Y:List iQ->Shared->Prop)(E':jy)(N:jh),N.handled=X.A.handled->(∀(h':jg)(d:Nat),(∀b o,s.heap.get? b=A9 o->h'.get? b=A9 o)->Y a {s with heap:=h',toks:=d})->ae (af X.prog X.w) N (gm x) Y E' s):
  ae (af X.prog X.w) X.A (call (.builtin "sorted") [x]) (EP X c y Q) X.xe s:=by
 unfold ly at hg;obtain⟨⟨L,hz⟩,rfl⟩:=jo hg;have r:=u.length;have e2:=v.length;refine Calls.call_function_entry kind_sorted plain_sorted entry_sorted (args_sorted1 _) ?_;unfold aY.«sorted»;refine iL (m:=checkCount "sorted" 1 1 _)<|ja ?_;refine iL<|hc _ _ _ rfl λh1 d R=>?_;refine iL<|Ms ?_ (by lia);have t:(h1.push<|b5 "list" a.toArray 0).get? h1.objs.size=A9 (b5 "list" a.toArray 0):=kE _ rfl;have C:Inv X c y H {s with heap:=h1,toks:=d}:=I.kept R
 have keep:∀b o,h1.get? b=A9 o->(qp (h1.push<|b5 "list" a.toArray 0) h1.objs.size a).get? b=A9 o:=λb o l=>by have P:b≠h1.objs.size:=kF<|km l;refine ke _ (ke _ ?_);rw[Li _ _ _ _ P];exact ke _ l
 have U:Inv X c y H {s with heap:=qp (h1.push<|b5 "list" a.toArray 0) h1.objs.size a,toks:=d}:=C.kept keep;have Z:∀i∈am a.length,i<a.length:=λi q=>by simpa using q
 refine iL<|mv<|pO (s:={s with heap:=h1.push<|b5 "list" a.toArray 0,toks:=d}) slot_list_sort ⟨_,t,rfl⟩ entry_list_sort ?body<|args_list_sort _
 case body=>
  have fin:∀p:List Nat,p.Perm (am a.length)->p.map (λi=>f.getD i .Ar)=pR DY f->EP X c y Q (.ref h1.objs.size) {s with heap:=(qp (h1.push<|b5 "list" a.toArray 0) h1.objs.size a).update h1.objs.size<|bb λ_=>(p.map λi=>a.getD i ao).toArray,toks:=d}:=λp e T=>by
   have F:∀i∈p,i<a.length:=λi q=>by simpa using e.mem_iff.mp q
   have J:∃n,(qp (h1.push<|b5 "list" a.toArray 0) h1.objs.size a).get? h1.objs.size=A9 (b5 "list" #[] n):=by
    obtain⟨r,W⟩:∃r,((h1.push<|b5 "list" a.toArray 0).update h1.objs.size<|bb λ_=>(#[]:Array iQ)).get? h1.objs.size=A9 (b5 "list" #[] r):=⟨_,FR t λ_=> #[]⟩
    exact⟨r,ke _ (ke _ W)⟩
   obtain⟨n,J⟩:=J;obtain⟨E,S⟩:∃E,((qp (h1.push<|b5 "list" a.toArray 0) h1.objs.size a).update h1.objs.size<|bb λ_=>(p.map λi=>a.getD i ao).toArray).get? h1.objs.size=A9 (b5 "list" (p.map λi=>a.getD i ao).toArray E):=⟨_,FR J λ_=>(p.map λi=>a.getD i ao).toArray⟩
   have g:∀b o,h1.get? b=A9 o->((qp (h1.push<|b5 "list" a.toArray 0) h1.objs.size a).update h1.objs.size<|bb λ_=>(p.map λi=>a.getD i ao).toArray).get? b=A9 o:=λb o l=>by rw[Li _ _ _ _ (kF<|km l)];exact keep b o l
   have pl:p.length=a.length:=by simpa using e.length_eq
   refine⟨.ref h1.objs.size,_,C.laid (t':=d) g (kc _) (show Au X.prog X.w _ _ _ (.lst<|p.map λi=>M.getD i .Ar)from⟨by rw[kd];lia,_,E,aeG v p F,S⟩),rfl,?_⟩;refine G.lst C.fresh ?_;rw[<-T];exact aeQ u p λi q=>by have:=F i q;lia
  rcases BF L with hlen|⟨k,B⟩
  .refine uH (κ:=general') (lt:=λ_ _=>AX) (s:={s with heap:=h1.push<|b5 "list" a.toArray 0,toks:=d}) t (by lia) (λ_ _ _=>rfl) (λ_ _=>rfl) (λh=>by lia) (λh=>by lia) λp e _=>⟨_,rfl,ja ⟨_,rfl,fin p e ?_⟩⟩
   exact acK (by lia) hlen e
  refine uH (κ:=IE k) (lt:=λi j=>DY (f.getD i .Ar)<|f.getD j .Ar) (s:={s with heap:=h1.push<|b5 "list" a.toArray 0,toks:=d}) t (by lia) (λ_ _=>YQ _ _) Xn (λh=>Vf U u v B h) (λ_=>YO (A:=X.A.in1.in1) U (by show X.A.units+1+1+60<aP;lia) u v B) λp e T=>⟨_,rfl,ja ⟨_,rfl,fin p e<|adN B.pr (by rw[show f.length=a.length by lia];exact e) T⟩⟩
def abU(i:X.A.units+62<aP):kH X (.builtin "sorted") (GL X.K<|g1 wA):=nU λc s y H x u Q O d z I j np hd a G=>by
 obtain⟨l,g,a⟩:=iM a
 have M:l.length<=sizeLine:=by unfold ly at a;exact(jo a).1.2
 cases d with
 |lst m=>
  cases g;obtain⟨p,J,rfl,q,r⟩:=kU hd;cases j;obtain⟨N,v,T,_⟩:=I.list q;have E:=r.length;have L:=v.length;obtain⟨o,h,f,n,hd⟩:=T.isList;refine tV i I r v a G λB w t _ e=>vu p (.inl AM) h f hd (λb k=>by simpa using e b s.toks k) (by rw[kz];lia)
 |tup m=>
  cases g;obtain⟨p,J,rfl,q,r⟩:=lr hd;cases j;obtain⟨N,v,⟨o,h,f,n,hd⟩,_⟩:=I.tuple q;have E:=r.length;have L:=v.length;refine tV i I r v a G λB w t _ e=>vu p (.inr AM) h f hd (λb k=>by simpa using e b s.toks k) (by rw[kz];lia)
 |_=>cases g
end
def og:aE "isinstance"=Y (.builtin "isinstance"):=by decide+kernel
structure Tx(mg:lE):Prop where
 n_len:mg "len"=AR
 n_abs:mg "abs"=AR
 n_int:mg "int"=AR
 n_tuple:mg "tuple"=AR
 n_list:mg "list"=AR
 n_range:mg "range"=AR
 n_isinstance:mg "isinstance"=AR
 n_bool:mg "bool"=AR
 n_max:mg "max"=AR
 n_min:mg "min"=AR
 n_all:mg "all"=AR
 n_any:mg "any"=AR
 n_sorted:mg "sorted"=AR
 n_enumerate:mg "enumerate"=AR
 n_zip:mg "zip"=AR
 n_set:mg "set"=AR
def RH{P:jm}{w:je}{K:jl}{g:lE}{base:jg}{f:iJ}{d:mT}{i:jw}{k:Nat}:DV P w K g base GP k f d i (J7 K λ_=>U) where
 len:=λj O Q E h=>by obtain⟨T,a,r,b,_,e,_⟩:=h;cases e
 run:=λA c s O a l j Q E _ _ _ _ h=>by obtain⟨T,a,r,b,_,e,_⟩:=h;cases e
def adh{K:jl}{T:Hp}{O:B2}:∀a:List Int,AG K T O (a.map .int) (a.map V.int):=by
 intro c
 induction c with
 |nil=>exact AG.nil
 |cons n a b=>exact AG.cons Rep.mkInt<|b
def AB(d e:cF)(a b c:FO):F:=λf=>(a f).bind λp=>(b p.2).bind λq=>match res q.2 p.1,res q.2 q.1 with
 |some (.int i),Y (.int j)=>if lK d i j=J then(c q.2).bind λr=>match res r.2 r.1 with
   |some (.int k)=>Y ((.bl<|lK e j k,C),r.2)
   |_=>U
  else Y ((.bl C,C),q.2)
 |_,_=>U
section
variable {X:Cx}{a b c:iT}{m l g:FO}{n:bu}{d f:cF}
def Il(h:BW d):DO X (aw d) (JQ λi j=>.bl (lK d i j)):=by
 rcases h with rfl|rfl|rfl|rfl
 .exact X6
 .exact X7
 .exact X8
 exact X9
def aed(A:tF X.K (AB d f m l g) σ H' Q):Mi (JQ λi j=>.bl (lK d i j)) (JQ λi j=>.bl (lK f i j)) (tO X.K m) (tO X.K l) (tO X.K g) σ H' Q:=by
 obtain⟨M,T,F,N,E,e,k⟩:=A;unfold AB at e;obtain⟨x,p,h1,e⟩:=iR e;obtain⟨G,q,y,e⟩:=iR e;refine⟨M,T,x,p,E,h1,λv U h=>⟨p,Bu T x v,G,q,h.er E,y,λu Y o=>?_⟩⟩;have B:=Ops.cons E h<|Ops.cons (h.er E) o<|Ops.nil<|o.er<|h.er E;dsimp only at e;split at e
 .rename_i i j C I;have hv:=jB<|B.view (j:=0) AM AM C;have t:=jB<|B.view (j:=1) AM AM I;refine⟨i,j,hv,t,lK d i j,rfl,?_⟩;by_cases c:lK d i j=Ap
  .rw[jb c]at e ⊢;obtain⟨J,r,z,e⟩:=iR e;dsimp only at e;split at e
   .rename_i O L;obtain⟨rfl,rfl⟩:=jn e;refine⟨q,_,J,r,o.er<|h.er E,z,λw D P3=>?_⟩;have s:=Ops.cons E h<|Ops.cons (h.er E) o<|Ops.cons (o.er<|h.er E) P3<|Ops.nil<|P3.er<|o.er<|h.er E;exact⟨j,O,t,jB<|s.view (j:=2) AM AM L,(s.done k).bl⟩
   cases e
  rw[jr c]at e ⊢;obtain⟨rfl,rfl⟩:=jn e;exact(B.done k).bl
 cases e
end
noncomputable def NF(x:V)(c:Bool):Bool:=match x with
 |.bl b=>b==c
 |_=>C
noncomputable def gIs:D->D->Option (D×Bool)
 |.bl b,.bl c=>Y (.bl<|b==c,C)
 |_,.bl _=>Y (.bl C,C)
 |.Ar,.Ar=>Y (.bl J,C)
 |_,.Ar=>Y (.bl C,C)
 |_,_=>U
noncomputable def Vt:D->D->Option (D×Bool)
 |.bl b,.bl c=>Y (.bl (!(b==c)),C)
 |_,.bl _=>Y (.bl J,C)
 |.Ar,.Ar=>Y (.bl C,C)
 |_,.Ar=>Y (.bl J,C)
 |_,_=>U
section
variable {X:Cx}
def HI(a:RelV x v)(c:Bool):plainIs v (.bool c)=J/\(v== .bool c)=NF x c:=by
 cases x<;>first
  |(cases a;exact⟨rfl,rfl⟩)
  |(obtain⟨t,rfl⟩:=a;exact⟨rfl,rfl⟩)
  |(rename_i b;cases a;refine⟨rfl,?_⟩;cases b<;>cases c<;>rfl)
def Nl:DO X (aw .Is) (λx y T Q=>∃c,y=.bl c/\Q (.bl<|NF x c) T):=by intro a s f T x y v u Q O d e h;obtain⟨c,rfl,q⟩:=h;cases e;obtain⟨h1,b⟩:=HI d c;exact wpAny_is_plain h1<|DP O q (by rw[b])
def BL:DO X (aw .IsNot) (λx y T Q=>∃c,y=.bl c/\Q (.bl (!NF x c)) T):=by intro a s f T x y v u Q O d e h;obtain⟨c,rfl,q⟩:=h;cases e;obtain⟨h1,b⟩:=HI d c;exact wpAny_isNot_plain h1<|DP O q (by rw[b])
def zD{K T}(h:kg K T O (.bl b) v):v=.bl b:=h.elim (λh=>h.bl) λ⟨_,_,h⟩=>h.elim
def xM{K T}(h:kg K T O .Ar v):v=.Ar:=h.elim (λh=>h.Ar) λ⟨_,_,h⟩=>h.elim
def aen{K T}(h:kg K T O d v)(f:∀b,d≠ .bl b)(c:Bool):NF v c=C:=by
 cases d with
 |bl b=>exact absurd I<|f b
 |Ar=>rw[xM h];rfl
 |int i=>rw[jB h];rfl
 |str x=>
   rcases h with h|⟨a,_,h⟩
   .rw[h.str];rfl
   exact h.elim
 |tup l=>
   rcases h with h|⟨a,_,h⟩
   .rw[Rep]at h;obtain⟨a,e,rfl,_⟩:=h;rfl
   exact h.elim
 |lst l=>
   rcases h with h|⟨a,rfl,h⟩
   .rw[Rep]at h;obtain⟨a,e,rfl,_⟩:=h;rfl
   rfl
 |B4 _ _ _=>
   rcases h with h|⟨a,rfl,h⟩
   .rw[Rep]at h;obtain⟨a,e,rfl,_⟩:=h;rfl
   rfl
def acf{K T}(h:kg K T O d v)(e:d≠ .Ar):v≠ .Ar:=by
 cases d with
 |bl b=>rw[zD h];intro z;cases z
 |Ar=>exact absurd I e
 |int i=>rw[jB h];intro z;cases z
 |str x=>
   rcases h with h|⟨a,_,h⟩
   .rw[h.str];intro z;cases z
   exact h.elim
 |tup l=>
   rcases h with h|⟨a,_,h⟩
   .rw[Rep]at h;obtain⟨a,c,rfl,_⟩:=h;intro z;cases z
   exact h.elim
 |lst l=>
   rcases h with h|⟨a,rfl,h⟩
   .rw[Rep]at h;obtain⟨a,c,rfl,_⟩:=h;intro z;cases z
   intro z;cases z
 |B4 _ _ _=>
   rcases h with h|⟨a,rfl,h⟩
   .rw[Rep]at h;obtain⟨a,c,rfl,_⟩:=h;intro z;cases z
   intro z;cases z
def QM(n:Bool):DO X (aw (if n then .IsNot else .Is)) (rD X.K (if n then Vt else gIs)):=by
 intro a s j T x y v u Q N g i h;obtain⟨O,d,e,z,np,h1,o,l,G⟩:=h
 cases e with
 |bl c=>
  have f:=zD o;by_cases k:∃b,d=.bl b
  .obtain⟨b,rfl⟩:=k;cases n<;>cases l<;>(first|refine Nl a s j T x y v u Q N g i ⟨c,f,?_⟩|refine BL a s j T x y v u Q N g i ⟨c,f,?_⟩)<;>(rw[zD h1];exact G.bl)
  have p:∀b,d≠ .bl b:=λb z=>k ⟨b,z⟩;have m:z=(.bl n,C):=by cases n<;>cases d<;>first|exact absurd I (p _)|(cases l;rfl)
  subst m;cases n<;>(first|refine Nl a s j T x y v u Q N g i ⟨c,f,?_⟩|refine BL a s j T x y v u Q N g i ⟨c,f,?_⟩)<;>(rw[aen h1 p c];exact G.bl)
 |Ar=>
  have f:=xM o;by_cases k:d=.Ar
  .subst k;cases n<;>cases l<;>(first|refine Nk a s j T x y v u Q N g i ⟨f,?_⟩|refine Ij a s j T x y v u Q N g i ⟨f,?_⟩)<;>(rw[xM h1];exact G.bl)
  have m:z=(.bl n,C):=by cases n<;>cases d<;>first|exact absurd I k|(cases l;rfl)
  subst m;cases n<;>(first|refine Nk a s j T x y v u Q N g i ⟨f,?_⟩|refine Ij a s j T x y v u Q N g i ⟨f,?_⟩)<;>(rw[nv<|acf h1 k];exact G.bl)
 |_=>cases n<;>cases d<;>cases l
def UX:DO X (aw .Is) (rD X.K gIs):=QM C
end
end PX
namespace HT
open L2
section
variable {a:jm}{w:je}{A:jh}{E:jy}{s:iN}
def acq{t c:iJ}{items:nJ}{g i:iQ}{lo d:Option Int}{Q:jy}(b:li s.heap t items)(e:s.heap.IsSliceOf c g i .none)(n:eE g lo)(o:eE i d)
  (f:Br items.size 0 lo=0/\Br items.size items.size d=items.size)(h:Q (.ref t) s):ae (af a w) A (el (.ref t)<|.ref c) Q E s:=by
 obtain⟨os,j,k,p⟩:=id e;have l:s.TypeIs (.ref c) "slice":=⟨os,j,k⟩
 unfold el
 try with_reducible refine mv ?_
 first|refine iL (ja ?_)|skip
 refine iL<|u9 b.typeIs (by decide) ?_
 refine iL (sM (name:=bS "__getitem__") b.typeIs A8
  (pO A8 b.typeIs LG ?_<|ut _ _))
 show ae _ _ (cJ (.ref t)>>=_) _ _ s;refine iL<|P1 b ?_;refine iL<|vM l ?_;rw[jb<|by decide];refine iL<|qt e n o ?_;rw[f.1,f.2];show ae _ _ (if((((0:Nat):Int)==0&&(1:Int)==1&&(items.size-0)==items.size)=J)then _ else _) _ _ s;rw[jb<|by simp];refine iL (m:=fj _) ?_;unfold fj;refine iL<|vM b.typeIs ?_;refine ja ?_;rw[jb<|by decide];refine iL<|uC ?_
 first
  |exact iL<|ja ⟨_,rfl,ja h⟩
  |exact ja ⟨_,rfl,ja h⟩
  |exact iL<|ja<|ja ⟨_,rfl,ja h⟩
  |(refine iL ?_;trace_state;done)
end
end HT
namespace PX
open L2 PySem.SeqAt
noncomputable def oA(l:List D)(lo a:Option Int):List D:=(l.drop<|HT.Br (A2 l) 0 lo).take<|HT.Br (A2 l) (A2 l) a-HT.Br (A2 l) 0 lo
def Kt(lo a:Option Int):D->Option (D×Bool)
 |.tup l=>Y (.tup<|oA l lo a,C)
 |.lst l=>Y (.lst<|oA l lo a,J)
 |_=>U
inductive rSlD(K:jl)(x:V)(lo hi:Option Int)(H:Hp)(Q:VK):Prop where
 |mk (O:B2) (d:D) (z:D×Bool) (_:∀p,¬Ow (H p)->¬O p) (_:kg K H O d x) (_:Kt lo hi d=A9 z) (_:Gen K H O z Q)
def AG.cut{K T}(r:AG K T O l xs)(lo a:Option Int):AG K T O (oA l lo a) (Ff xs lo a):=by unfold oA Ff;rw[r.length];exact(r.drop _).take _
section
variable {X:Cx}
def Es{b:jG}{s:iN}{h:L2.St}{N:Hp}{a:iJ}{v e f:iQ}{lo c:Option Int}{d:iJ}{Q:VK}{O:B2}{l:List D}{g:List V}(M:Inv X b h N s)(n:RelV (.ref a) v)(j:s.heap.IsSliceOf d e f .none)(k:eE e lo)(m:eE f c)
  (q:Fd X.K N a g)(r:AG X.K N O l g)(G:Gen X.K N O (.lst<|oA l lo c,J) Q):∃T id,gX (.type T) "__getitem__"=pure (Y<|.builtin id)/\s.TypeIs v T/\ae (af X.prog X.w) X.A (el v<|.ref d) (EP X b h Q) X.xe s:=
 PR b s h N (.ref a) v e f lo c d Q M n j k m ⟨a,g,rfl,q,λp i=>G.lst i<|r.cut lo c⟩
def XF:NZ X (rSlD X.K):=by
 intro f s E N x v B T lo g A Q M n i k m h;obtain⟨O,d,z,np,hd,o,G⟩:=h
 cases d with
 |tup l=>
  cases o;rcases hd with hd|⟨a,_,h⟩
  .obtain⟨a,b,rfl,q,r⟩:=hd.tup;by_cases j:HT.Br b.length 0 lo=0/\HT.Br b.length b.length g=b.length
   .cases n;obtain⟨w,y,u,L⟩:=M.tuple q.sq;have c:w.toArray.size=b.length:=by rw[kz];exact y.length.symm
    refine⟨"tuple",_,A8.lookup,u.typeIs,?_⟩;refine HT.acq u i k m (by rw[c];exact j) ⟨.ref a,N,M,rfl,?_⟩
    have e:oA l lo g=l:=by unfold oA;rw[<-r.length,j.1,j.2];simp[r.length]
    rw[e]at G;exact G (.ref a) N (λ_ _ e=>e) hd
   exact Ub f s E N (.ref a) v B T lo g A Q M n i k m ⟨a,b,rfl,q.sq,j,λp t=>G.tup t (np p<|Mb t)<|r.cut lo g⟩
  exact h.elim
 |lst l=>
  cases o;rcases hd with hd|⟨a,rfl,h⟩
  .obtain⟨a,b,rfl,q,r⟩:=hd.lst;exact Es M n i k m q.sq r G
  obtain⟨b,e,r⟩:=h;exact Es M n i k m (.inl<|.inl e) r G
 |_=>cases o
end
def Ay(a b:FO):F:=λδ=>(a δ).bind λp=>(b p.2).bind λq=>match res q.2 q.1 with
 |some (.int i)=>(res q.2 p.1).bind λx=>(Kt (Y i) U x).bind λz=>Y (z,q.2)
 |_=>U
def tE(a b:FO):F:=λδ=>(a δ).bind λp=>(b p.2).bind λq=>match res q.2 q.1 with
 |some (.int i)=>(res q.2 p.1).bind λx=>(Kt U (Y i) x).bind λz=>Y (z,q.2)
 |_=>U
section
variable {X:Cx}{a lo d:iT}{g e f:FO}{b c:bu}
end
end PX
namespace L2
section
variable {X:Cx}
def Xy(O:It)(g:TG)(b:TT)(a:iJ->TB)(pre:St->St)(c:St)(T:Hp)(Q:VK):Prop:=Ej (.set (λ_=>C) 0) O g b a pre c T Q
def Gx(c:TI)(g:TG)(ti:TT)(tb:iJ->TB)(pre:St->St):TE:=λa T Q=>c a T λO b=>Xy O g ti tb pre a b Q
def T4(d:iJ)(e:TE):TB:=λc T N=>e c T λy a=>∃k S n,y=.int k/\a d=Y (.set S n)/\n+1<jp/\N c (upd a d<|.set (λb=>S b||decide (b=k)) (if S k then n else n+1))
def Nf{a:iT}{c:pM}{j:jS}{p:bu}{depth:Nat}{d:iJ}{l:TE}(E:c[depth+1]?=U)(M:PE X a l):PB X (jX (.SetComp a c j p) depth (.ref d) X.env) (T4 d l):=by
 intro f s m H N I h
 have r:jX (.SetComp a c j p) depth (.ref d) X.env=(do let v <-aW a X.env;dv a.pos;let _ <-call (.builtin "set.add") [.ref d,v]):=by unfold jX;simp -iota only[clausesOf.eq_def];rw[E]
 rw[r];refine iL<|Bl (M f s m H _ I h) ?_;rintro u s1 ⟨y,H1,g,T,k,S,n,z,hd,Q,q⟩;subst z;obtain⟨t,rfl⟩:=T;have A:s1.heap.SetOf (mL X.prog X.w) d S n:=g.hok d _ hd;refine iL<|vd<|iL<|call_set_add (knd:=mL X.prog X.w) (k:=k) (intKind_is _ _ k t) AM A Q λJ G i=>ja ⟨m,_,?_,q⟩;refine g.write (x:=d) (e:=d) (by rw[hd];exact trivial) (.inl AM) (λb u B O=>by rw[G.2 b B];exact O) ?_ i;obtain⟨o,_,_,_,L,_⟩:=i;exact⟨o,L⟩
end
end L2
namespace PX
open L2 PySem.SeqAt
noncomputable def AS(f:F):FB:=λa b=>(f b).bind λp=>match p.1.1 with
 |.int k=>if (A2 a)+1<jp then Y (a++[.int k],p.2)else U
 |_=>U
section
variable {X:Cx}{A:kN}{d:iJ}{c:iT}{f:F}
def adq{j:pM}{J:jS}{p:bu}{depth:Nat}(E:j[depth+1]?=AR)(y:PX X c f):PB X (jX (.SetComp c j J p) depth (.ref d) X.env) (Hw Ap X.K A d<|AS f):=PB.imp' (Nf E y) λm H N I=>by
 obtain⟨w,T,g,Y,M,B,e,k⟩:=I;obtain⟨r,h,h1,e⟩:=iR e;obtain⟨O,Q⟩:=r
 cases O with
 |int i=>
  obtain⟨U,e⟩:=jo e;obtain⟨rfl,rfl⟩:=sd e;refine⟨w,T,(.int i,Q),h,B.er,h1,λv s P=>?_⟩;obtain⟨q,G⟩:=P.rep B.er;have hv:v=.int i:=G.int;have t:SK A m w H m h s:=P.1.sk;have x:=B.step t q;have C:=P7 g (λ_=>AX,0);refine⟨i,_,_,hv,x.at',by unfold nQ;lia,k m _ ?_ ?_⟩
  .have:JN A d m h s m h (upd s d<|.set (λu=>(nQ g).1 u||decide (u=i)) (if(nQ g).1 i then(nQ g).2 else(nQ g).2+1)):=⟨λa o e n L=>by rw[jx L];exact e,λi a z=>.inl z,λa z=>by
    by_cases l:a=d
    .subst l;rw[jv];simp
    rw[jx l];exact z,λ_ _=>rfl⟩
   exact t.Kp.trans this
  refine⟨q.mono (λb o e n=>by rw[jx<|by intro z;subst z;exact n B.td];exact e) (λ_ _ z=>z) λa z=>?_,B.td,?_⟩
  .by_cases l:a=d
   .subst l;rw[jv];trivial
   rw[jx l];exact q.dom a z
  show upd _ _ _ _=_;rw[jv,BG]
 |_=>cases e
end
def uh(b:kb)(k:Nat)(d:Dr)(e:Tg)(ti:FT)(c:FB):F:=λf=>(d f).bind λp=>(kf p.2<|b.map .slot).bind λa=>if(jq (b.map .slot) a).Nodup then(lJ e ti c p.1 []<|a.map Y++ah k U).bind λq=>Y ((.int (nQ q.1).2,C),wb (b.map .slot) a (jD a q.2) p.2)else U
def aea{K:jl}{b:kb}{k:Nat}{f:Dr}{g:Tg}{ti:FT}{e:FB}{j:L2.St}{T:Hp}{Q:VK}(h:tF K (uh b k f g ti e) j T Q):
  Gx (tI K (λi=>i∉b) f) (tG K (λi=>A2 b<=i) g) (tT K ti) (λd=>Hw J K (λi=>A2 b<=i) d e) (yu b k) j T (λx c=>∃S n,∃a,x=.ref a/\c a=Y (.set S n)/\Q (.int n) c):=Ce (S:=J) h
section
variable {X:Cx}{l:iT}{c:pK}{f:pM}{scope:jS}{j y p:bu}{O:jw}{b:kb}{k:Nat}{L:Dr}{A:Tg}{ti:FT}{B:FB}
def aei:kH X (.builtin "len") (λi M Q=>∃S n,∃a,i=[.ref a]/\M a=Y (.set S n)/\Q (.int n) M):=by
 intro g s J M i G Q I r h;obtain⟨S,n,a,rfl,e,q⟩:=h;obtain⟨u,rfl,N⟩:=qm r;cases N;obtain⟨o,m,E,t,z,hex,hd,_,_,T,v,x⟩:=(show s.heap.SetOf (mL X.prog X.w) a S n from I.hok a _ e)
 have d:(m.size:Int)<2^63:=by
  have:jp=4096:=rfl
  lia
 refine call_len_set z hex hd v d ⟨.int n,M,?_,⟨_,by rw[x]⟩,q⟩;exact(I.tok _)
def adj{z:au}(C:Ep X O scope b k)(hc:X.calm=Ap)(ha:c.is_async=0)(k6:∀U',f[0]?=A9 U'->U'.is_async=0)
  (hs:∀x,ap c.iter X.env x=pure x)(pi:Ju X (λi=>i∉b) c.target c.iter L)
  (t9:∀(cl:lF)(C:iJ)(s3:iN)(H3:Hp)(fp:kY)(r:jG),let t:=X.comp O scope cl C s3 H3 fp r
   KC t (λi=>A2 b<=i) c.target A/\JT t c.ifs (tT X.K ti)/\∀d,PB t (jX (.SetComp l (c::f) scope j) 0 (.ref d) t.env)<|Hw Ap X.K (λi=>A2 b<=i) d B)
  (hg:Gl X z)(hm:X.mg z=U)(hv:aE z=A9 (.builtin "len"))(hn:z≠"__name__")(i6:(z==("__debug__":au))=AX)
  (h1:ac [.SetComp l (c::f) scope j] X.env=(AX,aW (.SetComp l (c::f) scope j) X.env)::ac [] X.env)(f7:(aT y<|ac [] X.env).any (·.1)=AX):
  PX X (.Call (.Name z p) [.SetComp l (c::f) scope j] [] y) (uh b k L A ti B):=
 PX.imp (sV aei hg hm hv (lP (Ig (fp:=c.iter.pos) (new:=newSet<|.type "set") (o:=.set (λ_=>AX) 0) (g:=tG X.K (λi=>A2 b<=i) A) (ti:=tT X.K ti) (tb:=λd=>Hw Ap X.K (λi=>A2 b<=i) d B) C.MY hc ha k6 hs pi t9 (λ_ _ _ k=>wpAny_newSet_of (knd:=mL X.prog X.w) λ_ R=>k _ λ_=>R) (.inr ⟨_,_,_,_,rfl⟩) (hev:=by cases c;rfl)) oz h1) hn i6 h1 f7) λY H Q h=>by
  have q:=aea h
  have mono:∀{u I:VK},(∀v H,u v H->I v H)->Gx (tI X.K (λi=>i∉b) L) (tG X.K (λi=>A2 b<=i) A) (tT X.K ti) (λd=>Hw Ap X.K (λi=>A2 b<=i) d B) (yu b k) Y H u->Gx (tI X.K (λi=>i∉b) L) (tG X.K (λi=>A2 b<=i) A) (tT X.K ti) (λd=>Hw Ap X.K (λi=>A2 b<=i) d B) (yu b k) Y H I:=by
   rintro u I hq ⟨δ,T,ds,G,E,h1,kk⟩;refine⟨δ,T,ds,G,E,h1,λJ N P D ok d hd=>?_⟩;obtain⟨W,V,step⟩:=kk J N P D ok d hd;refine⟨W,V,λi m M F w=>?_⟩;rcases step i m M F w with⟨s1,s2⟩|s
   .exact .inl ⟨s1,hq _ _ s2⟩
   exact .inr s
  exact mono (λv N a'=>by obtain⟨S,n,a,e,h2,h3⟩:=a';exact ⟨S,n,a,by rw[e],h2,h3⟩) q
end
end PX
namespace HT
open L2
section
variable {a:jm}{w:je}{A:jh}{E:jy}{s:iN}
end
end HT
namespace L2
section
variable {X:Cx}{e st:iT}{c b:TE}{a d:bu}
end
end L2
namespace PX
open L2 PySem.SeqAt
section
variable {X:Cx}{a st:iT}{d fs:FO}{b c:bu}
end
section
variable {b:ky}{a:dO}
end
end PX
namespace TT
noncomputable def S:Nat->Nat
 |0=>0
 |n+1=>5*S n+1
theorem Jm(m:Nat):∀n:Nat,S (m+n)=5^n*S m+S n
 |0=>by simp[S]
 |n+1=>by rw[<-xp,S,Jm m n,S,uy,uQ,<-qV,xl 5 (5^n)];lia
theorem Ax:∀n:Nat,∃c,5^n=4*c+1
 |0=>⟨0,rfl⟩
 |n+1=>by obtain⟨c,e⟩:=Ax n;exact⟨5*c+1,by rw[uy,e];lia⟩
theorem Pg:∀k:Nat,∃c,S (2^k)=2^k*(2*c+1)
 |0=>⟨0,rfl⟩
 |k+1=>by
  obtain⟨c,e⟩:=Pg k;obtain⟨d,f⟩:=Ax (2^k)
  have h:S (2^(k+1))=(5^2^k+1)*S (2^k):=by rw[uy,Nat.mul_two,Jm,xj,FP]
  refine⟨2*(d*c)+d+c,?_⟩;rw[h,f,e,uy];have:4*d+1+1=2*(2*d+1):=by lia
  rw[this,qV 2,xl (2*d+1),qV (2^k),qV (2^k),<-qV 2 (2^k),xl 2 (2^k),qV (2^k) 2]
  congr 2
  rw[xj,uQ,FP,xi,qV 2 c,CF c 2 d,xl c d]
  lia
def Ph(k n:Nat):S (2^k+n)%2^k=S n%2^k:=by obtain⟨c,e⟩:=Pg k;rw[Jm,e,CF,sK]
def Jl:∀(k e:Nat),e<2^k->∃n,n<2^k/\S n%2^k=e:=by
 intro u
 induction u with
 |zero=>intro e h;exact⟨0,by simp,by simp at h;subst h;rfl⟩
 |succ k t=>
  intro e h;have l:0<2^k:=sB k;obtain⟨n,z,s⟩:=t (e%2^k)<|xh _ l;obtain⟨c,m⟩:=Pg k;obtain⟨d,o⟩:=Ax n
  have b:S (2^k+n)=2^(k+1)*(4*d*c+2*d+c)+2^k+S n:=by
   rw[Jm,m,o,uy,CF,qV (2^k) 2]
   have:(4*d+1)*(2*c+1)=2*(4*d*c+2*d+c)+1:=by rw[xj,uQ,FP,xi,CF (4*d) 2 c];lia
   rw[this,uQ,xi]
  rw[uy]at h b ⊢;generalize 2^k=P at*;have j:=s8 (S n) P;have i:=s8 e P;rw[s]at j;have A:e / P<2:=Nat.div_lt_of_lt_mul (by rw[xl]at h;lia)
  have mk:∀a q x,a=P*2*q+x->x<P*2->a%(P*2)=x:=λa q x h1 b=>by rw[h1,sK,Nat.mod_eq_of_lt b]
  have y:=xh e l;have v:S n / P=2*(S n / P / 2)+S n / P%2:=by lia
  have g:S n=P*2*(S n / P / 2)+(P*(S n / P%2)+e%P):=by rw[qV,<-xp,<-uQ,<-v];exact j.symm
  generalize S n / P / 2=q at g;have w:S n / P%2<2:=xh _ (by decide);generalize S n / P%2=r at g w;generalize e / P=f at*;by_cases p:r=f
  .exact⟨n,by lia,mk _ q _ (by rw[g,p,i]) h⟩
  refine⟨P+n,by lia,mk _ (4*d*c+2*d+c+q+r) _ ?_ h⟩;rw[b,g,uQ (P*2) _ r,uQ (P*2) _ q];rcases(show r=0\/r=1 by lia)with rfl|rfl
  .have:f=1:=by lia
   subst this;rw[FN,FN];rw[xi]at i;lia
  have:f=0:=by lia
  subst this;rw[xi,xi];rw[FN]at i;lia
noncomputable def ls(mask:Nat)(h:Int):Nat->Nat×Nat
 |0=>(aK h%(mask+1),aK h)
 |k+1=>cA mask (ls mask h k).1 (ls mask h k).2
def R5(h:Int):aK h<2^64:=by
 unfold aK;have:=FL h (show(0:Int)<2^64 by decide);have:=FK h (show(2^64:Int)≠0 by decide)
 lia
def Ir(mask:Nat)(h:Int):∀k,(ls mask h k).1<=mask
 |0=>by have:=xh (aK h) (show 0<mask+1 by lia);show _%(mask+1)<=_;lia
 |k+1=>by show(_%(mask+1))<=_;have:=xh ((ls mask h k).1*5+1+(ls mask h k).2 / 32) (show 0<mask+1 by lia);lia
theorem Iq(mask:Nat)(h:Int):∀k,(ls mask h k).2=aK h / 32^k
 |0=>by simp[ls]
 |k+1=>by show(ls mask h k).2 / 32=_;rw[Iq mask h k,uy,Nat.div_div_eq_div_mul]
def Rc(mask:Nat)(h:Int)(k:Nat)(hk:13<=k):(ls mask h k).2=0:=by rw[Iq];refine Nat.div_eq_of_lt<|nN (R5 h) ?_;exact lC (show 2^64<=32^13 by decide)<|xg (by decide) hk
theorem ND(mask:Nat)(h:Int)(m:Nat)(a:(ls mask h 13).1=S m%(mask+1)):∀n,(ls mask h (13+n)).1=S (m+n)%(mask+1)
 |0=>a
 |n+1=>by show(((ls mask h (13+n)).1*5+1+(ls mask h (13+n)).2 / 32)%(mask+1))=_;rw[Rc mask h _ (by lia),ND mask h m a n,Nat.zero_div,hX,<-xp m n 1,S,Ev,Nat.mod_mul_mod,<-Ev,xl 5]
def EK(hk:mask+1=2^k)(h:Int)(i:e<=mask):∃n,n<mask+14/\(ls mask h n).1=e:=by
 have j:=Ir mask h 13;obtain⟨m,d,c⟩:=Jl k (ls mask h 13).1 (by lia);obtain⟨q,f,b⟩:=Jl k e (by lia);rw[<-hk]at c b d f;have a:=ND mask h m c.symm;by_cases g:m<=q
 .exact⟨13+(q-m),by lia,by rw[a,show m+(q-m)=q by lia];exact b⟩
 refine⟨13+(q+(mask+1)-m),by lia,?_⟩;rw[a,show m+(q+(mask+1)-m)=2^k+q by lia,hk,Ph,<-hk];exact b
def GF(mask i:Nat)(h:i<=mask):i<=aF mask i/\aF mask i<=mask/\aF mask i<=i+9:=by unfold aF;split<;>lia
def tm(mask:Nat)(h:Int):Nat->Nat
 |0=>0
 |k+1=>tm mask h k+(aF mask (ls mask h k).1-(ls mask h k).1)+1
theorem So(mask:Nat)(h:Int):∀k,tm mask h k<=10*k
 |0=>kc _
 |k+1=>by have:=So mask h k;have:=GF mask _ (Ir mask h k);unfold tm;lia
def at_(mask:Nat)(h:Int)(k t:Nat):SetTable.Probe:=⟨(ls mask h k).1+t,aF mask (ls mask h k).1-(ls mask h k).1-t,(ls mask h k).1,(ls mask h k).2,U⟩
theorem vq(mask:Nat)(h:Int):∀k t,t<=aF mask (ls mask h k).1-(ls mask h k).1->pr mask h (tm mask h k+t)=at_ mask h k t
 |0,0,_=>rfl
 |k+1,0,_=>by have e:=vq mask h k (aF mask (ls mask h k).1-(ls mask h k).1)<|kc _;show Jz mask (pr mask h<|tm mask h k+(aF mask (ls mask h k).1-(ls mask h k).1))=_;rw[e];unfold Jz at_;simp only[Nat.sub_self,oX,kR,gt_iff_lt];rfl
 |k,t+1,a=>by
  have e:=vq mask h k t (by lia);show Jz mask (pr mask h<|tm mask h k+t)=_;rw[e];unfold Jz at_;rw[jb (show aF mask (ls mask h k).1-(ls mask h k).1-t>0 by lia)];simp only[SetTable.Probe.mk.injEq,and_true,true_and]
  lia
def aeE(hk:mask+1=2^k)(h:Int)(a:e<=mask):∃n,n<10*(mask+14)/\(pr mask h n).j=e:=by obtain⟨r,b,er⟩:=EK hk h a;have:=So mask h r;refine⟨tm mask h r,by lia,?_⟩;have:=vq mask h r 0<|mV _;rw[hX]at this;rw[this];exact er
theorem MX(mask:Nat)(h:Int):∀n,(pr mask h n).dummy=U
 |0=>rfl
 |n+1=>by show(Jz mask<|pr mask h n).dummy=U;unfold Jz;split<;>exact MX mask h n
theorem Ez(mask:Nat)(h:Int):∀n,∃k t,n=tm mask h k+t/\t<=aF mask (ls mask h k).1-(ls mask h k).1
 |0=>⟨0,0,rfl,mV _⟩
 |n+1=>by
  obtain⟨k,t,e,b⟩:=Ez mask h n;by_cases a:t+1<=aF mask (ls mask h k).1-(ls mask h k).1
  .exact⟨k,t+1,by lia,a⟩
  exact⟨k+1,0,by unfold tm;lia,mV _⟩
def MW(mask:Nat)(h:Int)(n:Nat):(pr mask h n).j<=mask:=by obtain⟨k,t,e,a⟩:=Ez mask h n;rw[e,vq mask h k t a];have:=GF mask _ (Ir mask h k);show(ls mask h k).1+t<=mask;lia
def Dm{c:Array Nat}(g:c.toList.Pairwise (· < ·)){i j:Nat}{a b:Nat}(h:i<j)(h1:c[i]?=Y a)(d:c[j]?=Y b):a<b:=by rw[<-nu]at h1 d;obtain⟨e,rfl⟩:=tM.mp h1;obtain⟨f,rfl⟩:=tM.mp d;exact Pk.mp g i j e f h
def OW{c:Array Nat}(o:c.toList.Pairwise (· < ·))(j:Nat):∀(d lo b:Nat),lo<=b->b<=c.size->b-lo<=d->
  (∀i a,i<lo->c[i]?=Y a->a<j)->(∀i a,b<=i->c[i]?=Y a->j<=a)->
  let p:=SetTable.below.go c j d lo b
  p<=c.size/\(∀i a,i<p->c[i]?=Y a->a<j)/\(∀i a,p<=i->c[i]?=Y a->j<=a):=by
 intro u
 induction u with
 |zero=>
  intro lo b h1 g t h k;have:lo=b:=by lia
  subst this;exact⟨g,h,k⟩
 |succ d r=>
  intro lo b h1 g t h k;unfold SetTable.below.go;by_cases q:lo<b
  .rw[jb q];have n:(lo+b) / 2<c.size:=by lia
   have m:c[(lo+b) / 2]?=Y c[(lo+b) / 2]:=qe n;have hd:c.getD ((lo+b) / 2) j=c[(lo+b) / 2]:=by simp[gE,n]
   dsimp only;rw[hd];by_cases l:c[(lo+b) / 2]<j
   .rw[jb l];refine r ((lo+b) / 2+1) b (by lia) g (by lia) (λi a s f=>?_) k;by_cases e:i=(lo+b) / 2
    .subst e;rw[m]at f;cases f;exact l
    exact CW (Dm o (by lia) f m) l
   rw[jr l];refine r lo ((lo+b) / 2) (by lia) (by lia) (by lia) h λi a s f=>?_;by_cases e:i=(lo+b) / 2
   .subst e;rw[m]at f;cases f;lia
   have:=Dm o (show(lo+b) / 2<i by lia) m f;lia
  rw[jr q];have:lo=b:=by lia
  subst this;exact⟨g,h,k⟩
def pF{b:Array Nat}(d:b.toList.Pairwise (· < ·))(j:Nat):ai b j<=b.size/\(∀i a,i<ai b j->b[i]?=Y a->a<j)/\(∀i a,ai b j<=i->b[i]?=Y a->j<=a):=
 OW d j b.size 0 b.size (mV _) (kc _) (by lia) (λi a h=>by lia) (λi a h1 c=>by have:=(KO.mp c).1;lia)
def AQ{a:Array Nat}(c:a.toList.Pairwise (· < ·)){i j:Nat}(h:a[i]?=Y j):ai a j=i:=by
 obtain⟨h1,d,e⟩:=pF c j;by_cases g:i<ai a j
 .exact absurd (d i j g h) (oX _)
 by_cases f:ai a j<i
 .have k:=(KO.mp h).1;have b:a[ai a j]?=Y a[ai a j]:=qe (by omega);have:=e _ _ (kc _) b;have:=Dm c f b h;omega
 omega
theorem DL(j:Nat):XV #[] j=C:=rfl
def qr{t:mP}(a:t.place.toList.Pairwise (· < ·)){i j:Nat}(h:t.place[i]?=Y j):t.slot j=.live i:=by unfold m4;dsimp only;rw[AQ a h,h];simp
def acs{t:mP}(hd:t.dummies= #[]){j:Nat}(h:j∉t.place.toList):t.slot j=.empty:=by
 unfold m4;dsimp only
 have:(t.place[ai t.place j]?==Y j)=C:=by rw[yq];intro e;rw[<-nu]at e;exact h<|mW e
 rw[this,hd,DL];rfl
def Pb(t:mP)(p:c4):t.advance p=Jz t.mask p:=by unfold YP Jz;split<;>rfl
def aeD{l:iZ}{t:mP}(ok:Bs l t)(hashAt:Nat->Int)(h:Int):∀(a n:Nat),(∃M,n<=M/\M<n+a/\(pr t.mask h M).j∉t.place.toList)->
    ∃m,n<=m/\(∀q,n<=q->q<m->∃i,t.place[i]?=Y (pr t.mask h q).j/\hashAt i≠h)/\
      (((pr t.mask h m).j∉t.place.toList/\en t hashAt h a (pr t.mask h n)=Y (.empty (pr t.mask h m).j U))\/
       (∃i,t.place[i]?=Y (pr t.mask h m).j/\hashAt i=h/\en t hashAt h a (pr t.mask h n)=Y (.candidate (pr t.mask h m).j i<|pr t.mask h<|m+1))):=by
  intro p
  induction p with
  |zero=>
    rintro n ⟨M,h1,f,g⟩
    lia
  |succ a o=>
    rintro n ⟨M,h1,f,g⟩;unfold en;by_cases d:(pr t.mask h n).j∈t.place.toList
    · obtain⟨i,c⟩:=se d
      rw[nu]at c;rw[qr ok.ris c];dsimp only;by_cases b:hashAt i=h
      · refine⟨n,kc _,λq h1 f=>by lia,.inr ⟨i,c,b,?_⟩⟩
        rw[jb<|by simpa using b,Pb];rfl
      · rw[jr<|by simpa using b,Pb]
        have s:M≠n:=λe=>g<|e▸d;obtain⟨m,g1,g2,k⟩:=o (n+1) ⟨M,by lia,by lia,g⟩;refine⟨m,by lia,λq u r=>?_,k⟩;by_cases e:q=n
        · subst e;exact⟨i,c,b⟩
        · exact g2 q (by lia) r
    · rw[acs ok.dum d]
      dsimp only;rw[MX];exact⟨n,kc _,λq h1 f=>by lia,.inl ⟨d,rfl⟩⟩
def EN:∀(n:Nat)(l:kb),A2 l<=n->∃e,e<=n/\e∉l:=by
 intro d
 induction d with
 |zero=>intro l h;exact⟨0,kc _,by cases l with|nil=>simp|cons _ _=>simp at h⟩
 |succ n c=>
  intro l h;by_cases a:n+1∈l
  .obtain⟨e,h1,b⟩:=c (l.erase<|n+1) (by rw[List.length_erase_of_mem a];lia);exact⟨e,by lia,λz=>b<|(FH<|by lia).mpr z⟩
  exact⟨n+1,kc _,a⟩
def Bs.free(ok:Bs f t)(h:Int):∃M,M<10*(t.mask+14)/\(pr t.mask h M).j∉t.place.toList:=by
 obtain⟨k,_,_,hk⟩:=ok.pow
 have h1:(A2 t.place.toList)<=t.mask:=by have:=ok.len;have:=ok.room;rw[lT];lia
 obtain⟨e,c,d⟩:=EN t.mask _ h1;obtain⟨n,a,b⟩:=aeE hk h c;exact⟨n,a,by rw[b];exact d⟩
def mF{b:Type}(a:Array b)(p:Nat)(x:b):(aG a p x).toList=a.toList.take p++x::a.toList.drop p:=by unfold aG;simp[Array.toList_extract,List.extract];rw[zc<|by simp]
def acv(h:xs.toList.Pairwise (· < ·))(n:j∉xs.toList):(aG xs (ai xs j) j).toList.Pairwise (· < ·):=by
 obtain⟨h1,l,k⟩:=pF h j;rw[mF,uL];refine⟨h.sublist<|xF _ _,?_,?_⟩
 .rw[D7];refine⟨λa d=>?_,h.sublist<|FV _ _⟩;obtain⟨i,c⟩:=se d;rw[fH]at c;have m:=k _ _ (show ai xs j<=ai xs j+i by lia) (by rw[<-nu];exact c);have:a≠j:=λe=>n (e▸mW c)
  lia
 intro a d b g
 have f:a<j:=by
  obtain⟨i,c⟩:=se d;rw[List.getElem?_take]at c;split at c
  .rename_i o;exact l i a o (by rw[<-nu];exact c)
  cases c
 rcases kM.mp g with rfl|g
 .exact f
 obtain⟨i,c⟩:=se g;rw[fH]at c;have m:=k _ _ (show ai xs j<=ai xs j+i by lia) (by rw[<-nu];exact c)
 lia
def Bs.fresh(finger moves:Nat)(led:Bool):Bs [] (kv finger moves led) where
 pow:=⟨3,by lia,by lia,rfl⟩
 dum:=rfl
 len:=rfl
 room:=by show 5*0<3*7;lia
 ris:=.nil
 bd:=λj h=>by simp[kv]at h
 road:=λi h j h1=>by simp at h1
def Bs.put(ok:Bs f t)(z:(pr t.mask h n).j∉t.place.toList)(y:∀m,m<n->(pr t.mask h m).j∈t.place.toList)(Q:5*(A2 f+1)<3*t.mask)(B:j=(pr t.mask h n).j)(T:p=ai t.place j):
  Bs (f.take p++h::f.drop p) (t.put j).1/\(t.put j).2=p:=by
 subst B;subst T
 have u:(t.put (pr t.mask h n).j).1={t with place:=aG t.place (ai t.place (pr t.mask h n).j) (pr t.mask h n).j,dummies:= #[]}:=by unfold oC;dsimp only;rw[ok.dum,DL];rfl
 obtain⟨h1,_,_⟩:=pF ok.ris (pr t.mask h n).j;have E:=ok.len
 have c:∀x,x∈t.place.toList->x∈(aG t.place (ai t.place (pr t.mask h n).j) (pr t.mask h n).j).toList:=λx a=>by
  rw[mF];rw[<-si (ai t.place (pr t.mask h n).j) t.place.toList]at a;rcases pQ.mp a with a|a
  .exact pQ.mpr (.inl a)
  exact pQ.mpr (.inr<|jU _ a)
 refine⟨?_,rfl⟩;rw[u];generalize w:ai t.place (pr t.mask h n).j=P at*;refine⟨ok.pow,rfl,?_,?_,?_,λx a=>?_,λi h' g g1 g2=>?_⟩
 .show(aG t.place P (pr t.mask h n).j).size=_;rw[<-lT,mF];simp only[nA,kP,rK,zo,lT];lia
 .show 5*_<3*t.mask;simp only[nA,kP,rK,zo];lia
 .have:=acv ok.ris z;rw[w]at this;exact this
 .have r:x∈(aG t.place P (pr t.mask h n).j).toList:=a;rw[mF]at r;show x<=t.mask;rcases pQ.mp r with a|a
  .exact ok.bd x (uU a)
  rcases kM.mp a with rfl|a
  .exact MW _ _ _
  exact ok.bd x (zb a)
 have b:(aG t.place P (pr t.mask h n).j).toList[i]?=Y g:=by rw[nu];exact g2
 rw[mF]at b;show ∃s,(pr t.mask h' s).j=g/\∀m,m<s->(pr t.mask h' m).j∈(aG t.place P (pr t.mask h n).j).toList;have v:(t.place.toList.take P).length=P:=by rw[rK,lT];lia
 have k:(f.take P).length=P:=by rw[rK];lia
 by_cases A:i<P
 .rw[uD<|by lia,LJ A]at g1 b;rw[nu]at b;obtain⟨q,l,o⟩:=ok.road i h' g g1 b;exact⟨q,l,λm e=>c _ (o m e)⟩
 rw[qi<|by lia,v]at b;rw[qi<|by lia,k]at g1
 cases hd:i-P with
 |zero=>rw[hd]at g1 b;simp at g1 b;subst g1;subst b;exact⟨n,rfl,λm e=>c _ (y m e)⟩
 |succ d=>rw[hd]at g1 b;simp only[qR,fH]at g1 b;rw[nu]at b;obtain⟨q,l,o⟩:=ok.road _ h' g g1 b;exact⟨q,l,λm e=>c _ (o m e)⟩
def J8(ow:vK)(j:Nat):Prop:= ∃i,ow.getD j U=Y i
def DM{ow:vK}{j:Nat}{d:Option Nat}(h:j<ow.size):ow.getD j d=ow.getD j U:=by simp[gE,h]
def ad2{mask:Nat}{ow:vK}(T:ow.size=mask+1)(h:Int):∀(a k:Nat),(∃r,k<=r/\r<k+a/\¬J8 ow (ls mask h r).1)->(∀m,m<tm mask h k->J8 ow (pr mask h m).j)->
  ∃n,bB mask ow a (ls mask h k).1 (ls mask h k).2=Y (pr mask h n).j/\¬J8 ow (pr mask h n).j/\∀m,m<n->J8 ow (pr mask h m).j:=by
 intro A
 induction A with
 |zero=>
  rintro k ⟨r,h1,v,_⟩ _
  lia
 |succ a z=>
  rintro k ⟨r,h1,v,g⟩ l;unfold bB;have x:=Ir mask h k;have y:=GF mask _ x
  cases c:(am<|aF mask (ls mask h k).1+1-(ls mask h k).1).find? λt=>(ow.getD ((ls mask h k).1+t)<|Y 0).isNone with
  |some t=>
   rw[List.find?_range_eq_some]at c;obtain⟨a1,q,s⟩:=c;rw[um]at q;have p:t<=aF mask (ls mask h k).1-(ls mask h k).1:=by lia
   have e:=vq mask h k t p;refine⟨tm mask h k+t,by rw[e];rfl,?_,λm o=>?_⟩
   .rw[e];rintro⟨i,w⟩;rw[DM (by show(ls mask h k).1+t<_;lia)]at a1;have u:ow.getD ((ls mask h k).1+t) U=Y i:=w;rw[u]at a1;simp at a1
   by_cases f:m<tm mask h k
   .exact l m f
   have b:=vq mask h k (m-tm mask h k) (by lia);rw[show tm mask h k+(m-tm mask h k)=m by lia]at b;rw[b];have:=s (m-tm mask h k) (by lia);rw[DM (by show(ls mask h k).1+(m-tm mask h k)<_;lia)]at this;show J8 ow ((ls mask h k).1+(m-tm mask h k));unfold J8
   cases d:ow.getD ((ls mask h k).1+(m-tm mask h k)) U with
   |none=>rw[d]at this;simp at this
   |some i=>exact⟨i,rfl⟩
  |none=>
   rw[List.find?_range_eq_none]at c
   have all:∀t,t<=aF mask (ls mask h k).1-(ls mask h k).1->J8 ow ((ls mask h k).1+t):=λt p=>by
    have:=c t (by lia);rw[DM<|by lia]at this;unfold J8
    cases d:ow.getD ((ls mask h k).1+t) U with
    |none=>rw[d]at this;simp at this
    |some i=>exact⟨i,rfl⟩
   have B:r≠k:=λe=>g (by subst e;have:=all 0<|mV _;simpa using this)
   have:=z (k+1) ⟨r,by lia,by lia,g⟩ (λm o=>by
    by_cases f:m<tm mask h k
    .exact l m f
    unfold tm at o;have b:=vq mask h k (m-tm mask h k) (by lia);rw[show tm mask h k+(m-tm mask h k)=m by lia]at b;rw[b];exact all _ (by lia))
   exact this
def E7{a e:Type}{f g:a->Option e}:∀{l:List a},(∀x∈l,f x=g x)->l.filterMap f=l.filterMap g:=by
 intro d
 induction d with
 |nil=>intro _;exact I
 |cons x l c=>intro h;rw[uF,uF,h x jW,c λy b=>h y<|jU _ b]
noncomputable def ph(mask:Nat)(ow:vK):List (Nat×Nat):=(am<|mask+1).filterMap λj=>(ow.getD j U).map (j,·)
def Pm:(j,i)∈ph mask ow↔j<=mask/\ow.getD j U=Y i:=by
 unfold ph;simp only[dJ,um,dV,Prod.mk.injEq];constructor
 .rintro⟨a,h1,b,c,rfl,rfl⟩;exact⟨by lia,c⟩
 rintro⟨h1,c⟩;exact⟨j,by lia,i,c,rfl,rfl⟩
def ae6(mask:Nat)(ow:vK):((ph mask ow).map (·.1)).Pairwise (· < ·):=by unfold ph;rw[List.map_filterMap,List.pairwise_filterMap];refine Wf.imp λ{a b} e x c y d=>?_;simp only[Option.mem_def,Option.map_map,dV,bj]at c d;obtain⟨_,_,rfl⟩:=c;obtain⟨_,_,rfl⟩:=d;exact e
def ae5{mask:Nat}{ow:vK}(f:ow.size=mask+1){j k:Nat}(d:j<=mask)(c:ow.getD j U=U):(ph mask<|ow.setIfInBounds j<|Y k).Perm ((j,k)::ph mask ow):=by
 have g:∀i,(ow.setIfInBounds j<|Y k).getD i U=if i=j then Y k else ow.getD i U:=λi=>by
  simp only[uP,CD];by_cases e:i=j
  .subst e;simp[show i<ow.size by lia]
  rw[jr λz=>e z.symm,jr e]
 have split:am (mask+1)=am j++j::(am<|mask-j).map (λx=>j+1+x):=by rw[show mask+1=j+(mask-j+1) by lia,List.range_add,ey];simp[rH,xp,Nat.add_comm 1]
 unfold ph;rw[split,Lh,Lh,uF,uF];simp only[g,c,jb I,Option.map_none,nw]
 have a1:(am j).filterMap (λi=>(if i=j then Y k else ow.getD i U).map (i,·))=(am j).filterMap (λi=>(ow.getD i U).map (i,·)):=
  E7 λi a=>by rw[um]at a;rw[jr<|by lia]
 have b:((am<|mask-j).map λx=>j+1+x).filterMap (λi=>(if i=j then Y k else ow.getD i U).map (i,·))=((am<|mask-j).map λx=>j+1+x).filterMap (λi=>(ow.getD i U).map (i,·)):=
  E7 λi a=>by obtain⟨x,_,rfl⟩:=yc.mp a;rw[jr<|by lia]
 rw[a1,b];exact Pl
structure G5(mask:Nat)(hs:iZ)(ow:vK):Prop where
 size:ow.size=mask+1
 perm:((ph mask ow).map (·.2)).Perm (am<|A2 hs)
 road:∀j i h,ow.getD j AR=A9 i->hs[i]?=A9 h->∃n,(pr mask h n).j=j/\∀m,m<n->J8 ow (pr mask h m).j
def Im(h:J8 ow x):J8 (ow.setIfInBounds j<|Y k) x:=by
 obtain⟨i,a⟩:=h;unfold J8;simp only[uP,CD]at a ⊢;by_cases e:j=x
 .subst e;rw[jb I];split
  .exact⟨k,rfl⟩
  rename_i b;rw[CC<|by lia]at a;simp at a
 rw[jr e];exact⟨i,a⟩
def G5.step{mask k:Nat}(hk:mask+1=2^k){a:iZ}{ow:vK}(ok:G5 mask a ow)(h:Int)(Q:(A2 a)<=mask):
  ∃j,bB mask ow (bW mask) (aK h%(mask+1)) (aK h)=Y j/\G5 mask (a++[h]) (ow.setIfInBounds j<|Y<|A2 a):=by
 have o:(ph mask ow).length=(A2 a):=by have:=ok.perm.length_eq;simpa using this
 obtain⟨e,l,y⟩:=EN mask ((ph mask ow).map (·.1)) (by rw[kd];lia)
 have s: ¬J8 ow e:=by rintro⟨i,f⟩;exact y<|yc.mpr ⟨(e,i),Pm.mpr ⟨l,f⟩,rfl⟩
 obtain⟨r,B,v⟩:=EK hk h l;obtain⟨n,f1,t,u⟩:=ad2 ok.size h (bW mask) 0 ⟨r,mV _,by unfold bW;lia,by rw[v];exact s⟩ (λm c=>by simp[tm]at c);have x:=MW mask h n
 have p:ow.getD (pr mask h n).j U=U:=by
  cases A:ow.getD (pr mask h n).j U with
  |none=>rfl
  |some i=>exact absurd ⟨i,A⟩ t
 refine⟨_,f1,⟨by rw[Array.size_setIfInBounds];exact ok.size,?_,λj i w g1 g2=>?_⟩⟩
 .refine((ae5 ok.size x p).map _).trans ?_;rw[jP,nA,xy,List.range_succ];exact(i7 _ ok.perm).trans (Lg _ _).symm
 by_cases b:j=(pr mask h n).j
 .subst b
  have:i=(A2 a):=by simp only[uP,CD,jb I]at g1;rw[jb bq,jb<|by rw[ok.size];lia]at g1;exact(kT g1).symm
  subst this;rw[qi<|kc _]at g2;simp at g2;subst g2;exact⟨n,rfl,λm c=>Im<|u m c⟩
 have d:ow.getD j U=Y i:=by simp only[uP,CD]at g1 ⊢;rw[jr λz=>b z.symm]at g1;exact g1
 have f:i<(A2 a):=by
  have g:j<=mask:=by
   by_cases q:j<ow.size
   .have:=ok.size;lia
   rw[uP,CC<|by lia]at d;simp at d
  have:=ok.perm.mem_iff.mp<|yc.mpr ⟨(j,i),Pm.mpr ⟨g,d⟩,rfl⟩;exact um.mp this
 rw[uD f]at g2;obtain⟨q,T,E⟩:=ok.road j i w d g2;exact⟨q,T,λm c=>Im<|E m c⟩
def G5.start(mask:Nat):G5 mask [] (gi (mask+1) U) where
 size:=by simp
 perm:=by
  have:ph mask (gi (mask+1) U)=[]:=by unfold ph;refine List.filterMap_eq_nil_iff.mpr λj a=>?_;rw[uP,Lf];split<;>rfl
  rw[this];exact uR _
 road:=λj i h h1=>by rw[uP,Lf]at h1;split at h1<;>cases h1
noncomputable def wx(mask:Nat)(a:Option (Array (Option Nat)×Nat))(h:Int):Option (Array (Option Nat)×Nat):=do
 let(owner,k) <-a
 let j <-bB mask owner (bW mask) (aK h%(mask+1)) (aK h)
 pure (owner.setIfInBounds j<|Y k,k+1)
def ae8{mask k:Nat}(hk:mask+1=2^k):∀(l a:iZ)(ow:vK),G5 mask a ow->A2 a+A2 l<=mask+1->
  ∃c,l.foldl (wx mask) (Y (ow,A2 a))=Y (c,A2 a+A2 l)/\G5 mask (a++l) c:=by
 intro m
 induction m with
 |nil=>intro a ow ok _;exact⟨ow,rfl,by rw[uE];exact ok⟩
 |cons h l i=>
  intro a ow ok g;rw[kP]at g;obtain⟨j,e,d⟩:=ok.step hk h (by lia);obtain⟨c,f,b⟩:=i (a++[h]) _ d (by rw[nA,xy];lia);refine⟨c,?_,by rw[qh]at b;exact b⟩;rw[sD]
  have:wx mask (Y (ow,A2 a)) h=Y (ow.setIfInBounds j<|Y<|A2 a,A2 a+1):=by unfold wx;show(bB mask ow (bW mask) (aK h%(mask+1)) (aK h)>>=_)=_;rw[e];rfl
  rw[this];rw[nA,xy]at f;rw[f,kP]
  congr 2;lia
def acd(hk:mask+1=2^k)(a:iZ)(c:(A2 a)<=mask):∃ow,hW mask a.toArray=Y ow/\G5 mask a ow:=by
 obtain⟨ow,e,ok⟩:=ae8 hk a [] _ (G5.start mask) (by simp;lia);refine⟨ow,?_,by simpa using ok⟩;unfold hW;rw[<-Array.foldl_toList];show wr _ (EQ (wx mask) _ a)=_;have b:EQ (wx mask) (Y (gi (mask+1) U,0)) a=Y (ow,A2 a):=by simpa using e
 rw[b];rfl
def Rr(hk:mask+1=2^k)(w:3<=k)(o:k<=11)(finger moves:Nat)(led plain:Bool)(d:iZ)(E:5*(A2 d)<3*mask):
  ∃t c,m6 mask finger moves led plain d.toArray=Y (t,c)/\c.toList.Perm (am<|A2 d)/\Bs (c.toList.map λi=>d.getD i 0) t/\t.plain=plain/\t.led=led:=by
 obtain⟨ow,e,ok⟩:=acd hk d (by lia);refine⟨{mask,place:=((ph mask ow).map (·.1)).toArray,dummies:= #[],finger,led,moves,plain},((ph mask ow).map (·.2)).toArray,?_,by simpa using ok.perm,?_,rfl,rfl⟩
 .unfold m6;rw[e];rfl
 have g:(ph mask ow).length=(A2 d):=by have:=ok.perm.length_eq;simpa using this
 refine⟨⟨k,w,o,hk⟩,rfl,by simp,by simp[g];lia,by simpa using ae6 mask ow,λj z=>?_,λi h j g1 g2=>?_⟩
 .have u:j∈(ph mask ow).map (·.1):=by simpa using z
  obtain⟨⟨a,b⟩,q,rfl⟩:=yc.mp u;exact(Pm.mp q).1
 have s:((ph mask ow).map (·.2)).map (λi=>d.getD i 0)=(((ph mask ow).map (·.2)).toArray).toList.map λi=>d.getD i 0:=by simp
 rw[<-s,kS,kS]at g1;have f:((ph mask ow).map (·.1))[i]?=Y j:=by simpa using g2
 rw[kS]at f
 cases l:(ph mask ow)[i]? with
 |none=>rw[l]at f;cases f
 |some p=>
  obtain⟨a,b⟩:=p;rw[l]at g1 f;simp at g1 f;subst f;have q:=Pm.mp<|mW l
  have x:b<(A2 d):=by have:=ok.perm.mem_iff.mp<|yc.mpr ⟨(a,b),mW l,rfl⟩;exact um.mp this
  have y:d[b]?=Y h:=by rw[jT x]at g1 ⊢;simpa using g1
  obtain⟨n,B,T⟩:=ok.road a b h q.2 y;refine⟨n,B,λm v=>?_⟩;obtain⟨A,r⟩:=T m v;show(pr mask h m).j∈(((ph mask ow).map (·.1)).toArray).toList;have:(pr mask h m).j∈(ph mask ow).map (·.1):=yc.mpr ⟨(_,A),Pm.mpr ⟨MW mask h m,r⟩,rfl⟩;simpa using this
def abX:∀n,n<2048->∃k,3<=k/\k<=11/\eQ n=2^k/\n<2^k:=by
 intro n h
 have step:∀(f k:Nat),3<=k->k<=11->11<k+f->∃b,3<=b/\b<=11/\SetTable.sizeAbove.go n f (2^k)=2^b/\n<2^b:=by
  intro f
  induction f with
  |zero=>intro k h1 c d;lia
  |succ f g=>
   intro k h1 c d;unfold SetTable.sizeAbove.go;by_cases a:2^k<=n
   .rw[jb a,<-uy];have:k≠11:=λe=>by subst e;lia
    exact g (k+1) (by lia) (by lia) (by lia)
   rw[jr a];exact⟨k,h1,c,rfl,by lia⟩
 exact step 64 3 (by lia) (by lia) (by lia)
open PyProof.Rows PySem.SeqAt
def adl{k:iZ}{t:mP}(ok:Bs k t){hashAt:Nat->Int}{h:Int}{p:c4}{n:Nat}(g:p=pr t.mask h n)(f:∀m,m<n->(pr t.mask h m).j∈t.place.toList):
    ∃m,n<=m/\m<10*(t.mask+14)/\(∀q,n<=q->q<m->∃i,t.place[i]?=Y (pr t.mask h q).j/\hashAt i≠h)/\
      (((pr t.mask h m).j∉t.place.toList/\t.probe hashAt h p=Y (.empty (pr t.mask h m).j U))\/
       (∃i,t.place[i]?=Y (pr t.mask h m).j/\hashAt i=h/\t.probe hashAt h p=Y (.candidate (pr t.mask h m).j i<|pr t.mask h<|m+1))):=by
  subst g;obtain⟨M,h1,a⟩:=ok.free h
  have c:n<=M:=by
    by_cases b:M<n
    · exact absurd (f M b) a
    · lia
  obtain⟨m,g1,g2,e⟩:=aeD ok hashAt h (10*bW t.mask) n ⟨M,c,by unfold bW;lia,a⟩
  have l:m<=M:=by
    by_cases b:M<m
    · obtain⟨i,d,_⟩:=g2 M c b
      rw[<-nu]at d;exact absurd (mW d) a
    · lia
  exact⟨m,g1,by lia,g2,e⟩
section
variable {prog:jm}{w:je}{A:jh}{E:jy}{s:iN}
structure JM(A:jh)(s:iN)(a:iJ)(es:rV)(n:Nat)(t:mP)(x:iQ)(h:Int)(eqs:Nat->Bool):Prop where
 at_:∃o,s.heap.get? a=A9 o/\o.data=.set es n t
 tab:Bs (es.toList.map (·.1)) t
 refs:∀(i:Nat)(e:Int×iQ),es[i]?=A9 e->∃b,e.2=.ref b
 eq:∀(i:Nat)(e:Int×iQ),es[i]?=A9 e->EqAt A s e.2 x (eqs i)
 hash:∀(i:Nat)(e:Int×iQ),es[i]?=A9 e->eqs i=Ap->e.1=h
 quiet:∀(l:jN)(prog:jm)(w:je)(E:jy)(Q:rX),(∀v∈l,∃e∈es.toList,e.2=v)->Q AX s->ae (af prog w) A (v6 x l) Q E s
def Nq(ok:Bs c t):t.gaveWay=C:=by
 obtain⟨k,h1,_,b⟩:=ok.pow;obtain⟨a,rfl⟩:∃a,k=a+1:=⟨k-1,by lia⟩
 rw[uy]at b;unfold X0;rw[yq];lia
def IK(ok:Bs a t)(h:(A2 a)=n):t.fits n=J:=by have:=ok.len;have:=ok.room;unfold m7 m8;rw[ok.dum];simp only[lg,beq_iff_eq,rZ];exact⟨by lia,by show _+0<=_;lia⟩
def JM.fits{a b n t x h eqs}(S:JM A s a b n t x h eqs):t.fits b.size=J:=IK S.tab (by simp)
def ye{a:iJ}{k:rV}{nn:Nat}{t:mP}{x:iQ}{h:Int}{c:Nat->Bool}{adding:Bool}(S:JM A s a k nn t x h c){Q:SetFound->Shared->Prop}
  (H:∀i r,c i=Ap->i<k.size->(r=AR\/r=A9 i)->(adding=AX->r=A9 i)->Q (.there r) s)
  (j9:(∀i,i<k.size->c i=AX)->∀n,(pr t.mask h n).j∉t.place.toList->(∀m,m<n->(pr t.mask h m).j∈t.place.toList)->Q (.free (pr t.mask h n).j AX) s):
  ∀(l n:Nat)(u:Option c4),u.getD (t.probeStart h)=pr t.mask h n->(∀q,q<n->∃i,t.place[i]?=A9 (pr t.mask h q).j/\c i=AX)->10*(t.mask+14)<n+l->n<=10*(t.mask+14)->
   ae (af prog w) A (M2 a x h adding l u) Q E s:=by
 intro iV
 induction iV with
 |zero=>
  intro n u _ _ W Z
  lia
 |succ l iH=>
  intro n u l4 U W Z;obtain⟨o,T,hd⟩:=S.at_
  have J8:∀m,m<n->(pr t.mask h m).j∈t.place.toList:=λm X=>by obtain⟨i,g,_⟩:=U m X;rw[<-nu]at g;exact mW g
  unfold M2;refine iL<|rY T hd S.fits ?_;dsimp only;rw[Nq S.tab];simp only[ku,↓reduceIte];generalize V:t.probe _ h _=P;obtain⟨m,m1,m2,m3,F⟩:=adl S.tab l4 J8 (hashAt:=λi=>(k[i]?.map (·.1)).getD 0);have O:t.probe (λi=>(k[i]?.map (·.1)).getD 0) h (u.getD<|t.probeStart h)=P:=V;rw[O]at F
  have N:∀(i:Nat)(j:Nat),t.place[i]?=A9 j->∃e,k[i]?=A9 e/\(k[i]?.map (·.1)).getD 0=e.1:=λi j g=>by have h1:=(KO.mp g).1;have L:=S.tab.len;rw[kd,lT]at L;exact⟨k[i],qe<|by lia,by rw[qe<|by lia];rfl⟩
  have ne:∀(i:Nat)(j:Nat),t.place[i]?=A9 j->(k[i]?.map (·.1)).getD 0≠h->c i=AX:=λi j g J=>by
   obtain⟨e,f,Y⟩:=N i j g
   cases d:c i
   .rfl
   exact absurd (Y.trans<|S.hash i e f d) J
  have seen:∀q,q<m->∃i,t.place[i]?=A9 (pr t.mask h q).j/\c i=AX:=λq d=>by
   by_cases p:q<n
   .exact U q p
   obtain⟨i,g,J⟩:=m3 q (by lia) d;exact⟨i,g,ne i _ g J⟩
  rcases F with⟨a1,a2⟩|⟨i,a1,a2,a3⟩
  .subst a2;dsimp only;refine ja<|j9 (λi g=>?_) m a1 λq d=>?_
   .cases d:c i
    .rfl
    exfalso;have f:k[i]?=A9 k[i]:=qe g;have h1:=S.hash i _ f d;have L:=S.tab.len;rw[kd,lT]at L;have B:t.place[i]?=A9 t.place[i]:=qe (by lia);obtain⟨M,K,r2⟩:=S.tab.road i h t.place[i] (by rw[kS,nu,f];exact nM A9 h1) B
    have:M<m:=by
     by_cases p:M<m
     .exact p
     exfalso;rcases nL (LP.mp p)with p|heq
     .exact a1 (r2 m p)
     subst heq;rw[<-nu]at B;rw[K]at a1;exact a1<|mW B
    obtain⟨i',g1,g2⟩:=seen M this;rw[K]at g1;have:i'=i:=by rw[<-AQ S.tab.ris g1,AQ S.tab.ris B]
    rw[this,d]at g2;cases g2
   obtain⟨i,g,_⟩:=seen q d;rw[<-nu]at g;exact mW g
  subst a3;dsimp only;obtain⟨e,f,Y⟩:=N i _ a1;obtain⟨h',y⟩:=e;obtain⟨b,D⟩:=S.refs i _ f;dsimp only at D;subst D;have I:t.sameMemory t.moves t.mask=A9 Ap:=by simp[WP]
  have C:i<k.size:=(KO.mp f).1;cases hl:t.led
  .simp only[gL,↓reduceIte];refine iL<|S.quiet _ _ _ _ _ (λv hv=>?_) ?_
   .obtain⟨e,R,rfl⟩:=yc.mp hv;exact⟨e,(We.mp (by simpa using(Array.mem_filter.mp<|We.mp R).1) |> λz=>by simpa using z),rfl⟩
   simp only[ku,↓reduceIte];rw[f];dsimp only;refine iL<|mv<|S.eq i _ f _ _ _ _ ?_;refine iL<|rY T hd S.fits ?_;dsimp only
   cases d:c i with
   |true=>
    cases adding with
    |true=>simp only[gS,↓reduceIte];exact ja<|H i AR d C (.inl AM) (λz=>by cases z)
    |false=>simp only[gM,ku,↓reduceIte,I,qr S.tab.ris a1,f];refine iL<|CB ?_;simp only[↓reduceIte];exact iL<|ja<|ja<|H i _ d C (.inr AM) λ_=>rfl
   |false=>
    simp only[eS,ku,↓reduceIte,I,qr S.tab.ris a1,f];refine iL<|CB ?_;simp only[↓reduceIte];refine iL<|ja ?_
    exact iH (m+1) _ rfl (λq G=>by
     by_cases e:q=m
     .subst e;exact⟨i,a1,d⟩
     exact seen q (by lia)) (by lia) (by lia)
  simp only[rG,ku,↓reduceIte];rw[f];dsimp only;refine iL<|mv<|S.eq i _ f _ _ _ _ ?_;refine iL<|rY T hd S.fits ?_;dsimp only
  cases d:c i with
  |true=>
   cases adding with
   |true=>simp only[gS,↓reduceIte];exact ja<|H i AR d C (.inl AM) (λz=>by cases z)
   |false=>simp only[gM,ku,↓reduceIte,I,qr S.tab.ris a1,f];refine iL<|CB ?_;simp only[↓reduceIte];exact iL<|ja<|ja<|H i _ d C (.inr AM) λ_=>rfl
  |false=>
   simp only[eS,ku,↓reduceIte,I,qr S.tab.ris a1,f];refine iL<|CB ?_;simp only[↓reduceIte];refine iL<|ja ?_
   exact iH (m+1) _ rfl (λq G=>by
    by_cases e:q=m
    .subst e;exact⟨i,a1,d⟩
    exact seen q (by lia)) (by lia) (by lia)
end
noncomputable abbrev kW(a:rV)(n:Nat)(t:mP):Obj:={cls:=.type "set",data:=.set a n t}
section
variable {c:jm}{w:je}{A:jh}{E:jy}{s:iN}
def El{h:jg}{a:iJ}{b es':rV}{n:Nat}{t t':mP}(d:h.get? a=Y (kW b n t)):(h.update a<|nb es' t').get? a=Y (kW es' (n+1) t'):=by have:=sL (nb es' t') d (by rw[putSet_of es' t' I];rfl);rw[putSet_of es' t' I]at this;exact this
def aev{b:Type}(a:Array b):(am a.size).filterMap (λi=>a[i]?)=a.toList:=by
 have:∀(l:List b),(am<|A2 l).filterMap (λi=>l[i]?)=l:=by
  intro l
  induction l with
  |nil=>rfl
  |cons x l d=>rw[kP,ey,uF];simp only[sh,me,rH,qR,d]
 have h:=this a.toList;simpa using h
def RI{a:rV}:∀(l:kb),(∀i∈l,i<a.size)->(l.filterMap λi=>a[i]?).map (·.1)=l.map λi=>(a.toList.map (·.1)).getD i 0:=by
 intro f
 induction f with
 |nil=>intro _;exact I
 |cons i l e=>
  intro h;have b:=h i jW;rw[uF,qe b];simp only[jP];rw[e λj d=>h j<|jU _ d]
  congr 1
  simp[b]
def aeR{a:iJ}{d:rV}{n:Nat}{t:mP}(l:s.heap.get? a=Y (kW d n t))(x:t.fits d.size=J)(M:5<=d.size)(O:d.size<=500){Q:Unit->Shared->Prop}
  (h:∀j es' N t',ay a s.heap j->j.get? a=Y (kW es' N t')->es'.toList.Perm d.toList->Bs (es'.toList.map (·.1)) t'->t'.plain=t.plain->t'.led=t.led->Q () {s with heap:=j}):
  ae (af c w) A (setRelay a<|f4 d.size) Q E s:=by
 have y:f4 d.size=d.size*4:=by unfold f4;rw[jr<|by lia]
 obtain⟨k,T,m,v,lk⟩:=abX (d.size*4) (by lia);have B:eQ (d.size*4)-1+1=2^k:=by have:=sB k;lia
 obtain⟨t',b,p,g,q,r,u⟩:=Rr B T m t.finger (t.movedTo<|eQ (d.size*4)-1) t.led t.plain (d.toList.map (·.1)) (by rw[kd,lT];lia);rw[kd,lT]at g
 have er:t.relaid (d.map (·.1)) (d.size*4)=Y (t',b):=by unfold W1;rw[<-p,<-Array.toList_map]
 have f:∀i∈b.toList,i<d.size:=λi z=>um.mp<|g.mem_iff.mp z;have o:(b.filterMap (d[·]?)).toList=b.toList.filterMap (λi=>d[i]?):=by simp
 have e:(b.filterMap (d[·]?)).toList.Perm d.toList:=by rw[o];refine(g.filterMap _).trans ?_;rw[aev]
 have sz:(b.filterMap (d[·]?)).size=d.size:=by rw[<-lT,e.length_eq,lT]
 rw[y];unfold setRelay;refine iL<|rY l I x ?_;dsimp only
 have L:2^k<=sizeLine:=by have:2^k<=2^11:=xg (by decide) m;rw[kK];lia
 rw[jr<|by rw[v];lia,er];refine iL ?_;change ae _ _ (if((b.filterMap (d[·]?)).size !=d.size)=J then _ else _) _ _ _;rw[jr<|by rw[sz];simp];refine ja ?_;dsimp only;refine u8 l I ?_ (by rw[sz,kK];lia);refine h _ (b.filterMap (d[·]?)) (n+1) t' (qW s.heap a _) (El l) e ?_ r u;rw[o,RI _ f];exact q
def tw{b:Type}(a:Array b)(p:Nat)(x:b):(aG a p x).toList.Perm (x::a.toList):=by rw[mF];refine Pl.trans ?_;rw[si]
def UC{a:rV}{t:mP}{h:Int}{m:Nat}(x:iQ)(f:Bs (a.toList.map (·.1)) t)(v:t.plain=J)(h1:(pr t.mask h m).j∉t.place.toList)(y:∀i,i<m->(pr t.mask h i).j∈t.place.toList):
  ∃p o,aG a (t.put (pr t.mask h m).j).2 (h,x)=p/\(t.put (pr t.mask h m).j).1=o/\p.size=a.size+1/\o.plain=J/\o.led=t.led/\p.toList.Perm ((h,x)::a.toList)/\o.fits p.size=J/\(o.tooFull=J->5<=p.size)/\(o.tooFull=C->Bs (p.toList.map (·.1)) o):=by
 have q:(t.put (pr t.mask h m).j).1={t with place:=aG t.place (ai t.place (pr t.mask h m).j) (pr t.mask h m).j,dummies:= #[]}:=by unfold oC;dsimp only;rw[f.dum,DL];rfl
 have r:(aG a (t.put (pr t.mask h m).j).2 (h,x)).size=a.size+1:=by rw[<-lT,(tw a _ _).length_eq,kP,lT]
 have d:a.toList.length=a.size:=lT;have l:=f.len;rw[kd,d]at l
 have g:(t.put (pr t.mask h m).j).1.place.size=a.size+1:=by rw[q];show(aG t.place _ _).size=_;rw[<-lT,(tw t.place _ _).length_eq,kP,lT,l]
 have b:(t.put (pr t.mask h m).j).1.fill=a.size+1:=by unfold m8;rw[g,q];rfl
 have e:(t.put (pr t.mask h m).j).1.mask=t.mask:=by rw[q]
 have n:=f.room;rw[kd,d]at n
 have O:7<=t.mask:=by
  obtain⟨k,B,_,Q⟩:=f.pow;have:2^3<=2^k:=xg (by decide) B
  lia
 have u:(t.put (pr t.mask h m).j).1.tooFull=decide ((a.size+1)*5>=t.mask*3):=by unfold WF;rw[b,e]
 refine⟨_,_,rfl,rfl,r,by rw[q];exact v,by rw[q],tw a _ _,?_,λz=>?_,λz=>?_⟩
 .unfold m7;rw[g,r,b,e];simp only[BEq.rfl,fx,rZ];lia
 .rw[u]at z;have:=Cz z;rw[r];lia
 rw[u]at z;have:=of_decide_eq_false z;obtain⟨T,L⟩:=f.put h1 y (by rw[kd,d];lia) I I;rw[mF,oD,jP,u3,List.map_drop];exact T
def Y8{a b:iJ}{f:rV}{n:Nat}{t:mP}{h:Int}{e:Nat->Bool}(S:JM A s a f n t (.ref b) h e)(p:s.heap.get? a=A9 (kW f n t))(M:t.plain=Ap)(hz:f.size+1<=500)
  (y:∀(H:rX),H Ap s->ae (af c w) A (gP 8<|.ref b) H E s){Q:rX}
  (hold:(∃i,i<f.size/\e i=Ap)->Q AX s)
  (O:(∀i,i<f.size->e i=AX)->∀h' es' B t',ay a s.heap h'->h'.get? a=A9 (kW es' B t')->es'.toList.Perm ((h,.ref b)::f.toList)->Bs (es'.toList.map (·.1)) t'->t'.plain=Ap->t'.led=t.led->Q Ap {s with heap:=h'}):
  ae (af c w) A (Q2 a (.ref b) h) Q E s:=by
 unfold Q2 setAddHashedIn;refine mv<|iL<|rY p AM S.fits ?_;dsimp only;have F:byScan (.ref b) f=AX:=rfl;rw[F];simp only[ku,↓reduceIte]
 have V:t.mask+1<=2048:=by
  obtain⟨k,_,J,R⟩:=S.tab.pow;have:2^k<=2^11:=xg (by decide) J
  lia
 refine iL<|ye S (adding:=Ap) (λi r h1 x _ _=>?_) (λI m h1 x=>?_) 100000 0 AR AM (λq W=>by lia) (by lia) (by lia)
 .dsimp only;exact ja<|hold ⟨i,x,h1⟩
 dsimp only;refine iL<|rY p AM S.fits ?_;dsimp only;obtain⟨L,C,K,P,v,u,d,T,g,z,j⟩:=UC (.ref b) S.tab M h1 x;rw[K,P,jb u];refine iL<|y _ ?_;simp only[↓reduceIte];refine iL<|u8 p AM ?_ (by rw[v,kK];lia);have G:=El (es':=L) (t':=C) p;have o:=qW s.heap a (nb L C)
 cases l:C.tooFull with
 |true=>simp only[gL,gS,↓reduceIte];rw[<-v];refine iL<|aeR G g (z l) (by rw[v];lia) λh' es' B t' g1 g2 N U Y D=>?_;exact ja<|O I h' es' B t' (o.trans g1) g2 (N.trans T) U (by rw[Y];exact u) (by rw[D];exact d)
 |false=>simp only[eS,ku,↓reduceIte];exact ja<|O I _ _ _ _ o G T (j l) u d
def YA(S:JM A s a d n t (.ref b) h eqs)(o:s.heap.get? a=Y (kW d n t))
  (h1:∀i,i<d.size->eqs i=J->Q (Y i) s)(l:(∀i,i<d.size->eqs i=C)->Q U s):ae (af c w) A (setFind a (.ref b) h) Q E s:=by
 unfold setFind setFindIn;refine iL<|rY o I S.fits ?_;dsimp only;have j:byScan (.ref b) d=C:=rfl;rw[j];simp only[ku,↓reduceIte]
 have u:t.mask+1<=2048:=by
  obtain⟨k,_,f,p⟩:=S.tab.pow;have:2^k<=2^11:=xg (by decide) f
  lia
 refine iL<|ye S (adding:=C) (λi r g1 g2 _ g=>?_) (λe m _ _=>?_) 100000 0 U I (λq v=>by lia) (by lia) (by lia)
 .rw[g I];exact ja<|h1 i g2 g1
 exact ja (l e)
end
end TT
namespace PX
open L2 PySem.SeqAt TS
def D.JH:∀l:List D,D.Fp l=l.map D.hash:=by
 intro b
 induction b with
 |nil=>rw[D.Fp];rfl
 |cons d l a=>rw[D.Fp,a];rfl
def MV:∀{l:List D}{d:D},D.Hs l=J->d∈l->D.pr d=J:=by
 intro c
 induction c with
 |nil=>intro d _ h;simp at h
 |cons e l b=>
  intro d a h;rw[D.Hs,lg]at a;rcases kM.mp h with rfl|h
  .exact a.1
  exact b a.2 h
def AH:∀{l:List D}{d:D},d∈l->d.dep<=D.Bp l:=λ{l d} h=>by obtain⟨j,a⟩:=se h;exact D.EI a
section
variable {X:Cx}{f:jG}{g:L2.St}{H:Hp}{s:iN}
def Hv(X:Cx)(H:Hp)(O:B2)(c:List D)(b:jN):Prop:= ∃a,AG X.K H O c a/\Vals a b
def Hv.cons(h:Hv X H O (d::ds) (v::c)):(∃x,Rep X.K H O d x/\RelV x v)/\Hv X H O ds c:=by
 obtain⟨k,r,vs⟩:=h;rw[AG]at r;obtain⟨x,j,rfl,e,i⟩:=r
 cases vs with
 |cons a b=>exact⟨⟨x,e,a⟩,j,i,b⟩
def Hv.nil_of{O:B2}{a:List D}(h:Hv X H O a []):a=[]:=by
 obtain⟨c,r,b⟩:=h;cases b
 cases a with
 |nil=>rfl
 |cons d a=>rw[AG]at r;obtain⟨_,_,e,_⟩:=r;cases e
def Hv.cons_of(h:Hv X H O a (v::e)):∃d b,a=d::b:=by
 cases a with
 |nil=>obtain⟨i,r,c⟩:=h;rw[AG]at r;subst r;cases c
 |cons d a=>exact⟨d,a,rfl⟩
def Od:∀(n:Nat){s:iN}(I:Inv X f g H s)(d:D)(v:V)(u:iQ)(O:B2)(A:jh)(E:jy)(Q:Int->Shared->Prop),Rep X.K H O d v->RelV v u->D.pr d=J->d.dep<=n->A.units+n<aP->(∀j,s.toks<=j->Q d.hash {s with toks:=j})->
  ae (af X.prog X.w) A (pyHash u) Q E s:=by
 intro n
 induction n with
 |zero=>
  intro s I d v u O A E Q c T p hd S z
  cases d with
  |int i=>have:=c.int;subst this;obtain⟨t,rfl⟩:=T;have:=z (s.toks+1)<|zm _;rw[D.hash]at this;exact Gp this
  |tup l=>rw[D.dep]at hd;lia
  |_=>simp[D.pr]at p
 |succ n ih=>
  intro s I d v u O A E Q c T p hd S z
  cases d with
  |int i=>have:=c.int;subst this;obtain⟨t,rfl⟩:=T;have:=z (s.toks+1)<|zm _;rw[D.hash]at this;exact Gp this
  |tup l=>
   rw[D.pr]at p;rw[D.dep]at hd;obtain⟨a,xs,rfl,q,r⟩:=c.tup;cases T;obtain⟨b6,vs,⟨o,Y,W,nn,P⟩,_⟩:=I.tuple q.sq;have B:s.TypeIs (.ref a) "tuple":=⟨o,Y,W⟩
   have Z:A.units<cLine:=by lia
   unfold pyHash;unfold pyHashByItsType;refine iL<|wpAny_cRoomFor_or (.inr Z) ?_;refine iL<|uO B Hz.lookup ?_;show ae _ _ (if(A9 (cc "tuple.__hash__")==A9 ao)=J then _ else _) Q E s;rw[jr<|by rw[w4];exact lG];refine iL<|uO B Hz.lookup ?_;show ae _ _ (callSpecialIfBoundUnlessNone? (.ref a) "__hash__" _>>=_) Q E s;refine iL<|wpAny_callSpecialIfBoundUnlessNone?_slot B Hz<|pO Hz B PySem.F.entry_tuple_hash ?_<|PySem.F.args_tuple_hash_1 _;show ae _ _ (cJ (.ref a)>>=_) _ _ s;refine iL<|wpAny_tupleItemsOf Y P ?_;refine iL ?_;rw[<-Cy]
   refine xo _
    (λm (b:Array Int) J'=>∃done left,l=done++left/\Hv X H (λa=>O a) left m/\b.toList=done.map D.hash/\∃j,s.toks<=j/\J'={s with toks:=j})
    _ ?_ ?_ _ _ ⟨[],l,rfl,⟨xs,r,by simpa using vs⟩,rfl,s.toks,kc _,rfl⟩
   .rintro x m b J' ⟨done,left,rfl,L,C',j,G,rfl⟩;obtain⟨d,left,rfl⟩:=L.cons_of;obtain⟨⟨y,h1,R⟩,N⟩:=L.cons;have U:d∈done++d::left:=by simp
    have dF:=AH U;refine iL<|ih (I.kept (h':=s.heap) (t':=j) λ_ _ e=>e) d y x O A.in1 E _ h1 R (MV p U) (by lia) (by show A.units+1+n<aP;lia) λM k=>?_
    first
     |exact ja ⟨done++[d],left,by simp,N,by simp[C'],M,lC G k,rfl⟩
     |exact iL<|ja<|ja ⟨done++[d],left,by simp,N,by simp[C'],M,lC G k,rfl⟩
   rintro b J' ⟨done,left,rfl,L,C',j,G,rfl⟩;have:=L.nil_of;subst this;have h:=z (j+1)<|Nat.le_succ_of_le G;rw[D.hash,D.JH,uE]at h;show ae _ _ (retInt<|aZ b.toList) _ _ _;rw[C'];refine wpAny_ret_mkInt ?_;show ae _ _ (if(decide (-(2:Int)^63<=aZ (done.map D.hash))&&decide (aZ (done.map D.hash)<2^63))=J then _ else _) Q E _;unfold reduceHash at h;by_cases c:(decide (-(2:Int)^63<=aZ (done.map D.hash))&&decide (aZ (done.map D.hash)<2^63))=J
   .rw[jb c];rw[jb c]at h;exact ja h
   rw[jr c];rw[jr c]at h;exact iL<|uC<|ja h
  |_=>simp[D.pr]at p
def N9{P:jm}{W:je}{F:Nat->iQ->d7 Bool}{c:Bool}(I:Inv X f g H s)(p:∀n i t,F n (.int i t)=pure c)
  (U:∀(n:Nat)(a:iJ)(o:fD)(e:jN)(m:Nat)(A:jh)(E:jy)(Q:rX),s.heap.get? a=A9 o->s.TypeIs (.ref a) "tuple"->o.data=.seq e.toArray m->
   (∀u∈e,∀Q:Bool->Shared->Prop,Q c s->ae (af P W) A (F n u) Q E s)->Q c s->ae (af P W) A (F (n+1)<|.ref a) Q E s):∀(n:Nat)(d:D)(v:V)(u:iQ)(O:B2)(A:jh)(E:jy)(Q:rX),Rep X.K H O d v->RelV v u->D.pr d=Ap->d.dep<=n->Q c s->ae (af P W) A (F n u) Q E s:=by
 intro n
 induction n with
 |zero=>
  intro d v u O A E Q j k b hd h
  cases d with
  |int i=>have:=j.int;subst this;obtain⟨t,rfl⟩:=k;exact vL (p _ _ _) h
  |tup l=>rw[D.dep]at hd;omega
  |_=>simp[D.pr]at b
 |succ n ih=>
  intro d v u O A E Q j k b hd h
  cases d with
  |int i=>have:=j.int;subst this;obtain⟨t,rfl⟩:=k;exact vL (p _ _ _) h
  |tup l=>rw[D.pr]at b;rw[D.dep]at hd;obtain⟨a,T,rfl,q,r⟩:=j.tup;cases k;obtain⟨e,C,⟨o,z,J,m,G⟩,_⟩:=I.tuple q.sq;refine U n a o e m A E Q z ⟨o,z,J⟩ G (λu Y Q N=>?_) h;obtain⟨i,x⟩:=se Y;have l1:=C.length;have l2:=r.length;have S:=(tM.mp x).1;have B:T[i]?=A9 T[i]:=jT (by omega);have M:l[i]?=A9 l[i]:=jT (by omega);obtain⟨w,L,R⟩:=C.get B;rw[x]at L;cases L;have y:l[i]∈l:=za _;have Z:=AH y;exact ih _ _ _ O A E Q (r.views M B) R (MV b y) (by omega) N
  |_=>simp[D.pr]at b
def Yq(T:Inv X f g H s):=N9 (P:=X.prog) (W:=X.w) (F:=gP) (c:=J) T (λn i t=>by simp[gP]) λn a o j v A E Q q p l r m=>by
 unfold gP;refine iL<|uO p Hz.lookup ?_;dsimp only;refine iL<|qX q l ?_;refine iL ?_;show ae _ _ (forIn j.toArray _ _) _ _ s;rw[<-Cy];refine xo _ (λb k e=>k.1=U/\e=s/\∀u∈b,u∈j) _ ?_ ?_ _ _ ⟨rfl,rfl,by simp⟩
 .rintro x b k e ⟨d,rfl,hm⟩;refine iL<|r x (hm x jW) _ ?_;simp -iota only[rG,ku,kR];exact ja ⟨rfl,rfl,λu h=>hm u<|jU _ h⟩
 rintro⟨y,z⟩ e ⟨d,rfl,_⟩;simp only at d;subst d;exact ja m
def Qf{P:jm}{W:je}(T:Inv X f g H s):=N9 (P:=P) (W:=W) (F:=wS) (c:=J) T (λn i t=>eqIsQuiet_byValue n I) λn a o j v A E Q q k m r p=>by
 unfold wS;refine iL<|uO k PySem.F.slot_tuple_eq.lookup ?_;show ae _ _ (tz (.ref a) (.type "tuple")>>=_) _ _ s;refine iL<|xt k isSubtype_tuple_tuple ?_;simp -iota only[rG,ku,kR];refine iL<|qX q m ?_;refine iL ?_;show ae _ _ (forIn j.toArray _ _) _ _ s;rw[<-Cy];refine xo _ (λb l e=>l.1=U/\e=s/\∀u∈b,u∈j) _ ?_ ?_ _ _ ⟨rfl,rfl,by simp⟩
 .rintro x b l e ⟨d,rfl,hm⟩;refine iL<|r x (hm x jW) _ ?_;simp -iota only[rG,ku,kR];exact ja ⟨rfl,rfl,λu h=>hm u<|jU _ h⟩
 rintro⟨w,y⟩ e ⟨d,rfl,_⟩;simp only at d;subst d;exact ja p
def adz{P:jm}{W:je}(T:Inv X f g H s):=N9 (P:=P) (W:=W) (F:=ek) (c:=C) T (λn i t=>by simp[ek]) λn a o j v A E Q q p l r m=>by
 unfold ek;refine iL<|vM p ?_;dsimp only;rw[jb<|by decide];refine iL<|ja ?_;simp -iota only[rG,ku,kR];refine iL<|qX q l ?_;dsimp only;refine iL ?_;show ae _ _ (forIn j.toArray _ _) _ _ s;rw[<-Cy];refine xo _ (λb k e=>k.1=U/\e=s/\∀u∈b,u∈j) _ ?_ ?_ _ _ ⟨rfl,rfl,by simp⟩
 .rintro x b k e ⟨d,rfl,hm⟩;refine iL<|r x (hm x jW) _ ?_;simp -iota only[ku,kR];exact ja ⟨rfl,rfl,λu h=>hm u<|jU _ h⟩
 rintro⟨w,y⟩ e ⟨d,rfl,_⟩;simp only at d;subst d;exact ja m
end
end PX
namespace TT
open PySem.SeqAt
def abh:g7 vv "set.__iter__"=Y aY.«frozenset.__iter__»:=IR (id':="frozenset.__iter__") (by kernel_rfl) I (by decide+kernel) (by kernel_rfl)
def vo:Slot "set_iterator" "__next__" "set_iterator.__next__":=.of (owner:="set_iterator") (n:="__next__") (by rw[FG,FF];kernel_rfl) (by decide+kernel) (by decide+kernel) (by decide+kernel) (by first|exact .inl (by decide+kernel)|exact .inr<|by decide+kernel) (by rw[FE];kernel_rfl)
def vX:Slot "set_iterator" "__iter__" "set_iterator.__iter__":=.of (owner:="set_iterator") (n:="__iter__") (by rw[FG,FF];kernel_rfl) (by decide+kernel) (by decide+kernel) (by decide+kernel) (by first|exact .inl (by decide+kernel)|exact .inr<|by decide+kernel) (by rw[FE];kernel_rfl)
def abE:g7 vv "set_iterator.__next__"=Y aY.«set_iterator.__next__»:=entryFor_of_fast (by kernel_rfl)
def abF:g7 vv "set_iterator.__iter__"=Y aY.«dict_keyiterator.__iter__»:=IR (id':="dict_keyiterator.__iter__") (by kernel_rfl) I (by decide+kernel) (by kernel_rfl)
def abM(a:iQ):hH "set_iterator.__next__" ⟨[a],[]⟩:=by unfold hH;kernel_rfl
def abN(a:iQ):hH "set_iterator.__iter__" ⟨[a],[]⟩:=by unfold hH;kernel_rfl
theorem rO{a:Type}:∀(l:List a){i:Nat}(h:i<A2 l),(l[i]::l.eraseIdx i).Perm l
 |x::l,0,_=>by simp
 |x::l,i+1,h=>by have:=rO l (i:=i) (by simpa using h);simp only[List.getElem_cons_succ,List.eraseIdx_cons_succ];exact(i5 x _ _).trans (i7 x this)
def abY{c:Type}(next:Nat->Nat):∀(a k:Nat)(left:List c)(out:Array c),A2 left<=a->(pickOrder.go next a k left out).toList.Perm (out.toList++left):=by
 intro e
 induction e with
 |zero=>intro k left out h;have:left=[]:=Pq.mp (by lia);subst this;unfold pickOrder.go;simp
 |succ a d=>
  intro k left out h;unfold pickOrder.go
  cases left with
  |nil=>simp
  |cons y l=>have b:next k%(y::l).length<(y::l).length:=xh _ (by simp);rw[jT b];dsimp only;refine(d (k+1) _ _ (by rw[yZ,jb b];simp at h ⊢;lia)).trans ?_;rw[mj,qh];refine Le _ ?_;exact rO _ b
def zQ{b:Type}(next:Nat->Nat)(a:Array b):(gO next a).toList.Perm a.toList:=by unfold gO;have:=abY next a.size 0 a.toList #[] (by simp);simpa using this
noncomputable def qO(w:je)(a:iJ)(n:Nat)(b:rV):Array (Int×iQ):=if w.params.followText "set-order"=J then gO (w.params.setOrder a n) b else b
def Fv(w:je)(a:iJ)(n:Nat)(b:rV):(qO w a n b).toList.Perm b.toList:=by
 unfold qO;split
 .exact zQ _ _
 exact uR _
def vg(w:je)(a:iJ)(n:Nat)(b:rV):(qO w a n b).size=b.size:=by rw[<-lT,(Fv w a n b).length_eq,lT]
noncomputable def HP(t:mP):Nat->Nat
 |0=>0
 |i+1=>t.place.getD i 0+1
def nB(w:je)(t:mP)(i:Nat):Nat:=if w.params.followText "set-order"=J then 0 else HP t i
structure D2(w:je)(h:jg)(a:iJ)(es:rV)(n:Nat)(t:mP):Prop where
 at_:h.get? a=A9 (kW es n t)
 tab:Bs (es.toList.map (·.1)) t
 plain:t.plain=Ap
 led:t.led=!w.params.followText "set-order"
def Dv(w:je)(h:jg)(it a:iJ)(t:mP)(size n i:Nat):Prop:= ∃o,h.get? it=Y o/\o.cls=.type "set_iterator"/\o.data=.fields #[.int (nB w t i) 0,.int i 0,.ref a,.int size 0,.int n 0]
section
variable {prog:jm}{w:je}{A:jh}{E:jy}{s:iN}
def D2.fits{h a b n t}(S:D2 w h a b n t):t.fits b.size=J:=IK S.tab (by simp)
def ac2(c:t.place.toList.Pairwise (· < ·))(j:i<=t.place.size):ai t.place (HP t i)=i:=by
 cases i with
 |zero=>
  obtain⟨h1,a,_⟩:=pF c 0
  cases g:ai t.place 0 with
  |zero=>exact g
  |succ k=>
   have h:0<t.place.size:=by lia
   have:=a 0 _ (by lia) (qe h)
   lia
 |succ i=>
  have hd:t.place.getD i 0=t.place[i]:=by simp[gE,show i<t.place.size by lia]
  show ai t.place (t.place.getD i 0+1)=i+1;rw[hd];have e:t.place[i]?=Y t.place[i]:=qe (by lia);obtain⟨h1,a,f⟩:=pF c<|t.place[i]+1;by_cases l:ai t.place (t.place[i]+1)<i+1
  .have:=f i _ (by lia) e;lia
  by_cases b:i+1<ai t.place (t.place[i]+1)
  .have d:t.place[i+1]?=Y t.place[i+1]:=qe (by lia);have:=a (i+1) _ b d;have:=Dm c (CU i) e d
   lia
  lia
def acu{a:iJ}{b:rV}{n:Nat}{t:mP}(S:D2 w s.heap a b n t){i:Nat}(q:i<=b.size){Q:Option (iQ×Nat)->Shared->Prop}
  (h1:∀e,(qO w a n b)[i]?=Y e->Q (Y (e.2,nB w t<|i+1)) s)(h:i=b.size->Q U s):ae (af prog w) A (setNext a (nB w t i) i n) Q E s:=by
 have p:=S.tab.len;rw[kd,lT]at p;unfold setNext;refine iL<|rY S.at_ I S.fits ?_;dsimp only;unfold tv;refine iL<|iL<|xw<|ja ?_;by_cases c:w.params.followText "set-order"=J
 .have f:(af prog w).w.params.followText "set-order"=J:=c;rw[jb f,jr<|by simp];unfold setWalk tv;refine iL<|iL<|rY S.at_ I S.fits ?_;dsimp only;refine iL<|iL<|xw<|ja ?_;rw[jb f];refine iL<|xw<|ja<|ja ?_;have g:qO w a n b=gO (w.params.setOrder a n) b:=by unfold qO;rw[jb c]
  have d:∀k,nB w t k=0:=λk=>by unfold nB;rw[jb c]
  show Q (((gO (w.params.setOrder a n) b)[i]?).map λe=>(e.2,nB w t i)) s;rw[<-g];rw[d]at h1;rw[d]
  cases j:(qO w a n b)[i]? with
  |some e=>exact h1 e j
  |none=>have:=Wd.mp j;rw[vg]at this;exact h (by lia)
 have f: ¬(af prog w).w.params.followText "set-order"=J:=c;rw[jr f];change ae _ _ (if(!t.plain&&decide (b.size>1))=J then _ else _) _ _ _;rw[jr<|by rw[S.plain];simp];have m:t.led=J:=by rw[S.led];simpa using c
 refine iL ?_;change ae _ _ (if(!t.led&&!b.isEmpty)=J then _ else _) _ _ _;rw[jr<|by rw[m];simp];refine ja ?_;have g:qO w a n b=b:=by unfold qO;rw[jr c]
 have d:∀k,nB w t k=HP t k:=λk=>by unfold nB;rw[jr c]
 have l:ai t.place (nB w t i)=i:=by rw[d];exact ac2 S.tab.ris (by lia)
 rw[l];rw[g]at h1;by_cases o:i<b.size
 .have g1:b[i]?=Y b[i]:=qe o;have g2:t.place[i]?=Y t.place[i]:=qe (by lia);rw[g1,g2];have:=h1 b[i] g1;rw[d]at this;rw[show HP t (i+1)=t.place.getD i 0+1 from I]at this;have hd:t.place.getD i 0=t.place[i]:=by simp[gE,show i<t.place.size by lia]
  rw[hd]at this;exact ja this
 rw[CC<|by lia];exact ja<|h (by lia)
def D2.typeIs{a b n t}(S:D2 w s.heap a b n t):s.TypeIs (.ref a) "set":=⟨_,S.at_,rfl⟩
def Dv.typeIs{it a t z n i}(S:Dv w s.heap it a t z n i):s.TypeIs (.ref it) "set_iterator":=let⟨o,c,b,_⟩:=S;⟨o,c,b⟩
def aeS(S:D2 w s.heap a d n t)
  (f:∀c,Dv w c s.heap.objs.size a t d.size n 0->(∀b o,s.heap.get? b=Y o->c.get? b=Y o)->c.objs.size=s.heap.objs.size+1->Q (.ref s.heap.objs.size) {s with heap:=c}):
  ae (af prog w) A (c6<|.ref a) Q E s:=by
 refine FD S.typeIs Ld<|pO Ld S.typeIs abh ?_<|PySem.F.args_set_iter_1 _;unfold aY.«frozenset.__iter__» q7 G1;simp -iota only[d1,rG,ku,↓reduceIte,uY,rE,sH];unfold eV q9;refine iL<|ja ?_;dsimp only;refine iL<|ja ?_;refine iL<|iL<|Lc S.at_ I S.fits<|ja ?_;unfold setDrawn tv;refine iL<|iL<|rY S.at_ I S.fits ?_;dsimp only;refine iL<|iL<|xw<|ja ?_;refine ja ?_;change ae _ _ (if(!w.params.followText "set-order"&&(!t.plain&&decide (d.size>1)))=J then _ else _) _ _ _;rw[jr<|by rw[S.plain];simp];refine iL<|ja ?_;unfold setEpoch;refine iL<|iL<|rY S.at_ I S.fits<|ja ?_;refine iL<|oi<|ja ⟨_,rfl,"set_iterator",_,⟨_,kE _ rfl,rfl⟩,vo.lookup,?_⟩;refine f _ ⟨_,kE _ rfl,rfl,?_⟩ (λb o e=>ke _ e) (qg _ _);have:nB w t 0=0:=by unfold nB;split<;>rfl
 rw[this];rfl
def EG(u:A.handled=U){it a:iJ}{c:rV}{n:Nat}{t:mP}(S:D2 w s.heap a c n t){i:Nat}(g:Dv w s.heap it a t c.size n i)(v:i<=c.size){Q:Bw}
  (q:∀e,(qO w a n c)[i]?=Y e->∀d,Dv w d it a t c.size n (i+1)->ay it s.heap d->Q (Y e.2) {s with heap:=d})
  (p:i=c.size->∀d,eR it s.heap d->Q U {s with heap:=d}):ae (af prog w) A (cw<|.ref it) Q E s:=by
 obtain⟨o,f,r,hd⟩:=id g;unfold cw;refine iL<|sv<|sM (name:=bS "__next__") g.typeIs vo<|pO vo g.typeIs abE ?_<|abM _;unfold aY.«set_iterator.__next__» G1;simp -iota only[d1,rG,ku,↓reduceIte,uY,rE,sH];refine iL<|ja ?_;unfold fieldsOf;dsimp only;simp -iota only[uY];refine iL<|C6 f ?_;rw[hd];refine iL<|ja ?_;dsimp only;refine iL<|Lc S.at_ I S.fits ?_;rw[jr<|by simp];have h1:((nB w t i:Nat):Int).toNat=nB w t i:=uZ _;have k:((i:Nat):Int).toNat=i:=uZ _;have l:((n:Nat):Int).toNat=n:=uZ _;rw[h1,k,l];refine iL<|acu S v (λy j=>?_) λz=>?_
 .dsimp only;refine iL<|uV f hd (by simp) ?_;have h:=sL (gV λx=>x.setIfInBounds 0<|ce<|nB w t<|i+1) f<|CQ<|uA hd _;refine iL<|uV h (uA hd _) (by simp)<|ja ⟨_,rfl,ja<|q _ j _ ?_ ((qW ..).trans (qW ..))⟩;refine⟨_,sL _ h (CQ<|uA (uA hd _) _),?_,?_⟩
  .rw[CP,CP];exact r
  rw[uA<|uA hd _];simp[ce]
 dsimp only;refine iL<|uV f hd (by simp) ?_;show ae _ _ (mA (.type "StopIteration") []>>=_) _ _ _;refine iL ?_;simp -iota only[mA,pp];refine iL<|oi ?_ (by size_fits);refine iL (m:=cK _ _)<|vL (a:=ao) (by first|rfl|(simp -iota only[cK];rfl)) ?_;refine oi ?_ (by size_fits);simp -iota only[Ix];refine iL<|F4 ?_;rw[show A.in1.handled=U from u];refine iL<|ja<|F3 ?_;refine iL<|xt (T:="StopIteration") (b:=J) ⟨_,kE _ rfl,rfl⟩ CM ?_;exact ja<|p z _ (((qW ..).extBut.push _).push _)
def ac7(b:Dv w s.heap it a t z n i)(c:Q (.ref it) s):ae (af prog w) A (c6<|.ref it) Q E s:=by refine FD b.typeIs vX<|pO vX b.typeIs abF ?_<|abN _;unfold aY.«dict_keyiterator.__iter__» G1;simp -iota only[d1,rG,ku,↓reduceIte,uY,rE,sH];exact iL<|ja<|ja ⟨_,rfl,"set_iterator",_,b.typeIs,vo.lookup,c⟩
def D2.Bm{a b n t}(S:D2 w h a b n t)(k:∀o,h.get? a=Y o->c.get? a=Y o):D2 w c a b n t:=⟨k _ S.at_,S.tab,S.plain,S.led⟩
def adR(k:A.handled=U)(T a:iJ)(x:T≠a)(f:rV)(n:Nat)(t:mP):
  Wp prog w A T [T,a] [T] f.size (λi v=>∃e,(qO w a n f)[i]?=Y e/\v=e.2) (λi h=>Dv w h T a t f.size n i/\D2 w h a f n t) where
 sub:=λb c=>by simp at c;simp[c]
 frame:=λ_ _ _ st hk=>⟨(by obtain⟨o,h1,q⟩:=st.1;exact⟨o,hk T (by simp) o h1,q⟩),st.2.Bm λo e=>hk a (by simp) o e⟩
 item:=λi s Q E l st d=>by refine EG k st.2 st.1 (vO l) (λe u g m j=>?_) λz=>absurd z<|kF l;exact d _ g s.toks ⟨_,u,rfl⟩ ⟨m,st.2.Bm λo e=>j.extBut a o (λh=>x h.symm) e⟩ λb o c e=>j.extBut b o (λh=>c<|by simp[h]) e
 done:=λs Q E st d=>EG k st.2 st.1 (kc _) (λe r=>absurd (KO.mp r).1<|by rw[vg];exact oX _) λ_ g p=>d g s.toks λb o c e=>p b o (λh=>c<|by simp[h]) e
 self:=λ_ _ _ _ st d=>ac7 st.1 d
def yn{T id:String}{N:Nat}{y:jN}{J:Nat->iQ->Prop}{ST:Nat->jg->Prop}(m:T="set"/\id="set.__len__"\/T="dict"/\id="dict.__len__")(cQ:a<s.heap.objs.size)(ty:∀h:Shared,(∀o,s.heap.get? a=Y o->h.heap.get? a=Y o)->h.TypeIs (.ref a) T)
  (W:Wp prog w A.in1 (s.heap.objs.size+1) [s.heap.objs.size+1,a] [s.heap.objs.size+1] N J ST)(hn:N<=sizeLine)(hv:∀i v,J i v->y[i]?=Y v)(hl:(A2 y)=N)
  (H:∀(l:fD)(G:jy),(∀p,ST 0 p->(∀b o,(s.heap.push l).get? b=Y o->p.get? b=Y o)->G (.ref<|s.heap.objs.size+1) {s with heap:=p})->ae (af prog w) A.in1 (c6<|.ref a) G E {s with heap:=s.heap.push l})
  (hQ:∀u tk,(∀b o,s.heap.get? b=Y o->u.get? b=Y o)->Q y {s with heap:=u,toks:=tk}):ae (af prog w) A (gm<|.ref a) Q E s:=by
 have B:a≠s.heap.objs.size:=kF cQ;have t:s.heap.objs.size≠s.heap.objs.size+1:=kF<|CU _;unfold gm;refine iL<|F5<|qf PySem.F.entry_proto_collect ?_;rw[uB PySem.F.plain_proto_collect _];show ae _ A.in1 (v8 []>>=λl=>again<|.builtin "list.__iadd__" ⟨[l,.ref a],[]⟩) _ _ s;refine iL<|oi ?_;refine ja ⟨sy Lb _,qf PySem.F.entry_list_iadd ?_⟩;rw[uB Lb _];show ae _ A.in1 (fv (.ref s.heap.objs.size) (.ref a)<|.ref s.heap.objs.size) _ _ _;generalize q:({cls:=.type "list",data:=.seq ([]:List iQ).toArray}:fD)=O;unfold fv;refine iL<|vM (T:=T) (s:={s with heap:=s.heap.push O}) (ty _ λo e=>ke _ e) ?_;have h1:fR (.ref s.heap.objs.size) (.ref a)=AX:=by simp only[fR,yq];exact B.symm
 have p:(b3 T==b3 "list")=AX:=by rcases m with⟨rfl,_⟩|⟨rfl,_⟩<;>decide
 have Z:(b3 T==b3 "tuple")=AX:=by rcases m with⟨rfl,_⟩|⟨rfl,_⟩<;>decide
 simp -iota only[h1,p,Z,u6,ku,kR];refine iL<|H O _ λg P L=>?_;have C:dL {s with heap:=g} (.ref a) T:=ty _ λo e=>L _ _ (ke _ e);refine iL<|mv<|oj (Q:=λr h=>r=AX/\h={s with heap:=g}) ?_ (λr h ⟨e1,e2⟩=>?_) λ_ _ z=>z
 .unfold aa9;refine iL<|uO (s:={s with heap:=g}) C (r:=Y<|.builtin id) (by rcases m with⟨rfl,rfl⟩|⟨rfl,rfl⟩<;>first|exact PySem.F.slot_set_len.lookup|exact PySem.F.slot_dict_len.lookup) ?_;dsimp only;rw[show splitId id=Y (T,"__len__")from by rcases m with⟨rfl,rfl⟩|⟨rfl,rfl⟩<;>decide+kernel];dsimp only;refine iL<|xt (s:={s with heap:=g}) (b:=Ap) C (by rw[FE];rcases m with⟨rfl,_⟩|⟨rfl,_⟩<;>kernel_rfl) ?_;simp -iota only[rG,ku,kR];change ae _ _ (if _=Ap then _ else _) _ _ _;rw[jb (by rcases m with⟨_,rfl⟩|⟨_,rfl⟩<;>decide+kernel)];refine iL<|vM (s:={s with heap:=g}) C ?_;dsimp only;exact ja ⟨rfl,rfl⟩
 subst e1 e2;change ae _ _ (if _=Ap then _ else _) _ _ _;rw[jb (by rcases m with⟨rfl,_⟩|⟨rfl,_⟩<;>decide+kernel)];refine iL<|uC ?_;have c:g.get? s.heap.objs.size=Y O:=L _ _ (kE _ (by subst q;rfl));subst q;refine iL ?_;show ae _ A.in1 (updateSeq s.heap.objs.size (·.push .none)>>=λ_=>updateSeq s.heap.objs.size (·.pop)) _ _ _;refine iL<|z7 (s:={s with heap:=g}) c I ?_;have d:=sL (bb (·.push ao)) c I;refine z7 d I ?_;have k:=sL (bb (·.pop)) d I
 have B4:∀b o,b≠s.heap.objs.size->g.get? b=Y o->((g.update s.heap.objs.size (bb (·.push ao))).update s.heap.objs.size (bb (·.pop))).get? b=Y o:=
  λb o f e=>(CY _ _ (oF f)).trans<|(CY _ _ (oF f)).trans e
 refine ja ⟨sy PySem.F.plain_extend_loop _,?_⟩;refine codeAny_extend_loopS W.toS hn s.heap.objs.size (by simp -iota only[kM,lN,mC,pN];exact⟨t,B.symm⟩) _ N 0 _ _ _ rfl (mV _) (W.frame _ _ _ P λb f o e=>B4 b o (by simp at f;rcases f with rfl|rfl<;>first|exact t.symm|exact B) e) k (ItemsOf.nil _) λh I' c' x Y' n4=>?_;show ae _ A (load s.heap.objs.size>>=_) _ _ h;refine iL<|C6 Y' ?_;obtain⟨u,X,K,U,D⟩:=h;have S:X=s.gens:=x.gens;have R:K=s.drawn:=x.drawn;have V:D=s.os:=x.os;subst S;subst R;subst V
 have n:I'.toList=y:=by
  obtain⟨a1,M⟩:=n4;refine zi λj=>?_;rw[nu]
  cases e:I'[j]? with
  |some v=>exact(hv j v<|M j v e).symm
  |none=>rw[List.getElem?_eq_none_iff.mpr];rw[hl,<-a1];exact Wd.mp e
 refine ja ?_;show Q I'.toList _;rw[n];refine hQ u U λb o e=>?_;have f:=km e;exact x.heap b o (by simp -iota only[kM,lN,mC,pN];exact⟨kF f,kF<|uX f⟩)<|B4 b o (kF f)<|L _ _ (ke _ e)
def RZ(r:A.handled=U)(S:D2 w s.heap a c n t)(u:c.size<=sizeLine)
  (p:∀h x,(∀b o,s.heap.get? b=Y o->h.get? b=Y o)->Q ((qO w a n c).toList.map (·.2)) {s with heap:=h,toks:=x}):ae (af prog w) A (gm<|.ref a) Q E s:=by
 have f:a<s.heap.objs.size:=km S.at_;refine yn (.inl ⟨rfl,rfl⟩) f (λz k=>(S.Bm k).typeIs) (adR (by show A.handled=U;exact r) (s.heap.objs.size+1) a (pP<|uX f) c n t) u (λi v ⟨e,q,hv⟩=>?_) (by rw[kd,lT,vg]) (λl y k=>?_) p
 .rw[kS,nu,q,hv];rfl
 have d:D2 w (s.heap.push l) a c n t:=S.Bm λo e=>ke _ e;refine aeS (s:={s with heap:=s.heap.push l}) d λm g j _=>?_;rw[show(s.heap.push l).objs.size=s.heap.objs.size+1 from qg _ _]at g ⊢;exact k m ⟨g,d.Bm λo e=>j _ _ e⟩ j
end
section
variable {a:jm}{w:je}{A:jh}{R:m9->Shared->Prop}{I:iJ}{d c:kY}{G:Array eO->Array eO->Prop}{n:Nat}{P:Nat->iQ->Prop}{St:Nat->Shared->Prop}
def aeH(W:WalksS a w A.in1 I d c G n P St)(S:iJ)(z:S∉d)(s0:iN)(j:Nat->jg->Prop)(Bm:∀i h g,j i h->(∀o,h.get? S=Y o->g.get? S=Y o)->j i g)
  (step:∀i v (f:iN) (Q:rX) (E:jy),i<n->P i v->j i f.heap->pC (S::c) G s0 f->(∀r g y,f.toks<=y->ay S f.heap g->j (i+1) g->Q r {f with heap:=g,toks:=y})->ae (af a w) A.in1 (mo S v) Q E f):
  ∀(k i:Nat)(s:iN),n-i=k->i<=n->St i s->j i s.heap->pC (S::c) G s0 s->(∀f,pC (S::c) G s0 f->j n f.heap->R (.ok<|.ret .none) f)->
   cb (af a w) A (.builtin "set.update.loop" ⟨[.ref S,.ref I],[]⟩) R s:=by
 have B:S∉c:=λh=>z<|W.sub _ h;have H:∀b∈c,b∈S::c:=λb l=>jU _ l;intro k
 induction k with
 |zero=>
  intro i s hk N x t p q;have J:i=n:=by lia
  subst J;refine qf La ?_;rw[uB FC _];show ae _ A.in1 (cw (.ref I)>>=_) _ _ s;refine iL<|W.done s _ _ x λf m=>?_;show ae _ A.in1 (ret ao) _ _ f;exact ja<|q f (Cw W.gtrans p<|m.mono H)<|Bm _ _ _ t λo e=>m.heap S o B e
 |succ k Y'=>
  intro i s hk N x t p q;have u:i<n:=by lia
  refine qf La ?_;rw[uB FC _];show ae _ A.in1 (cw (.ref I)>>=_) _ _ s;refine iL<|W.item i s _ _ u x λv f M T m=>?_;have C:=Cw W.gtrans p<|m.mono H;show ae _ A.in1 (ca [v] (mo S v)>>=_) _ _ f;refine iL<|mv<|step i v f _ _ u M (Bm _ _ _ t λo e=>m.heap S o B e) C λr g y O L U=>?_;refine ja ⟨sy FC _,Y' (i+1) _ (by lia) u (W.frame _ f _ _ T O λb l o e=>?_) U (C.then_heap O λb o l e=>?_) q⟩
  .rw[L.2 b λh:b=S=>z<|by rw[<-h];exact l];exact e
  rw[L.2 b λh:b=S=>l<|by rw[h];exact jW];exact e
end
section
variable {f:jm}{w:je}{A:jh}{E:jy}{s:iN}
def Ra(a:iQ)(h:Q₁ (.ref s.heap.objs.size) {s with heap:=s.heap.push (kW #[] 0 (.fresh 0 0 (!w.params.followText "set-order")))}):
  cb (af f w) A (.call (.builtin "set.__new__") ⟨[.type "set",a],[]⟩) (Go Q₁ E) s:=by
 refine xv ?_;show ae _ A.in1 (do c7 "set.__new__" ⟨[.type "set",a],[]⟩;again (.builtin "set.__new__" ⟨[.type "set",a],[]⟩)) _ _ s;refine iL<|vL (PySem.F.newCall_set_1 a)<|ja ⟨sy K9 _,qf PySem.F.entry_set_new ?_⟩;rw[uB K9 _];unfold aY.«set.__new__» rl;have c:=sub_set_self;obtain⟨b,g,d,e,os⟩:=s;dsimp only
 wp_walk
 refine xw<|ja ?_;dsimp only;simp only[newObj];refine iL<|UV<|ja ?_;exact ja h
noncomputable abbrev mq(w:je):SetTable:=.fresh 0 0 (!w.params.followText "set-order")
def V7{h:jg}{a:iJ}(e:h.get? a=Y (kW #[] 0 (mq w))):D2 w h a #[] 0 (mq w):=⟨e,Bs.fresh _ _ _,rfl,rfl⟩
set_option maxHeartbeats 8000000 in
def V8{l:iJ}{items:nJ}{Q:jy}(hh:A.handled=AR)(m:s.heap.IsList l items\/s.heap.IsTuple l items)(k:Nat->jg->Prop)
  (Bm:∀i h a,k i h->(∀o,h.get? s.heap.objs.size=A9 o->a.get? s.heap.objs.size=A9 o)->k i a)
  (oH:∀a,a.get? s.heap.objs.size=A9 (kW #[] 0 (mq w))->k 0 a)
  (step:∀i v (d:iN) (B:jh) (Q:rX) (E:jy),B.units<=A.units+20->items[i]?=A9 v->k i d.heap->(∀b o,s.heap.get? b=A9 o->d.heap.get? b=A9 o)->d.gens=s.gens->d.drawn=s.drawn->d.os=s.os->
   (∀r a u,d.toks<=u->ay s.heap.objs.size d.heap a->k (i+1) a->Q r {d with heap:=a,toks:=u})->ae (af f w) B (mo s.heap.objs.size v) Q E d)
  (h:∀(a:jg)(u:Nat),k items.size a->(∀b o,s.heap.get? b=A9 o->a.get? b=A9 o)->Q (.ref s.heap.objs.size) {s with heap:=a,toks:=u}):
  ae (af f w) A (call (.type "set") [.ref l]) Q E s:=by
 obtain⟨c,tl,D⟩:=LO.mro;have L:=LO.made;have l3:=LO.sub;refine xG<|xv ?_;show ae _ _ (callAny (.type "set") _) _ _ _;refine ja ⟨FY _ (by decide+kernel),qf PySem.F.entry_type_call ?_⟩;rw[ip (Lr "set" [.ref l] []) AM];have h1:=LO.notType;have h2:=LO.canCreate;have hct:=PySem.F.typeCall_set_1<|.ref l
 repeat (any_goals (first|assumption|wp_step))
 refine rL (Ra (.ref l) (E:=E) (Q₁:=λobj p=>obj=.ref s.heap.objs.size/\p={s with heap:=s.heap.push (kW #[] 0 (mq w))}) ⟨rfl,rfl⟩) λr p O=>?_
 cases r with
 |error e=>exact O
 |ok fl=>
  cases fl with
  |ret obj=>
   obtain⟨rfl,rfl⟩:=O;have Y:(s.heap.push<|kW #[] 0 (mq w)).get? s.heap.objs.size=A9 (kW #[] 0 (mq w)):=kE _ rfl;have hT:dL {s with heap:=s.heap.push (kW #[] 0 (mq w))} (.ref s.heap.objs.size) "set":=⟨_,Y,rfl⟩
   have gC:=LO.init.lookup;have hG:=LO.init.bind<|.ref s.heap.objs.size
   repeat (any_goals (first|assumption|wp_step))
   refine rL (zh (R:=Go (λr q=>r=.none/\∃a u,q={s with heap:=a,toks:=u}/\k items.size a/\(∀b o,s.heap.get? b=A9 o->a.get? b=A9 o)) E) LO.init.plain PySem.F.entry_set_init<|check_set_init_1 hT ?_) λy q C=>?_
   .obtain⟨c,hc,ol,M,V,nl,J⟩:∃c,(c="list"\/c="tuple")/\∃o,s.heap.get? l=A9 o/\o.cls=.type c/\∃n,o.data=.seq items n:=m.elim (λh=>⟨_,.inl AM,h⟩) (λh=>⟨_,.inr AM,h⟩)
    obtain⟨S,P,i8⟩:isSubtype (.type c) (.type "set")=pure AX/\isSubtype (.type c) (.type "frozenset")=pure AX/\(b3 c==b3 "dict")=AX:=by
     rcases hc with rfl|rfl
     .exact⟨PySem.F.sub_list_set,PySem.F.sub_list_frozenset,by decide⟩
     exact⟨PySem.F.sub_tuple_set,PySem.F.sub_tuple_frozenset,by decide⟩
    obtain⟨X,t,T,j⟩:=ol;simp only at V J;subst V;subst J;have K:(s.heap.push<|kW #[] 0 (mq w)).get? l=A9 {cls:=.type c,dict:=t,data:=.seq items nl,slots:=j}:=ke _ M;have U:l<s.heap.objs.size:=km M;have N:A.in1.in1.in1.handled=AR:=by simp[hh]
    have sz:(s.heap.push<|kW #[] 0 (mq w)).objs.size=s.heap.objs.size+1:=qg _ _;have G:l≠(s.heap.push<|kW #[] 0 (mq w)).objs.size:=by rw[sz];exact kF<|uX U
    have bR:s.heap.objs.size∉[(s.heap.push<|kW #[] 0 (mq w)).objs.size,l]:=by rw[sz];simp only[kM,lN,mC,pN];exact⟨kF<|CU _,pP U⟩
    obtain⟨St,W,o0,h0,H⟩:∃St,Wp f w A.in1.in1.in1 (s.heap.push<|kW #[] 0 (mq w)).objs.size [(s.heap.push<|kW #[] 0 (mq w)).objs.size,l] [(s.heap.push<|kW #[] 0 (mq w)).objs.size] items.size (λi v=>items[i]?=A9 v) St/\∃o0,St 0 ((s.heap.push<|kW #[] 0 (mq w)).push o0)/\
      ∀{Z:jh}{Q:jy}{E},Q (.ref (s.heap.push<|kW #[] 0 (mq w)).objs.size) {s with heap:=(s.heap.push<|kW #[] 0 (mq w)).push o0}->ae (af f w) Z (c6<|.ref l) Q E {s with heap:=s.heap.push (kW #[] 0 (mq w))}:=by
     rcases m with m|m
     .exact⟨_,CS N _ l G items,_,⟨⟨_,kE _ rfl,rfl,rfl⟩,(m.push _).push _⟩,λh=>xH (m.push _) h⟩
     exact⟨_,Walks.tuple N _ l G items,_,⟨⟨_,kE _ rfl,rfl,rfl⟩,(m.push _).push _⟩,λh=>Gk (m.push _) h⟩
    unfold aY.«set.__init__» noKeywords qs;generalize I:c6=PI
    wp_walk
    subst I;refine H ?_;refine iL<|F5 ?_;refine aeH W.toS s.heap.objs.size bR _ k Bm (λi v d Q' E' hi hP ie g hk=>?_) (items.size-0) 0 _ (by lia) (mV _) h0 (oH _ (ke _ Y)) (w9 λ_=>rfl) ?hR
    .refine step i v d _ Q' E' ?_ hP ie (λb o e=>?_) g.gens g.drawn g.os hk
     .show A.units+1+1+1<=A.units+20;lia
     have x:=km e;exact g.heap b o (by rw[sz];simp only[kM,lN,mC,pN];exact⟨kF x,kF<|uX x⟩)<|ke _ (ke _ e)
    case hR=>intro d g z;obtain⟨a,g',d',aA,cy⟩:=d;have eg:g'=s.gens:=g.gens;have ed:d'=s.drawn:=g.drawn;have eo:cy=s.os:=g.os;subst eg;subst ed;subst eo;show ae _ _ _ _ _ _;refine ja ?_;show ae _ _ (ret ao) _ _ _;refine ja ⟨rfl,a,aA,rfl,z,λb o e=>?_⟩;have x:=km e;exact g.heap b o (by rw[sz];simp only[kM,lN,mC,pN];exact⟨kF x,kF<|uX x⟩)<|ke _ (ke _ e)
   cases y with
   |error e=>exact C
   |ok iu=>
    cases iu with
    |ret r=>
     obtain⟨rfl,a,u,rfl,z,eu⟩:=C
     repeat (any_goals (first|assumption|wp_step))
     exact h _ _ z eu
    |_=>exact C.elim
  |_=>exact O.elim
end
end TT
namespace PX
open L2 PySem.SeqAt TS
def Fl:D->Bool
 |.tup l=>D.Hs l&&decide (D.Bp l<=6)
 |_=>C
def pV(h:Fl d=J):∃l,d=.tup l:=by cases d<;>first|exact⟨_,rfl⟩|(simp[Fl]at h)
def sY(h:Fl d=J):D.pr d=J:=by obtain⟨l,rfl⟩:=pV h;simp only[Fl,lg]at h;rw[D.pr];exact h.1
def rg(h:Fl d=J):d.dep<=7:=by obtain⟨l,rfl⟩:=pV h;simp -iota only[Fl,lg,rZ]at h;rw[D.dep];lia
def acO(h1:D.pr x=J)(a:D.pr y=J):D.Ba x y=J↔x=y:=by
 rw[He x y h1 a];constructor
 .intro h;exact AN x y h1 a (by simpa using h)
 rintro rfl;rw[Jc];rfl
def pJ(a:List D)(d:D):List D:=if a.any (D.Ba · d)=J then a else a++[d]
def nI(l:List D):List D:=l.foldl pJ []
def Sb{p:D->Bool}(h1:b.all p=J)(a:p d=J):(pJ b d).all p=J:=by
 unfold pJ;split
 .exact h1
 rw[List.all_append,h1];simp[a]
def Pc(a:List D)(d:D):(pJ a d).length<=A2 a+1:=by unfold pJ;split<;>simp
def nW{d i:Type}(f:d->i){g m:List i}(h:g.Perm m):∀l:List d,m=l.map f->∃c:List d,c.Perm l/\g=c.map f:=by
 induction h with
 |nil=>
  intro l e;have:l=[]:=by simpa using e.symm
  subst this;exact⟨[],.refl _,rfl⟩
 |cons x _ n=>
  intro l e
  cases l with
  |nil=>simp at e
  |cons y l=>simp -iota only[jP,dP]at e;obtain⟨c,p,q⟩:=n l e.2;exact⟨y::c,p.cons y,by rw[q,e.1];rfl⟩
 |swap x y w=>
  intro l e
  cases l with
  |nil=>simp at e
  |cons a l=>
   cases l with
   |nil=>simp at e
   |cons b l=>simp -iota only[jP,dP]at e;exact⟨b::a::l,.swap a b l,by rw[e.1,e.2.1,e.2.2];rfl⟩
 |trans _ _ k j=>intro l e;obtain⟨o,s,u⟩:=j l e;obtain⟨r,t,v⟩:=k o u;exact⟨r,t.trans s,v⟩
def yg{b d:Type}{F:b->d->Prop}{c m:List d}(h:c.Perm m):∀{z:List b},Paired F z m->∃a:List b,Paired F a c/\a.Perm z:=by
 induction h with
 |nil=>intro z p;exact⟨z,p,.refl _⟩
 |cons x _ i=>
  intro z p
  cases p with
  |cons r t=>obtain⟨a,h1,g⟩:=i t;exact⟨_::a,.cons r h1,g.cons _⟩
 |swap x y s=>
  intro z p
  cases p with
  |cons r t=>
   cases t with
   |cons o t=>exact⟨_,.cons o<|.cons r t,.swap _ _ _⟩
 |trans _ _ f e=>intro z p;obtain⟨u,j,l⟩:=e p;obtain⟨q,k,n⟩:=f j;exact⟨q,k,n.trans l⟩
def AG.zip{K T}{O:B2}:∀{l:List D}{b:List V},AG K T O l b->∀p∈l.zip b,Rep K T O p.1 p.2:=by
 intro f
 induction f with
 |nil=>intro b h p a;simp at a
 |cons d l e=>
  intro b h p a;rw[AG]at h;obtain⟨v,r,rfl,h1,c⟩:=h;rw[uS]at a;rcases kM.mp a with rfl|a
  .exact h1
  exact e c p a
def AG.KI{K T}{O:B2}:∀{l:List (D×V)},(∀p∈l,Rep K T O p.1 p.2)->AG K T O (l.map (·.1)) (l.map (·.2)):=by
 intro c
 induction c with
 |nil=>intro _;exact AG.nil
 |cons p l b=>intro h;exact AG.cons (h p jW)<|b λq a=>h q<|jU _ a
abbrev hv(p:D×V):Int×V:=(D.hash p.1,p.2)
theorem zv:∀(b:List D)(a:List V),(D.Fp b).zip a=(b.zip a).map hv
 |[],a=>by simp[D.Fp]
 |d::b,[]=>by simp
 |d::b,u::a=>by rw[D.Fp,uS,uS,jP,zv b a]
section
variable {X:Cx}{pins:jG}{σ:L2.St}{H:Hp}{s:iN}
structure C2(X:Cx)(H:Hp)(O:B2)(h:jg)(a:iJ)(vs:List D)(es:rV)(n:Nat)(t:mP)(l:List (D×V)):Prop where
 is:TT.D2 X.w h a es n t
 perm:(l.map (·.1)).Perm vs
 rep:∀p∈l,Rep X.K H O p.1 p.2
 par:Paired (λ(z:Int×V) (e:Int×iQ)=>z.1=e.1/\RelV z.2 e.2) (l.map hv) es.toList
def C2.Bm{a c b n t l}(S:C2 X H O h a c b n t l)(k:∀o,h.get? a=Y o->d.get? a=Y o):C2 X H O d a c b n t l:=⟨S.is.Bm k,S.perm,S.rep,S.par⟩
def acz{d c:Type}{F:d->c->Prop}{l:List d}{m:List c}(h:Paired F l m):∀{i:Nat}{b:c},m[i]?=Y b->∃a,l[i]?=Y a/\F a b:=by
 induction h with
 |nil=>intro i b h;simp at h
 |cons r t f=>
  intro i b h
  cases i with
  |zero=>simp at h;subst h;exact⟨_,rfl,r⟩
  |succ i=>obtain⟨a,h1,e⟩:=f (i:=i) (b:=b) (by simpa using h);exact⟨a,by simpa using h1,e⟩
def acy{a b:Type}{F:a->b->Prop}:∀{l:List a}{m:List b},Paired F l m->A2 l=(A2 m):=zt
def zT{l:List (Int×V)}{m:List (Int×iQ)}(h:Paired (λ(z:Int×V) (e:Int×iQ)=>z.1=e.1/\RelV z.2 e.2) l m):l.map (·.1)=m.map (·.1):=by
 induction h with
 |nil=>rfl
 |cons r t a=>rw[jP,jP,r.1,a]
def C2.MR(I:Inv X pins σ H s){O Y:B2}{a:iJ}{vs:List D}{J' n t l}(S:C2 X H O s.heap a vs J' n t l)(hok:vs.all Fl=J){d:D}{v:V}{u:iQ}(hd:kg X.K H Y d v)(ru:RelV v u)(U:Fl d=J){A:jh}(hA:A.units+60<aP):
  ∃b,u=.ref b/\TT.JM A s a J' n t u d.hash (λi=>match l[i]? with|some p=>D.Ba p.1 d|none=>AX):=by
 obtain⟨ld,rfl⟩:=pV U;obtain⟨b,xs,rfl,q,r⟩:=lr hd;cases ru;have hdp:=rg U;have gz:=sY U;have h:∀p∈l,Fl p.1=J:=λp M=>mJ.mp hok _ (S.perm.mem_iff.mp<|xb M)
 have at_:∀(i:Nat)(e:Int×iQ),J'[i]?=A9 e->∃p,l[i]?=A9 p/\p∈l/\D.hash p.1=e.1/\RelV p.2 e.2:=λi e o=>by
  obtain⟨z,h1,f,L⟩:=acz S.par (i:=i) (b:=e) (by rw[nu];exact o);rw[kS]at h1
  cases hl:l[i]? with
  |none=>rw[hl]at h1;cases h1
  |some p=>rw[hl]at h1;cases h1;exact⟨p,rfl,mW hl,f,L⟩
 have N:∀(e:D)(y:V)(G:iQ)(C:B2)(B:jh)(P:jm)(W:je)(Q:rX)(E:jy),Fl e=J->kg X.K H C e y->RelV y G->Q J s->ae (af P W) B (wS 8 G) Q E s:=λe y G C B P W Q E T hv hr x=>by
  obtain⟨le,rfl⟩:=pV T;rcases hv with hv|⟨_,_,hv⟩
  .exact Qf I 8 _ _ _ C B E Q hv hr (sY T) (by have:=rg T;lia) x
  exact hv.elim
 have m5:∀(e:D)(y:V)(G:iQ)(C:B2)(B:jh)(P:jm)(W:je)(Q:rX)(E:jy),Fl e=J->kg X.K H C e y->RelV y G->Q AX s->ae (af P W) B (ek 8 G) Q E s:=λe y G C B P W Q E T hv hr x=>by
  obtain⟨le,rfl⟩:=pV T;rcases hv with hv|⟨_,_,hv⟩
  .exact adz I 8 _ _ _ C B E Q hv hr (sY T) (by have:=rg T;lia) x
  exact hv.elim
 refine⟨b,rfl,⟨_,S.is.at_,rfl⟩,S.is.tab,λi e o=>?_,λi e o=>?_,λi e o x=>?_,λls g w E Q hls x=>?_⟩
 .obtain⟨p,h1,f,L,j⟩:=at_ i e o;obtain⟨lp,M⟩:=pV<|h p f;have:=S.rep p f;rw[M]at this;obtain⟨c,xs,R,_⟩:=this.tup;rw[R]at j;exact⟨c,j⟩
 .obtain⟨p,h1,f,L,j⟩:=at_ i e o;rw[h1];have:=rg<|h p f;exact AE I 50 p.1 (.tup ld) p.2 (.ref b) _ _ O Y A (.inl<|S.rep p f) hd j rfl (by lia) (by lia) (by lia)
 .obtain⟨p,h1,f,L,j⟩:=at_ i e o;rw[h1]at x;rw[(acO (sY<|h p f) gz).mp x]at L;exact L.symm
 unfold v6;refine iL ?_;refine xo _ (λm rr s'=>rr.1=AR/\s'=s/\∀v∈m,∃e∈J'.toList,e.2=v) _ ?_ ?_ _ _ ⟨rfl,rfl,hls⟩
 .rintro y m rr s' ⟨Z,rfl,hm⟩;have k:∀v∈m,∃e∈J'.toList,e.2=v:=λv hv=>hm v<|jU _ hv;obtain⟨e,o,rfl⟩:=hm y jW;obtain⟨i,hi⟩:=se o;rw[nu]at hi;obtain⟨p,h1,f,L,j⟩:=at_ i e hi;obtain⟨lp,M⟩:=pV<|h p f;have F:=S.rep p f
  obtain⟨c,ec⟩:∃c,e.2=.ref c:=by rw[M]at F;obtain⟨c,xs,R,_⟩:=F.tup;rw[R]at j;exact⟨c,j⟩
  rw[ec]at j ⊢;dsimp only;split
  .exact ja ⟨rfl,rfl,k⟩
  refine iL (N _ _ _ Y A g w _ _ U hd rfl ?_);simp -iota only[rG,ku,kR];refine iL<|N _ _ _ O A g w _ _ (h p f) (.inl F) j ?_;simp -iota only[rG,ku,kR];refine iL<|m5 _ _ _ Y A g w _ _ U hd rfl ?_;simp -iota only[ku,kR];refine iL<|m5 _ _ _ O A g w _ _ (h p f) (.inl F) j ?_;simp -iota only[ku,kR];exact ja ⟨rfl,rfl,k⟩
 rintro⟨r1,r2⟩ s' ⟨Z,rfl,_⟩;simp only at Z;subst Z;exact ja x
def DZ.MU(T:Inv X pins σ H s)(h:DZ X.K (H a) .set o f us)(r:AG X.K H O f us):∃b n t l,C2 X H O s.heap a f b n t l:=by
 obtain⟨_,m,e,p⟩:=h;obtain⟨b,n,t,h1,c,g,i,j⟩:=(show Au X.prog X.w H s.heap a (.B1 m)from T.hok a _ e)
 rw[zv]at p;obtain⟨l,d,rfl⟩:=nW hv p _ rfl;refine⟨b,n,t,l,⟨h1,by rw[<-zT c];exact g,i,j⟩,?_,λq k=>r.zip q<|d.mem_iff.mp k,c⟩;have:=d.map (·.1);rw[List.map_fst_zip<|by rw[r.length];exact kc _]at this;exact this
def C2.MZ{b n t l}(S:C2 X H O h a d b n t l):Au X.prog X.w c h a (.B1<|l.map hv):=
 ⟨b,n,t,S.is.at_,S.par,by rw[zT S.par];exact S.is.tab,S.is.plain,S.is.led⟩
def C2.Ks{b n t l}(S:C2 X H O h a c b n t l):b.size=A2 c/\(A2 l)=(A2 c):=by
 have h1:=acy S.par;have d:=S.perm.length_eq;simp only[kd,lT]at h1 d
 lia
def C2.B4{O:B2}{h:jg}{a:iJ}{vs:List D}{g n t l}(S:C2 X H O h a vs g n t l){K c}{f:B2}(k:∀p∈l,Rep K c f p.1 p.2)(i:c a=Y (.B1<|l.map hv)):∃us,DZ K (c a) .set [] vs us/\AG K c f vs us:=by
 obtain⟨b,d,e⟩:=nW (·.1) S.perm.symm l I;refine⟨b.map (·.2),⟨rfl,l.map hv,i,?_⟩,?_⟩
 .rw[e,zv]
  have:(b.map (·.1)).zip (b.map (·.2))=b:=by
   clear d e
   induction b with
   |nil=>rfl
   |cons x l m=>rw[jP,jP,uS,m]
  rw[this];exact(d.map hv).symm
 rw[e];exact AG.KI λp j=>k p<|d.mem_iff.mp j
def C2.put{q h':jg}{f n t l b j t'}(S:C2 X H O q a c f n t l)(x:c.any (D.Ba · d)=C)(m:Rep X.K H O d v)(B:RelV v u)(r:TT.D2 X.w h' a b j t')(o:b.toList.Perm ((d.hash,u)::f.toList)):∃h,C2 X H O h' a (pJ c d) b j t' h:=by
 have i:Paired (λ(z:Int×V) (e:Int×iQ)=>z.1=e.1/\RelV z.2 e.2) (((d,v)::l).map hv) ((d.hash,u)::f.toList):=.cons ⟨rfl,B⟩ S.par;obtain⟨T,y,A⟩:=yg o i;obtain⟨h,k,rfl⟩:=nW hv A _ rfl;refine⟨h,r,?_,λp g=>?_,y⟩
 .rw[show pJ c d=c++[d] by unfold pJ;rw[x,jr lG]];refine(k.map (·.1)).trans ?_;rw[jP];exact(S.perm.cons d).trans (Lg d c).symm
 rcases kM.mp (k.mem_iff.mp g)with rfl|g
 .exact m
 exact S.rep p g
def C2.add(I:Inv X pins σ H s){M n t l}(S:C2 X H O s.heap a g M n t l)(B:g.all Fl=Ap)(hd:kg X.K H O' d v)(o:Rep X.K H O d v)(m:RelV v u)(k:Fl d=Ap)(hz:(A2 g)<500)
  (hA:A.units+60<aP)
  (h:∀r h' c f G t' L,s.toks<=c->ay a s.heap h'->C2 X H O h' a (pJ g d) f G t' L->Q r {s with heap:=h',toks:=c}):ae (af X.prog X.w) A (mo a u) Q E s:=by
 obtain⟨ax,y9⟩:=S.Ks;unfold mo;refine mv<|iL<|Od 50 I d v u O A E _ o m (sY k) (by have:=rg k;lia) (by lia) λc N=>?_;have J:Inv X pins σ H {s with toks:=c}:=I.kept (h':=s.heap) (t':=c) λ_ _ e=>e;obtain⟨b,rfl,Y⟩:=C2.MR (s:={s with toks:=c}) J S B hd m k hA;have T:∀p∈l,p.1∈g:=λp C=>S.perm.mem_iff.mp<|xb C;refine TT.Y8 Y S.is.at_ S.is.plain (by lia) (λU j=>Yq J 8 d v _ O A E U o m (sY k) (by have:=rg k;lia) j) (λ⟨i,y,j⟩=>?_) λR h' f G t' g1 g2 V W Z g6=>?_
 .have:pJ g d=g:=by
   unfold pJ
   cases z:l[i]? with
   |none=>rw[z]at j;cases j
   |some p=>rw[z]at j;rw[jb<|o6.mpr ⟨p.1,T p<|mW z,j⟩]
  exact h AX s.heap c M n t l N (CV a s.heap) (by rw[this];exact S)
 have F:g.any (D.Ba · d)=AX:=by rw[n6];intro x hx;have P:=S.perm.mem_iff.mpr hx;obtain⟨p,C,rfl⟩:=ji P;obtain⟨i,y⟩:=se C;have:=R i (by have:=(tM.mp y).1;lia);rw[y]at this;simpa using this
 obtain⟨L,q⟩:=S.put F o m ⟨g2,W,Z,g6.trans S.is.led⟩ V;exact h Ap h' c f G t' L N g1 q
def Vr:D->Option (D×Bool)
 |.lst l|.tup l=>if l.all Fl=J/\(A2 l)<500 then Y (.B4 .set []<|nI l,J)else U
 |_=>U
def acQ{l:List D}{i:Nat}{d:D}(h:l[i]?=Y d):nI (l.take<|i+1)=pJ (nI<|l.take i) d:=by unfold nI;rw[CG,h,F6];rfl
def OJ{p:D->Bool}:∀(l a:List D),l.all p=J->a.all p=J->(l.foldl pJ a).all p=J:=by
 intro e
 induction e with
 |nil=>intro a _ h;exact h
 |cons d l c=>intro a h1 b;rw[dR,lg]at h1;exact c _ h1.2 (Sb b h1.1)
def Ca:∀(l a:List D),(l.foldl pJ a).length<=A2 a+(A2 l):=by
 intro c
 induction c with
 |nil=>intro a;simp
 |cons d l b=>intro a;have:=b<|pJ a d;have:=Pc a d;simp only[sD,kP];lia
def OZ{p:D->Bool}{l:List D}(h:l.all p=J)(i:Nat):(l.take i).all p=J:=by rw[mJ]at h ⊢;exact λx a=>h x<|uU a
def OI:∀(l a:List D),A2 a<=(l.foldl pJ a).length:=by
 intro l
 induction l with
 |nil=>intro a;exact kc _
 |cons d l b=>intro a;refine lC ?_<|b<|pJ a d;unfold pJ;split<;>simp
def Mq{ok:D->Bool}{pins:jG}{s:iN}{σ:L2.St}{H:Hp}{x:V}{u:iQ}{Q:VK}{O:B2}{d:D}{l:List D}(hc:X.calm=Ap)(I:Inv X pins σ H s)(ru:RelV x u)(hd:kg X.K H O d x)(hl:d=.lst l\/d=.tup l)(T:l.all ok=Ap)(hz:(nI l).length<500)(G:Gen X.K H O (.B4 .set []<|nI l,Ap) Q)
  (add:∀{j:iN}{B:jh}{E':jy}{U:rX}{N:List D}{d:D}{x:V}{w:iQ}{a:iJ}{m n t g},Inv X pins σ H j->C2 X H O j.heap a N m n t g->N.all ok=Ap->Rep X.K H O d x->RelV x w->ok d=Ap->N.length<500->(X.A.units+90<aP->B.units+60<aP)->
   (∀r C' tk y n' t' Y',j.toks<=tk->ay a j.heap C'->C2 X H O C' a (pJ N d) y n' t' Y'->U r {j with heap:=C',toks:=tk})->ae (af X.prog X.w) B (mo a w) U E' j):
  ae (af X.prog X.w) X.A (call (.type "set") [u]) (EP X pins σ Q) X.xe s:=by
 obtain⟨p,f,c,rfl,r,v,J⟩:∃p f c,x=.ref p/\AG X.K H O l f/\Vals f c/\(s.heap.IsList p c.toArray\/s.heap.IsTuple p c.toArray):=by
  rcases hl with rfl|rfl
  .obtain⟨p,f,rfl,q,r⟩:=kU hd;obtain⟨c,v,J,_⟩:=I.list q;exact⟨p,f,c,rfl,r,v,.inl J.isList⟩
  obtain⟨p,f,rfl,q,r⟩:=lr hd;obtain⟨c,v,J,_⟩:=I.tuple q;exact⟨p,f,c,rfl,r,v,.inr J⟩
 cases ru;have e1:=r.length;have e2:=v.length;have hh:X.A.handled=AR:=I.ok.hd hc;have M:=I.fresh
 refine TT.V8 hh J (λi h=>∃m n t g,C2 X H O h s.heap.objs.size (nI<|l.take i) m n t g) (λi h C' ⟨m,n,t,g,S⟩ k=>⟨m,n,t,g,S.Bm k⟩)
  (λC' e=>⟨#[],0,_,[],⟨TT.V7 e,by simp[nI],λp P=>by simp at P,.nil⟩⟩) (λi w j B U E' hB hi F hk hg L bf E=>?_) (λC' tk F hk=>?_)
 .obtain⟨m,n,t,g,S⟩:=F
  have hil:i<c.length:=by have:=(KO.mp hi).1;simpa using this
  have hw:c[i]?=Y w:=by simpa using hi
  have dZ:f[i]?=Y f[i]:=jT (by omega);have gW:l[i]?=Y l[i]:=jT (by omega);obtain⟨w',w1,w2⟩:=v.get dZ;rw[hw]at w1;cases w1;have cI:Rep X.K H O l[i] f[i]:=r.views gW dZ;have n8:ok l[i]=Ap:=mJ.mp T _ (za _);obtain⟨h1,g1,dr1,eP,os1⟩:=j;dsimp only at hk hg L bf E S;subst hg;subst L;subst bf;have I':Inv X pins σ H {s with heap:=h1,toks:=eP}:=I.kept hk;refine add I' S (OJ _ _ (OZ T i) rfl) cI w2 n8 ?_ (λ_=>by omega) λrr h2 W y n' t' Y' a1 a2 Z=>?_
  .have:=OI (l.drop i)<|nI<|l.take i;unfold nI at this hz ⊢;rw[<-F6,si]at this;omega
  rw[<-acQ gW]at Z;exact E rr h2 W a1 a2 ⟨y,n',t',Y',Z⟩
 obtain⟨m,n,t,g,S⟩:=F;have R:c.toArray.size=l.length:=by simp;omega
 rw[R,o3]at S;refine⟨.ref s.heap.objs.size,upd H s.heap.objs.size<|.B1<|g.map hv,I.laid hk (kc _) S.MZ,rfl,?_⟩;refine G s.heap.objs.size _ M (lO M) ?_;exact S.B4 (λp P=>Rep.mono (λb o e _=>lO M b o e) (λb hb z=>z.elim id λz=>absurd (z▸M) hb)<|S.rep p P) jv
def aef(j:X.calm=J)(m:X.A.units+90<aP):kH X (.type "set") (GL X.K<|g1 Vr):=nU λpins s σ H x u Q O d z T n np hd f G=>by
 cases d with
 |lst l=>obtain⟨⟨a,b⟩,rfl⟩:=jo f;exact Mq j T n hd (.inl I) a (xa (by have:=Ca l [];simpa[nI]using this) b) G λT S g c rw i h e k=>C2.add T S g (.inl c) c rw i h (e m) k
 |tup l=>obtain⟨⟨a,b⟩,rfl⟩:=jo f;exact Mq j T n hd (.inr I) a (xa (by have:=Ca l [];simpa[nI]using this) b) G λT S g c rw i h e k=>C2.add T S g (.inl c) c rw i h (e m) k
 |_=>cases f
def Vx(I:Inv X pins σ H s){J' n t l}(S:C2 X H O s.heap a g J' n t l)(q:g.all Fl=J)(hd:kg X.K H O d v)(z:RelV v u)(k:Fl d=J)(M:A.units+60<aP)
  (h:∀c,Q (g.any (D.Ba · d)) {s with toks:=c}):ae (af X.prog X.w) A (VP a u) Q E s:=by
 obtain⟨U,F⟩:=S.Ks
 have L:Rep X.K H O d v:=by
  obtain⟨ld,rfl⟩:=pV k;rcases hd with hd|⟨_,_,hd⟩
  .exact hd
  exact hd.elim
 unfold VP;refine mv<|iL<|Od 50 I d v u O A E _ L z (sY k) (by have:=rg k;lia) (by lia) λc Y=>?_;have B:Inv X pins σ H {s with toks:=c}:=I.kept (h':=s.heap) (t':=c) λ_ _ e=>e;obtain⟨b,rfl,C⟩:=C2.MR (s:={s with toks:=c}) B S q hd z k M;have y:∀p∈l,p.1∈g:=λp r=>S.perm.mem_iff.mp<|xb r;refine iL<|TT.YA C S.is.at_ (λi m j=>?_) λG=>?_
 .have:g.any (D.Ba · d)=J:=by
   cases o:l[i]? with
   |none=>rw[o]at j;cases j
   |some p=>rw[o]at j;exact o6.mpr ⟨p.1,y p<|mW o,j⟩
  have f:=h c;rw[this]at f;exact ja f
 have:g.any (D.Ba · d)=AX:=by rw[n6];intro x N;have T:=S.perm.mem_iff.mpr N;obtain⟨p,r,rfl⟩:=ji T;obtain⟨i,m⟩:=se r;have:=G i (by have:=(tM.mp m).1;lia);rw[m]at this;simpa using this
 have f:=h c;rw[this]at f;exact ja f
def acS(T:Inv X pins σ H s){g n t l}(S:C2 X H O s.heap a f g n t l)(c:f.all Fl=J)(hd:kg X.K H O d v)(j:RelV v u)(i:Fl d=J)(k:A.units+61<aP)
  (h:∀e,Q (f.any (D.Ba · d)) {s with toks:=e}):ae (af X.prog X.w) A (IX (.ref a) u) Q E s:=by
 have b:=S.is.typeIs;unfold IX;refine mv<|iL<|uO b KR.lookup ?_;change ae _ _ (if(Y (cc "set.__contains__")==Y ao)=J then _ else _) _ E s;rw[jr<|by rw[w4];exact lG];refine iL<|wpAny_callSpecialUnlessNone?_slot (name:=bS "__contains__") b KR<|pO KR b entry_set_contains ?_<|PySem.F.args_set_contains_2 _ _;unfold aY.«frozenset.__contains__» rc;simp only[d1,uY];unfold eV pL;refine iL<|ja ?_;dsimp only;refine iL<|ja ?_;dsimp only;refine iL<|F0 ?_;refine Vx T S c hd j i (by show A.units+1+60<aP;omega) λe=>?_;exact ja ⟨_,rfl,sN<|h e⟩
def inX(d e:D):Option Bool:=match e with
 |.B4 .set [] a=>if a.all Fl=J/\Fl d=J then Y (a.any (D.Ba · d))else U
 |_=>inD d e
def DN(d e:D):Option (D×Bool):=(inX d e).map λb=>(.bl (!b),C)
def acB(B:X.A.units+62<aP):DO X (aw .NotIn) (rD X.K DN):=by
 intro pins s σ H x y v u Q N j k h;obtain⟨O,d,e,z,np,h1,g,m,G⟩:=h;obtain⟨b,c,rfl⟩:=jz m;by_cases i:∃f,e=.B4 .set [] f
 .obtain⟨f,rfl⟩:=i;obtain⟨⟨o,hd⟩,rfl⟩:=jo (show(if f.all Fl=J/\Fl d=J then Y (f.any (D.Ba · d))else U)=Y b from c);obtain⟨a,T,rfl,q,r⟩:=oq g;cases k;obtain⟨w,n,t,l,S⟩:=q.MU N r;change ae _ _ (IX (.ref a) v>>=λb=>pure<|dE (!b)) _ _ s;refine iL<|acS N S o h1 j hd (by lia) λp=>?_;exact ja ⟨.bl _,H,N.kept (h':=s.heap) (t':=p) λ_ _ e=>e,rfl,G.bl⟩
 have:inD d e=Y b:=by
  unfold inX at c;split at c
  .exact absurd ⟨_,rfl⟩ i
  exact c
 exact Ik J (by lia) pins s σ H x y v u Q N j k ⟨O,d,e,b,h1,g,this,G.bl⟩
end
def aeN(a:l.Perm m)(b:∀x∈l,D.pr x=J):pR DY l=pR DY m:=Mk (λx c=>b x<|a.mem_iff.mpr c) ((mE DY l).trans a)<|qo l
def adO{k:Nat}{l:List D}(h:GO k l):oy l=J:=by
 unfold oy;rw[xm];right
 cases l with
 |nil=>rfl
 |cons x m=>simp only[lg,mJ,rZ];refine⟨⟨by rw[h.hd x jW];rfl,λy a=>⟨⟨?_,h.pr y a⟩,h.dp y a⟩⟩,λy a z b=>h.cm y a z b⟩;rw[h.hd x jW,h.hd y a];simp
def ach(b:l.Perm m)(h:oy m=J):oy l=J:=by
 rcases BF h with c|⟨k,B⟩
 .unfold oy;rw[xm];left;rw[b.length_eq];simpa using c
 exact adO (k:=k) ⟨λx a=>B.hd x<|b.mem_iff.mp a,λx a=>B.pr x<|b.mem_iff.mp a,λx a=>B.dp x<|b.mem_iff.mp a,λx a y d=>B.cm x (b.mem_iff.mp a) y<|b.mem_iff.mp d⟩
def tx(d:D):Option (D×Bool):=match d with
 |.B4 .set [] a=>if a.all Fl=J then ly a else U
 |_=>wA d
section
variable {X:Cx}
def ue{d:Type}{c:Prop}[Decidable c]{a:Option d}{b:d}(h:(if c then a else U)=Y b):c/\a=Y b:=by
 split at h
 .exact⟨‹_›,h⟩
 cases h
def adM{c:jG}{s:iN}{B:L2.St}{H:Hp}{x:V}{u:iQ}{Q:VK}{O:B2}{h:List D}{z:D×Bool}(M:X.calm=Ap)(U:X.A.units+62<aP)(I:Inv X c B H s)(ru:RelV x u)(np:∀p,¬Ow (H p)->¬O p)(hd:kg X.K H O (.B4 .set [] h) x)(j:∀x∈h,D.pr x=Ap)(g:ly h=A9 z)(G:Gen X.K H O z Q):
  ae (af X.prog X.w) X.A (call (.builtin "sorted") [u]) (EP X c B Q) X.xe s:=by
 obtain⟨a,us,rfl,q,r⟩:=oq hd;cases ru;obtain⟨e,n,t,l,S⟩:=q.MU I r;obtain⟨C,y9⟩:=S.Ks;have wp:=TT.Fv X.w a n e;obtain⟨z',f,v⟩:=yg wp S.par;obtain⟨b,o,rfl⟩:=nW hv v _ rfl;have y:AG X.K H O (b.map (·.1)) (b.map (·.2)):=AG.KI λp j=>S.rep p<|o.mem_iff.mp j
 have R:Vals (b.map (·.2)) ((TT.qO X.w a n e).toList.map (·.2)):=by
  clear v o y wp;generalize (TT.qO X.w a n e).toList=m at f;revert f;generalize d:b.map hv=zz;intro f
  induction f generalizing b with
  |nil=>
    have:b=[]:=by simpa using d
    subst this;exact .nil
  |cons r t ih=>
   cases b with
   |nil=>simp at d
   |cons p b=>simp only[jP,dP]at d;rw[jP,jP];refine .cons ?_<|ih b d.2;have:=r.2;rw[<-d.1]at this;exact this
 have i:(b.map (·.1)).Perm h:=(o.map (·.1)).trans S.perm
 have E:ly (b.map (·.1))=A9 z:=by unfold ly at g ⊢;obtain⟨⟨h1,T⟩,rfl⟩:=jo g;rw[jb ⟨ach i h1,by rw[i.length_eq];exact T⟩,aeN i λx Y=>j x<|i.mem_iff.mp Y]
 have N:X.A.handled=AR:=I.ok.hd M
 have d:e.size<=sizeLine:=by unfold ly at g;rw[C];exact(jo g).1.2
 exact tV U I y R E G λQ' Z W F J=>TT.RZ (by rw[F];exact N) S.is d λL P k=>J L P k
def abT(m:X.calm=J)(k:X.A.units+62<aP):kH X (.builtin "sorted") (GL X.K<|g1 tx):=nU λc s o T x u Q O d z N l np hd h G=>by
 by_cases i:∃e,d=.B4 .set [] e
 .obtain⟨e,rfl⟩:=i;obtain⟨f,g⟩:=ue (show(if e.all Fl=J then ly e else U)=Y z from h);exact adM m k N l np hd (λx n=>sY<|mJ.mp f x n) g G
 have g:g1 wA [d]=Y z:=by
  have:tx d=wA d:=by
   unfold tx;split
   .exact absurd ⟨_,rfl⟩ i
   rfl
  show wA d=Y z;rw[<-this];exact h
 exact abU k c s o T [x] [u] Q N (.cons l .nil) ⟨O,[d],z,np,rfl,(λj p q a b=>by
  cases j with
  |zero=>simp at a b;subst a;subst b;exact hd
  |succ j=>simp at a),g,G⟩
end
end PX
namespace L2
section
variable {κ:Type}[DecidableEq κ]
def uo(a:List (κ×V))(k:κ):Option V:=(a.find? λb=>decide<|b.1=k).map (·.2)
def rP(a:List (κ×V))(k:κ)(v:V):List (κ×V):=
 if(a.any λb=>decide<|b.1=k)=J then a.map (λb=>if b.1=k then(b.1,v)else b)else a++[(k,v)]
theorem vU{p:κ×V}{r:List (κ×V)}{k:κ}(e:p.1=k):uo (p::r) k=Y p.2:=by simp[uo,wZ,e]
theorem sO{p:κ×V}{r:List (κ×V)}{k:κ}(e: ¬p.1=k):uo (p::r) k=uo r k:=by simp[uo,wZ,e]
theorem Ee(k:κ):∀a:List (κ×V),(a.any λb=>decide<|b.1=k)=(uo a k).isSome
 |[]=>rfl
 |p::r=>by
  rw[sA];by_cases e:p.1=k
  .simp only[vU e,rJ e,Bool.true_or,fe]
  rw[sO e,nv e,Bool.false_or];exact Ee k r
theorem yi(a:List (κ×V))(k:κ)(v:V):(rP a k v).length<=A2 a+1:=by
 unfold rP;split
 .rw[kd];lia
 rw[nA,kP,rE];lia
theorem Hb.Dj{o:Option V}{u:Option iQ}(r:Hb o u):o.isSome=u.isSome:=by
 cases o with
 |none=>cases u with
  |none=>rfl
  |some _=>exact(show False from r).elim
 |some _=>cases u with
  |none=>exact(show False from r).elim
  |some _=>rfl
theorem KV.val{kvs:List (κ×V)}{vs:List (κ×iQ)}(r:KV kvs vs)(k:κ):Hb (uo kvs k) (gk vs k):=by
 unfold KV at r
 induction r with
 |nil=>exact bq
 | @cons p q g c h t f=>
  obtain⟨h1,d⟩:=h;by_cases e:p.1=k
  .have a:q.1=k:=h1.symm.trans e;have b:gk (q::c) k=Y q.2:=by simp[gk,wZ,a]
   rw[vU e,b];exact d
  have a: ¬q.1=k:=λz=>e<|h1.trans z;have b:gk (q::c) k=gk c k:=by simp[gk,wZ,a]
  rw[sO e,b];exact f
theorem KV.any{a:List (κ×V)}{vs:List (κ×iQ)}(r:KV a vs)(k:κ):(a.any λb=>decide<|b.1=k)=vs.any λb=>decide (b.1=k):=by
 unfold KV at r
 induction r with
 |nil=>rfl
 |cons h t c=>rw[sA,sA,c,h.1]
theorem KV.Kq{b:List (κ×V)}{c:List (κ×iQ)}(r:KV b c)(k:κ){y:V}{u:iQ}(g:RelV y u):
  KV (b.map λa=>if a.1=k then(a.1,y)else a) (c.map λa=>if a.1=k then(a.1,u)else a):=by
 unfold KV at r ⊢
 induction r with
 |nil=>exact .nil
 | @cons p q i j h t f=>
  rw[jP,jP];refine .cons ?_ f;obtain⟨h1,d⟩:=h;by_cases e:p.1=k
  .rw[jb e,jb<|h1.symm.trans e];exact⟨h1,g⟩
  rw[jr e,jr λz=>e<|h1.trans z];exact⟨h1,d⟩
theorem KV.put{a:List (κ×V)}{b:List (κ×iQ)}(r:KV a b)(k:κ){y:V}{u:iQ}(c:RelV y u):KV (rP a k y) (stored b k u):=by
 unfold rP stored;rw[r.any k];by_cases e:(b.any λd=>decide<|d.1=k)=J
 .rw[jb e,jb e];exact r.Kq k c
 rw[jr e,jr e];exact Paired.snoc r ⟨rfl,c⟩
theorem KV.length{a:List (κ×V)}{vs:List (κ×iQ)}(r:KV a vs):(A2 a)=(A2 vs):=zt r
end
def Ah{P:jm}{w:je}{k:Key}{u:iQ}(r:RelV (kV k) u):(lb P w).is k u=J:=by
 cases k with
 |inl i=>obtain⟨t,e⟩:=(show ∃t,u=gR i t from r);subst e;exact aca P w i t
 |inr x=>obtain⟨t,e⟩:=(show ∃t,u=mN x t from r);subst e;exact ab9 P w x t
theorem BV{P:jm}{w:je}:∀{a:List Key}{b:jN},Vals (a.map kV) b->ItemsAre (lb P w) a b
 |[],_,r=>by rw[oh]at r;cases r;exact .nil
 |k::a,_,r=>by
  rw[jP]at r
  cases r with
  |cons h t=>exact .cons (Ah h)<|BV t
abbrev KT(T:Hp):List (List Key×V)->List (List Key×iJ×iQ)->Prop:=Paired λp q=>p.1=q.1/\T q.2.1=Y (.tup<|p.1.map kV)/\RelV p.2 q.2.2
def KT.val{T:Hp}{kvs:List (List Key×V)}{d:List (List Key×iJ×iQ)}(r:KT T kvs d)(k:List Key):Hb (uo kvs k) ((gQ d k).map (·.2)):=by
 induction r with
 |nil=>exact bq
 | @cons p q i c h t g=>
  obtain⟨h1,_,f⟩:=h;by_cases e:p.1=k
  .have a:q.1=k:=h1.symm.trans e;have b:gQ (q::c) k=Y q.2:=by simp[gQ,wZ,a]
   rw[vU e,b];exact f
  have a: ¬q.1=k:=λz=>e<|h1.trans z;have b:gQ (q::c) k=gQ c k:=by simp[gQ,wZ,a]
  rw[sO e,b];exact g
def KT.Kq{T:Hp}{a:List (List Key×V)}{d:List (List Key×iJ×iQ)}(r:KT T a d)(k:List Key){y:V}{u:iQ}(i:RelV y u):
  KT T (a.map λb=>if b.1=k then(b.1,y)else b) (d.map<|putAt k u):=by
 induction r with
 |nil=>exact .nil
 | @cons p q j l h t g=>
  rw[jP,jP];refine .cons ?_ g;obtain⟨h1,c,f⟩:=h;unfold putAt;by_cases e:p.1=k
  .rw[jb e,jb<|h1.symm.trans e];exact⟨h1,c,i⟩
  rw[jr e,jr λz=>e<|h1.trans z];exact⟨h1,c,f⟩
def KT.put{T:Hp}{a:List (List Key×V)}{c:List (List Key×iJ×iQ)}(r:KT T a c)(k:List Key){b:iJ}{y:V}{u:iQ}(f:T b=Y (.tup<|k.map kV))(d:RelV y u):
  KT T (rP a k y) (storedH c k b u):=by
 have e:(a.any λg=>decide<|g.1=k)=(gQ c k).isSome:=by rw[Ee,(r.val k).Dj,FA]
 unfold rP storedH;rw[e];by_cases q:(gQ c k).isSome=J
 .rw[jb q,jb q];exact r.Kq k d
 rw[jr q,jr q];exact Paired.snoc r ⟨rfl,f,d⟩
def KT.keeps{T c:Hp}{a:List (List Key×V)}{d:List (List Key×iJ×iQ)}(r:KT T a d)(f:∀b e,T b=Y (.tup e)->c b=Y (.tup e)):KT c a d:=
 Paired.Md r λ_ _ z=>⟨z.1,f _ _ z.2.1,z.2.2⟩
section
variable {P:jm}{w:je}{H:Hp}{h:jg}{a:iJ}
def Sz{u:HO}(ok:EO P w H h)(e:Rd H a u):Au P w H h a u:=e.ok ok
def IW{b:List (Key×V)}(ok:EO P w H h)(e:Rd H a (.dK b)):(A2 b)<=sizeLine/\(a==bX)=C/\∃c,KV b c/\h.DictOf (lb P w) a c:=
 show Au P w H h a (.dK b)from Sz ok e
def Tb{b:List (Key×V)}(ok:EO P w H h)(e:H a=Y (.dK b)):(A2 b)<=sizeLine/\(a==bX)=C/\∃c,KV b c/\h.DictOf (lb P w) a c:=IW ok<|.inl e
def rk{b:List Key}(ok:EO P w H h)(e:H a=Y (.tup<|b.map kV)):(cE<|lb P w).is h b a:=by
 obtain⟨_,c,r,o,h1,d,n,f⟩:=(show Au P w H h a (.tup<|b.map kV)from ok a _ e)
 exact⟨o,c.toArray,n,h1,d,f,by simpa using BV r⟩
def IV{b:List (List Key×V)}(ok:EO P w H h)(e:Rd H a (.dT b)):(A2 b)<=sizeLine/\(a==bX)=C/\
  ∃d,KT H b d/\h.DictOfH (cE<|lb P w) a d:=by
 obtain⟨z,y,d,r,o,i,g,h1,j,k,n,s⟩:=(show Au P w H h a (.dT b)from Sz ok e)
 refine⟨z,y,d,r,o,i,g,h1,j,k,n,λx c=>?_,s⟩
 have all:∀{l:List (List Key×V)}{m:List (List Key×iJ×iQ)},KT H l m->∀x∈m,(cE<|lb P w).is h x.1 x.2.1:=by
  intro l m q
  induction q with
  |nil=>intro x c;exact nomatch c
  | @cons p q v A f t u=>
   intro x c;rcases kM.mp c with e|c
   .subst e;exact rk ok (by rw[<-f.1];exact f.2.1)
   exact u x c
 exact all r x c
def YH{b:List (List Key×V)}(ok:EO P w H h)(e:H a=Y (.dT b)):(A2 b)<=sizeLine/\(a==bX)=C/\
  ∃c,KT H b c/\h.DictOfH (cE<|lb P w) a c:=IV ok<|.inl e
end
def GC(T:Hp)(a:iJ)(y:V)(r:Option V):Prop:=
 (∃c k,Rd T a (.dK c)/\y=kV k/\r=uo c k)\/∃c k b,Rd T a (.dT c)/\y=.ref b/\T b=Y (.tup<|k.map kV)/\r=uo c k
def Hd(T:Hp)(a:iJ)(y v:V)(c:Hp):Prop:=
 (∃kvs k,T a=Y (.dK kvs)/\y=kV k/\(A2 kvs)<sizeLine/\c=upd T a (.dK<|rP kvs k v))\/
 ∃kvs k b,T a=Y (.dT kvs)/\y=.ref b/\T b=Y (.tup<|k.map kV)/\(A2 kvs)<sizeLine/\c=upd T a (.dT<|rP kvs k v)
def GC.k{T:Hp}{a:iJ}{kvs:List (Key×V)}{k:Key}(e:T a=Y (.dK kvs)):GC T a (kV k) (uo kvs k):=.inl ⟨kvs,k,.inl e,rfl,rfl⟩
def GC.t{T:Hp}{a b:iJ}{kvs:List (List Key×V)}{k:List Key}(e:T a=Y (.dT kvs))(c:T b=Y (.tup<|k.map kV)):GC T a (.ref b) (uo kvs k):=.inr ⟨kvs,k,b,.inl e,rfl,c,rfl⟩
def Hd.k{T:Hp}{a:iJ}{kvs:List (Key×V)}{k:Key}{v:V}(e:T a=Y (.dK kvs))(b:(A2 kvs)<sizeLine):Hd T a (kV k) v (upd T a<|.dK<|rP kvs k v):=.inl ⟨kvs,k,e,rfl,b,rfl⟩
def Hd.t{T:Hp}{a b:iJ}{kvs:List (List Key×V)}{k:List Key}{v:V}(e:T a=Y (.dT kvs))(c:T b=Y (.tup<|k.map kV))(d:(A2 kvs)<sizeLine):
  Hd T a (.ref b) v (upd T a<|.dT<|rP kvs k v):=.inr ⟨kvs,k,b,e,rfl,c,d,rfl⟩
section
variable {X:Cx}{d:jG}{f:St}{H:Hp}{s:iN}{a:iJ}{y v:V}{u r:iQ}{o:Option V}{A:jh}{E:jy}
def Inv.big(T:Inv X d f H s):bX<s.heap.objs.size:=by have h:aj<s.heap.objs.size:=(T.mod.glob.keeps T.bk).lt;exact CW (by decide) h
def Cb{Q:jy}(O:A.units+1<aP)(M:Inv X d f H s)(g:GC H a y (Y v))(t:RelV y u)(h:∀i x,Inv X d f H x->RelV v i->Q i x):
  ae (af X.prog X.w) A (el (.ref a) u) Q E s:=by
 rcases g with⟨n,k,e,j,l⟩|⟨n,k,b,e,j,N,l⟩
 .subst j;obtain⟨z,hd,T,c,dd⟩:=IW M.hok e;obtain⟨i,m,q⟩:=Hb.some_of (v:=v) (o:=gk T k) (by rw[l];exact c.val k);exact wpAny_getItem_of (Ah t) dd.mapOf m<|h i _ (M.tok _) q
 subst j;cases(show u=bK b from t);obtain⟨z,hd,G,c,dd⟩:=IV M.hok e;obtain⟨i,m,q⟩:=Hb.some_of (v:=v) (o:=(gQ G k).map (·.2)) (by rw[l];exact c.val k);obtain⟨p,L,B⟩:=dV.mp m;refine wpAny_getItem_heap (wY O) (rk M.hok N) dd L ?_;rw[B];exact h i _ (M.tok _) q
def YJ{Q:jy}(t:A.units+1<aP)(T:Inv X d f H s)(g:GC H a y o)(m:RelV y u)(h:∀n,Inv X d f H n->Q (.bool o.isSome) n):
  ae (af X.prog X.w) A (aw .In u<|.ref a) Q E s:=by
 rcases g with⟨j,k,e,i,l⟩|⟨j,k,b,e,i,p,l⟩
 .subst i;obtain⟨z,hd,x,c,dd⟩:=IW T.hok e;refine UF (Ah m) hd dd.mapOf ?_;rw[<-(c.val k).Dj,<-l];exact h _ (T.tok _)
 subst i;cases(show u=bK b from m);obtain⟨z,hd,B,c,dd⟩:=IV T.hok e;refine MB (wY t) (rk T.hok p) hd dd ?_;have q:=(c.val k).Dj;rw[FA]at q;rw[<-q,<-l];exact h _ (T.tok _)
def IY{Q:jy}(t:A.units+1<aP)(T:Inv X d f H s)(g:GC H a y o)(m:RelV y u)(h:∀n,Inv X d f H n->Q (.bool (!o.isSome)) n):
  ae (af X.prog X.w) A (aw .NotIn u<|.ref a) Q E s:=by
 rcases g with⟨j,k,e,i,l⟩|⟨j,k,b,e,i,p,l⟩
 .subst i;obtain⟨z,hd,x,c,dd⟩:=IW T.hok e;refine F2 (Ah m) hd dd.mapOf ?_;rw[<-(c.val k).Dj,<-l];exact h _ (T.tok _)
 subst i;cases(show u=bK b from m);obtain⟨z,hd,B,c,dd⟩:=IV T.hok e;refine y6 (wY t) (rk T.hok p) hd dd ?_;have q:=(c.val k).Dj;rw[FA]at q;rw[<-q,<-l];exact h _ (T.tok _)
def yR{h':jg}{t':Nat}{c:HO}(T:Inv X d f H s)(j:N3 (H a))(i:ay a s.heap h')(h:∃q,h'.get? a=Y q)(new:Au X.prog X.w (upd H a c) h' a c):
  Inv X d f (upd H a c) {s with heap:=h',toks:=t'}:=
 T.write (x:=a) (e:=a) j (.inl I) (λb q g z=>(i.2 b g).trans z) h new
def VM{P:jm}{w:je}{h:Hp}{g:jg}{b:List (Key×V)}{e:List (Key×iQ)}(z:(A2 b)<=sizeLine)(hd:(a==bX)=C)(c:KV b e)(dd:g.DictOf (lb P w) a e):
  Au P w h g a (.dK b):=⟨z,hd,e,c,dd⟩
def xZ{L:Hp}{Q:Unit->Shared->Prop}(hu:A.units+1<aP)(I:Inv X d f H s)(g:Hd H a y v L)(M:RelV y u)(J:RelV v r)(h:∀N,Inv X d f L N->Q () N):
  ae (af X.prog X.w) A (mm (.ref a) u r) Q E s:=by
 rcases g with⟨i,k,e,t,l,p⟩|⟨i,k,b,e,t,O,l,p⟩
 .subst t p;obtain⟨z,hd,S,j,dd⟩:=Tb I.hok e;have C:S.length<=sizeLine:=by rw[<-j.length];exact z
  have x:(rP i k v).length<=sizeLine:=by have:=yi i k v;lia
  refine wpAny_setItem_pairs (hsz:=C) (Ah M) dd λG m B=>h _ ?_;have R:∃q,G.get? a=A9 q:=let⟨q,_,_,n,_⟩:=m;⟨q,n⟩
  exact yR I (by rw[e];exact bq) B R<|VM x hd (j.put k J) m
 subst t p;cases(show u=bK b from M);obtain⟨z,hd,V,j,dd⟩:=YH I.hok e;have C:V.length<=sizeLine:=by rw[<-zt j];exact z
 have x:(rP i k v).length<=sizeLine:=by have:=yi i k v;lia
 refine wpAny_setItem_heap (hsz:=C) (wY hu) (rk I.hok O) dd λG m B=>h _ ?_;obtain⟨q,Y,U,n,D,F,K,_,P⟩:=m;refine yR I (by rw[e];exact bq) B ⟨q,n⟩ ⟨x,hd,_,(j.put k O J).keeps λc W T=>?_,q,Y,U,n,D,F,K,P⟩;rw[jx<|SV T e (λz=>nomatch z)];exact T
end
def OG{P:jm}{w:je}{T:Hp}(h:jg)(a:bX<h.objs.size):Au P w T (h.push {cls:=.type "dict",data:=.dict #[]}) h.objs.size (.dK []):=
 ⟨mV _,yq.mpr<|oF<|kF a,[],.nil,Heap.DictOf.new h⟩
def T5:TE:=λ_ T Q=>∀p,T p=U->Q (.ref p) (upd T p<|.dK [])
section
variable {X:Cx}{b:bu}
def afg:PE X (.Dict [] [] b) T5:=λc s d T Q O h=>wpAny_Dict_empty ⟨.ref s.heap.objs.size,_,O.laid (a:=s.heap.objs.size) (o:=.dK []) (t':=s.toks) (λ_ _ q=>ke _ q) (kc _)<|OG s.heap O.big,rfl,h _ (O.hok.fresh<|kc _)⟩
end
end L2
namespace PX
open L2 PySem.SeqAt TS
noncomputable def tu:D->Option Key
 |.int i=>Y<|.inl i
 |.str x=>Y<|.inr x
 |_=>U
def Bh:List D->Option (List Key)
 |[]=>Y []
 |d::l=>(tu d).bind λk=>(Bh l).map (k:: ·)
def yy:D->Option (List Key)
 |.tup l=>Bh l
 |_=>U
def oQ(h:tu d=Y k):d=kA k:=by
 cases d<;>simp[tu]at h<;>subst h<;>rfl
def afc:∀{l:List D}{a:List Key},Bh l=Y a->l=a.map kA:=by
 intro e
 induction e with
 |nil=>intro a h;cases h;rfl
 |cons d l c=>intro a h;rw[Bh]at h;obtain⟨k,h1,h⟩:=iM h;obtain⟨m,b,rfl⟩:=jz h;rw[oQ h1,c b];rfl
def tj(h:yy d=Y a):d=.tup (a.map kA):=by
 cases d with
 |tup l=>rw[afc (show Bh l=Y a from h)]
 |_=>cases h
def tJ(a b:Key):D.Ba (kA a) (kA b)=decide (a=b):=by
 cases a with
 |inl i=>cases b with
  |inl j=>simp only[kA,D.Ba,NV]
  |inr y=>simp only[kA,D.Ba,NU]
 |inr x=>cases b with
  |inl j=>simp only[kA,D.Ba,NT]
  |inr y=>simp only[kA,D.Ba,NS];rfl
theorem uj:∀a b:List Key,D.D1 (a.map kA) (b.map kA)=decide (a=b)
 |[],[]=>by simp[D.D1]
 |[],_::_=>by simp[D.D1]
 |_::_,[]=>by simp[D.D1]
 |x::a,y::b=>by simp only[jP];rw[D.D1,tJ,uj a b];simp only[dP,ss]
def mw:List D->List D->D->Option D
 |a::b,v::c,k=>if D.Ba a k=J then Y v else mw b c k
 |_,_,_=>U
def sQ:List D->List D->D->D->List D
 |b::c,v::a,k,w=>(if D.Ba b k=J then w else v)::sQ c a k w
 |_,a,_,_=>a
def uq(a b:List D)(k w:D):List D×List D:=if a.any (D.Ba · k)=J then(a,sQ a b k w)else(a++[k],b++[w])
def qy(a:List D)(k:D):Bool:=((tu k).isSome&&a.all λx=>(tu x).isSome)||((yy k).isSome&&a.all λx=>(yy x).isSome)
section
variable {K:jl}{H:Hp}{O:B2}
def Eu(h:Rep K H O (kA k) v):v=kV k:=by
 cases k with
 |inl i=>exact Rep.int h
 |inr x=>exact Rep.str h
def adi:∀{b:List Key}{a:List V},AG K H O (b.map kA) a->a=b.map kV:=by
 intro e
 induction e with
 |nil=>intro a h;rw[oh,AG]at h;exact h
 |cons k b d=>intro a h;rw[jP,AG]at h;obtain⟨v,r,rfl,h1,c⟩:=h;rw[Eu h1,d c];rfl
def ql(hk:tu d=Y k)(h:kg K H O d v):v=kV k:=by
 rw[oQ hk]at h;rcases h with h|⟨a,rfl,h⟩
 .exact Eu h
 cases k<;>exact h.elim
def oP(hk:yy d=Y c)(h:kg K H O d v):∃b,v=.ref b/\H b=Y (.tup<|c.map kV):=by
 rw[tj hk]at h;rcases h with h|⟨a,rfl,h⟩
 .obtain⟨b,xs,rfl,q,r⟩:=h.tup;rw[adi r]at q;exact⟨b,rfl,q.1⟩
 exact h.elim
def Xm(a b:List Key):D.Ba (.tup<|a.map kA) (.tup<|b.map kA)=decide (a=b):=by rw[D.Ba,uj]
theorem Ad{j:Type}[DecidableEq j]{f:j->D}{k:j}(l:∀a b,D.Ba (f a) (f b)=decide (a=b)):∀{c:List (j×V)}{g:List D},AG K H O g (c.map (·.2))->(∀d,mw (c.map λp=>f p.1) g (f k)=Y d->∃v,uo c k=Y v/\Rep K H O d v)/\(mw (c.map λp=>f p.1) g (f k)=U->uo c k=U)
 |[],g,_=>⟨λd h=>by cases g<;>simp[mw]at h,λ_=>rfl⟩
 |(i,v)::c,[],h=>by rw[jP,AG]at h;cases h
 |(i,v)::c,t::g,h=>by
  rw[jP,AG]at h;obtain⟨w,r,e,h1,m⟩:=h;obtain⟨rfl,rfl⟩:=uT e;obtain⟨q,s⟩:=Ad l m;simp only[jP,mw,l];by_cases hk:i=k
  .simp only[hk,decide_true,kQ];exact⟨λd h=>by cases h;exact⟨v,vU (p:=(k,v)) I,h1⟩,λh=>by cases h⟩
  simp only[hk,decide_false,ku,kR];refine⟨λd h=>?_,λh=>?_⟩
  .obtain⟨u,n,o⟩:=q d h;exact⟨u,by rw[sO (p:=(i,v)) hk];exact n,o⟩
  rw[sO (p:=(i,v)) hk];exact s h
end
section
variable {P:jm}{w:je}{H H':Hp}{h:jg}{a:iJ}
def Te(x:Au P w H h a (.dT [])):Au P w H' h a (.dK []):=by
 obtain⟨z,y,k,r,o,b,c,h1,d,f,g,j⟩:=x;cases r
 have:b= #[]:=by
  have:b.toList=[]:=by simpa using g
  exact Wc.mp this
 subst this;refine⟨z,y,[],.nil,o,#[],c,h1,d,f,?_,?_,mU⟩
 .first|exact λe i=>by simp at i|(intro;simp)
 first|exact .nil|trivial|simp[Pairs]
def Tf(x:Au P w H h a (.dK [])):Au P w H' h a (.dT []):=by
 obtain⟨z,y,n,r,o,c,d,h1,f,g,k,b,m⟩:=x;cases r
 have:c= #[]:=by
  have j:(A2 c.toList)=0:=by
   first
    |simpa using (A2 b)
    |simpa using(zt b)
    |(
      cases i:c.toList with
      |nil=>rfl
      |cons e l=>rw[i]at b;cases b)
  exact Wc.mp<|Pq.mp j
 subst this;exact⟨z,y,[],.nil,o,#[],d,h1,f,g,rfl,mU⟩
end
section
variable {X:Cx}{g:jG}{i:L2.St}{H:Hp}{s:iN}
def adZ{A:jh}{E:jy}(T:Inv X g i H s){H':Hp}{a:iJ}{k:Key}{u:iQ}{Q:jy}(x:Au X.prog X.w H' s.heap a (.dK []))(d:RelV (kV k) u)(b:Bool)(h:∀e,Inv X g i H e->Q (.bool b) e):
  ae (af X.prog X.w) A (aw (if b=J then .NotIn else .In) u<|.ref a) Q E s:=by
 obtain⟨z,hd,f,c,dd⟩:=x;cases c
 cases b
 .exact UF (Ah d) hd dd.mapOf<|h _ (T.tok _)
 exact F2 (Ah d) hd dd.mapOf<|h _ (T.tok _)
def adb{A:jh}{E:jy}(e:A.units+1<aP)(T:Inv X g i H s){H':Hp}{a b:iJ}{k:List Key}{Q:jy}(x:Au X.prog X.w H' s.heap a (.dT []))(d:H b=Y (.tup<|k.map kV))(c:Bool)(h:∀f,Inv X g i H f->Q (.bool c) f):
  ae (af X.prog X.w) A (aw (if c=J then .NotIn else .In) (.ref b)<|.ref a) Q E s:=by
 obtain⟨z,hd,u,r,o,l,j,h1,m,n,p,q⟩:=x;cases r;have dd:s.heap.DictOfH (cE<|lb X.prog X.w) a []:=⟨o,l,j,h1,m,n,p,(λx (t:x∈[])=>by simp at t),q⟩
 cases c
 .exact MB (wY e) (rk T.hok d) hd dd<|h _ (T.tok _)
 exact y6 (wY e) (rk T.hok d) hd dd<|h _ (T.tok _)
def qx(h:qy d k=J):(∃e,tu k=Y e/\∀x∈d,∃c,tu x=Y c)\/(∃f,yy k=Y f/\∀x∈d,∃c,yy x=Y c):=by
 unfold qy at h;rw[xm,lg,lg,mJ,mJ]at h;rcases h with⟨h1,a⟩|⟨h1,a⟩
 .exact .inl ⟨_,(KP.mp h1).choose_spec,λx b=>KP.mp<|a x b⟩
 exact .inr ⟨_,(KP.mp h1).choose_spec,λx b=>KP.mp<|a x b⟩
def De{a:List Key}{c:Key}(h:tu (.tup<|a.map kA)=Y c):False:=by cases h
def Af(h:yy (kA k)=Y c):False:=by cases k<;>cases h
def YI(B:A.units+1<aP)(I:Inv X g i H s)(q:DZ X.K (H a) .dct ks o us)(r:AG X.K H O o us)(hk:qy ks k=Ap)(G:kg X.K H O k y)(x:RelV y u)(m:Bool)
  (h:∀l,Inv X g i H l->Q (.bool<|xor m (mw ks o k).isSome) l):ae (af X.prog X.w) A (aw (if m=Ap then .NotIn else .In) u<|.ref a) Q E s:=by
 have nil:∀o:List D,mw [] o k=AR:=λo=>by cases o<;>rfl
 rcases q with⟨j,e,rfl,rfl⟩|⟨j,e,rfl,rfl⟩
 .rcases qx hk with⟨C',h1,_⟩|⟨L,h1,M⟩
  .have:=ql h1 G;subst this;have R:=oQ h1;subst R;obtain⟨F,P⟩:=Ad (f:=kA) (k:=C') tJ r
   have Y:(uo j C').isSome=(mw (j.map λp=>kA p.1) o<|kA C').isSome:=by
    cases z:mw (j.map λp=>kA p.1) o (kA C')with
    |none=>rw[P z];rfl
    |some d=>obtain⟨v,N,_⟩:=F d z;rw[N];rfl
   rw[<-Y]at h
   cases m
   .exact YJ B I (GC.k e) x λl n=>by simpa using h l n
   exact IY B I (GC.k e) x λl n=>by simpa using h l n
  have J:j=[]:=by
   cases j with
   |nil=>rfl
   |cons p j=>obtain⟨c,U⟩:=M (kA p.1) (by simp);exact(Af U).elim
  subst J;obtain⟨b,rfl,T⟩:=oP h1 G;cases x;rw[oh,nil]at h;exact adb B I (Tf (H':=H)<|I.hok a _ e) T m λl n=>by simpa using h l n
 rcases qx hk with⟨C',h1,M⟩|⟨L,h1,_⟩
 .have J:j=[]:=by
   cases j with
   |nil=>rfl
   |cons p j=>obtain⟨c,U⟩:=M (.tup<|p.1.map kA) (by simp);exact(De U).elim
  subst J;have:=ql h1 G;subst this;rw[oh,nil]at h;exact adZ I (Te (H':=H)<|I.hok a _ e) x m λl n=>by simpa using h l n
 obtain⟨b,rfl,T⟩:=oP h1 G;have R:=tj h1;subst R;obtain⟨F,P⟩:=Ad (f:=λk:List Key=>D.tup<|k.map kA) (k:=L) Xm r
 have Y:(uo j L).isSome=(mw (j.map λp=>.tup (p.1.map kA)) o<|.tup<|L.map kA).isSome:=by
  cases z:mw (j.map λp=>.tup (p.1.map kA)) o (.tup<|L.map kA)with
  |none=>rw[P z];rfl
  |some d=>obtain⟨v,N,_⟩:=F d z;rw[N];rfl
 rw[<-Y]at h
 cases m
 .exact YJ B I (GC.t e T) x λl n=>by simpa using h l n
 exact IY B I (GC.t e T) x λl n=>by simpa using h l n
def VN(J:A.units+1<aP)(I:Inv X g i H s)(q:DZ X.K (H a) .dct M n us)(r:AG X.K H O n us)(hk:qy M k=Ap)(l:mw M n k=Y d)(U:kg X.K H O k y)(N:RelV y u)
  (h:∀v w m,Inv X g i H m->Rep X.K H O d v->RelV v w->Q w m):ae (af X.prog X.w) A (el (.ref a) u) Q E s:=by
 have nil:∀n:List D,mw [] n k=AR:=λn=>by cases n<;>rfl
 rcases q with⟨j,e,rfl,rfl⟩|⟨j,e,rfl,rfl⟩
 .rcases qx hk with⟨G,h1,_⟩|⟨Y',h1,x⟩
  .have:=ql h1 U;subst this;have T:=oQ h1;subst T;obtain⟨v,z,B⟩:=(Ad (f:=kA) (k:=G) tJ r).1 d l;refine Cb J I (v:=v) (y:=kV G) ?_ N λw m o L=>h v w m o B L;rw[<-z];exact GC.k e
  cases j with
  |nil=>rw[oh,nil]at l;cases l
  |cons p j=>obtain⟨c,C⟩:=x (kA p.1) (by simp);exact(Af C).elim
 rcases qx hk with⟨G,h1,x⟩|⟨Y',h1,_⟩
 .cases j with
  |nil=>rw[oh,nil]at l;cases l
  |cons p j=>obtain⟨c,C⟩:=x (.tup<|p.1.map kA) (by simp);exact(De C).elim
 obtain⟨b,rfl,F⟩:=oP h1 U;have T:=tj h1;subst T;obtain⟨v,z,B⟩:=(Ad (f:=λk:List Key=>D.tup<|k.map kA) (k:=Y') Xm r).1 d l;refine Cb J I (v:=v) (y:=.ref b) ?_ N λw m o L=>h v w m o B L;rw[<-z];exact GC.t e F
end
def G7(d k:D):Option (D×Bool):=match d with
 |.B4 .dct a b=>if qy a k=J then(mw a b k).map λv=>(v,C)else U
 |_=>CK d k
def Vp(d e:D):Option Bool:=match e with
 |.B4 .dct a b=>if qy a d=J then Y (mw a b d).isSome else U
 |_=>inX d e
def ug(d e:D):Option (D×Bool):=(Vp d e).map λb=>(.bl (!b),C)
section
variable {X:Cx}
def acC(p:X.A.units+62<aP):DO X (aw .NotIn) (rD X.K ug):=by
 intro c s t T x y v u Q N l m h;obtain⟨O,d,e,z,np,h1,j,g,G⟩:=h;by_cases k:∃f i,e=.B4 .dct f i
 .obtain⟨f,i,rfl⟩:=k;obtain⟨b,o,rfl⟩:=jz g;obtain⟨hk,rfl⟩:=jo (show(if qy f d=J then Y (mw f i d).isSome else U)=Y b from o);obtain⟨a,B,rfl,q,r⟩:=oq j;cases m;exact YI (by lia) N q r hk h1 l J λw n=>⟨.bl _,T,n,by simp[L2.RelV],G.bl⟩
 have:ug d e=DN d e:=by
  unfold ug Vp DN;split
  .exact absurd ⟨_,_,rfl⟩ k
  rfl
 rw[this]at g;exact acB p c s t T x y v u Q N l m ⟨O,d,e,z,np,h1,j,g,G⟩
def Yl(T:X.A.units+1<aP):N4 X (rD X.K G7):=by
 intro c b f s C H x y v u Q I p t h o;obtain⟨O,d,e,z,np,h1,m,j,G⟩:=h;by_cases hd:∃i l,d=.B4 .dct i l
 .obtain⟨i,l,rfl⟩:=hd;have k:(if qy i e=Ap then(mw i l e).map λv=>(v,AX)else AR)=A9 z:=j;split at k
  case isFalse=>cases k
  rename_i hk;obtain⟨w,J,rfl⟩:=jz k;obtain⟨a,U,rfl,q,r⟩:=oq h1;cases p;have n:s.TypeIs (.ref a) "dict":=zU I q;unfold i4;refine iL ?_;rw[getitemInPython_of_ne n.not_modules];refine iL<|uO n PySem.F.slot_dict_getitem.lookup ?_
  have fin:ae (af X.prog X.w) X.A (o9 b AX (.ref a) u) (λr g=>ae (af X.prog X.w) X.A (letTemporaryGo c (.ref a) r>>=λ_=>pure r) (EP X f C Q) X.xe g) X.xe s:=by rw[o];exact wpAny_operating<|VN T I q r hk J m t λB Y N E L M=>iL<|wpAny_letTemporaryGo<|ja ⟨B,H,E,M,G B H (λ_ _ e=>e) L⟩
  first
   |exact ja<|iL fin
   |exact iL<|ja<|iL fin
   |exact iL fin
 have:G7 d e=CK d e:=by
  unfold G7;split
  .exact absurd ⟨_,_,rfl⟩ hd
  rfl
 rw[this]at j;exact S7 c b f s C H x y v u Q I p t ⟨O,d,e,z,np,h1,m,j,G⟩ o
noncomputable def IM:F:=λδ=>Y ((.B4 .dct [] [],J),δ)
end
section
variable {K:jl}{T:B2}{b:L2.St}{c:Dn}{H:Hp}{i:Nat}{d e:D}{a:iJ}{o:HO}
end
section
variable {X:Cx}{c:jG}{d:L2.St}{H:Hp}{s:iN}{a:iJ}
def Um(T:Inv X c d H s)(e:H a=Y (.dT [])):Inv X c d (upd H a<|.dK []) s:=by have:=yR (t':=s.toks) (h':=s.heap) T (by rw[e];exact bq) (CV a s.heap) (by obtain⟨z,y,g,r,o,f,b,h1,_⟩:=(show Au X.prog X.w H s.heap a (.dT [])from T.hok a _ e);exact⟨o,h1⟩)<|Te (H':=upd H a<|.dK [])<|T.hok a _ e;exact this
def Ul(T:Inv X c d H s)(e:H a=Y (.dK [])):Inv X c d (upd H a<|.dT []) s:=by have:=yR (t':=s.toks) (h':=s.heap) T (by rw[e];exact bq) (CV a s.heap) (by obtain⟨z,y,g,r,o,f,b,h1,_⟩:=(show Au X.prog X.w H s.heap a (.dK [])from T.hok a _ e);exact⟨o,h1⟩)<|Tf (H':=upd H a<|.dT [])<|T.hok a _ e;exact this
def XT:Sg:=λo i v H Q=>∃a,o=.ref a/\((∃e,Hd H a i v e/\Q e)\/(∃f,H a=Y (.dT [])/\i=kV f/\Q (upd H a<|.dK [(f,v)]))\/
 (∃g b,H a=Y (.dK [])/\i=.ref b/\H b=Y (.tup<|g.map kV)/\Q (upd H a<|.dT [(g,v)])))
def aeP(j:X.A.units+1<aP):V4 X XT:=by
 intro c s d H o i v E T u Q O x l m h;obtain⟨a,rfl,h⟩:=h;cases x;rcases h with⟨r,g,q⟩|⟨y,e,rfl,q⟩|⟨B,b,e,rfl,n,q⟩
 .exact xZ j O g l m λp f=>⟨r,f,q⟩
 .refine xZ j (Um O e) (Hd.k (k:=y) (v:=v) jv<|by rw[kK];decide) l m λp f=>⟨_,f,?_⟩
  rw[HJ];exact q
 have w:b≠a:=SV n e (λz=>nomatch z);refine xZ j (Ul O e) (Hd.t (k:=B) (v:=v) (b:=b) jv (by rw[jx w];exact n)<|by rw[kK];decide) l m λp f=>⟨_,f,?_⟩
 rw[HJ];exact q
end
section
variable {K:jl}{H:Hp}{O:B2}
theorem My{k:Key}{w:D}{v:V}(d:Rep K H O w v):∀{a:List (Key×V)}{b:List D},AG K H O b (a.map (·.2))->AG K H O (sQ (a.map λp=>kA p.1) b (kA k) w) ((a.map λc=>if c.1=k then(c.1,v)else c).map (·.2))
 |[],b,h=>by cases b<;>simpa[sQ]using h
 |(f,u)::a,[],h=>by rw[jP,AG]at h;cases h
 |(f,u)::a,i::b,h=>by
  rw[jP,AG]at h;obtain⟨x,r,e,h1,g⟩:=h;obtain⟨rfl,rfl⟩:=uT e;simp only[jP,sQ,tJ];refine AG.cons ?_<|My d g;by_cases hk:f=k
  .simp only[hk,decide_true,kQ];exact d
  simp only[hk,decide_false,ku,kR];exact h1
theorem Mx{k:List Key}{w:D}{v:V}(d:Rep K H O w v):∀{a:List (List Key×V)}{b:List D},AG K H O b (a.map (·.2))->AG K H O (sQ (a.map λp=>.tup (p.1.map kA)) b (.tup<|k.map kA) w) ((a.map λc=>if c.1=k then(c.1,v)else c).map (·.2))
 |[],b,h=>by cases b<;>simpa[sQ]using h
 |(f,u)::a,[],h=>by rw[jP,AG]at h;cases h
 |(f,u)::a,i::b,h=>by
  rw[jP,AG]at h;obtain⟨x,r,e,h1,g⟩:=h;obtain⟨rfl,rfl⟩:=uT e;simp only[jP,sQ,D.Ba,uj];refine AG.cons ?_<|Mx d g;by_cases hk:f=k
  .simp only[hk,decide_true,kQ];exact d
  simp only[hk,decide_false,ku,kR];exact h1
def SJ(a:Rep K H O w v)(h:AG K H O b (kvs.map (·.2))):
  (uq (kvs.map λp=>kA p.1) b (kA k) w).1=(rP kvs k v).map (λp=>kA p.1)/\AG K H O (uq (kvs.map λp=>kA p.1) b (kA k) w).2 ((rP kvs k v).map (·.2)):=by
 have c:(kvs.map λp=>kA p.1).any (D.Ba · (kA k))=kvs.any λd=>decide (d.1=k):=by rw[xu];congr 1;funext p;exact tJ _ _
 unfold uq rP;rw[c];split
 .refine⟨?_,My a h⟩;rw[kZ];apply oV;intro p _;simp only[bj];split<;>rfl
 exact⟨by simp,by rw[oD];exact h.append<|AG.one a⟩
def SH{k:List Key}{w:D}{v:V}(b:Rep K H O w v){kvs:List (List Key×V)}{a:List D}(h:AG K H O a (kvs.map (·.2))):
  (uq (kvs.map λp=>.tup (p.1.map kA)) a (.tup<|k.map kA) w).1=(rP kvs k v).map (λp=>.tup (p.1.map kA))/\AG K H O (uq (kvs.map λp=>.tup (p.1.map kA)) a (.tup<|k.map kA) w).2 ((rP kvs k v).map (·.2)):=by
 have c:(kvs.map λp=>D.tup<|p.1.map kA).any (D.Ba · (.tup<|k.map kA))=kvs.any λd=>decide (d.1=k):=by rw[xu];congr 1;funext p;simp only[bj,D.Ba,uj]
 unfold uq rP;rw[c];split
 .refine⟨?_,Mx b h⟩;rw[kZ];apply oV;intro p _;simp only[bj];split<;>rfl
 exact⟨by simp,by rw[oD];exact h.append<|AG.one b⟩
end
def Mu(i:Nat)(f:F)(g:FO):FS:=λc=>(f c).bind λp=>match p.2[i]? with
 |some (Y _)=>(g p.2).bind λq=>match res q.2 q.1,q.2[i]? with
  |some k,Y (Y (.B4 .dct a b,J))=>if qy a k=J/\(A2 a)<10000 then Y (.nx<|q.2.set i<|Y (.B4 .dct (uq a b k p.1.1).1 (uq a b k p.1.1).2,J))else U
  |_,_=>U
 |_=>U
section
variable {X:Cx}{e c:iT}{f:F}{g:FO}{b h a d:bu}{i:Nat}{x:au}{A:kN}{L:LL}{j:Hp}
end
end PX
namespace TT
open PySem.SeqAt
structure Hc(h:jg)(d:iJ)(es:Array k9)(ep:Nat):Prop where
 at_:∃o,h.get? d=A9 o/\o.ExactDict/\o.data=.dict es ep
def Hc.Bm{d b a}(x:Hc h d b a)(k:∀o,h.get? d=Y o->c.get? d=Y o):Hc c d b a:=let⟨o,h1,r⟩:=x.at_;⟨o,k _ h1,r⟩
section
variable {c:jm}{w:je}{A:jh}{E:jy}{s:iN}
def Hc.typeIs{d b a}(x:Hc s.heap d b a):s.TypeIs (.ref d) "dict":=let⟨o,h1,r,_⟩:=x.at_;⟨o,h1,r.1⟩
def ac8(hd:(d==bX)=C)(e:Hc s.heap d h g)
  (i:Q (.ref s.heap.objs.size) {s with heap:=s.heap.push {cls:=.type "dict_keyiterator",data:=.fields #[.ref d,.int 0 0,.int h.size 0,.int g 0]}}):ae (af c w) A (c6<|.ref d) Q E s:=by
 have a:=e.typeIs;obtain⟨o,f,j,b⟩:=e.at_;refine FD a K8<|pO K8 a PySem.F.entry_dict_iter ?_<|PySem.F.args_dict_iter_1 _;unfold aY.«dict.__iter__»;refine iL ?_;unfold abq;refine iL<|K7 a ?_;change ae _ _ (pure<|bK d) _ _ s;refine ja ?_;change ae _ _ (gg d>>=_) _ _ s;unfold gg;rw[jr<|by rw[hd];exact lG];refine iL<|ja ?_;refine iL<|vr f b ?_;refine iL<|At f b ?_;refine iL<|oi<|ja ⟨_,rfl,"dict_keyiterator",_,⟨_,kE _ rfl,rfl⟩,KQ.lookup,?_⟩;simpa[ce]using i
def BN(x:A.handled=U){it d:iJ}{i l:Nat}{g:Array k9}{Q:Bw}(f:s.heap.IsKeyIter it d i g.size l)(z:Hc s.heap d g l)(B:i<=g.size)
  (u:∀e,g[i]?=Y e->∀h,h.IsKeyIter it d (i+1) g.size l->ay it s.heap h->Q (Y e.key) {s with heap:=h})
  (t:i=g.size->∀h,eR it s.heap h->Q U {s with heap:=h}):ae (af c w) A (cw<|.ref it) Q E s:=by
 obtain⟨o,n,v,hd⟩:=id f;obtain⟨N,j,O,q⟩:=z.at_;unfold cw;refine iL<|sv<|sM (name:=bS "__next__") f.typeIs KQ<|pO KQ f.typeIs PySem.F.entry_dict_keyiterator_next ?_<|PySem.F.args_dict_keyiterator_next_1 _;refine iL<|ja ?_;refine iL ?_;refine iL ?_;refine iL<|Fy f.typeIs<|ja ?_;refine iL<|wpAny_fieldsOf n hd ?_;have k:Builtin.Dict_items.ownsTuple "dict_keyiterator"=C:=by decide
 simp -iota only[k,ku,kR];change ae _ _ (if(bK d==ao)=J then _ else _) _ _ s;rw[jr (show ¬((bK d==ao)=J)from lG)];refine iL<|ja ?_;refine iL<|vr j q ?_;rw[jr<|by simp];refine iL<|ja ?_;refine iL<|At j q ?_;rw[jr<|by simp];refine ja ?_;dsimp only;simp -iota only[show ¬((i:Int)<0)from by lia,kR,uZ];by_cases y:i<g.size
 .have r:g[i]?=Y g[i]:=qe y;simp -iota only[r];refine iL ?_;refine iL<|Fy f.typeIs<|ja ?_;refine iL<|K6 f.typeIs ?_;change ae _ _ (pc (.ref it) 1 (ce<|(i:Int)+1)>>=_) _ _ s;refine iL (uV n hd (by simp) ?_)
  have p:(s.heap.update it (gV (·.setIfInBounds 1 (ce<|(i:Int)+1)))).IsKeyIter it d (i+1) g.size l:=
   ⟨_,sL _ n (CQ<|uA hd _),(CP ..).trans v,by rw[uA hd];simp[ce]⟩
  refine iL<|mv ?_;refine iL (K6 (s:={s with heap:=s.heap.update it (gV (·.setIfInBounds 1 (ce<|(i:Int)+1)))}) p.typeIs ?_);change ae _ _ (pure g[i].key) _ _ _;exact ja<|ja ⟨_,rfl,ja<|u _ r _ p (qW ..)⟩
 obtain rfl:i=g.size:=by lia
 simp -iota only[CC<|kc g.size];refine iL ?_;refine iL<|Fy f.typeIs<|ja ?_;change ae _ _ (pc (.ref it) 0 .none>>=_) _ _ s;refine iL<|uV n hd (by simp) ?_;change ae _ _ (mA (.type "StopIteration") []>>=_) _ _ _;refine iL ?_;simp -iota only[mA,pp];refine iL<|oi ?_ (by size_fits);refine iL (m:=cK _ _)<|vL (a:=ao) (by first|rfl|(simp -iota only[cK];rfl)) ?_;refine oi ?_ (by size_fits);simp -iota only[Ix];refine iL<|F4 ?_;rw[show A.in1.handled=U from x];refine iL<|ja<|F3 ?_;refine iL<|xt (T:="StopIteration") (b:=J) ⟨_,kE _ rfl,rfl⟩ CM ?_;exact ja<|t I _ (((qW ..).extBut.push _).push _)
def acP(m:A.handled=U)(T d:iJ)(u:T≠d)(g:Array k9)(l:Nat):Wp c w A T [T,d] [T] g.size (λi v=>∃e,g[i]?=Y e/\v=e.key) (λi h=>h.IsKeyIter T d i g.size l/\Hc h d g l) where
 sub:=λb a=>by simp at a;simp[a]
 frame:=λ_ _ _ st hk=>⟨st.1.at λo e=>hk T (by simp) o e,st.2.Bm λo e=>hk d (by simp) o e⟩
 item:=λi s Q E n st f=>by refine BN m st.1 st.2 (vO n) (λe t j p k=>?_) λz=>absurd z<|kF n;exact f _ j s.toks ⟨_,t,rfl⟩ ⟨p,st.2.Bm λo e=>k.extBut d o (λh=>u h.symm) e⟩ λb o a e=>k.extBut b o (λh=>a<|by simp[h]) e
 done:=λs Q E st f=>BN m st.1 st.2 (kc _) (λe r=>absurd (KO.mp r).1<|oX _) λ_ j q=>f j s.toks λb o a e=>q b o (λh=>a<|by simp[h]) e
 self:=λ_ _ _ _ st f=>wpAny_pyIter_keyiter st.1 f
def Pn(hd:(a==bX)=C)(p:A.handled=U)(S:Hc s.heap a d n)(q:d.size<=sizeLine)
  (j:∀h r,(∀b o,s.heap.get? b=Y o->h.get? b=Y o)->Q (d.toList.map (·.key)) {s with heap:=h,toks:=r}):ae (af c w) A (gm<|.ref a) Q E s:=by
 have g:a<s.heap.objs.size:=let⟨_,h1,_⟩:=S.at_;km h1;refine yn (.inr ⟨rfl,rfl⟩) g (λx k=>(S.Bm k).typeIs) (acP (by show A.handled=U;exact p) (s.heap.objs.size+1) a (pP<|uX g) d n) q (λi v ⟨e,m,hv⟩=>?_) (by rw[kd,lT]) (λl t k=>?_) j
 .rw[kS,nu,m,hv];rfl
 have f:Hc (s.heap.push l) a d n:=S.Bm λo e=>ke _ e;have ext:∀(u:fD) b o,(s.heap.push l).get? b=Y o->((s.heap.push l).push u).get? b=Y o:=λu b o e=>ke _ e;refine ac8 (s:={s with heap:=s.heap.push l}) hd f ?_;have z:(s.heap.push l).objs.size=s.heap.objs.size+1:=qg _ _;have:=k _ ⟨show((s.heap.push l).push {cls:=.type "dict_keyiterator",data:=.fields #[.ref a,.int 0 0,.int d.size 0,.int n 0]}).IsKeyIter (s.heap.objs.size+1) a 0 d.size n from⟨_,by rw[<-z];exact kE _ rfl,rfl,rfl⟩,f.Bm λo e=>ext _ _ _ e⟩ (ext _);rw[<-z]at this;exact this
end
end TT
namespace PX
open L2 PySem.SeqAt TS
def mY(d:D):Option (D×Bool):=match d with
 |.B4 .dct a b=>if(a.all λk=>(tu k).isSome)=J/\a≠[]then ly a else U
 |_=>tx d
section
variable {X:Cx}
def adG{P:jm}{w:je}{e:List k9}{f:List (Key×iQ)}{a:List (Key×V)}(h:Pairs (lb P w) e f)(q:KV a f):Vals (a.map λp=>kV p.1) (e.map (·.key)):=by
 induction h generalizing a with
 |nil=>cases q;exact .nil
 |cons h1 j t g=>
  obtain _|⟨r,q⟩:=q;refine .cons ?_<|g q;dsimp only;rw[r.1];rcases lh (show Ae _ _=J from h1)with⟨i,d,b,c⟩|⟨x,d,b,c⟩
  .rw[b,c];exact⟨d,rfl⟩
  rw[b,c];exact⟨d,rfl⟩
theorem BI{K:jl}{T:Hp}{O:B2}:∀(a:List (Key×V)),AG K T O (a.map λp=>kA p.1)<|a.map λp=>kV p.1
 |[]=>AG.nil
 |(k,v)::a=>by
  refine AG.cons ?_<|BI a
  cases k with
  |inl i=>exact Rep.mkInt
  |inr x=>exact Rep.mkStr
def X5{X:Cx}{id:String}{g f:D->Option (D×Bool)}(i:kH X (.builtin id) (GL X.K<|g1 f)){c:jG}{s:iN}{e:L2.St}{T:Hp}{x:V}{u:iQ}{Q:VK}{O:B2}{d:D}{z:D×Bool}(N:Inv X c e T s)(k:L2.RelV x u)(np:∀p,¬Ow (T p)->¬O p)(hd:kg X.K T O d x)(h:f d=Y z)(G:Gen X.K T O z Q):
  ae (af X.prog X.w) X.A (call (.builtin id) [u]) (EP X c e Q) X.xe s:=
 i c s e T [x] [u] Q N (.cons k .nil) ⟨O,[d],z,np,rfl,(λj l m a b=>by
   cases j with
   |zero=>simp at a b;subst a;subst b;exact hd
   |succ j=>simp at a),h,G⟩
def abL(j:X.calm=Ap)(n:X.A.units+62<aP):kH X (.builtin "sorted") (GL X.K<|g1 mY):=nU λt s σ H x u Q O d z I v np hd l G=>by
 by_cases m:∃f w,d=.B4 .dct f w
 .obtain⟨f,w,rfl⟩:=m;have h:(if(f.all λk=>(tu k).isSome)=Ap/\f≠[]then ly f else AR)=A9 z:=l;split at h
  .rename_i c;obtain⟨a,us,rfl,q,r⟩:=oq hd;cases v;rcases q with⟨b,e,rfl,rfl⟩|⟨b,e,rfl,rfl⟩
   .obtain⟨zl,B,D,i,o,V,S,h1,E,L,W,T,Z⟩:=Tb I.hok e;have y:=adG T i;have N:=y.length;simp only[kd,lT]at N;have M:X.A.handled=AR:=I.ok.hd j;exact tV n I (BI (O:=O) b) y h G λR P F U J=>TT.Pn B (by rw[U];exact M) ⟨o,h1,E,L⟩ (by lia) λC Y k=>J C Y k
   exfalso
   cases b with
   |nil=>exact c.2 AM
   |cons p b=>have:=mJ.mp c.1 (.tup<|p.1.map kA) (by simp);simp[tu]at this
  cases h
 have:mY d=tx d:=by
  unfold mY;split
  .exact absurd ⟨_,_,rfl⟩ m
  rfl
 exact X5 (g:=mY) (abT j n) I v np hd (by rw[<-this];exact l) G
noncomputable def GD:FS:=λ_=>U
end
noncomputable def yQ(i:Nat)(f:F):F:=λδ=>match δ[i]? with
 |some (Y (.lst _,J))=>(f δ).bind λp=>match p.1,p.2[i]? with
  |(.lst m,J),Y (Y (.lst l,J))=>if (A2 l)+A2 m<=sizeLine then Y ((.Ar,C),p.2.set i<|Y (.lst<|l++m,J))else U
  |_,_=>U
 |_=>U
section
variable {X:Cx}{e:iT}{f:F}{b d a c:bu}{i:Nat}{x:au}
end
structure PXs(X:Cx)(es:ky)(fs:List F):Prop where
 pa:PA X es (tA X.K<|fs.map iX)
section
variable {X:Cx}{e:iT}{b:ky}{f:F}{fs:List F}{a:bu}
end
structure QX(X:Cx)(e:iT)(f:F):Prop where
 h:PX X e f
structure QO(X:Cx)(e:iT)(f:FO):Prop where
 h:PX.PO X e f
structure QA(X:Cx)(es:ky)(fs:List FO):Prop where
 h:PA X es (tA X.K fs)
structure QL(X:Cx)(es:ky)(fs:List F):Prop where
 h:PXs X es fs
structure QT(X:Cx)(e:iT)(f:FT):Prop where
 h:Nb X e f
structure QW(X:Cx)(e:iT)(f:FT):Prop where
 h:PWX X e f
structure QG(X:Cx)(A:kN)(e:iT)(t:Tg):Prop where
 h:KC X A e t
structure QI(X:Cx)(B:SB)(tg e:iT)(f:Dr):Prop where
 h:Ju X B tg e f
structure QF(X:Cx)(es:ky)(f:FT):Prop where
 h:JT X es (tT X.K f)
structure QB(X:Cx)(A:kN)(d:iJ)(e:iT)(n:Nat)(f:FB):Prop where
 h:PB X (jX e n (.ref d) X.env) (Hw AX X.K A d f)
structure QS(X:Cx)(A:kN)(L:LL)(H0:Hp)(st:bn)(f:FS):Prop where
 h:MJ X A L H0 st f
structure QQ(X:Cx)(A:kN)(L:LL)(H0:Hp)(st:List bn)(f:FS):Prop where
 h:Ft X A L H0 st f
structure QC(X:Cx)(v:iQ)(g:List D->Option (D×Bool)):Prop where
 h:kH X v (GL X.K g)
structure QP(X:Cx)(o:yb)(g:D->D->Option (D×Bool)):Prop where
 h:DO X o (rD X.K g)
abbrev SE(X:Cx)(e:iT)(a:ky):Prop:=ac (e::a) X.env=(C,aW e X.env)::ac a X.env
abbrev BA(X:Cx)(p:bu)(a:ky):Prop:=(aT p<|ac a X.env).any (·.1)=C
theorem rF:C=C:=rfl
theorem rT:J=J:=rfl
abbrev DB(x:au):Prop:=(x==("__debug__":au))=C
abbrev un(A:jh)(n:Nat):Prop:=A.units+n<aP
structure ZZ where
 P:jm
 w:je
 K:jl
 mg:au->Option iQ
 base:jg
def Oz(Z:ZZ)(k:Nat)(x:au)(b:jw)(c:Bn):Prop:= ∃f a,DV Z.P Z.w Z.K Z.mg Z.base GP k f a b (J7 Z.K c)/\Z.mg x=Y (.ref f)/\bD Z.K (.ref f)=J/\Binds Z.K a b []
def Oz.up{Z:ZZ}{k j:Nat}{x:au}{d:jw}{c:Bn}(o:Oz Z k x d c)(h:k<=j:=by decide):Oz Z j x d c:=let⟨f,e,a,b⟩:=o;⟨f,e,a.mono h,b⟩
noncomputable abbrev zX(X:Cx):ZZ:=⟨X.prog,X.w,X.K,X.mg,X.base⟩
def tgN:Expr->List au
 |.Name x _=>[x]
 |.Tuple [.Name x _,.Name y _] _ _=>[x,y]
 |_=>[]
def cN(N:jw)(a:kb)(b:pM):List Str:=a.filterMap (N[·]?)++b.flatMap λg=>tgN g.target
noncomputable def JK:List (au×iQ):=[("len",.builtin "len"),("abs",.builtin "abs"),("int",.type "int"),("tuple",.type "tuple"),("list",.type "list"),("bool",.type "bool"),("max",.builtin "max"),("min",.builtin "min"),("all",.builtin "all"),("any",.builtin "any"),("sorted",.builtin "sorted"),("set",.type "set")]
def btA{c:lE}(T:Tx c):∀p∈JK,c p.1=U/\aE p.1=Y p.2:=by
 have h:∀p∈JK,aE p.1=Y p.2:=by decide+kernel
 intro p b;refine⟨?_,h p b⟩;have a:p∈JK:=b;unfold JK at a;simp only[kM,lN,mC]at a;rcases a with rfl|rfl|rfl|rfl|rfl|rfl|rfl|rfl|rfl|rfl|rfl|rfl
 .exact T.n_len
 .exact T.n_abs
 .exact T.n_int
 .exact T.n_tuple
 .exact T.n_list
 .exact T.n_bool
 .exact T.n_max
 .exact T.n_min
 .exact T.n_all
 .exact T.n_any
 .exact T.n_sorted
 exact T.n_set
theorem GY{z:au}{v:iQ}:∀{l:List (au×iQ)},l.lookup z=Y v->(z,v)∈l
 |[],h=>by cases h
 |(y,u)::l,h=>by
  rw[oE]at h;split at h
  .rename_i q;cases h;rw[sf q];exact .head _
  exact .tail _ (GY h)
def Hn{a:lE}{z:au}{v:iQ}(T:Tx a)(h:JK.lookup z=Y v):a z=U:=(btA T _ (GY h)).1
def M7{z:au}{v:iQ}(h:JK.lookup z=Y v):aE z=Y v:=(show ∀p∈JK,aE p.1=Y p.2 from by decide+kernel) _ (GY h)
section
variable {X:Cx}{x z:au}{e a b c st lo J:iT}{M:ky}{fa fb fc fo fl fh:FO}{f g:F}{ft fu:FT}{p p2 p3 G U apos:bu}{A:kN}{L:LL}{B:SB}{H0:Hp}{fs:List FO}{bZ:List F}{i j k:Nat}{tg:iT}{S:bn}{Ss Ts:List bn}{u v:FS}
def Ye{d:jS}{x:au}(h:(match d.names.lookup x with|some .local|some .cell=>Ap|_=>C)=Ap):Loc d x:=by
 unfold L2.Loc;cases e:d.names.lookup x with
 |none=>rw[e]at h;cases h
 |some k=>cases k<;>(rw[e]at h;first|exact .inl rfl|exact .inr rfl|cases h)
def TX{d:jS}{x:au}(h:(match d.names.lookup x with|some .local|some .cell|some .free=>Ap|_=>C)=Ap):Ke d x:=by
 unfold Ke;cases e:d.names.lookup x with
 |none=>rw[e]at h;cases h
 |some k=>cases k<;>(rw[e]at h;first|exact .inl rfl|exact .inr (.inl I)|exact .inr (.inr I)|cases h)
def xV(h1:X.N[i]?=Y x:=by rfl)(l:Ke X.env.scope x:=by exact TX rT)(m:DB x:=by exact rF)(n:(x==("__classdict__":au))=C:=by exact rF):QO X (.Name x G) (iK i):=⟨PE.imp' (zS h1 l m n) λw O Q h=>by
 obtain⟨r,T,o,s,E,e,k⟩:=h;unfold iK at e
 cases J:r[i]? with
 |none=>rw[J]at e;cases e
 |some q=>
  cases q with
  |none=>rw[J]at e;cases e
  |some p=>obtain⟨d,b⟩:=p;rw[J]at e;obtain⟨rfl,rfl⟩:=jn e;obtain⟨t,v,h1,l⟩:=E.freeze J;exact⟨v,h1,k v O ⟨.refl,E,h1⟩⟩⟩
def xW(h1:X.N[i]?=Y x:=by rfl)(l:Ke X.env.scope x:=by exact TX rT)(n:DB x:=by exact rF)(q:(x==("__classdict__":au))=C:=by exact rF):QX X (.Name x G) (kI i):=⟨PX.imp (zS h1 l n q) λw O Q h=>by
 obtain⟨s,T,r,t,E,e,k⟩:=h;unfold kI at e
 cases J:s[i]? with
 |none=>rw[J]at e;cases e
 |some o=>
  cases o with
  |none=>rw[J]at e;cases e
  |some p=>obtain⟨d,b⟩:=p;rw[J]at e;cases e;obtain⟨m,v,h1,l⟩:=E.freeze J;exact⟨v,h1,k v O<|Bk.val .set m l⟩⟩
def xO(h:QX X e f):QO X e (iX f):=⟨PX.po h.h⟩
def x1{j}:QX X (.Constant .none j G) (fC .Ar):=⟨PX.imp UR λl O Q h=>by obtain⟨δ,T,r,d,E,e,k⟩:=h;cases e;exact k _ _ (Bk.val .refl E (by first|exact Rep.mkInt|exact Rep.Hm|exact Rep.GU|exact Rep.mkStr))⟩
def x2{i j}:QX X (.Constant (.bool i) j G) (fC<|.bl i):=⟨SF⟩
def x3{i j}:QX X (.Constant (.int i) j G) (fC<|.int i):=⟨PX.imp Na λl O Q h=>by obtain⟨δ,T,r,d,E,e,k⟩:=h;cases e;exact k _ _ (Bk.val .refl E (by first|exact Rep.mkInt|exact Rep.Hm|exact Rep.GU|exact Rep.mkStr))⟩
def x4{i j}:QX X (.Constant (.str i) j G) (fC<|.str i):=⟨PX.imp UO λl O Q h=>by obtain⟨δ,T,r,d,E,e,k⟩:=h;cases e;exact k _ _ (Bk.val .refl E (by first|exact Rep.mkInt|exact Rep.Hm|exact Rep.GU|exact Rep.mkStr))⟩
def x7:QX X (.Dict [] [] G) IM:=⟨PX.imp afg λn O Q h=>by obtain⟨δ,T,m,l,E,e,k⟩:=h;cases e;intro p d;have B:=Ops.nil E;exact(B.done k) p _ d (lO d) ⟨[],.inl ⟨[],jv,rfl,rfl⟩,AG.nil⟩⟩
def Zv{d:Operator}{g:D->D->Option (D×Bool)}(o:QP X (bC d) g)(l:QO X a fa)(m:QO X b fb):QX X (.BinOp a d b G) (jf g fa fb):=⟨NK<|X3 o.h l.h m.h⟩
def Zo(d:QO X a fa):QX X (.UnaryOp .USub a G) (ma Al fa):=⟨px1<|X2 PN d.h⟩
def Zn(q:QX X a f):QX X (.UnaryOp .Not a G) (VG f):=⟨PX.imp (UQ q.h) λI N Q s=>by obtain⟨w,T,r,y,E,e,k⟩:=s;obtain⟨p,h1,e⟩:=iM e;obtain⟨c,O,n,m⟩:=iR e;obtain⟨o,rfl⟩:=AU n;obtain⟨rfl,rfl⟩:=jn m;refine⟨w,T,_,_,E,h1,λv l P=>?_⟩;obtain⟨d,t⟩:=P.rep E;exact⟨c,t.bl,k _ l (Bk.val P.1 d Rep.Hm)⟩⟩
def Zu{d:cF}{g:D->D->Option (D×Bool)}(o:QP X (aw d) g)(l:QO X a fa)(m:QO X b fb)(n:dy d b=C:=by first|exact Nu _|with_unfolding_all rfl):QX X (.Compare a [d] [b] G) (jf g fa fb):=⟨NK<|Qu o.h l.h m.h n⟩
def ZM{d:cF}{g:D->D->Option (D×Bool)}(o:QP X (aw d) g)(l:QO X a fa)(m:QO X b fb)(n:dy d b=C:=by first|exact Nu _|with_unfolding_all rfl):QT X (.Compare a [d] [b] G) (fT<|jf g fa fb):=⟨
 PT.imp' (Qm o.h l.h m.h n) λr T Q q=>QZ XU<|Sq q⟩
def xCh{d l:cF}(m:QO X a fa)(n:QO X b fb)(o:QO X c fc)(s:BW d:=by first|exact .inl rfl|exact .inr (.inl I)|exact .inr (.inr<|.inl I)|exact .inr<|.inr<|.inr I)(t:BW l:=by first|exact .inl rfl|exact .inr (.inl I)|exact .inr (.inr<|.inl I)|exact .inr<|.inr<|.inr I)(q:lastMarks [d,l] [b,c]=C:=by exact rF):QX X (.Compare a [d,l] [b,c] G) (AB d l fa fb fc):=⟨
 PX.imp (afh (Il s) (Il t) m.h n.h o.h q) λw T Q r=>aed r⟩
def xBo{op}(d:QX X a f):QX X (.BoolOp op [a] G) f:=⟨UP d.h⟩
def Zx(C:QX X a f)(I:QX X (.BoolOp .And (b::M) G) g):QX X (.BoolOp .And (a::b::M) G) (xX f g):=⟨PX.imp (UT C.h I.h) λD H Q O=>by
 obtain⟨Y,T,r,l,E,e,k⟩:=O;obtain⟨p,h1,e⟩:=iM e;obtain⟨c,m,y,d⟩:=iR e;obtain⟨o,rfl⟩:=AU y;refine⟨Y,T,_,_,E,h1,λv q P=>?_⟩;obtain⟨n,N⟩:=P.rep E;refine⟨c,N.bl,?_⟩
 cases c with
 |true=>rw[jb AM]at d;rw[jb AM];exact⟨m,T,r,l,n,d,λw s t=>k w s<|t.pre P.1⟩
 |false=>rw[jr lG]at d;rw[jr lG];obtain⟨rfl,rfl⟩:=jn d;exact k _ q (Bk.val P.1 n Rep.Hm)⟩
def Zz(w:QT X a ft)(y:QW X (.BoolOp .And (b::M) G) fu):QW X (.BoolOp .And (a::b::M) G) (Fb ft fu):=⟨PW.imp' (UB w.h y.h) λO H Q N=>by
 obtain⟨I,T,c,l,E,e,k⟩:=N;obtain⟨o,d,h1,e⟩:=iR e;refine⟨I,T,o,d,E,h1,λr n m=>?_⟩
 cases o with
 |true=>rw[jb AM]at e;rw[jb AM];exact⟨d,T,c,l,m,e,λs t q=>k s (n.trans t) q⟩
 |false=>rw[jr lG]at e;rw[jr lG];obtain⟨rfl,rfl⟩:=jn e;exact k r n m⟩
def wOr(w:QT X a ft)(y:QW X (.BoolOp .Or (b::M) G) fu):QW X (.BoolOp .Or (a::b::M) G) (E9 ft fu):=⟨PW.imp' (XZ w.h y.h) λO H Q N=>by
 obtain⟨I,T,c,l,E,e,k⟩:=N;obtain⟨o,d,h1,e⟩:=iR e;refine⟨I,T,o,d,E,h1,λr n m=>?_⟩
 cases o with
 |true=>rw[jb AM]at e;rw[jb AM];obtain⟨rfl,rfl⟩:=jn e;exact k r n m
 |false=>rw[jr lG]at e;rw[jr lG];exact⟨d,T,c,l,m,e,λs t q=>k s (n.trans t) q⟩⟩
def Xl(d:QT X a ft):QW X (.BoolOp .And [a] G) ft:=⟨Qk d.h⟩
def Zy(d:QT X a ft):QW X (.BoolOp .Or [a] G) ft:=⟨UA d.h⟩
def tW{op}(h:QW X (.BoolOp op M G) ft):QT X (.BoolOp op M G) ft:=⟨PW.pt h.h⟩
def Ko(m:QT X a ft):QT X (.UnaryOp .Not a G) (uI ft):=⟨PT.imp' (UG m.h) λr O Q n=>by obtain⟨o,T,c,q,E,e,k⟩:=n;obtain⟨l,d,h1,e⟩:=iR e;obtain⟨rfl,rfl⟩:=jn e;exact⟨o,T,l,d,E,h1,k⟩⟩
def ZE(h:QX X e f)(l:∀d,isTrue e X.env d=(do let v <-d;dv e.pos;ca [v] (truthy v)):=by intro _;rfl):QT X e (fT f):=⟨PT.imp' (UE h.h l) λn T Q m=>Sq m⟩
def xIf(y:QT X c ft)(s:QX X a f)(t:QX X b g):QX X (.IfExp c a b G) (M5 ft f g):=⟨PX.imp (aff y.h s.h t.h) λN H Q C=>by
 obtain⟨I,T,r,l,E,e,k⟩:=C;obtain⟨c,d,h1,e⟩:=iR e;refine⟨I,T,c,d,E,h1,λO q o=>?_⟩
 cases c with
 |true=>rw[jb AM]at e;rw[jb AM];exact⟨d,T,r,l,o,e,λw m n=>k w m<|n.pre q⟩
 |false=>rw[jr lG]at e;rw[jr lG];exact⟨d,T,r,l,o,e,λw m n=>k w m<|n.pre q⟩⟩
def xIx(d:QO X a fa)(l:QO X b fb)(m:D4 b:=by exact λ_ _=>rfl):QX X (.Subscript a b G) (jf CK fa fb):=⟨NK<|SO S7 d.h l.h m⟩
def Zq(n:un X.A 1)(d:QO X a fa)(l:QO X b fb)(m:D4 b:=by exact λ_ _=>rfl):QX X (.Subscript a b G) (jf G7 fa fb):=⟨NK<|SO (Yl n) d.h l.h m⟩
def Zj(r:QO X a fa)(s:QO X lo fl):QX X (.Subscript a (.Slice (A9 lo) AR AR p2) G) (Ay fa fl):=⟨
 PX.imp (EB XF r.h (Ia s.h) Ib) λK H Q w=>by
  obtain⟨O,T,F,N,E,e,k⟩:=w;unfold Ay at e;obtain⟨o,d,h1,e⟩:=iR e;obtain⟨I,m,q,e⟩:=iR e;dsimp only at e;split at e
  .rename_i i J;obtain⟨x,y,e⟩:=iM e;obtain⟨z,C,e⟩:=iM e;obtain⟨rfl,rfl⟩:=jn e;refine⟨O,T,o,d,E,h1,λv Y l=>⟨d,Bu T o v,I,m,l.er E,q,λu D n=>?_⟩⟩;have B:=Ops.cons E l<|Ops.cons (l.er E) n<|Ops.nil<|n.er<|l.er E;exact⟨i,jB<|B.view (j:=1) AM AM J,_,x,z,λp t=>B.np t,B.view (j:=0) AM AM y,C,B.done k⟩
  cases e⟩
def Zk(r:QO X a fa)(s:QO X J fh):QX X (.Subscript a (.Slice AR (A9 J) AR p2) G) (tE fa fh):=⟨
 PX.imp (EB XF r.h Ib<|Ia s.h) λK H Q w=>by
  obtain⟨O,T,F,N,E,e,k⟩:=w;unfold tE at e;obtain⟨o,d,h1,e⟩:=iR e;obtain⟨I,m,q,e⟩:=iR e;dsimp only at e;split at e
  .rename_i i J;obtain⟨x,y,e⟩:=iM e;obtain⟨z,C,e⟩:=iM e;obtain⟨rfl,rfl⟩:=jn e;refine⟨O,T,o,d,E,h1,λv Y l=>⟨d,Bu T o v,I,m,l.er E,q,λu D n=>?_⟩⟩;have B:=Ops.cons E l<|Ops.cons (l.er E) n<|Ops.nil<|n.er<|l.er E;exact⟨i,jB<|B.view (j:=1) AM AM J,_,x,z,λp t=>B.np t,B.view (j:=0) AM AM y,C,B.done k⟩
  cases e⟩
def xL0:QL X [] []:=⟨⟨we⟩⟩
def xL(d:QX X e f)(l:QL X M bZ)(m:SE X e M:=by rfl):QL X (e::M) (f::bZ):=⟨⟨qw (PX.po d.h) l.h.pa m⟩⟩
def xA0:QA X [] []:=⟨we⟩
def xA(d:QO X e fa)(l:QA X M fs)(m:SE X e M:=by rfl):QA X (e::M) (fa::fs):=⟨qw d.h l.h m⟩
def Zh{k}(h:QL X M bZ):QX X (.Tuple M k G) (ou bZ):=⟨Ut h.h.pa⟩
def Zp(h:QL X M bZ):QX X (.List M G) (mR bZ):=⟨Uy h.h.pa⟩
def xB{id:String}{g:List D->Option (D×Bool)}(T:Tx X.mg)(hv:JK.lookup z=Y (.builtin id))(m:QC X (.builtin id) g)(l:QA X (e::M) fs)(o:Gl X z:=by rfl)(q:z≠"__name__":=by decide)(r:DB z:=by exact rF)(n:SE X e M:=by rfl)(d:BA X G M:=by exact rF):QX X (.Call (.Name z p) (e::M) [] G) (ju g fs):=⟨Dq m.h o (Hn T hv) (M7 hv) l.h q r n d⟩
def xT{id:String}{g:List D->Option (D×Bool)}(T:Tx X.mg)(hv:JK.lookup z=Y (.type id))(m:QC X (.type id) g)(l:QA X (e::M) fs)(o:Gl X z:=by rfl)(q:z≠"__name__":=by decide)(r:DB z:=by exact rF)(n:SE X e M:=by rfl)(d:BA X G M:=by exact rF):QX X (.Call (.Name z p) (e::M) [] G) (ju g fs):=⟨HW m.h o (Hn T hv) (M7 hv) l.h q r n d⟩
def xI{t:Ty}(T:Tx X.mg)(d:JK.lookup z=Y (.type t.n))(o:QO X e fa)(q:Gl X "isinstance":=by rfl)(l:Gl X z:=by rfl)(r:z≠"__name__":=by decide)(s:DB z:=by exact rF)
  (s1:SE X e [.Name z p2]:=by rfl)(w:SE X (.Name z p2) []:=by rfl)(m:BA X G [.Name z p2]:=by exact rF):
  QX X (.Call (.Name "isinstance" p) [e,.Name z p2] [] G) (ma (wB [t]) fa):=⟨Uz o.h q T.n_isinstance l (Hn T d) (M7 d) r s og s1 w m⟩
def xI2{t r:Ty}{d:au}{m:bu}{l}(T:Tx X.mg)(q:JK.lookup z=A9 (.type t.n))(o:JK.lookup d=A9 (.type r.n))(H:QO X e fa)(I:Gl X "isinstance":=by rfl)(s:Gl X z:=by rfl)(O:z≠"__name__":=by decide)(Q:DB z:=by exact rF)(y:Gl X d:=by rfl)(w:d≠"__name__":=by decide)(C:DB d:=by exact rF)
  (s1:SE X e [.Tuple [.Name z p2,.Name d p3] l m]:=by rfl)(N:SE X (.Tuple [.Name z p2,.Name d p3] l m) []:=by rfl)
  (Y:SE X (.Name z p2) [.Name d p3]:=by rfl)(s4:SE X (.Name d p3) []:=by rfl)
  (E:BA X G [.Tuple [.Name z p2,.Name d p3] l m]:=by exact rF):
  QX X (.Call (.Name "isinstance" p) [e,.Tuple [.Name z p2,.Name d p3] l m] [] G) (ma (wB [t,r]) fa):=⟨Qh H.h I T.n_isinstance s (Hn T q) (M7 q) O Q y (Hn T o) (M7 o) w C og s1 N Y s4 E⟩
def xU{k:Nat}{y:jw}{d:Bn}(s:Bg k X.A)(O:Oz (zX X) k x y d)(n:QA X (e::M) fs)(q:Gl X x:=by rfl)(t:DB x:=by exact rF)
  (o:SE X e M:=by rfl)(m:BA X G M:=by exact rF):QX X (.Call (.Name x p) (e::M) [] G) (jc d fs):=
 let⟨_,_,ok,r,w,l⟩:=O;⟨Qg ok s q r w l n.h t o m⟩
def Zl{T:String}{mk:List D->D}{o:Bool}(d:Tx X.mg)(hv:JK.lookup z=Y (.type T))(r:QA X [a,b] [fa,fb])(q:(T="list"/\mk=.lst/\o=Ap)\/(T="tuple"/\mk=.tup/\o=C):=by first|exact .inl ⟨rfl,rfl,rfl⟩|exact .inr ⟨rfl,rfl,rfl⟩)(s:X.calm=Ap:=by rfl)(t:Gl X z:=by rfl)(w:z≠"__name__":=by decide)(y:DB z:=by exact rF)(m:Gl X "range":=by rfl)
  (s1:SE X (.Call (.Name "range" p2) [a,b] [] p3) []:=by rfl)(Q:SE X a [b]:=by rfl)
  (n:BA X G []:=by exact rF)(l:BA X p3 [b]:=by exact rF):
  QX X (.Call (.Name z p) [.Call (.Name "range" p2) [a,b] [] p3] [] G) (ju (JX mk o) [fa,fb]):=⟨Uu q s t (Hn d hv) (M7 hv) w y m d.n_range r.h s1 Q n l⟩
def Zw(hv:QO X (.Name x U) (iK i))(he:QX X e f)(j8:MM X (.Name x U) "append":=by rfl)
  (l5:MK X G [e]:=by rfl)
  (j6:(apos.endLine==G.line)=Ap:=by rfl)(C:SE X e []:=by rfl)(f9:BA X G []:=by exact rF):QX X (.Call (.Attribute (.Name x U) "append" apos) [e] [] G) (md i f):=⟨
 PX.imp (Ih Cv PySem.F.slot_list_append PySem.F.type_list_append adC hv.h (lP he.h oz C) j8 l5 j6 C f9) λσ H Q R=>by
 obtain⟨n,T,rr,δ',E,e,k⟩:=R;unfold md at e;split at e
 .rename_i l0 t;obtain⟨r,o,h1,e⟩:=iR e;dsimp only at e;split at e
  .rename_i l w;obtain⟨V,e⟩:=jo e;obtain⟨rfl,rfl⟩:=sd e;refine⟨n,T,.slot i,n,E,by unfold iK;rw[t],λv H1 P=>?_⟩;obtain⟨Y,m,d⟩:=P;obtain⟨a,g1,K,g2,g3⟩:=m.own i _ t;rw[d]at g1;cases g1;refine⟨.inl ⟨rfl,K,Fd.of g2⟩,n,T,r,o,m,h1,λy H2 s=>?_⟩;obtain⟨q,Z⟩:=s.rep m;obtain⟨a',I,xs,W,O⟩:=q.own i _ w;rw[d]at I;cases I;refine⟨_,xs,y,rfl,rfl,W,by rw[O.length];exact V,?_⟩;obtain⟨N,D⟩:=q.write w d<|O.append<|AG.one Z;exact k _ _ (Bk.val ((Y.trans s.1).trans D) N Rep.GU)
  cases e
 cases e⟩
def Zs(hv:QO X (.Name x U) (iK i))(he:QX X e f)(j8:MM X (.Name x U) "extend":=by rfl)
  (l5:MK X G [e]:=by rfl)
  (j6:(apos.endLine==G.line)=Ap:=by rfl)(O:SE X e []:=by rfl)(f9:BA X G []:=by exact rF):QX X (.Call (.Attribute (.Name x U) "extend" apos) [e] [] G) (yQ i f):=⟨
 PX.imp (Ih Cv PySem.F.slot_list_extend PySem.F.type_list_extend adB hv.h (lP he.h oz O) j8 l5 j6 O f9) λσ H Q hw=>by
 obtain⟨t,T,rr,δ',E,e,k⟩:=hw;unfold yQ at e;split at e
 .rename_i l0 C;obtain⟨r,n,h1,e⟩:=iR e;dsimp only at e;split at e
  .rename_i m l I;obtain⟨hz,e⟩:=jo e;obtain⟨rfl,rfl⟩:=sd e;refine⟨t,T,.slot i,t,E,by unfold iK;rw[C],λv H1 P=>?_⟩;obtain⟨Z,o,d⟩:=P;obtain⟨a,g1,cg,g2,g3⟩:=o.own i _ C;rw[d]at g1;cases g1;refine⟨.inl ⟨rfl,cg,Fd.of g2⟩,t,T,_,n,o,h1,λy W q=>?_⟩;obtain⟨w,ry⟩:=q.rep o;obtain⟨p,rfl,hp,dh,R,o1,N⟩:=q.2;obtain⟨a',Y,xs,q2,D⟩:=w.own i _ I;rw[d]at Y;cases Y;have s:AG X.K W (λb=>Aa σ n b\/T b) m R:=AG.mono (λ_ _ e _=>e) (λb _ z=>z.elim bH λz=>bL<|bH z) N;refine⟨_,p,xs,R,rfl,rfl,q2,o1,by rw[D.length,N.length];exact hz,?_⟩;obtain⟨V,K3⟩:=w.write I d<|D.append s;exact k _ _ (Bk.val ((Z.trans q.1).trans K3) V Rep.GU)
  cases e
 cases e⟩
def Zm(hv:QO X (.Name x U) (iK i))(he:QO X e fo)(j8:MM X (.Name x U) "pop":=by rfl)
  (l5:MK X G [e]:=by rfl)
  (j6:(apos.endLine==G.line)=Ap:=by rfl)(hs:SE X e []:=by rfl)(f9:BA X G []:=by exact rF):QX X (.Call (.Attribute (.Name x U) "pop" apos) [e] [] G) (Az i fo):=⟨
 PX.imp (Ih Cv PySem.F.slot_list_pop PySem.F.type_list_pop Nx hv.h (lP he.h oz hs) j8 l5 j6 hs f9) λσ H Q hw=>by
 obtain⟨C,T,rr,δ',E,e,k⟩:=hw;unfold Az at e;split at e
 .rename_i l0 N;obtain⟨o,q,h1,e⟩:=iR e;dsimp only at e;split at e
  .rename_i R l hk Y;split at e
   case isFalse=>cases e
   rename_i D;obtain⟨j,hj,e⟩:=iM e;obtain⟨d,hd,e⟩:=iM e;obtain⟨rfl,rfl⟩:=jn e;refine⟨C,T,.slot i,C,E,by unfold iK;rw[N],λv H1 P=>?_⟩;obtain⟨K1,r,m⟩:=P;obtain⟨a,g1,cg,g2,g3⟩:=r.own i _ N;rw[m]at g1;cases g1;refine⟨.inl ⟨rfl,cg,Fd.of g2⟩,C,T,o,q,r,h1,λy H2 O=>?_⟩;have B:=Ops.cons r O<|Ops.nil<|O.er r;have vy:=jB<|B.view (j:=0) AM AM hk;have I:ER X.K H2 T σ q:=B.er.mono (λ_ _ e _=>e) (λb _ z=>B.tt b z) λa z=>B.er.dom a<|B.tt a z;obtain⟨a',V,W,q2,t⟩:=I.own i _ Y;rw[m]at V;cases V;obtain⟨w,w1,w2⟩:=t.get hd;have hl:=t.length;have eA:GN W.length R=A9 j:=by rw[hl];exact hj
   obtain⟨s1,s2,s3,s4⟩:=DI eA;obtain⟨Z,s⟩:=I.write Y m<|AG.erase j t;refine⟨_,W,R,j,w,rfl,by rw[vy],q2,D.1,D.2,s1,w1,?_⟩;exact k _ _ (Bk.val ((K1.trans B.keep).trans s) Z<|Rep.mono (λb o e n=>s.kp b o e λz=>n<|.inl z) (λb _ z=>z.imp (s.ow b) id) w2)
  cases e
 cases e⟩
def iR1(T:Tx X.mg)(t:QA X [a] [fa])(w:Gl X "range":=by rfl)(C:ac [a] X.env=[(AX,aW a X.env)]:=by rfl):QI X B tg (.Call (.Name "range" p) [a] [] G) (vB fa):=⟨PI.imp' (adp w T.n_range t.h C) λD H R I=>by
 obtain⟨O,T,Y,Q,E,e,k⟩:=I;obtain⟨os,l,h1,e⟩:=iR e;refine⟨O,T,os,l,E,h1,λn o N B=>?_⟩;dsimp only at e;split at e
 .rename_i j m;obtain⟨⟨q,s⟩,e⟩:=jo e;obtain⟨rfl,rfl⟩:=sd e;have hv:=tP B m (j:=0) AM;obtain⟨y,_⟩:=pe m
  have:n=[.int j]:=by
   have d:=B.len
   cases n with
   |nil=>simp at hv
   |cons v r=>
    cases r with
    |nil=>simp at hv;rw[hv]
    |cons _ _=>simp at y d;lia
  exact⟨j,this,q,s,k _ o B.keep (B.er.mono (λ_ _ e _=>e) (λb _ z=>B.tt b z) λa z=>B.er.dom a<|B.tt a z) (Aj 0 j.toNat)⟩
 cases e⟩
def iR2(T:Tx X.mg)(w:QA X [a,b] [fa,fb])(C:Gl X "range":=by rfl)(O:ac [a,b] X.env=[(AX,aW a X.env),(AX,aW b X.env)]:=by rfl)(s:ac [b] X.env=[(AX,aW b X.env)]:=by rfl):QI X B tg (.Call (.Name "range" p) [a,b] [] G) (J6 fa fb):=⟨PI.imp' (ado C T.n_range w.h O s) λK H R Q=>by
 obtain⟨N,T,F,Y,E,e,k⟩:=Q;obtain⟨os,n,h1,e⟩:=iR e;refine⟨N,T,os,n,E,h1,λo q D B=>?_⟩;dsimp only at e;split at e
 .rename_i i j m;obtain⟨t,e⟩:=jo e;obtain⟨rfl,rfl⟩:=sd e;have hv:=tP B m (j:=0) AM;have l:=tP B m (j:=1) AM;obtain⟨I,_⟩:=pe m
  have:o=[.int i,.int j]:=by
   have d:=B.len
   match o,hv,l with
   |[x,y],hv,l=>simp at hv l;rw[hv,l]
   |x::y::z::r,_,_=>simp at I d;lia
  exact⟨i,j,this,t,k _ q B.keep (B.er.mono (λ_ _ e _=>e) (λb _ z=>B.tt b z) λa z=>B.er.dom a<|B.tt a z) (Aj i (j-i).toNat)⟩
 cases e⟩
def iE{d:ky}{q:Nat}{r:bu}(T:Tx X.mg)(l:QX X a f)(m:Gl X "enumerate":=by rfl)(n:ac [a] X.env=[(C,aW a X.env)]:=by rfl)(s0:SE X a []:=by rfl):QI X B (.Tuple d q r) (.Call (.Name "enumerate" p) [a] [] G) (xS 0 f):=⟨PI.imp' (aer m T.n_enumerate (qw (PX.po l.h) we s0) n) λs Q R o=>Fe o⟩
def iS(h:QX X e f):QI X B tg e (kG f):=⟨PI.imp' (EA (B:=B) (PX.po h.h) PU) λq T R l=>by
 have:kG f=Ai (iX f):=funext λm=>by
  unfold kG Ai iX
  cases f m with
  |none=>rfl
  |some p=>obtain⟨⟨d,o⟩,n⟩:=p;cases d<;>rfl
 rwa [this]at l⟩
def iSV(h:QO X e (iK i))(d:B i:=by decide):QI X B tg e (Ai<|iK i):=⟨EA h.h<|Dk d⟩
def iZV{d:ky}{w:Nat}{y:bu}(T:Tx X.mg)(q:QO X a (iK i))(r:QO X b (iK j))(l:B i:=by decide)(m:B j:=by decide)(s:Gl X "zip":=by rfl)(t:SE X a [b]:=by rfl)(n:SE X b []:=by rfl)(o:BA X G [b]:=by exact rF):
  QI X B (.Tuple d w y) (.Call (.Name "zip" p) [a,b] [] G) (xR (iK i)<|iK j):=⟨aeF s T.n_zip q.h r.h (Dk l) (Dk m) t n o⟩
def gN(l:X.N.Nodup)(J:X.N[i]?=Y x:=by rfl)(q:Loc X.env.scope x:=by exact Ye rT)(n:X.fn x=Ap\/X.env.scope.names.lookup x=Y .local:=by first|exact bH rfl|exact bL I)(m:A i:=by decide):QG X A (.Name x G) (iP i):=⟨PG.imp' (Ic l J q n) λv w O Q o=>by obtain⟨t,T,d,s,E,r,e,k⟩:=o;obtain⟨J,rfl⟩:=jo e;obtain⟨h1,h⟩:=zG (A:=A) (r:=(d,C)) (v:=v) E (Bk.val .refl E r) J m;exact k _ h1 h⟩
def gT{d l:Tg}{k:Nat}(h1:QG X A a d)(m:QG X A b l)(n:X.calm=Ap:=by rfl)(r:(aX [a,b] X.env).map (·.2)=cz a X.env::(aX [b] X.env).map (·.2):=by rfl)(s:(aX [b] X.env).map (·.2)=cz b X.env::(aX [] X.env).map (·.2):=by rfl)
  (o:(aX [a,b] X.env).length=2:=by rfl)(q:(aX [a,b] X.env).findIdx? (·.1)=AR:=by rfl):QG X A (.Tuple [a,b] k G) (BD [d,l]):=⟨Qr n (BJ h1.h (BJ m.h aes s) r) o I q⟩
def f0:QF X [] jZ:=⟨λd s m O Q N h=>by obtain⟨n,T,b,l,E,e,k⟩:=h;cases e;exact Qp d s m O Q N<|k O .refl E⟩
def f1(h:QT X e ft):QF X [e] ft:=⟨Qo h.h⟩
def bE{m:pM}{sc:jS}{d:iJ}{n:Nat}(Y:QX X e f)(hn:m[n+1]?=AR:=by rfl):QB X A d (.ListComp e m sc p) n (ki f):=⟨PB.imp' (Qw hn Y.h) λw H N D=>by
 obtain⟨I,T,Q,Z,W,B,e,k⟩:=D;obtain⟨r,l,h1,e⟩:=iR e;obtain⟨K,e⟩:=jo e;obtain⟨rfl,rfl⟩:=sd e;refine⟨I,T,r,l,B.er,h1,λv q P=>?_⟩;obtain⟨y,V⟩:=P.rep B.er;have C:SK A w I H w l q:=P.1.sk;have O:=B.step C y;obtain⟨t,F,E⟩:=O.at';refine⟨t,F,by rw[E.length];exact K,k w _ ?_ ?_⟩
 .have:JN A d w l q w l (upd q d<|.lst<|t++[v]):=⟨λa o e n R=>by rw[jx R];exact e,λi a z=>.inl z,λa z=>by
   by_cases s:a=d
   .subst s;rw[jv];simp
   rw[jx s];exact z,λ_ _=>rfl⟩
  exact C.Kp.trans this
 have hk:∀b o,q b=A9 o->¬T b->upd q d (.lst<|t++[v]) b=A9 o:=λb o e n=>by rw[jx<|by intro z;subst z;exact n B.td];exact e
 have hd:∀a,T a->Ow (upd q d (.lst<|t++[v]) a):=λa z=>by
  by_cases s:a=d
  .subst s;rw[jv];trivial
  rw[jx s];exact y.dom a z
 refine⟨y.mono hk (λ_ _ z=>z) hd,B.td,t++[v],jv,?_⟩;exact AG.mono (λb o e n=>hk b o e λz=>n<|.inr z) (λ_ _ z=>z)<|E.append<|AG.one V⟩
def bF{l:pM}{q:jS}{d:iJ}{n:Nat}{c:pK}{o:Dr}{tt:Tg}{fb:FB}(y:l[n+1]?=Y c)(O:QI X (λ_=>False) c.target c.iter o)(N:QG X A c.target tt)(s:QF X c.ifs ft)(Q:QB X A d (.ListComp e l q p) (n+1) fb)(r:X.xe=λ_ _=>False:=by rfl)(w:X.calm=Ap:=by rfl)
  (t:c.is_async=0:=by rfl)(E:∀m,l[n+1+1]?=Y m->m.is_async=0:=by intro m h;cases h;try rfl)(T:∀x,ap c.iter X.env x=pure x:=by intro _;rfl):QB X A d (.ListComp e l q p) n (KG o tt ft fb):=⟨Qv r w (bH ⟨_,_,_,_,rfl⟩) y t E T O.h N.h s.h Q.h⟩
abbrev Blk(X:Cx)(d:kb)(o:pM)(r:jS)(P:Cx->Prop):Prop:= ∀(m:lF)(T:iJ)(q:iN)(l:Hp)(n:kY)(h:jG),
 (X.comp (cN X.N d o) r m T q l n h).N.Nodup->P (X.comp (cN X.N d o) r m T q l n h)
def xC{c:pK}{m:pM}{n:iT}{scope:jS}{r:Dr}{tt:Tg}{s:FT}{fb:FB}{l:kb}(T:QI X (λi=>i∉l) c.target c.iter r)
  (t9:Blk X l (c::m) scope λY'=>QG Y' (λi=>A2 l<=i) c.target tt/\QF Y' c.ifs s/\∀d,QB Y' (λi=>A2 l<=i) d (.ListComp n (c::m) scope G) 0 fb)
  (C:uk X.N X.env.scope scope (cN X.N l (c::m)) l k=Ap:=by kernel_rfl)(Q:decide (cN X.N l (c::m)).Nodup=Ap:=by kernel_rfl)
  (H:X.calm=Ap:=by rfl)(E:c.is_async=0:=by rfl)(O:∀q,m[0]?=Y q->q.is_async=0:=by intro q h;cases h;try rfl)(I:∀x,ap c.iter X.env x=pure x:=by intro _;rfl):QX X (.ListComp n (c::m) scope G) (jL l k r tt s fb):=⟨Qi (DX AM AM C) H E O I T.h λw C D t y o=>let⟨a,b,c⟩:=t9 w C D t y o<|Cz Q;⟨a.h,b.h,λd=>(c d).h⟩⟩
def sC{c:pK}{m:pM}{n:iT}{scope:jS}{r:Dr}{tt:Tg}{w:FT}{fb:FB}{l:kb}{t s:bu}(Q:X.N.Nodup)(pi:QI X (λi=>i∉l) c.target c.iter r)
  (t9:Blk X l (c::m) scope λY'=>QG Y' (λi=>A2 l<=i) c.target tt/\QF Y' c.ifs w/\∀d,QB Y' (λi=>A2 l<=i) d (.ListComp n (c::m) scope G) 0 fb)
  (C:uk X.N X.env.scope scope (cN X.N l (c::m)) l k=Ap:=by kernel_rfl)(nd:decide (cN X.N l (c::m)).Nodup=Ap:=by kernel_rfl)
  (E:bG (.ListComp n (c::m) scope G) (Y<|.Name x t) s.line X.env=pure Ap:=by rfl)(J:X.N[i]?=Y x:=by rfl)(hx:X.env.scope.names.lookup x=Y .local:=by rfl)(hf:X.fn x=Ap:=by rfl)(O:A i:=by decide)
  (hc:X.calm=Ap:=by rfl)(T:c.is_async=0:=by rfl)(k6:∀q,m[0]?=Y q->q.is_async=0:=by intro q h;cases h;try rfl)(hs:∀x,ap c.iter X.env x=pure x:=by intro _;rfl):QS X A L H0 (.Assign [.Name x t] (.ListComp n (c::m) scope G) s) (kn i<|jL l k r tt w fb):=⟨aez E (DX AM AM C) hc T k6 hs pi.h (Ic Q J (bH hx)<|bH hf) O λH C D y I o=>let⟨a,b,c⟩:=t9 H C D y I o<|Cz nd;⟨a.h,b.h,λd=>(c d).h⟩⟩
def s0:QQ X A L H0 [] jt:=⟨Ha.imp' HY λD h Q d=>by obtain⟨δ,T,out,E,l,e,k⟩:=d;cases e;exact k h Q .refl E⟩
def s1(h:QS X A L H0 S u)(y:QQ X A L H0 Ss v):QQ X A L H0 (S::Ss) (iW u v):=⟨Ha.imp' (sU h.h y.h) λD Q H N=>by
 obtain⟨δ,T,out,E,s,e,k⟩:=N;obtain⟨o,w,e⟩:=iM e;refine⟨δ,T,o,E,s,w,?_⟩
 cases o with
 |nx δ1=>
  intro I O q t;refine⟨δ1,T,out,t,s.step q,e,?_⟩
  cases out with
  |nx δ2=>exact λd l m n=>k d l (q.trans m) n
  |bk δ2=>exact λd l m n=>k d l (q.trans m) n
  |ct δ2=>exact λd l m n=>k d l (q.trans m) n
  |rt r δ2=>exact λv d l m R2=>k v d l (q.trans m) R2
 |rt r δ1=>cases e;exact k
 |bk δ1=>cases e;exact k
 |ct δ1=>cases e;exact k⟩
def sX:QS X A L H0 S GD:=⟨λd s n Q D O h=>by obtain⟨m,T,out,E,l,e,k⟩:=h;cases e⟩
def sR(h:QX X e f):QS X A L H0 (.Return (Y e) G) (lA f):=⟨PS.imp' (MQ h.h) λD y Q s=>by
 obtain⟨t,T,out,E,n,e,k⟩:=s;obtain⟨p,l,e⟩:=iM e;cases e;refine⟨t,T,p.1,p.2,E,l,λv m P=>k v y m P.1.sk ?_⟩;obtain⟨⟨d,o⟩,w⟩:=p
 cases o
 .exact P.2
 obtain⟨q,h1,r,l⟩:=P.2;exact⟨q,h1,n.fresh r,l⟩⟩
def sRV{n:Nat}(q:∀i,L.p i->i<n)(hq:n<=i:=by decide)(h1:X.N[i]?=A9 x:=by rfl)(y:Ke X.env.scope x:=by exact TX rT)(h3:DB x:=by exact rF)(h4:(x==("__classdict__":au))=AX:=by exact rF):QS X A L H0 (.Return (A9<|.Name x p) G) (pT i):=⟨PS.imp' (MQ<|zS h1 y h3 h4) λD s H hw=>by
 have Z: ¬L.p i:=λh=>absurd (q _ h)<|LP.2 hq;obtain⟨r,T,out,E,V,e,k⟩:=hw;unfold pT at e
 cases J:r[i]? with
 |none=>rw[J]at e;cases e
 |some q=>
  cases q with
  |none=>rw[J]at e;cases e
  |some p=>
   obtain⟨d,b⟩:=p;have W:i<(A2 r):=(tM.mp J).1
   cases b with
   |false=>rw[J]at e;cases e;obtain⟨v,h1,y⟩:=E.val i d J;exact⟨v,h1,k v s H .refl ⟨E,y⟩⟩
   |true=>
    rw[J]at e;cases e;obtain⟨a,h1,y⟩:=E.own i d J
    have l:∀j b,Bf s (r.set i AR) j b->i≠j/\Bf s r j b:=λj b a'=>by
     obtain⟨o,g1,g2⟩:=a'
     rcases nE g1 with⟨_,_,q⟩|⟨ne,q⟩
     .cases q
     exact⟨ne,o,q,g2⟩
    have m:∀b,Aa s (r.set i AR) b->Aa s r b/\b≠a:=λb a'=>by
     obtain⟨j,o,g1,g2⟩:=a'
     obtain⟨ne,I,Y,F⟩:=l j b ⟨o,g1,g2⟩;exact⟨⟨j,I,Y,F⟩,λz=>ne<|by subst z;exact E.inj i j d I _ J Y h1 F⟩
    have K:Aa s r a:=⟨i,d,J,h1⟩
    have sub:∀b,H b≠AR->(Aa s (r.set i AR) b\/(T b\/b=a))->(Aa s r b\/T b):=λb _ z=>by
     rcases z with z|z|z
     .exact .inl (m b z).1
     .exact .inr z
     subst z;exact .inl K
    refine⟨.ref a,h1,k (.ref a) s H ⟨λ_ _ e _=>e,λj b z=>.inl (l j b z).2,λ_ z=>z,λ_ _=>rfl⟩ ⟨a,rfl,?_,?_,y.mono (λ_ _ e _=>e) sub λ_ e=>e⟩⟩
    .rcases V.ow i a ⟨d,J,h1⟩with z|z
     .exact absurd z Z
     exact z
    refine⟨by rw[sJ];exact E.len,λj o C=>?_,λj o C=>?_,λj k o R b C hk g1 g2=>?_,λb z t=>?_,λb z=>?_⟩
    .rcases nE C with⟨_,_,q⟩|⟨ne,q⟩
     .cases q
     obtain⟨w,O,Q⟩:=E.val j o q;exact⟨w,O,Rep.mono (λ_ _ e _=>e) sub Q⟩
    .rcases nE C with⟨_,_,q⟩|⟨ne,q⟩
     .cases q
     obtain⟨w,O,Q⟩:=E.own j o q;exact⟨w,O,Q.mono (λ_ _ e _=>e) sub λ_ e=>e⟩
    .obtain⟨_,I,q1,q2⟩:=l j b ⟨o,C,g1⟩;obtain⟨_,P,q3,q4⟩:=l k b ⟨R,hk,g2⟩;exact E.inj j k I P b q1 q3 q2 q4
    .obtain⟨z1,z2⟩:=m b z;rcases t with t|t
     .exact E.nT b z1 t
     exact z2 t
    rcases z with z|z
    .exact E.dom b z
    subst z;exact E.Ht K⟩
def sE(h:QX X e f)(m:bG e AR G.line X.env=pure C:=by rfl):QS X A L H0 (.Expr e G) (nC f):=⟨PS.imp' (HZ h.h m) λD q Q n=>by obtain⟨o,T,out,E,r,e,k⟩:=n;obtain⟨p,l,e⟩:=iM e;cases e;exact⟨o,T,p.1,p.2,E,l,λv d P=>k q d P.1.sk (P.rep E).1⟩⟩
def sI(m:QT X c ft)(d:QQ X A L H0 Ss u)(l:QQ X A L H0 Ts v):QS X A L H0 (.If c Ss Ts G) (EJ ft u v):=⟨UH m.h d.h l.h⟩
def sW{n:Nat}(l:QT X c ft)(d:QQ X A L H0 Ss u)(m:dN (af X.prog X.w) X.A X.env X.xe:=by exact PassesOwn.never):QS X A L H0 (.While c Ss [] G) (pz ft u n):=⟨adk m l.h d.h⟩
def sF{d:Dr}{t:Tg}(J:QI X (λ_=>False) tg e d)(n:QG X A tg t)(l:QQ X A L H0 Ss u)(o:dN (af X.prog X.w) X.A X.env X.xe:=by exact PassesOwn.never)(m:X.calm=Ap:=by rfl)(q:∀x,ap e X.env x=pure x:=by intro _;rfl):QS X A L H0 (.For tg e Ss [] G) (ny d t u):=⟨Qn o m J.h n.h l.h q⟩
def sS(o:X.N.Nodup)(s:QX X e f)(J:X.N[i]?=Y x:=by rfl)(C:Loc X.env.scope x:=by exact Ye rT)(t:X.fn x=Ap\/X.env.scope.names.lookup x=Y .local:=by first|exact bH rfl|exact bL AM)(q:A i:=by decide)(w:bG e (Y<|.Name x p) G.line X.env=pure AX:=by rfl):QS X A L H0 (.Assign [.Name x p] e G) (kn i f):=⟨PS.imp' (MP o J C s.h w t) λD Q H y=>by obtain⟨I,T,out,E,O,e,k⟩:=y;obtain⟨r,d,n,e⟩:=iR e;obtain⟨J,rfl⟩:=jo e;refine⟨I,T,r,d,E,n,λv l P=>?_⟩;obtain⟨h1,m⟩:=zG (A:=A) E P J q;exact k _ l h1 m⟩
def sT{t:Tg}{pt:bu}(C:QX X e f)(I:QG X A (.Tuple M k pt) t)(O:fZ [.Tuple M k pt] e G.line X.env=pure AX:=by rfl)(l:f3 [.Tuple M k pt] e X.env=pure AR:=by rfl)(h1:(aX [.Tuple M k pt] X.env).map (·.2)=[cz (.Tuple M k pt) X.env]:=by rfl):QS X A L H0 (.Assign [.Tuple M k pt] e G) (Ue t f):=⟨PS.imp' (GK C.h I.h O l h1) λD F H l=>by obtain⟨N,T,out,E,Y,e,k⟩:=l;obtain⟨r,d,h1,e⟩:=iR e;obtain⟨m,y,e⟩:=iM e;cases e;refine⟨N,T,r,d,E,h1,λv s P=>?_⟩;obtain⟨q,Q⟩:=P.rep E;exact⟨d,T,r.1,m,q,Q,y,λn w o=>k n s (P.1.sk.trans w) o⟩⟩
def Br{m:bu}(hv:QO X (.Name x U) (iK i))(he:QX X e f)(J:QO X a fo)
  (ha:∀v,cz (.Subscript (.Name x U) a m) X.env v=(do
   let w <-ca [v] (aW (.Name x U) X.env)
   let C' <-ca [v,w] (aW a X.env)
   dv m
   ca [v,w,C'] (mm w C' v)
   R1 [v,w,C'] []):=by intro _;rfl)
  (hs:fZ [.Subscript (.Name x U) a m] e G.line X.env=pure C:=by rfl)(y:f3 [.Subscript (.Name x U) a m] e X.env=pure AR:=by rfl)
  (h1:(aX [.Subscript (.Name x U) a m] X.env).map (·.2)=[cz (.Subscript (.Name x U) a m) X.env]:=by rfl):QS X A L H0 (.Assign [.Subscript (.Name x U) a m] e G) (pZ i f fo):=⟨PS.imp' (GK he.h (M8 hv.h J.h aeO ha) hs y h1) λD I H y=>by
 obtain⟨F,T,out,E,fi,e,k⟩:=y;obtain⟨r,d,h1,e⟩:=iR e;dsimp only at e;split at e
 case h_2=>cases e
 rename_i y0 Z;obtain⟨o,t,h2,e⟩:=iR e;dsimp only at e;split at e
 .rename_i kk l hk Q;obtain⟨j,hj,e⟩:=iM e;cases e;refine⟨F,T,r,d,E,h1,λv R n=>⟨d,Kf T r v,.slot i,d,n.er E,by unfold iK;rw[Z],λv2 H2 q=>⟨d,Kf T r v,o,t,q.er<|n.er E,h2,λv3 V P3=>?_⟩⟩⟩;have iA:G4 X.K T I F H (.val r) d v R:=n;have B:=Ops.cons E iA<|Ops.cons (n.er E) q<|Ops.cons (q.er<|n.er E) P3<|Ops.nil<|P3.er<|q.er<|n.er E;have O:ER X.K V T I t:=B.er.mono (λ_ _ e _=>e) (λb _ z=>B.tt b z) λa z=>B.er.dom a<|B.tt a z;have s:I[i]?=A9 (A9 v2):=q.2.2;obtain⟨a,N,xs,q2,Y⟩:=O.own i _ Q;rw[s]at N;cases N;have vk:=jB<|B.view (j:=2) AM AM hk;have rv:=B.rep E (j:=0) (r:=r) AM AM;refine⟨a,xs,kk,j,rfl,vk,q2,by rw[Y.length];exact hj,?_⟩;obtain⟨P,W⟩:=O.write Q s<|AG.set rv j Y;exact k _ _ (B.keep.trans W).sk P
 cases e⟩
def sDP{s:bu}(hu:un X.A 1)(hv:QO X (.Name x U) (iK i))(he:QX X e f)(J:QO X a fo)
  (ha:∀v,cz (.Subscript (.Name x U) a s) X.env v=(do
   let ov <-ca [v] (aW (.Name x U) X.env)
   let iv <-ca [v,ov] (aW a X.env)
   dv s
   ca [v,ov,iv] (mm ov iv v)
   R1 [v,ov,iv] []):=by intro _;rfl)
  (hs:fZ [.Subscript (.Name x U) a s] e G.line X.env=pure AX:=by rfl)(hw:f3 [.Subscript (.Name x U) a s] e X.env=pure AR:=by rfl)
  (h1:(aX [.Subscript (.Name x U) a s] X.env).map (·.2)=[cz (.Subscript (.Name x U) a s) X.env]:=by rfl):QS X A L H0 (.Assign [.Subscript (.Name x U) a s] e G) (Mu i f fo):=⟨PS.imp' (GK he.h (M8 hv.h J.h (aeP hu) ha) hs hw h1) λD O H hw=>by
 obtain⟨δ,T,out,E,fi,e,k⟩:=hw;obtain⟨r,d,h1,e⟩:=iR e;dsimp only at e;split at e
 case h_2=>cases e
 rename_i y0 h0;obtain⟨o,l,h2,e⟩:=iR e;dsimp only at e;split at e
 .rename_i P R V hk h3;obtain⟨⟨F,m⟩,e⟩:=jo e;cases e;refine⟨δ,T,r,d,E,h1,λv H1 Q=>⟨d,Kf T r v,.slot i,d,Q.er E,by unfold iK;rw[h0],λv2 H2 Y=>⟨d,Kf T r v,o,l,Y.er<|Q.er E,h2,λv3 N P3=>?_⟩⟩⟩;have iA:G4 X.K T O δ H (.val r) d v H1:=Q;have B:=Ops.cons E iA<|Ops.cons (Q.er E) Y<|Ops.cons (Y.er<|Q.er E) P3<|Ops.nil<|P3.er<|Y.er<|Q.er E;have E3:ER X.K N T O l:=B.er.mono (λ_ _ e _=>e) (λb _ z=>B.tt b z) λa z=>B.er.dom a<|B.tt a z;have y:O[i]?=A9 (A9 v2):=Y.2.2;obtain⟨a,q1,us,q2,Z⟩:=E3.own i _ h3;rw[y]at q1;cases q1;have vk:=B.view (j:=2) AM AM hk;have rv:=B.rep E (j:=0) (r:=r) AM AM;have oa:Aa O l a:=⟨i,_,h3,y⟩
  have kp:∀(q:HO) b u,N b=A9 u->¬(Aa O l b\/T b)->upd N a q b=A9 u:=λq b u e n=>by rw[jx<|by intro z;subst z;exact n<|.inl oa];exact e
  have ks10:10000<sizeLine:=by rw[kK];decide
  have fin:∀q W,DZ X.K (A9 q) .dct (uq R V P r.1).1 (uq R V P r.1).2 W->AG X.K N (λa=>Aa O l a\/T a) (uq R V P r.1).2 W->D.nx O (upd N a q):=λq W g1 g2=>by obtain⟨E4,K4⟩:=E3.ET (o:=q) (d':=.B4 .dct (uq R V P r.1).1 (uq R V P r.1).2) h3 y ⟨W,by rw[jv];exact g1,AG.mono (kp q) (λ_ _ z=>z) g2⟩;exact k _ _ (B.keep.trans K4).sk E4
  refine⟨a,rfl,?_⟩;rcases q2 with⟨kvs,eH,rfl,rfl⟩|⟨kvs,eH,rfl,rfl⟩
  .rw[kd]at m;rcases qx F with⟨κ,g1,_⟩|⟨τ,g1,g2⟩
   .have w:=ql g1 vk;have I:=oQ g1;subst I;obtain⟨C,p2⟩:=SJ (k:=κ) rv Z;refine .inl ⟨_,by rw[w];exact Hd.k eH<|by lia,fin _ _ (.inl ⟨_,rfl,C,rfl⟩) p2⟩
   have cR:kvs=[]:=by
    cases kvs with
    |nil=>rfl
    |cons p kvs=>obtain⟨c,hc⟩:=g2 (kA p.1) (by simp);exact(Af hc).elim
   subst cR;obtain⟨b,w,eb⟩:=oP g1 vk;have I:=tj g1;subst I;obtain⟨C,p2⟩:=SH (k:=τ) (kvs:=[]) rv Z;exact .inr<|.inr ⟨τ,b,eH,w,eb,fin _ _ (.inr ⟨[(τ,v)],rfl,C,rfl⟩) p2⟩
  rw[kd]at m;rcases qx F with⟨κ,g1,g2⟩|⟨τ,g1,_⟩
  .have cR:kvs=[]:=by
    cases kvs with
    |nil=>rfl
    |cons p kvs=>obtain⟨c,hc⟩:=g2 (.tup<|p.1.map kA) (by simp);exact(De hc).elim
   subst cR;have w:=ql g1 vk;have I:=oQ g1;subst I;obtain⟨C,p2⟩:=SJ (k:=κ) (kvs:=[]) rv Z;exact .inr<|.inl ⟨κ,eH,w,fin _ _ (.inl ⟨[(κ,v)],rfl,C,rfl⟩) p2⟩
  obtain⟨b,w,eb⟩:=oP g1 vk;have I:=tj g1;subst I;obtain⟨C,p2⟩:=SH (k:=τ) rv Z;refine .inl ⟨_,by rw[w];exact Hd.t eH eb<|by lia,fin _ _ (.inr ⟨_,rfl,C,rfl⟩) p2⟩
 cases e⟩
end
def Fz(K:jl)(b:lE)(x:au)(st:bn):Prop:= ∃f a,b x=Y (.ref f)/\J3 K x x st f a
def fz{K:jl}{h:jg}{e:lE}{x:au}{st:bn}{f:iJ}{g:iQ}{i an:Option iJ}{m:ya}{kV b j d ct:iQ}(X:K.In h)(G:h.Ns aj e)(a:aR K aj x=Y (Y<|.ref f))
  (l:K.lookup f=Y ⟨g,i,.func<|bA x x (pY st) (mh st) (iU st) .none kV b j an d ct,m⟩)(c:c9 K d x=J)(k:bD K (.ref f)=J):Fz K e x st:=⟨f,_,PySem.W.mg_of X G a,Oj l c k⟩
def KH(x:au)(st:bn)(c:jw):Prop:= ∀(kV a e:iQ)(an:Option iJ)(d ct:iQ)(b:jN),A2 b=A2 c->fI (bA x x (pY st) (mh st) (iU st) .none kV a e an d ct) ⟨b,[]⟩=pure (c.zip b)
def NJ{N P:jw}{a:jS}(h1:a.kind=.function:=by rfl)(b:a.isCoroutine=C:=by exact rF)(c:a.isGenerator=C:=by exact rF)(d:N.Nodup:=by decide+kernel)(e:N.take P.length=P:=by rfl)(f:∀x∈P,a.names.lookup x=Y .local\/a.names.lookup x=Y .cell:=by decide+kernel)(g:∀y∈a.names,y.2≠ .free:=by decide+kernel):Bb N P a:=⟨h1,b,c,d,e,f,g⟩
abbrev Bd(Z:ZZ)(k:Nat)(x:au)(st:bn)(N d:jw)(c:kb)(fs:FS):Prop:= ∀(f:iJ)(b:iQ)(A:jh)(a:List dO)(s:iN)(T:Hp)(E:XK)(L:LL),(∀i,L.p i->i<A2 d)->Bg k (A.deeper<|aV x (iU st) s.heap.objs.size f b)->
 un (A.deeper<|aV x (iU st) s.heap.objs.size f b) 60->un (A.deeper<|aV x (iU st) s.heap.objs.size f b) 1->un (A.deeper<|aV x (iU st) s.heap.objs.size f b) 62->un (A.deeper<|aV x (iU st) s.heap.objs.size f b) 90->N.Nodup->
 QQ (rB GP Z.P Z.w Z.K Z.mg Z.base N x (iU st) f b A a s T E).Hx (λi=>i∈c) L T (mh st) fs
def fnB{Z:ZZ}{k:Nat}{x:au}{st:bn}{N c:jw}{b:kb}{fs:FS}{f:iJ}{d:mT}(F:J3 Z.K x x st f d)(S:Bb N c (iU st))(j:Bd Z k x st N c b fs):DV Z.P Z.w Z.K Z.mg Z.base GP (k+1) f d c (J7 Z.K<|Be (A2 N) (A2 c) b fs):=
 Vu F S λg A a s T E L i e=>by have:=e.un;exact(j f g A a s T E L i e (by unfold un;omega) (by unfold un;omega) (by unfold un;omega) (by unfold un;omega) S.nd).h
def ozB{Z:ZZ}{k:Nat}{x:au}{st:bn}{N d:jw}{c:kb}{fs:FS}(a:Fz Z.K Z.mg x st)(S:Bb N d (iU st))(b:KH x st d)(g:Bd Z k x st N d c fs):Oz Z (k+1) x d (Be (A2 N) (A2 d) c fs):=
 let⟨f,e,m,F⟩:=a;⟨f,e,fnB F S g,m,F.kp,F.binds b⟩
def MN{P:List iQ->Prop}(h:P []):∀b:List iQ,A2 b=0->P b:=λb e=>by cases b with|nil=>exact h|cons a l=>cases e
def Kz{P:List iQ->Prop}{n:Nat}(h:∀a,∀b:List iQ,A2 b=n->P (a::b)):∀b:List iQ,A2 b=n+1->P b:=λb e=>by cases b with|nil=>cases e|cons a l=>exact h a l<|Nat.succ.inj e
def oz0{Z:ZZ}{x:au}{st:bn}{c:jw}(a:Fz Z.K Z.mg x st)(b:KH x st c):Oz Z 0 x c (λ_=>U):=
 let⟨f,d,m,F⟩:=a;⟨f,d,RH,m,F.kp,F.binds b⟩
def txK{K:jl}{h:jg}{e:lE}(X:K.In h)(G:h.Ns aj e)(i:aR K aj "len"=Y U)(j:aR K aj "abs"=Y U)(k:aR K aj "int"=Y U)(l:aR K aj "tuple"=Y U)(m:aR K aj "list"=Y U)(n:aR K aj "range"=Y U)(o:aR K aj "isinstance"=Y U)(p:aR K aj "bool"=Y U)(q:aR K aj "max"=Y U)(r:aR K aj "min"=Y U)(g:aR K aj "all"=Y U)(f:aR K aj "any"=Y U)(a:aR K aj "sorted"=Y U)(b:aR K aj "enumerate"=Y U)(c:aR K aj "zip"=Y U)(d:aR K aj "set"=Y U):Tx e:=⟨oB X G i,oB X G j,oB X G k,oB X G l,oB X G m,oB X G n,oB X G o,oB X G p,oB X G q,oB X G r,oB X G g,oB X G f,oB X G a,oB X G b,oB X G c,oB X G d⟩
noncomputable abbrev abI(i:Int):Int:=if i<0 then -i else i
section
variable {a:jm}{w:je}{A:jh}{E:jy}{s:iN}
end
def aD:D->Int
 |.int i=>abI i
 |_=>0
noncomputable def isI:D->Bool
 |.int _=>J
 |_=>C
def KL(x y:D):Bool:=decide<|aD x<aD y
def aeX{x:D}:∀{l:List D},l.Pairwise (λa b=>aD a<=aD b)->(DJ KL x l).Pairwise λa b=>aD a<=aD b:=by
 intro g
 induction g with
 |nil=>intro _;simp[DJ]
 |cons y l f=>
  intro h;obtain⟨h1,e⟩:=D7.mp h;unfold DJ;by_cases d:aD y<aD x
  .rw[jb<|by simpa[KL]using d];refine D7.mpr ⟨λz c=>?_,f e⟩;rcases kM.mp ((uf KL x l).mem_iff.mp c)with rfl|c
   .omega
   exact h1 z c
  rw[jr<|by simpa[KL]using d];refine D7.mpr ⟨λz c=>?_,h⟩;rcases kM.mp c with rfl|c
  .omega
  have:=h1 z c;omega
def adQ:∀l:List D,(pR KL l).Pairwise λa b=>aD a<=aD b:=by
 intro d
 induction d with
 |nil=>exact .nil
 |cons _ l c=>exact aeX<|c
section
variable {X:Cx}{c:jG}{e:L2.St}{H:Hp}{s:iN}
def ZR{O:B2}:∀{l:List D}{j:List V}{f:jN},l.all isI=J->AG X.K H O l j->Vals j f->∃g:List Int,l=g.map .int/\gw f g:=by
 intro n
 induction n with
 |nil=>intro j f _ r v;rw[AG]at r;subst r;cases v;exact⟨[],rfl,.nil⟩
 |cons d l m=>
  intro j f h r v;rw[AG]at r;obtain⟨x,q,rfl,o,p⟩:=r;rw[dR,lg]at h
  cases d with
  |int i=>
   cases v with
   |cons a b=>obtain⟨g,rfl,k⟩:=m h.2 p b;rw[jB<|.inl o]at a;obtain⟨t,rfl⟩:=a;exact⟨i::g,rfl,.cons _ _ k⟩
  |_=>exact absurd h.1 (by simp[isI])
end
section
variable {X:Cx}{x:au}{i:Nat}{c a b:bu}
end
section
variable {X:Cx}
variable {a:iT}{f:FO}{p c d e g b:bu}{x:au}{i:Nat}
end
section
variable {X:Cx}{a:jG}{b:L2.St}{H:Hp}{s:iN}
end
section
variable {X:Cx}
end
section
variable {a:jm}{w:je}{A:jh}{E:jy}{I:iJ}{c b:kY}{n:Nat}{P:Nat->iQ->Prop}{St:Nat->jg->Prop}
end
section
variable {X:Cx}{A:kN}{a:bu}{c:ky}{b:List Tg}
end
section
variable {X:Cx}{A:kN}{a b:iT}{g:bu}
variable {e j:iT}{f:F}{x z:au}{p o l m:bu}{i k:Nat}{L:LL}{q:Hp}
def xLS{c:pK}{scope:jS}{t:Dr}{tt:Tg}{u:FT}{n:kb}{r:bu}(T:Tx X.mg)(G:QI X (λi=>i∉n) c.target c.iter t)
  (M:Blk X n [c] scope λY'=>QG Y' (λi=>A2 n<=i) c.target tt/\QF Y' c.ifs u/\QX Y' j f)
  (C:uk X.N X.env.scope scope (cN X.N n [c]) n k=Ap:=by kernel_rfl)(Q:decide (cN X.N n [c]).Nodup=Ap:=by kernel_rfl)
  (H:X.calm=Ap:=by rfl)(E:c.is_async=0:=by rfl)(O:∀x,ap c.iter X.env x=pure x:=by intro _;rfl)(I:Gl X "len":=by rfl)
  (h1:ac [.SetComp j [c] scope g] X.env=(AX,aW (.SetComp j [c] scope g) X.env)::ac [] X.env:=by rfl)(y:(aT r<|ac [] X.env).any (·.1)=AX:=by exact rF):
  QX X (.Call (.Name "len" p) [.SetComp j [c] scope g] [] r) (uh n k t tt u<|AS f):=
 ⟨adj (DX AM AM C) H E (by intro U h;cases h) O G.h (λw C J v B s=>let⟨a,b,c⟩:=M w C J v B s<|Cz Q;⟨a.h,b.h,λd=>adq AM c.h⟩) I T.n_len VU (by decide) (by decide) h1 y⟩
def iE1{B:SB}{d:ky}{w:Nat}{y:bu}{c:Int}{n:Nat}(T:Tx X.mg)(s:QX X a f)(t:bh c=J:=by decide)(v:Gl X "enumerate":=by rfl)(s0:SE X a []:=by rfl)
  (u:aT g (ac [a] X.env)=(C,aW a X.env)::aT g (ac [] X.env):=by rfl)(r:(aT g<|ac [a] X.env).any (·.1)=C:=by exact rF):
  QI X B (.Tuple d w y) (.Call (.Name "enumerate" p) [a] [⟨Y "start",.Constant (.int c) n l,m⟩] g) (xS c f):=⟨adn v T.n_enumerate s.h t s0 u r⟩
end
section
variable {X:Cx}{a:jG}{b:L2.St}{H:Hp}{s:iN}
end
end PX
namespace TT
open PySem.SeqAt
def B9:g7 vv "dict.update.loop"=Y aY.«dict.update.loop»:=entryFor_of_tree (by kernel_rfl)
def uc:plainId "dict.update.loop"=J:=by decide+kernel
section
variable {prog:jm}{w:je}{A:jh}{R:m9->Shared->Prop}{I:iJ}{c a:kY}{G:Array eO->Array eO->Prop}{n:Nat}{P:Nat->iQ->Prop}{St:Nat->Shared->Prop}
def ad8(W:WalksS prog w A.in1 I c a G n P St)(S:iJ)(B:S∉c)(s0:iN)(j:Nat->jg->Prop)(Bm:∀i h f,j i h->(∀o,h.get? S=A9 o->f.get? S=A9 o)->j i f)
  (step:∀i v (d:iN),i<n->P i v->j i d.heap->pC (S::a) G s0 d->∃p k x,v=.ref p/\d.heap.IsTuple p #[k,x]/\∀(Q:Unit->Shared->Prop)(E:jy),(∀f z,d.toks<=z->ay S d.heap f->j (i+1) f->Q () {d with heap:=f,toks:=z})->ae (af prog w) A.in1 (SI S k x) Q E d):
  ∀(k i:Nat)(s:iN),n-i=k->i<=n->St i s->j i s.heap->pC (S::a) G s0 s->(∀d,pC (S::a) G s0 d->j n d.heap->R (.ok<|.ret .none) d)->
   cb (af prog w) A (.builtin "dict.update.loop" ⟨[.ref S,.ref I,ce i,.none],[]⟩) R s:=by
 have C:S∉a:=λh=>B<|W.sub _ h;have T:∀b∈a,b∈S::a:=λb l=>jU _ l;intro k
 induction k with
 |zero=>
  intro i s hk V y t q r;have Y:i=n:=by lia
  subst Y;refine qf B9 ?_;rw[uB uc _];show ae _ A.in1 (cw (.ref I)>>=_) _ _ s;refine iL<|W.done s _ _ y λd m=>?_;show ae _ A.in1 (abr S []>>=λ_=>ret ao) _ _ d;exact iL<|ja<|ja<|r d (Cw W.gtrans q<|m.mono T)<|Bm _ _ _ t λo e=>m.heap S o C e
 |succ k ih=>
  intro i s hk V y t q r;have u:i<n:=by lia
  refine qf B9 ?_;rw[uB uc _];show ae _ A.in1 (cw (.ref I)>>=_) _ _ s;refine iL<|W.item i s _ _ u y λv d D N m=>?_;have H:=Cw W.gtrans q<|m.mono T;obtain⟨p,O,x,rfl,X,g⟩:=step i v d u D (Bm _ _ _ t λo e=>m.heap S o C e) H;show ae _ A.in1 (ca [.ref p] _>>=_) _ _ d;refine iL<|mv ?_;obtain⟨o,L,K,n',U⟩:=X;have F:d.TypeIs (.ref p) "tuple":=⟨o,L,K⟩
  refine iL<|F0 ?_;unfold abp;refine iL<|vM F ?_;show ae _ _ (seqItems? (.ref p)>>=_) _ _ _;refine iL<|qX L U ?_;refine ja ?_;show ae _ _ (ca [O,x]<|SI S O x) _ _ _;refine mv<|g _ _ λf z M J Z=>?_;refine ja ⟨sy uc _,ih (i+1) _ (by lia) u (W.frame _ d _ _ N M λb l o e=>?_) Z (H.then_heap M λb o l e=>?_) r⟩
  .rw[J.2 b λh:b=S=>B<|by rw[<-h];exact l];exact e
  rw[J.2 b λh:b=S=>l<|by rw[h];exact jW];exact e
end
end TT
namespace PX
open L2 PySem.SeqAt TS
section
variable {prog:jm}{w:je}{A:jh}{E:jy}{s:iN}
def Q9:gX (.type "list") "keys"=pure U:=by rw[FG,FF];kernel_rfl
def U8{a:iJ}{o:fD}{q:nJ}{k:Nat}{Q:Bw}(n:s.heap.get? a=Y o)(m:o.cls=.type "list")(i:o.data=.seq q k)(hd:o.dict=U)(t:A.handled=U)
  (h:∀b p e,Heap.NewExcOf s.heap b e "AttributeError"->Q U {s with heap:=b,toks:=p}):ae (af prog w) A (IN (.ref a) "keys") Q E s:=by
 obtain⟨c,dct,r,v⟩:=o;simp only at m i hd;subst m i hd;obtain⟨u,g,d,p,os⟩:=s;have l:∀f,(⟨u,g,d,f,os⟩:Shared).TypeIs (.ref a) "list":=λ_=>⟨_,n,rfl⟩
 have f1:=sub_AttributeError;have x:=Po.lookup;have y:=Po.bind<|.ref a;have z:=am_list_getattr_none;unfold IN getAttrBy? getAttrBy
 repeat (any_goals (first|assumption|exact l _|((with_reducible show ae _ _ (call (cc "list.__getattribute__") _ _) _ _ _);refine xD Po (l _) am_entry_list_getattribute (F.args_list_getattribute_2 _ _) (meets_getattribute_miss_list a q k v "keys" _ Q9 (by decide+kernel)) ⟨n,t,λb f e j=>?_⟩)|wp_step))
 obtain⟨T,O,B⟩:=j.there;show ae _ _ (t0 _ _ _ _ _ _ _) _ _ _;unfold t0
 repeat (any_goals (first|assumption|wp_step))
 exact h _ _ _ j.of
end
end PX
namespace TT
open PySem.SeqAt
section
variable {prog:jm}{w:je}{A:jh}{E:jy}{s:iN}
noncomputable abbrev Hh:Obj:={cls:=.type "dict",data:=.dict #[]}
def Th{l:iJ}{items:nJ}{n:Nat}{m:fD}{Q:jy}(O:A.handled=AR)(T:s.heap.get? l=A9 m)(t:m.cls=.type "list")(z:m.data=.seq items n)(gB:m.dict=AR)(g:Nat->jg->Prop)
  (Bm:∀i h c,g i h->(∀o,h.get? s.heap.objs.size=A9 o->c.get? s.heap.objs.size=A9 o)->g i c)
  (oH:∀c,c.get? s.heap.objs.size=A9 Hh->g 0 c)
  (step:∀i v (a:iN) (B:jh),B.units<=A.units+20->items[i]?=A9 v->g i a.heap->(∀b o,s.heap.get? b=A9 o->a.heap.get? b=A9 o)->a.gens=s.gens->a.drawn=s.drawn->a.os=s.os->
   ∃p k x,v=.ref p/\a.heap.IsTuple p #[k,x]/\∀(Q:Unit->Shared->Prop)(E:jy),(∀c q,a.toks<=q->ay s.heap.objs.size a.heap c->g (i+1) c->Q () {a with heap:=c,toks:=q})->ae (af prog w) B (SI s.heap.objs.size k x) Q E a)
  (h:∀(c:jg)(q:Nat),g items.size c->(∀b o,s.heap.get? b=A9 o->c.get? b=A9 o)->Q (.ref s.heap.objs.size) {s with heap:=c,toks:=q}):
  ae (af prog w) A (call (.type "dict") [.ref l]) Q E s:=by
 refine I8 (Q₁:=λobj f=>obj=.ref s.heap.objs.size/\f={s with heap:=s.heap.push Hh}) F.kt_called_dict (F.kt_typeCall_dict_1 _) F.entry_dict_init (kt_code_dict_new _ ⟨rfl,rfl⟩) ?_;rintro obj f ⟨rfl,rfl⟩;have H:(s.heap.push Hh).get? s.heap.objs.size=A9 Hh:=kE _ rfl;have L:dL {s with heap:=s.heap.push Hh} (.ref s.heap.objs.size) "dict":=⟨_,H,rfl⟩
 have r:(s.heap.push Hh).get? l=A9 m:=ke _ T;have y:dL {s with heap:=s.heap.push Hh} (.ref l) "list":=⟨_,r,t⟩
 refine⟨L,F.args_dict_init_2 _ _,?_⟩;unfold aY.«dict.__init__»;refine iL ?_;unfold abC;refine iL<|K7 L ?_;show ae _ _ (pure (s.heap.objs.size,[bK l])) _ _ _;refine ja ?_;show ae _ _ (fV "dict.__init__" s.heap.objs.size (.ref l) [] .none) _ _ _;unfold fV;refine iL<|vM y ?_;rw[jb<|by decide];refine iL<|PX.U8 r t z gB (by simp[O]) λh1 eP e1 u=>?_;have j:h1.IsList l items:=⟨_,u.keeps _ _ r,t,n,z⟩
 have C:=u.keeps _ _ H;have gD:l<s.heap.objs.size:=km T;have I:s.heap.objs.size<h1.objs.size:=km C;have N:l≠h1.objs.size:=by lia
 have U:s.heap.objs.size∉[h1.objs.size,l]:=by simp only[kM,lN,mC,pN];lia
 have S:A.in1.in1.handled=AR:=by simp[O]
 have W:=CS (prog:=prog) (w:=w) S h1.objs.size l N items;show ae _ _ (rule _>>=λ_=>c6 (.ref l)>>=λit=>again<|.builtin "dict.update.loop" ⟨[.ref s.heap.objs.size,it,ce 0,.none],[]⟩) _ _ _;refine iL<|uC ?_;refine iL<|xH j ?_;refine ja ⟨sy uc _,?_⟩
 have ext:∀{G:Array eO->Array eO->Prop}{s0 a:iN},(∀b o,h1.get? b=A9 o->s0.heap.get? b=A9 o)->pC (s.heap.objs.size::[h1.objs.size]) G s0 a->∀b o,s.heap.get? b=A9 o->a.heap.get? b=A9 o:=λ{G s0 a} X d b o e=>by have hb:=km e;exact d.heap b o (by simp only[kM,lN,mC,pN];lia)<|X _ _ (u.keeps _ _ (ke _ e))
 refine ad8 W.toS s.heap.objs.size U _ g Bm ?st (items.size-0) 0 _ (by lia) (mV _) ⟨⟨_,kE _ rfl,rfl,rfl⟩,j.push _⟩ (oH _ (ke _ C)) (w9 λ_=>rfl) ?hR
 case st=>exact λi v a hi Z ie d=>step i v a _ (by show A.units+1+1<=A.units+20;lia) Z ie (ext (λ_ _ e=>ke _ e) d) d.gens d.drawn d.os
 case hR=>intro a d M;have ex:=ext (λ_ _ e=>ke _ e) d;obtain⟨c,V,D,J,Y⟩:=a;have P:V=s.gens:=d.gens;have K:D=s.drawn:=d.drawn;have R:Y=s.os:=d.os;subst P;subst K;subst R;exact⟨rfl,h c J M ex⟩
end
end TT
namespace PX
open L2 PySem.SeqAt
def kyT:D->Option (List Key)
 |.tup [k,.bl J]=>yy k
 |_=>U
def JY:List D->Option (List<|List Key)
 |[]=>Y []
 |d::l=>(kyT d).bind λk=>(JY l).map (k:: ·)
def An:D->Option (D×Bool)
 |.lst l=>(JY l).bind λa=>if (A2 a)<=1000/\a.Nodup then Y (.B4 .dct (a.map λk=>.tup (k.map kA))<|a.map λ_=>.bl J,J)else U
 |_=>U
noncomputable abbrev Mh(a:List (List Key)):List (List Key×V):=a.map λk=>(k,V.bl J)
def Rt:∀{l:List D}{a:List (List Key)},JY l=Y a->A2 l=A2 a/\∀(i:Nat) k,a[i]?=Y k->∃d,yy d=Y k/\l[i]?=Y (.tup [d,.bl J]):=by
 intro j
 induction j with
 |nil=>intro a h;cases h;exact⟨rfl,λi p h=>by simp at h⟩
 |cons d l g=>
  intro a h;obtain⟨p,h1,h⟩:=iM h;obtain⟨m,f,rfl⟩:=jz h;obtain⟨c,e⟩:=g f;refine⟨by simp[c],λi q b=>?_⟩
  cases i with
  |zero=>
   simp at b;subst b;unfold kyT at h1;split at h1
   .exact⟨_,h1,rfl⟩
   cases h1
  |succ i=>simpa using e i q (by simpa using b)
def Yk{P:jm}{w:je}{T:Hp}{h:jg}(ok:EO P w T h):∀{l:List (List Key×V)}{m:List (List Key×iJ×iQ)},L2.KT T l m->∀x∈m,(cE<|lb P w).is h x.1 x.2.1:=by
 intro l m q
 induction q with
 |nil=>intro x a;exact nomatch a
 | @cons p q d f b t c=>
  intro x a;rcases kM.mp a with e|a
  .subst e;exact rk ok (by rw[<-b.1];exact b.2.1)
  exact c x a
def ID{T:Hp}{l:List (List Key×V)}{m:List (List Key×iJ×iQ)}(q:L2.KT T l m):m.map (·.1)=l.map (·.1):=by
 induction q with
 |nil=>rfl
 |cons a t b=>rw[jP,jP,b,a.1]
def Ru{T:Hp}{l:List (List Key×V)}{m:List (List Key×iJ×iQ)}{p q}(h:L2.KT T l m)(a:p.1=q.1/\T q.2.1=Y (.tup<|p.1.map kV)/\RelV p.2 q.2.2):L2.KT T (l++[p]) (m++[q]):=by
 induction h with
 |nil=>exact .cons a .nil
 |cons h t b=>exact .cons h b
def Rv{T b:Hp}{l:List (List Key×V)}{m:List (List Key×iJ×iQ)}(c:∀a u,T a=Y u->b a=Y u)(h:L2.KT T l m):L2.KT b l m:=by
 induction h with
 |nil=>exact .nil
 |cons h t d=>exact .cons ⟨h.1,c _ _ h.2.1,h.2.2⟩ d
def Uo{K:jl}{T:Hp}{O:B2}:∀a:List (List Key),AG K T O (a.map λ_=>.bl J) ((Mh a).map (·.2)):=by
 intro c
 induction c with
 |nil=>exact AG.nil
 |cons _ a b=>exact AG.cons Rep.Hm<|b
def DIs(P:jm)(w:je)(T:Hp)(S:iJ)(c:List (List Key))(h:jg):Prop:= ∃m:List (List Key×iJ×iQ),L2.KT T (Mh c) m/\∃o a b,h.get? S=Y o/\o.ExactDict/\o.data=.dict a b/\a.toList=m.map (entryOfKey<|cE<|lb P w)/\(m.map (·.1)).Nodup
section
variable {X:Cx}
def ac0(hu:X.A.units+62<aP)(hc:X.calm=Ap):kH X (.type "dict") (GL X.K<|g1 An):=nU λC s σ H x u Q O d z I ru np hd E G=>by
 cases d with
 |lst l=>
  obtain⟨f,F,E⟩:=iM E;obtain⟨⟨hz,fE⟩,rfl⟩:=jo E;obtain⟨p,xs,rfl,q,r⟩:=kU hd;cases ru;obtain⟨J,v,⟨ol,nn,dw,et,gB,fG⟩,_⟩:=I.list q;obtain⟨e0,t⟩:=Rt F;have e1:=r.length;have e2:=v.length;have hh:X.A.handled=AR:=I.ok.hd hc;have R:=I.fresh
  refine TT.Th hh dw et fG gB (λi h=>DIs X.prog X.w H s.heap.objs.size (f.take i) h)
   (λi h h' ⟨m,k,o,N,M,e,c⟩ st=>⟨m,k,o,N,M,st _ e,c⟩) (λh' e=>⟨[],.nil,_,#[],0,e,⟨rfl,rfl,rfl⟩,rfl,rfl,mU⟩) (λi w s' B hB hi ⟨m,hk,hd⟩ L eg ed eo=>?_) (λh' tk ⟨m,hk,hd⟩ L=>?_)
  .have hil:i<J.length:=by have:=(KO.mp hi).1;simpa using this
   have hw:J[i]?=A9 w:=by simpa using hi
   have y:f[i]?=A9 f[i]:=jT (by lia);have W:xs[i]?=A9 xs[i]:=jT (by lia);obtain⟨w',w1,w2⟩:=v.get W;rw[hw]at w1;cases w1;obtain⟨dk,Y,gC⟩:=t i _ y;have cI:Rep X.K H O (.tup [dk,.bl Ap]) xs[i]:=r.views gC W;obtain⟨h1,g1,dr1,eP,os1⟩:=s';dsimp only at L eg ed eo hd;subst eg;subst ed;subst eo;have T:Inv X C σ H {s with heap:=h1,toks:=eP}:=I.kept L;obtain⟨a,ys,ea,sq,g⟩:=lr<|.inl cI;rw[ea]at w2;cases w2;obtain⟨b9,v2,dr,_⟩:=T.tuple sq;rw[AG]at g;obtain⟨y1,r1,rfl,p1,g⟩:=g;rw[AG]at g;obtain⟨y2,r2,rfl,p2,g⟩:=g;rw[AG]at g;subst g;obtain⟨b,rfl,hb⟩:=oP Y<|.inl p1;rw[Rep]at p2;subst p2;obtain⟨u1,u2,rfl,S,V⟩:=vT v2;cases S;refine⟨a,_,_,rfl,dr,λQ' E' hq=>?_⟩;obtain⟨o,N,M,g1,g2,g3,g4,g5⟩:=hd
   have hm:f[i]∉m.map (·.1):=by rw[ID hk];intro Z;rw[kZ]at Z;obtain⟨x,hx,e⟩:=ji Z;obtain⟨j,D,e3⟩:=CJ hx;rw[rK]at D;rw[List.getElem_take]at e3;have i8:=Pk.mp fE j i (by lia) (by lia) (by lia);exact i8<|e3.trans e
   have hU:gQ m f[i]=AR:=atKey_none_of_get λj p' D=>hm<|yc.mpr ⟨_,mW D,rfl⟩
   have hml:m.length<=1000:=by have:=nM dM<|ID hk;simp at this;lia
   refine wpAny_dictSet_heap (knd:=cE<|lb X.prog X.w) (k:=f[i]) (show(cE<|lb X.prog X.w).room B from(by show B.units<aP;lia)) (rk T.hok hb) (xs:=m) ⟨o,N,M,g1,g2,g3,g4,Yk T.hok hk,g5⟩ (λh2 n u4=>hq h2 _ (Nat.le_add_right _ _) u4 ?_) (by rw[kK];lia);rw[storedH_new hU]at n;obtain⟨o',U,eJ,k1,k2,k3,k4,_,k5⟩:=n;refine⟨_,?_,o',U,eJ,k1,k2,k3,k4,k5⟩;rw[CG,y];show L2.KT H (cp _ (f.take i++[f[i]])) _;rw[oD];exact Ru hk ⟨rfl,hb,V⟩
  have P:J.toArray.size=f.length:=by simp;lia
  rw[P,o3]at hk;refine⟨.ref s.heap.objs.size,upd H s.heap.objs.size<|.dT<|Mh f,I.laid L (kc _) ⟨?_,?_,m,Rv (λa u e=>by rw[jx<|lu e R];exact e) hk,hd⟩,rfl,?_⟩
  .rw[kd,kK];lia
  .have:=I.big;simp only[yq,ne_eq]
   lia
  refine G s.heap.objs.size _ R (lO R) ⟨(Mh f).map (·.2),.inr ⟨Mh f,jv,?_,rfl⟩,?_⟩
  .rw[kZ];rfl
  exact Uo _
 |_=>cases E
variable {a:iT}{g:FO}{p f:bu}
def Zt(k:X.A.units+62<aP)(j:X.mg "dict"=U)(c:QA X [a] [g])(d:X.calm=J:=by rfl)(i:Gl X "dict":=by rfl)(e:SE X a []:=by rfl)(b:BA X f []:=by exact rF):QX X (.Call (.Name "dict" p) [a] [] f) (ju (g1 An) [g]):=
 ⟨HW (ac0 k d) i j (by decide+kernel) c.h (by decide) (by decide) e b⟩
end
end PX
namespace L2
open PySem.W
structure Kx(P:jm)(w:je)(outer:List dO)(H:Hp)(s:iN)(C:iJ)(H':Hp)(ea:iJ)(s':iN)(h0 B:jg)(F:kY):Prop where
 os:s'.os=s.os
 bare:ew s'.gens
 un:Un (Eg outer) [] H H' s.heap h0
 hok:EO P w H' h0
 fr:∀b∈F,H' b=AR/\(b∈Eg outer\/s.heap.objs.size<=b)
 st:∀b o,h0.get? b=A9 o->b∉F->B.get? b=A9 o
 fl:∃a0,Heap.FlyingW B outer ea (.ref C) a0 s'.heap
 up:h0.UpToSlots s'.heap
 ne:h0.get? ea=AR
inductive Ho(P:jm)(w:je)(outer:List dO)(H:Hp)(s:iN)(E:XK)(e:iQ)(s':iN):Prop where
 |mk (C:iJ) (H':Hp) (ea:iJ) (h0 B:jg) (F:kY) (_:e=.ref ea) (_:Kx P w outer H s C H' ea s' h0 B F) (_:E (.ref C) AR H')
section
variable {P:jm}{w:je}{c:List dO}{H h:Hp}{s s':iN}{C i:iJ}{g B d:jg}{F:kY}
def Kx.end(f:Kx P w c H s C h i s' g B F)(t:∀b∈Eg c,∃o,s.heap.get? b=Y o/\(∀O,o.data≠ .fields O)/\H b=U)(E:B.StaysIn d)(v:g.UpToSlots d):Un (Eg c) [] H h s.heap d/\EO P w h d:=by
 have keep:∀b o,g.get? b=Y o->b∉F->d.get? b=Y o:=λb o e n=>E b o<|f.st b o e n
 have x:∀b o,s.heap.get? b=Y o->b∉Eg c->b∉F:=λb o e n z=>by
  rcases(f.fr b z).2 with q|q
  .exact n q
  exact absurd (km e) (LP.mpr q)
 refine⟨⟨λb o e n j k=>keep b o (f.un.keep b o e n j k)<|x b o e j,λb o e n j k=>?_,f.un.free,λb o e k=>?_,f.un.tups,f.un.frzs,f.un.tbls⟩,λa o e=>?_⟩
 .obtain⟨T,m,r,_⟩:=t b j;rw[e]at m;cases m;obtain⟨L,l⟩:=f.un.slot b o e n j k;obtain⟨A,p⟩:=v b _ l r;exact⟨A,p⟩
 .by_cases j:b∈Eg c
  .obtain⟨T,m,r,n⟩:=t b j;rw[e]at m;cases m;obtain⟨L,l⟩:=f.un.slot b o e n j k;obtain⟨A,p⟩:=v b _ l r;exact⟨_,p⟩
  obtain⟨y,l⟩:=f.un.there b o e k;exact⟨y,keep b y l<|x b o e j⟩
 refine(f.hok a o e).Bm (λb u j q=>keep b u q λz=>?_) (λ_ q=>q) λ_ _ q=>q;have:=(f.fr b z).1;rcases j with rfl|j
 .rw[e]at this;cases this
 rw[j]at this;cases this
end
section
variable {X:Cx}{g:jG}{k:St}{H:Hp}{s s':iN}{C j:iJ}
def Inv.Mr(T:Inv X g k H s):∀b∈Eg X.stack,∃o,s.heap.get? b=Y o/\(∀d,o.data≠ .fields d)/\H b=U:=λb a=>by obtain⟨_,o,c,hd⟩:=T.stack.mem a;exact⟨o,c,hd,T.GH b a⟩
def GG(X:Cx)(P:jm)(w:je)(d:List dO)(i:Hp)(s0:iN)(E:XK):Prop:=X.prog=P/\X.w=w/\X.stack=X.env::d/\X.outer=d/\X.H₀=i/\X.s₀=s0/\X.ex=[]/\X.env.frame=Y X.env.locals/\
 ∀e s',ae (af P w) X.A (Sr X.env e) (λ_ a=>Ho P w d i s0 E e a) (λb a=>Ho P w d i s0 E b a) s'->X.xe e s'
def adF{P:jm}{w:je}{K:jl}{a:lE}{base:jg}{N:jw}{qual:au}{scope:jS}{f:iJ}{cd:iQ}{A:jh}{d:List dO}{s:iN}{H:Hp}{E:XK}:
  GG (rB (Ho P w) P w K a base N qual scope f cd A d s H E) P w d H s E:=⟨rfl,rfl,rfl,rfl,rfl,rfl,rfl,rfl,λ_ _ h=>h⟩
variable {P:jm}{w:je}{d:List dO}{i:Hp}{s0:iN}{E:XK}
def adI{r:Hp}{u:jg}{L:iJ}(a:Un (Eg d) [] i H s0.heap s.heap)(b:Un (L::Eg d) [] H r s.heap u)(A:s0.heap.objs.size<=L):Un (Eg d) [] i r s0.heap u where
 keep:=λc o q n h e=>b.keep c o (a.keep c o q n h e) (a.free c o q n e) (λz=>(kM.mp z).elim (λz=>by subst z;exact absurd (km q)<|LP.mpr A) h) e
 slot:=λc o q n h e=>by obtain⟨Q,f⟩:=a.slot c o q n h e;obtain⟨y,m⟩:=b.slot c _ f (a.free c o q n e) (jU _ h) e;exact⟨y,m⟩
 free:=λc o q n e=>by obtain⟨p,f⟩:=a.there c o q e;exact b.free c p f (a.free c o q n e) e
 there:=λc o q e=>by obtain⟨p,f⟩:=a.there c o q e;exact b.there c p f e
 tups:=λc l q=>b.tups c l<|a.tups c l q
 frzs:=λc o l q=>b.frzs c o l<|a.frzs c o l q
 tbls:=λc O q=>by obtain⟨B,f⟩:=a.tbls c O q;obtain⟨T,m⟩:=b.tbls c _ f;exact⟨B++T,by rw[m,Gn]⟩
def Av{a:dO}{L:iJ}(h:a.frame=Y L):Eg (a::d)=L::Eg d:=by unfold Eg;rw[uF,h]
def GG.made(x:GG X P w d i s0 E)(T:Inv X g k H s){r:jg}{f:jN}(p:Heap.MadeExcOf s.heap r j (.ref C) f)(q:E (.ref C) U H):X.xe (.ref j) {s with heap:=r}:=by
 obtain⟨rfl,rfl,c,B,rfl,rfl,hex,u,v⟩:=x;refine v _ _ (wpAny_leaves_madeW (base:=hideAll s.heap<|Eg X.stack) (h:=s.heap) (L:=X.env.locals) (T.ok.frames.trans<|by rw[c]) u (λb o e=>of_hideAll _ e) ?_ p λO t y _ _ up=>?_)
 .rw[<-c];exact funFrames_hide T.stack λm A a z=>dJ.mpr ⟨m,A,z⟩
 refine⟨C,H,j,s.heap,_,Eg X.stack,rfl,⟨T.os,T.bare,?_,T.hok,λb l=>⟨T.GH b l,?_⟩,λb o e n=>hideAll_get _ e n,⟨_,y⟩,(Heap.UpToSlots.of_keeps p.keeps).trans up,p.new⟩,q⟩
 .have:=T.base;unfold Cx.fs at this
  rwa [B,hex]at this
 rw[c,Av u]at l;rcases kM.mp l with rfl|l
 .exact .inr T.ok.above
 exact .inl l
def GG.pass(x:GG X P w d i s0 E):D5 (Ho P w) X E:=λg k H s e s' T h=>by
 obtain⟨rfl,rfl,c,v,rfl,rfl,hex,l,r⟩:=x;obtain⟨C,o,j,u,B,F,rfl,f,q⟩:=h;obtain⟨p,m⟩:=f.fl;rw[c]at m;refine r _ _ (wpAny_leaves_onW (L:=X.env.locals) (T.ok.frames.trans<|by rw[c]) l m λy t up=>?_);refine⟨C,o,j,u,B,F,rfl,⟨f.os.trans T.os,f.bare,?_,f.hok,λb n=>⟨(f.fr b n).1,?_⟩,f.st,⟨p,t⟩,f.up.trans up,f.ne⟩,q⟩
 .have a:=T.base;unfold Cx.fs at a;rw[v,hex]at a;have b:=f.un;rw[c,Av l]at b;exact adI a b T.ok.above
 rcases(f.fr b n).2 with z|z
 .rw[c,Av l]at z;rcases kM.mp z with rfl|z
  .exact .inr T.ok.above
  exact .inl z
 exact .inr (lC T.sz z)
end
abbrev NC:List Value:=[.type "ValueError",.type "Exception",.type "BaseException",.type "object"]
def R0{K:Frag}{h:jg}{T:iJ}{b:jN}{e:String}(c:K.In h)(q:excIn K T b e=J):
  ∃a N nm g bs hd sn sub ab col dd k0 k1 k2 k3 k5 j,h.get? T=Y (excClassObj nm g T N bs a hd sn sub ab col dd k0 k1 k2 k3 k5 e)/\h.Ns N j/\j "__init__"=U/\OwnTail h b a:=by
 unfold excIn at q;split at q
 case h_2=>cases q
 rename_i dd cd i lk;split at q
 case h_2=>cases q
 rename_i y a k0 k1 k2 k3 n k5 p r;rw[lg,lg,lg,lg,lg]at q;obtain⟨⟨⟨⟨⟨t,u⟩,v⟩,w⟩,k⟩,x⟩:=q;cases beq_iff_eq.mp t;cases beq_iff_eq.mp u;obtain⟨nm,bs,f,s,g,hd,sn,sub,ab,col,d⟩:=cd;have l:f=.ref T::a:=p;have m:d=C:=by simpa using v
 obtain⟨i⟩:=i;have o:i=[k0,k1,k2,k3,Y<|.builtin e,k5]:=r;subst l m o;exact⟨a,s,nm,g,bs,hd,sn,sub,ab,col,dd,k0,k1,k2,k3,k5,_,c _ _ lk,.of_isNs<|isNs_of_in c k,nsMap_none_of_in c k<|beq_iff_eq.mp x,tail_of_in c w⟩
section
variable {X:Cx}{P:jm}{w:je}{b:List dO}{g:Hp}{s0:iN}{E:XK}{x:au}{C:iJ}{a:iT}{d:TE}{np f c:bu}
def aeB(T:GG X P w b g s0 E)(z:X.calm=Ap)(t:excIn X.K C NC "ValueError.__new__"=Ap)(B:X.mg x=Y (.ref C))(A:Gl X x)(y:PE X a d)(hd:(x==("__debug__":au))=AX)
  (n:ac [a] X.env=[(AX,aW a X.env)]):PS X (.Raise (Y<|.Call (.Name x np) [a] [] f) U c) (λD k H'=>d k H' λ_ l=>E (.ref C) U l):=by
 intro i s k H' D I h;obtain⟨G,N,nm,Q,bs,o,sn,sub,ab,col,dd,k0,k1,k2,k3,k5,M,h1,p,r,m⟩:=R0 I.ok.mod.kin t;have L:(aT f<|ac [a] X.env).any (·.1)=AX:=by rw[n];rfl
 refine wpAny_Raise_call_subT (nm:=nm) (q:=Q) (N:=N) (bs:=bs) (hdct:=o) (sn:=sn) (sub:=sub) (ab:=ab) (col:=col) (dd:=dd) (k0:=k0) (k1:=k1) (k2:=k2) (k3:=k3) (k5:=k5) PySem.F.excBase_ValueError (m.hasType<|by decide) (I.ok.hd z) L r<|wu I A B ⟨rfl,?_⟩ hd;rw[n];refine LD<|Gi (Bl (y i s k H' _ I h) λu s1 a'=>by obtain⟨v,l,j,U',O⟩:=a';exact Gj ⟨rfl,(show 1<=sizeLine by decide),j.bk _ _ h1,p.keeps j.bk,m.keeps j.bk,λJ e mk=>T.made j mk O⟩)
end
def xQ(q:au):HO:=.tbl #[.str q 0]
structure Kj(TB:List (iJ×au))(H:Hp):Prop where
 one:∀b,H b=AR\/(∃o xs,H b=A9 (.D3 o<|.lst xs))\/∃q,(b,q)∈TB/\H b=A9 (xQ q)
 all:∀p∈TB,H p.1=A9 (xQ p.2)
def adD{P:jm}{w:je}{K:jl}{C mb:lE}{CX:JE}{k:Nat}{fa a:iJ}{fd:mT}{x:au}{sp:Sp}{c:iN}{O:jN}{Q:iZ}{TB:List (iJ×au)}
  (KX:K.In c.heap)(bg:c.heap.Ns aj C)(g:c.heap.Ns hD mb)(hbb:∀x:au,x≠"__name__"->mb x=aE x)(Y:c.heap.NoLimit)(hg:c.gens= #[])
  (M:∀p∈TB,c.heap.get? p.1=A9 (tabObj #[]))(fP:∀p∈TB,K.lookup p.1=AR)(fO:∀p∈TB,isCodeTable c.heap p.1)(eG:(TB.map (·.1)).Nodup)(U:∀p∈TB,c.heap.BuiltinsAt C p.1)
  (N:c.heap.get? a=A9 {cls:=.type "list",data:=.seq O.toArray})(hi:gw O Q)(hl:Q.length<=sizeLine)(hr:Bg k gq)
  (F:∀base:jg,K.In base->base.Ns aj C->(∀p∈TB,base.BuiltinsAt C p.1)->DV P w K C base CX k fa fd [x] sp)(l6:∀(s:iN)(u:iQ),gu s fd ⟨[u],[]⟩ [(x,u)])
  (cG:∀H8:Hp,Kj TB H8->Fd K H8 a (Q.map V.int)->sp [.ref a] H8 (λv H'=>v=.bl Ap/\∀p∈TB,H' p.1=A9 (xQ p.2)) λ_ _ _=>False)
  (hCX:∀H8 e j,CX [] H8 c (λ_ _ _=>False) e j->False):
  cb (af P w) gq (.call (.ref fa) ⟨[.ref a],[]⟩) (λr j=>r=.ok (.ret<|.bool Ap)/\OldK c.heap j.heap/\j.os=c.os/\ew j.gens) c:=by
 have rv:=adH hi;have R:=hi.length
 have Z:∀p∈TB,p.1≠a:=λp f e=>by have:=M p f;rw[e,N]at this;cases this
 have t:∀H8:Hp,Kj TB H8->Fd K H8 a (Q.map V.int)->EO P w H8 c.heap->(∀b,H8 b≠AR->b=a\/∃p∈TB,b=p.1)->(H8 a≠AR->K.lookup a=AR)->
   cb (af P w) gq (.call (.ref fa) ⟨[.ref a],[]⟩) (λr j=>r=.ok (.ret<|.bool Ap)/\OldK c.heap j.heap/\j.os=c.os/\ew j.gens) c:=by
  intro H8 hO hS D hA hK;have r0:∀{b:iJ}{o:fD},c.heap.get? b=A9 o->H8 b=AR->(Bi c.heap H8).get? b=A9 o:=λe n=>Oc e n
  have ba:∀{b:iJ}{o:fD},c.heap.get? b=A9 o->(∀b6 n,o.data≠ .seq b6 n)->(∀I,o.data≠ .fields I)->H8 b=AR:=λ{b o} e d d2=>by
   cases q:H8 b with
   |none=>rfl
   |some u=>
    rcases hA b (by rw[q];simp)with rfl|⟨p,f,rfl⟩
    .rw[N]at e;cases e;exact absurd AM<|d _ _
    rw[M p f]at e;cases e;exact absurd AM<|d2 _
  have X:∀{b:iJ}{m:lE},c.heap.Ns b m->(Bi c.heap H8).Ns b m:=λ{b m} ⟨o,es,ep,e,d,r⟩=>⟨o,es,ep,r0 e (ba e (λ_ _ z=>by rw[d]at z;cases z) λ_ z=>by rw[d]at z;cases z),d,r⟩
  have J:K.In (Bi c.heap H8):=λb o e=>r0 (KX b o e) (by
   cases q:H8 b with
   |none=>rfl
   |some u=>
    rcases hA b (by rw[q];simp)with rfl|⟨p,f,rfl⟩
    .rw[hK<|by rw[q];simp]at e;cases e
    rw[fP p f]at e;cases e)
  have hBA:∀p∈TB,(Bi c.heap H8).BuiltinsAt C p.1:=λp f=>by obtain⟨bm,o,h1,h2,h3,h4,h5,h6,h7,h8⟩:=U p f;exact⟨bm,o,h1,h2,h3,h4,r0 h5 (ba h5 (λ_ _ z=>by rw[h8]at z;cases z) λ_ z=>by rw[h8]at z;cases z),h6,h7,h8⟩
  have hM:Mod K C (Bi c.heap H8):=⟨J,X bg,⟨mb,X g,hbb⟩,let⟨mc,h1,h2⟩:=Y;⟨mc,X h1,h2⟩⟩
  have e0:JB P w K C (Bi c.heap H8) gq [] c H8:=⟨rfl,hM,λb o e=>Q7 e,Nat.le_of_eq<|ad0 _ _,trivial,λb g=>absurd (show b∈([]:List iJ)from g)<|by simp,D,.of_eq hg⟩
  refine rL ((F _ J (X bg) hBA).run gq [] c H8 ⟨[.ref a],[]⟩ [.ref a] [.ref a] _ _ hr e0 (l6 c<|.ref a) (.cons AM .nil) (cG H8 hO hS)) λr j h=>?_
  cases r with
  |error e=>exact(hCX H8 e j h).elim
  |ok fl=>
   cases fl with
   |next=>exact aJ h
   |brk=>exact aJ h
   |cont=>exact aJ h
   |ret u=>
    obtain⟨v,H',os,T,un,B,r',q,L⟩:=h;subst q;obtain rfl:u=dE Ap:=r'
    have W:∀p∈TB,∃I,j.heap.get? p.1=A9 (tabObj I):=λp f=>by
     obtain⟨_,_,I,_,e,_⟩:=(show Au P w H' j.heap p.1 (.tbl #[.str p.2 0])from B _ _ (L p f))
     exact⟨I,e⟩
    have keep:∀b o,c.heap.get? b=A9 o->(∀p∈TB,b≠p.1)->j.heap.get? b=A9 o:=λb o e n=>by
     cases q:H8 b with
     |none=>exact un.keep b o e q (by intro z;exact absurd (show b∈([]:List iJ)from z)<|by simp) (by simp)
     |some u=>
      rcases hO.one b with z|⟨ob,xs,z⟩|⟨qq,hm,z⟩
      .rw[q]at z;cases z
      .have z2:=un.frzs b ob _ z;obtain⟨e1,_⟩:=D b _ z;obtain⟨G,_⟩:=B b _ z2;rw[e]at e1;cases e1;exact G
      exact absurd AM (n _ hm)
    refine⟨rfl,⟨λb o e=>?_,λb o e=>?_⟩,os,T⟩
    .by_cases g:∃p∈TB,b=p.1
     .obtain⟨p,f,rfl⟩:=g;obtain⟨I,G⟩:=W p f;rw[M p f]at e;cases e;refine .inr<|.inl ⟨fO p f,rfl,#[],I,rfl,?_⟩;rw[G];simp
     exact .inl (keep b o e λp f z=>g ⟨p,f,z⟩)
    by_cases g:∃p∈TB,b=p.1
    .obtain⟨p,f,rfl⟩:=g;obtain⟨I,G⟩:=W p f;exact⟨_,G⟩
    exact⟨o,keep b o e λp f z=>g ⟨p,f,z⟩⟩
 have A:∀{b q},TB.lookup b=A9 q->(b,q)∈TB:=λh=>by
  revert h;generalize TB=l
  induction l with
  |nil=>intro h;simp at h
  |cons x l ih=>
   intro h;rw[oE]at h;split at h
   .rename_i g;cases h;rw[beq_iff_eq.mp g];exact jW
   exact jU _ (ih h)
 have S:∀p∈TB,TB.lookup p.1=A9 p.2:=by
  clear A t Z cG fP fO U F M
  induction TB with
  |nil=>intro p f;simp at f
  |cons x l ih=>
   intro p f;rw[jP,zu]at eG;rw[oE];rcases kM.mp f with rfl|f
   .simp
   have:(p.1==x.1)=AX:=by rw[yq];exact λe=>eG.1 (e▸xb f)
   rw[this];exact ih eG.2 p f
 have E:∀(H8:Hp)(b:iJ)(q:au),(b,q)∈TB->Au P w H8 c.heap b (xQ q):=λH8 b q hm=>⟨q,0,#[],rfl,M _ hm,trivial,λpos cv z=>by simp[eM]at z⟩
 cases hk:K.lookup a with
 |some o=>
  have e:=KX a o hk;rw[N]at e;cases e;refine t (λb=>(TB.lookup b).map xQ) ⟨λb=>?_,λp f=>by rw[S p f];rfl⟩ (.inr ⟨_,O.toArray,_,hk,rfl,rfl,rfl,by rw[kz,R];exact hl,by simpa using rv⟩) (λb u z=>?_) (λb z=>?_) λz=>?_
  .cases q:TB.lookup b with
   |none=>exact .inl AM
   |some y=>exact .inr<|.inr ⟨y,A q,rfl⟩
  .have i:(TB.lookup b).map xQ=A9 u:=z
   cases q:TB.lookup b with
   |none=>rw[q]at i;cases i
   |some y=>rw[q]at i;cases i;exact E _ b y (A q)
  .have i:(TB.lookup b).map xQ≠AR:=z
   cases q:TB.lookup b with
   |none=>rw[q]at i;exact absurd AM i
   |some y=>exact .inr ⟨_,A q,rfl⟩
  have i:(TB.lookup a).map xQ≠AR:=z
  cases q:TB.lookup a with
  |none=>rw[q]at i;exact absurd AM i
  |some y=>exact absurd AM<|Z _ (A q)
 |none=>
  have hU:∀p∈TB,(if p.1=a then A9 (HO.D3 {cls:=.type "list",data:=.seq O.toArray}<|.lst<|Q.map V.int)else(TB.lookup p.1).map xQ)=A9 (xQ p.2):=λp f=>by rw[jr<|Z p f,S p f];rfl
  refine t (λb=>if b=a then A9 (.D3 {cls:=.type "list",data:=.seq O.toArray}<|.lst<|Q.map V.int)else(TB.lookup b).map xQ) ⟨λb=>?_,hU⟩ (.inl<|.inr ⟨{cls:=.type "list",data:=.seq O.toArray},jb AM⟩) (λb u z=>?_) (λb z=>?_) λ_=>hk
  .by_cases g:b=a
   .exact .inr (.inl ⟨_,_,jb g⟩)
   cases q:TB.lookup b with
   |none=>exact .inl (by simp[g,q])
   |some y=>exact .inr<|.inr ⟨y,A q,by simp[g,q]⟩
  .by_cases g:b=a
   .have i:=(jb g).symm.trans z;cases i;subst g;exact⟨N,by rw[kd];exact hl,O,_,rv,N⟩
   have i:=(jr g).symm.trans z
   cases q:TB.lookup b with
   |none=>rw[q]at i;cases i
   |some y=>rw[q]at i;cases i;exact E _ b y (A q)
  by_cases g:b=a
  .exact .inl g
  cases q:TB.lookup b with
  |none=>exact absurd (by simp[g,q]) z
  |some y=>exact .inr ⟨_,A q,rfl⟩
end L2
namespace PX
open L2
def Ro{TB:List (iJ×au)}{K:jl}{k:Bn}{T:Hp}{a:iJ}{f:iZ}(m:∀p∈TB,T p.1=Y (xQ p.2))(l:Fd K T a (f.map V.int)){o:Bool}{c:Dn}(h:k [(.lst<|f.map .int,C)]=Y ((.bl J,o),c)):J7 K k [.ref a] T (λv g=>v=.bl J/\∀p∈TB,g p.1=Y (xQ p.2)) λ_ _ _=>False:=by
 have no:∀b,¬Aa [Y<|V.ref a] [Y (D.lst<|f.map .int,C)] b:=λb Q=>by
  obtain⟨i,d,h1,q⟩:=Q
  cases i with
  |zero=>simp at h1
  |succ i=>simp at h1
 refine⟨λ_=>False,[(.lst<|f.map .int,C)],_,c,⟨rfl,λi d hd=>?_,λi d hd=>?_,λi j d e b h1=>?_,λb z=>absurd z<|no b,λb z=>z.elim⟩,h,λv g P=>?_⟩
 .cases i with
  |zero=>simp at hd;subst hd;refine⟨_,rfl,Rep.Mc (a:=a) (xs:=f.map V.int) ?_<|adh f⟩;exact l.imp (λz=>⟨z,λz=>z.elim (no a) id⟩) id
  |succ i=>simp at hd
 .cases i with
  |zero=>simp at hd
  |succ i=>simp at hd
 .cases i with
  |zero=>simp at h1
  |succ i=>simp at h1
 refine⟨?_,λp n=>P.1.kp _ _ (m p n) (no _)⟩
 cases o
 .exact P.2.2.bl
 obtain⟨p,_,_,_,ok⟩:=P.2;exact ok.elim
end PX
namespace L2
open PySem.W
theorem vV{a b:Int}{t u:Nat}{c:iQ}:∀l:List iQ,kr l->kr (l++[.int a t,.int b u,c])
 |[],_=>trivial
 |.int _ _:: .int _ _::_::rest,h=>vV rest h
theorem AV{a b:Int}{t u:Nat}{e:bu}{c f:iQ}:∀l:List iQ,kr l->eM e (l++[.int a t,.int b u,c])=Y f->eM e l=Y f\/f=c
 |[],_,h=>by
  simp only[qd,eM]at h;split at h
  .exact .inr (kT h).symm
  cases h
 |.int i _:: .int j _::d::rest,h0,h=>by
  simp only[uN,eM]at h ⊢;split at h
  .rename_i q;rw[jb q];exact .inl h
  rename_i q;rw[jr q];exact AV rest h0 h
structure Hj(q:au)(params:cH)(body:iT)(scope:jS)(b7:lF)(H:Hp)(h:jg)(fl:iJ):Prop where
 fn:∃pm c' l8,h.get? fl=A9 (kla_obj "<lambda>" q params body scope b7 pm c' l8)/\∃ob u vs t,H c'=A9 (.D3 ob u)/\ob.data=.fields vs/\vs[1]?=A9 (.str q t)
 un:H fl=AR
section
variable {X:Cx}{i:jG}{m:St}{H:Hp}{s:iN}{P c:iJ}{f:cH}{g:iT}{scope:jS}{j:lF}{l:bu}
def SU{h:jg}{a:iJ}(e:h.objs.size<=a):h.get? a=U:=by
 cases q:h.get? a with
 |none=>rfl
 |some o=>exact absurd (km q)<|LP.mpr e
def ae9{M:gr}{A:jh}{E:jy}{Q:jy}(I:Inv X i m H s){more:nJ}(N:H P=A9 (.tbl (#[.str (X.env.qual++"<lambda>") 0]++more)))(hc:X.env.code=.ref c)(C:CodeHd X.base c P)(hB:X.base.BuiltinsAt X.mg P)(gK:aj≠P)
  (m5:ul scope X.env=pure j)(aQ:t5 f X.env=([],[]))
  (k:∀s1 T fl,Inv X i m T s1->(∀b o,H b=A9 o->T b=A9 o)->Hj (X.env.qual++"<lambda>") f g scope j T s1.heap fl->(∀b o,s.heap.get? b=A9 o->H b=AR->s1.heap.get? b=A9 o)->(∀b o,s.heap.get? b=A9 o->H b=AR->T b=AR)->s.heap.get? fl=AR->Q (.ref fl) s1):
  ae M A (aW (.Lambda f g scope l) X.env) Q E s:=by
 refine kla_eval aQ ?_;obtain⟨qq,tq,ps,J,B,Y,hm⟩:=(show Au X.prog X.w H s.heap P (.tbl (#[.str (X.env.qual++"<lambda>") 0]++more))from I.hok P _ N)
 have W:qq=X.env.qual++"<lambda>":=by rw[Array.getElem?_append_left<|by simp]at J;simp at J;exact J.1.symm
 subst W;have w5:s.heap.BuiltinsAt X.mg P:=let⟨bm,o,h1,F,K,R,h5,h6⟩:=hB;⟨bm,o,h1,F,K,R,I.bk _ _ h5,h6⟩
 have hg:s.heap.Ns aj X.mg:=I.ok.mod.glob.keeps I.bk
 cases S:eM l ps.toList with
 |some cv=>refine kla_makeFunctionHit m5 I.ok.glob hg hc (C.keeps I.bk) B Y S w5 λh v D p sz=>?_;obtain⟨a,ob,u,vs,t,rfl,F,K,R⟩:=hm l cv S;have bx:∀b o,s.heap.get? b=A9 o->(v.push<|kla_obj "<lambda>" (X.env.qual++"<lambda>") f g scope j ((X.mg "__name__").getD .none) a h).get? b=A9 o:=λb o e=>ke _ (p b o e);exact k _ H _ (I.kept (t':=D) bx) (λ_ _ e=>e) ⟨⟨_,a,h,kE _ rfl,ob,u,vs,t,F,K,R⟩,I.hok.fresh sz⟩ (λb o e _=>bx b o e) (λ_ _ _ n=>n) (SU sz)
 |none=>
  refine kla_makeFunction m5 I.ok.glob hg hc (C.keeps I.bk) B Y S gK w5 λa h v D ex G x cr tb=>?_;obtain⟨c0,r,vs,t,ec,ee,dG,hq⟩:=cr;cases ec;have nc:H a=AR:=I.hok.fresh G;have p:∀b o,b≠P->s.heap.get? b=A9 o->(v.push<|kla_obj "<lambda>" (X.env.qual++"<lambda>") f g scope j ((X.mg "__name__").getD .none) a h).get? b=A9 o:=λb o n e=>ke _ (ex b o n e);have up:∀b o,H b=A9 o->upd H a (.D3 r<|.own 0) b=A9 o:=λb o e=>by rw[jx<|lu e nc];exact e
  have Z:∀b,H b=AR->b≠P:=λb n z=>by rw[z,N]at n;cases n
  have y:=ke (kla_obj "<lambda>" (X.env.qual++"<lambda>") f g scope j ((X.mg "__name__").getD .none) a h) tb
  have un:Un (Eg X.stack) [] H (upd H a<|.D3 r<|.own 0) s.heap (v.push<|kla_obj "<lambda>" (X.env.qual++"<lambda>") f g scope j ((X.mg "__name__").getD .none) a h):=
   ⟨λb o e n _ _=>p b o (Z b n) e,λb o e n _ _=>⟨o.slots,p b o (Z b n) e⟩,λb o e n _=>by rw[jx<|kF<|nN (km e) G];exact n,λb o e _=>by
    by_cases z:b=P
    .subst z;exact⟨_,y⟩
    exact⟨o,p b o z e⟩,λb xs e=>up b _ e,λb o xs e=>up b _ e,λb ps e=>⟨#[],by rw[up b _ e];simp⟩⟩
  have V:EO X.prog X.w (upd H a<|.D3 r<|.own 0) (v.push<|kla_obj "<lambda>" (X.env.qual++"<lambda>") f g scope j ((X.mg "__name__").getD .none) a h):=λb u e=>by
   by_cases U:b=a
   .subst U;rw[jv]at e;cases e;exact⟨ke _ ee,⟨r,ke _ ee⟩⟩
   rw[jx U]at e;by_cases L:b=P
   .subst L;rw[N]at e;cases e;refine⟨_,tq,_,J,y,?_,λO cv z=>?_⟩
    .rw[K5];exact vV _ Y
    rw[K5]at z;rcases AV _ Y z with z|z
    .obtain⟨x,ob,u,vs,t,r1,r2,r3,r4⟩:=hm O cv z;exact⟨x,ob,u,vs,t,r1,up _ _ r2,r3,r4⟩
    exact⟨a,r,_,vs,t,z,jv,dG,hq⟩
   refine(I.hok b u e).Bm (λd w hd q=>p d w (λz=>?_) q) (λd q=>up d _ q) (λd xs q=>up d _ q) λd _ _ q=>up d _ q;subst z;rcases hd with z|z
   .exact L z.symm
   rw[N]at z;cases z
  have I1:Inv X i m (upd H a<|.D3 r<|.own 0) {s with heap:=v.push<|kla_obj "<lambda>" (X.env.qual++"<lambda>") f g scope j ((X.mg "__name__").getD .none) a h,toks:=D}:=I.call (g':=s.gens) (d':=s.drawn) (t':=D) un V I.bare λb U=>absurd U (by simp);refine k _ _ _ I1 up ⟨⟨_,a,h,kE _ rfl,r,_,vs,t,jv,dG,hq⟩,?_⟩ (λb o e n=>p b o (Z b n) e) (λb o e n=>un.free b o e n<|by simp) (SU<|vO<|xa G x);rw[jx<|pP x];exact I.hok.fresh<|vO<|xa G x
end
def AF(q:au)(scope:jS)(L fl:iJ)(cd:iQ)(a:lF):Env:=
 newEnv scope L aj a (q++".<locals>.") (Y fl) cd U hD
def tK(CX:JE)(P:jm)(w:je)(K:Frag)(d:lE)(base:jg)(N:jw)(q:au)(scope:jS)(fl:iJ)(cd:iQ)(b:lF)(A:jh)(a:List dO)(s:iN)(T:Hp)(E:XK):Cx where
 prog:=P
 w:=w
 K:=K
 mg:=d
 base:=base
 A:=A.deeper<|AF q scope s.heap.objs.size fl cd b
 N:=N
 s₀:=s
 H₀:=T
 env:=AF q scope s.heap.objs.size fl cd b
 outer:=a
 stack:=AF q scope s.heap.objs.size fl cd b::a
 ex:=[]
 calm:=J
 fn:=λ_=>C
 pn:=[]
 xe:=λe h=>ae (af P w) (A.deeper<|AF q scope s.heap.objs.size fl cd b) (Sr (AF q scope s.heap.objs.size fl cd b) e) (λ_ c=>CX a T s E e c) (λg c=>CX a T s E g c) h
structure EF(scope:jS):Prop where
 kind:scope.kind=.function
 co:scope.isCoroutine=AX
 gen:scope.isGenerator=AX
 cell:∀y∈scope.names,y.2≠ .cell
structure DS(N:jw)(scope:jS)(b7:lF)(σ:St)(H:Hp)(h:jg):Prop where
 inj:∀x y c,b7.lookup x=A9 c->b7.lookup y=A9 c->x=y
 has:∀x,scope.names.lookup x=A9 .free->∃c,b7.lookup x=A9 c
 cell:∀x c,b7.lookup x=A9 c->(∃v,h.IsCell c v)/\H c=AR
 val:∀(i:Nat)(x:au)(v:V),N[i]?=A9 x->σ[i]?=A9 (A9 v)->scope.names.lookup x=A9 .free/\∃c u,b7.lookup x=A9 c/\h.IsCell c (A9 u)/\RelV v u
 len:(A2 σ)=(A2 N)
section
variable {CX:JE}{P:jm}{w:je}{K:Frag}{g:lE}{base:jg}{N:jw}{q:au}{scope:jS}{fl:iJ}{cd:iQ}{d:lF}{A:jh}{a:List dO}{s:iN}{H:Hp}{E:XK}{f:St}
def RB(S:EF scope)(hd:A.handled=U)(e:JB P w K g base A a s H)(T:DS N scope d f H s.heap){h1:jg}{t1:Nat}(l:h1.Ns s.heap.objs.size (λ_=>U))(hk:∀b o,s.heap.get? b=Y o->h1.get? b=Y o):
  Inv (tK CX P w K g base N q scope fl cd d A a s H E) [] f H {s with heap:=h1,toks:=t1}:=by
 have k:∀b:iJ,b∉(tK CX P w K g base N q scope fl cd d A a s H E).ex:=λb z=>absurd (show b∈([]:List iJ)from z) (by simp)
 refine⟨⟨e.mod,S.kind,rfl,rfl,kc _,T.inj,λy j=>?_,λy c z _=>absurd z<|by simp[tK],λ_=>hd,LK e.frames,.inr ⟨rfl,rfl⟩,λb z=>absurd z<|k b,e.bs,e.bsz,λb _ _=>k b,λb z=>absurd z<|k b,e.Ed,e.frf⟩,
  rfl,e.bare,Un.kept hk,⟨_,l,λi y v h1 m _=>?_⟩,λy c h=>?_,e.hok.fresh<|kc _,λy c h=>(T.cell y c h).2,λp x=>absurd (show p∈([]:List (iJ×fD))from x)<|by simp,e.hok.kept hk,T.len⟩
 .have j:scope.names.lookup y=Y .cell\/scope.names.lookup y=Y .free:=j;rcases j with j|j
  .exact absurd I (S.cell _ (qj j))
  exact T.has y j
 .obtain⟨t,c,u,n,B,r⟩:=T.val i y v h1 m;exact⟨u,r,.inr ⟨.inr t,c,n,B.keeps hk⟩⟩
 obtain⟨⟨v,hv⟩,_⟩:=T.cell y c h;exact⟨v,hv.keeps hk⟩
def Rq{h:cH}{c:iT}{k:Nat}{t:TE}{Q:VK}(S:EF scope)(n:Bg (k+1) A)(m:JB P w K g base A a s H)(C:DS N scope d f H s.heap)(L:Hj q h c scope d H s.heap fl)
  (l6:∀B i z,fI (kla_fn "<lambda>" q h c scope d B (.ref i) z) ⟨[],[]⟩=pure [])
  (Y:∀i:iJ,Bg k (A.deeper<|AF q scope s.heap.objs.size fl (.ref i) d)->PE (tK CX P w K g base N q scope fl (.ref i) d A a s H E) c t)(ht:t f H Q):
  cb (af P w) A (.call (.ref fl) ⟨[],[]⟩) (CR CX a P w H s Q E) s:=by
 obtain⟨B,i,z,D,V,u,vs,tk,h1,M,U⟩:=L.fn;have R:s.heap.CodeRec (.ref i) q:=⟨i,V,vs,tk,rfl,(m.hok i _ h1).1,M,U⟩
 have r:s.heap.NoLimit:=m.mod.nolimit.keeps λb o e=>(m.bs b o e).1;refine kla_callFunE n.depth D AM S.co S.gen AM R ?_;rw[l6];refine ja<|wpAny_newFunctionEnv S.cell (by intro y F;simp at F) (λl G O=>⟨r.fresh _ O,?_⟩) S.kind;show cb _ _ (.expr c<|AF q scope s.heap.objs.size fl (.ref i) d) _ _;have j:∀b o,s.heap.get? b=A9 o->l.get? b=A9 o:=λb o e=>O.extBut b o (kF<|km e)<|ke _ e;have I:=RB (CX:=CX) (q:=q) (fl:=fl) (cd:=.ref i) (E:=E) (t1:=s.toks+([]:List (au×iQ)).length) S n.hd m C (by simpa using G) j;refine kla_codeExpr<|oj (Y i (n.deeper _) [] _ f H Q I ht) (λv Z p=>?_) λe Z p=>p;obtain⟨x,T,J,X,W⟩:=p;exact⟨x,T,J.os,J.bare,J.base,J.hok,X,W⟩
end
open PySem.Calls Builtin Builtin.ObjectAttr Builtin.Getset_descriptor
structure Ky(K:Frag)(C:iJ):Prop where
 ga:findIn K (.ref C) "__getattribute__"=A9 (A9<|.builtin "BaseException.__getattribute__")
 gb:findIn K (.ref C) "__getattr__"=A9 AR
 mrB:mroIn K C (.type "BaseException")=A9 Ap
 dct:hasDictIn K C=Ap
 fnd:findIn K (.ref C) "__class__"=A9 (A9<|.builtin "object.__class__")
 spc:specialIn K (.builtin "object.__class__") "__get__"=A9 (A9<|.builtin "getset_descriptor.__get__")
 tks:takesIn K (.builtin "object.__class__")=A9 Ap
 mro:mroIn K C (.type "object")=A9 Ap
section
variable {K:Frag}{C x:iJ}{o:fD}
def Ot{M:gr}{h:jg}(Z:Ky K C)(X:K.In h):Looks M h (find (.ref x) (.ref C) "__class__") (.bind (.builtin "getset_descriptor.__get__")<|.builtin "object.__class__"):=by have a:=looks_takesIn (M:=M) X Z.tks;exact(looks_findIn X Z.fnd).andThen ((show Looks M h (getOf<|Y<|.builtin "object.__class__") _ from looks_specialIn X Z.spc).andThen<|(show Looks M h (dataDescriptor? (Y<|.builtin "object.__class__")<|Y<|.builtin "getset_descriptor.__get__") (Y (.builtin "getset_descriptor.__get__",.builtin "object.__class__"))from a.andThen .now).andThen<|Looks.tag .now)
def afa(Z:Ky K C)(v:o.cls=.ref C):KitX K (.ref x) (.ref C) λh=>h.get? x=A9 o:=by
 have ty:∀(M:gr)(h:jg),h.get? x=A9 o->Looks M h (tp<|.ref x) (.ref C):=λM h e=>v▸(Looks.ld e).andThen .now;obtain⟨r,f,_⟩:=any_some Z.dct;unfold clsIn at f;split at f
 case h_2=>cases f
 rename_i U Y p D i;refine⟨λM h _ e=>ty M h e,λM h X _=>?_,λh H dd N n S X m=>?_,λ{a w A E Q s} X e k=>?_⟩
 .intro I J L R B q;unfold isType loadHead;exact iL<|wpAny_loadPart (B _ _ (X _ _ i))<|ja q
 .refine n7.mpr λq=>?_;have e:C=H:=Value.ref.inj<|beq_iff_eq.mp q;subst e;have z:=(X _ _ i).symm.trans m;cases z
 obtain⟨y,g,d,t,os⟩:=s;have T0:=ty (af a w) y e;have j:=looks_findIn (M:=af a w) X Z.ga;have l:=looks_findIn (M:=af a w) X Z.gb;have O:=Ot (x:=x) (M:=af a w) Z X;have T:=looks_mroIn (M:=af a w) X Z.mro;unfold IN getAttrBy? getAttrBy;refine iL<|wpAny_mkText<|iL<|sv<|mv<|iL<|T0.at<|iL<|j.at ?_;have G:=looks_mroIn (M:=af a w) X Z.mrB;have u:(cc "BaseException.__getattribute__"==cc "object.__getattribute__")=AX:=by decide+kernel
 show ae _ _ (if onTheHeap (bK C)&&cc "BaseException.__getattribute__"==cc "object.__getattribute__" then _ else A1 _ _ _ _ _ _) _ _ _;rw[jr<|by rw[u];simp];unfold A1;refine iL<|(show Looks _ _ (hookBefore<|.ref C) AR from l).at<|iL<|sv<|mv ?_;show ae _ _ (J4 (.builtin "BaseException.__getattribute__") (.ref x)<|.str "__class__" _) _ _ _;unfold J4;rw[show bindSpecial (.builtin "BaseException.__getattribute__") (.ref x)=pure (.builtin "BaseException.__getattribute__",[.ref x])from Wb.ga.bind _];refine iL<|ja<|xG<|zh Wb.ga.plain F.entry_bexc_ga ?_;have hk:builtinKind "BaseException.__getattribute__"=A9 .slot:=by decide+kernel
 have b:splitId "BaseException.__getattribute__"=A9 ("BaseException","__getattribute__"):=by decide+kernel
 have P:=F.args_bexc_ga (.ref x)<|.str "__class__" t;simp only[c7,hk,b];refine iL ?_;unfold tz
 repeat lk
 refine wpAny_run (h:=AR) (c:=.call (.builtin "getset_descriptor.__get__") ⟨[.builtin "object.__class__",.ref x,.ref C],[]⟩) ?_;refine zh KF.slot_gs.plain KF.entry_gs<|KF.slot_gs.check _ _ _ _ _ _ _ _ (show dL _ (.builtin "object.__class__") "getset_descriptor" from KF.type_class) (KF.args_gs _ _ _) ?_;unfold aY.«getset_descriptor.__get__» descrGet;rw[dga_obj];refine iL<|ja ?_;unfold descrGetter descrCheckInstance descrNameAndClass tz;simp only[KF.owner_class]
 repeat lk
 refine⟨FY _ (by decide+kernel),qf KF.entry_class ?_⟩;unfold aY.«object.__class__» shownTypeOf
 repeat lk
 exact k
end
section
variable {X:Cx}{f:jG}{h g:St}{H:Hp}{s:iN}{a:iJ}{o:fD}{j:jg}
def Inv.MO(N:Inv X f h H s)(L:H a=U)(B:X.s₀.heap.get? a=U)(r:s.heap.get? a=Y o)(T:∀v,o.data≠ .cell v)(E:a≠X.env.locals)(O:∀p∈X.pn++f,p.1≠a):Inv X f h (upd H a<|.D3 o<|.own 0) s:=by
 have up:∀b u,H b=Y u->upd H a (.D3 o<|.own 0) b=Y u:=λb u e=>by rw[jx<|lu e L];exact e
 refine⟨N.ok,N.os,N.bare,⟨N.base.keep,N.base.slot,λb k e n i=>?_,N.base.there,λb y e=>up _ _ (N.base.tups b y e),λb k u e=>up _ _ (N.base.frzs b k u e),λb Q e=>?_⟩,N.loc,N.cell,?_,λx c i=>?_,λp w=>?_,λb u e=>?_,N.len⟩
 .rw[jx (λz=>by subst z;rw[B]at e;cases e)];exact N.base.free b k e n i
 .obtain⟨m,d⟩:=N.base.tbls b Q e;exact⟨m,up _ _ d⟩
 .rw[jx<|oF E];exact N.free
 .rw[jx λz=>?_];exact N.freeC x c i;obtain⟨v,k,d,l⟩:=N.cell x c i;subst z;rw[r]at d;cases d;exact T v l
 .obtain⟨d,l,A⟩:=N.pin p w;exact⟨d,by rw[jx<|O p w];exact l,A⟩
 by_cases t:b=a
 .subst t;rw[jv]at e;cases e;exact⟨r,⟨o,r⟩⟩
 rw[jx t]at e;exact(N.hok b u e).Bm (λ_ _ _ q=>q) (λc q=>up c _ q) (λc y q=>up c _ q) λc _ _ q=>up c _ q
def Inv.names(I:Inv X f h H s){t':Nat}(E:ay X.env.locals s.heap j)(U:(A2 g)=A2 h)(w:∀(i:Nat) v,g[i]?=A9 (A9 v)->h[i]?=A9 (A9 v))
  (Y:∀m,s.heap.Ns X.env.locals m->∃B,j.Ns X.env.locals B/\∀(i:Nat) x v,X.N[i]?=A9 x->g[i]?=A9 (A9 v)->B x=m x):Inv X f g H {s with heap:=j,toks:=t'}:=by
 obtain⟨m,D,Q⟩:=id I.loc;obtain⟨B,T,J⟩:=Y m D;have B4:∀b l,b≠X.env.locals->s.heap.get? b=A9 l->j.get? b=A9 l:=λb l n e=>(E.2 b n).trans e;have L:∀{b l},X.s₀.heap.get? b=A9 l->b≠X.env.locals:=λe=>kF<|nN (km e) I.ok.above;refine⟨I.ok,I.os,I.bare,⟨λb l e n C A=>B4 b l (L e)<|I.base.keep b l e n C A,λb l e n C A=>?_,I.base.free,λb l e A=>?_,I.base.tups,I.base.frzs,I.base.tbls⟩,⟨B,T,λi x v t O G=>?_⟩,λx c e=>?_,I.free,I.freeC,λp F=>?_,λb u e=>?_,U.trans I.len⟩
 .obtain⟨R,t⟩:=I.base.slot b l e n C A;exact⟨R,B4 b _ (L e) t⟩
 .obtain⟨P,t⟩:=I.base.there b l e A;exact⟨P,B4 b _ (L e) t⟩
 .obtain⟨u,r,q⟩:=Q i x v t (w i v O) G;refine⟨u,r,?_⟩;rcases q with⟨k,z⟩|⟨k,c,z,y⟩
  .exact .inl ⟨k,(J i x v t O).trans z⟩
  exact .inr ⟨k,c,z,y.sameBut E<|I.Js x c z⟩
 .obtain⟨v,z⟩:=I.cell x c e;exact⟨v,z.sameBut E<|I.Js x c e⟩
 .obtain⟨e,n,ne,K,d⟩:=I.pin p F;exact⟨B4 _ _ ne e,n,ne,K,d⟩
 refine(I.hok b u e).Bm (λc v M q=>B4 c v (λz=>?_) q) (λ_ q=>q) λ_ _ q=>q;subst z;rcases M with z|z
 .subst z;rw[I.free]at e;cases e
 rw[I.free]at z;cases z
def Cx.mark(X:Cx)(e:iQ)(E:jy):Cx:={X with A:=X.A.mark<|Y e,calm:=C,xe:=E}
def Inv.mark(T:Inv X f h H s)(e:iQ)(E:jy):Inv (X.mark e E) f h H s:=
 ⟨⟨T.ok.mod,T.ok.kind,T.ok.glob,T.ok.blt,T.ok.above,T.ok.inj,T.ok.has,T.ok.cab,(λz=>by cases z),T.ok.frames,T.ok.stk,T.ok.exf,T.ok.bs,T.ok.bsz,T.ok.noex,T.ok.exfs,T.ok.Ed,T.ok.frf⟩,T.os,T.bare,T.base,T.loc,T.cell,T.free,T.freeC,T.pin,T.hok,T.len⟩
def Inv.unmark{e:iQ}{E:jy}(T:Inv (X.mark e E) f h H s)(hd:X.calm=J->X.A.handled=U):Inv X f h H s:=
 ⟨⟨T.ok.mod,T.ok.kind,T.ok.glob,T.ok.blt,T.ok.above,T.ok.inj,T.ok.has,T.ok.cab,hd,T.ok.frames,T.ok.stk,T.ok.exf,T.ok.bs,T.ok.bsz,T.ok.noex,T.ok.exfs,T.ok.Ed,T.ok.frf⟩,T.os,T.bare,T.base,T.loc,T.cell,T.free,T.freeC,T.pin,T.hok,T.len⟩
end
def Au.there{P:jm}{w:je}{Q:Hp}{h:jg}{a:iJ}{o:HO}(x:Au P w Q h a o):∃c,h.get? a=Y c:=by
 cases o with
 |lst d=>obtain⟨_,_,_,_,e⟩:=x;exact⟨_,e⟩
 |tup d=>obtain⟨_,_,_,c,e,_⟩:=x;exact⟨_,e⟩
 |dK b=>obtain⟨_,_,_,_,o,_,_,e,_⟩:=x;exact⟨_,e⟩
 |dT b=>obtain⟨_,_,_,_,o,_,_,e,_⟩:=x;exact⟨_,e⟩
 |set S n=>obtain⟨o,_,_,_,e,_⟩:=x;exact⟨_,e⟩
 |B1 k=>obtain⟨_,_,_,e,_⟩:=x;exact⟨_,e⟩
 |ins T g fs=>obtain⟨_,_,_,e,_⟩:=x;exact⟨_,e⟩
 |own y=>exact x
 |xd fs=>obtain⟨_,⟨_,_,_,e,_⟩,_⟩:=x;exact⟨_,e⟩
 |rng lo i=>obtain⟨_,_,_,e⟩:=x;exact⟨_,e⟩
 |D3 c u=>exact⟨_,x.1⟩
 |tbl j=>obtain⟨_,_,_,_,e,_⟩:=x;exact⟨_,e⟩
 |met f y=>exact⟨_,x⟩
 |ext l=>exact x.2.1
section
variable {X:Cx}{c:jG}{g:St}{H d:Hp}{s s':iN}{C a:iJ}{n B h':jg}{F:kY}{r:iQ}
def Kx.inv(T:Inv X c g H s)(f:Kx X.prog X.w X.stack H s C d a s' n B F)(h:B.StaysIn h')(j:n.UpToSlots h'):Inv X c g d {s' with heap:=h'}:=by obtain⟨un,e⟩:=f.end T.Mr h j;exact T.Kb (s':={s' with heap:=h'}) f.os un e f.bare λb i=>absurd i (by simp)
def Kx.fresh(T:Inv X c g H s)(hex:X.ex=[])(f:Kx X.prog X.w X.stack H s C d a s' n B F):d a=U/\X.s₀.heap.get? a=U/\s.heap.get? a=U:=by
 have h:s.heap.get? a=U:=by
  cases e:s.heap.get? a with
  |none=>rfl
  |some o=>obtain⟨i,b⟩:=f.un.there a o e (by simp);rw[f.ne]at b;cases b
 refine⟨?_,?_,h⟩
 .cases e:d a with
  |none=>rfl
  |some o=>obtain⟨j,z⟩:=(f.hok a o e).there;rw[f.ne]at z;cases z
 cases e:X.s₀.heap.get? a with
 |none=>rfl
 |some o=>obtain⟨i,b⟩:=T.base.there a o e (by rw[hex];simp);rw[h]at b;cases b
def aax{E:XK}{e:iQ}{xr xx t:au}{CR:iJ}{i j:Nat}{D:Ends}{p4 p5 p6 p7 p8:bu}(l4:X.stack=X.env::X.outer)(eD:X.env.frame=Y X.env.locals)(hex:X.ex=[])(I:Inv X c g H s)(h:Ho X.prog X.w X.stack H s E e s')
  (hg:Gl X xr)(hm:X.mg xr=Y (.ref CR))(i6:(xr==("__debug__":au))=AX)(cV:∀C d,E (.ref C) AR d->exmOne X.K (.ref C) (.ref CR)=Y Ap)
  (hN:X.N.Nodup)(hi:X.N[i]?=Y xx)(hj:X.N[j]?=Y t)(l9:i≠j)(lx:X.env.scope.names.lookup xx=Y .local)(U:X.env.scope.names.lookup t=Y .local)(gU:(t==("__debug__":au))=AX)(eF:(t==("__classdict__":au))=AX)
  (bz:bG (.Name t p6) (Y<|.Name xx p5) p7.line X.env=pure AX)
  (k:∀C d a o,E (.ref C) AR d->d a=AR->o.cls=.ref C->D.nx ((g.set j AR).set i<|Y<|.ref a) (upd d a<|.D3 o<|.own 0)):
  ae (af X.prog X.w) X.A (js e X.env) (λ_ Y'=>ae (af X.prog X.w) X.A (setFlight e AR) (λ_ s₃=>ae (af X.prog X.w) X.A (handleBy e X.env [.ExceptHandler (Y<|.Name xr p4) (Y t) [.Assign [.Name xx p5] (.Name t p6) p7] p8]) (SP X c D) X.xe s₃) X.xe Y') X.xe s':=by
 obtain⟨C,d,a,n,B,F,rfl,f,q⟩:=h;obtain⟨r,V⟩:=f.fl;obtain⟨n1,n2,n3⟩:=f.fresh I hex;rw[l4]at V;have fJ:i<(A2 g):=by rw[I.len];exact(tM.mp hi).1
 have gF:j<(A2 g):=by rw[I.len];exact(tM.mp hj).1
 have bM:(X.env.scope.kind== .class||(X.env.scope.kind== .module&&X.env.locals !=X.env.globals))=AX:=by rw[I.ok.kind];rfl
 refine wpAny_looks_onW (I.ok.frames.trans<|by rw[l4]) eD V λh2 J aq=>?_;refine wpAny_landsW J λh3 iw bU=>?_;have I3:Inv X c g d {s' with heap:=h3}:=f.inv I iw.1<|f.up.trans<|aq.trans bU;obtain⟨ob3,he3,gY⟩:=iw.there;refine wpAny_handleBy_cons (codeAny_handlers_test ?_) (by intro q;cases q);refine wu (X:=X.mark (.ref a) λ_ _=>False) (I3.mark _ _) hg hm ?_ i6;refine(exm_one (M:=af X.prog X.w) I3.G8 (gY▸(Looks.ld he3).andThen .now)<|cV C d q).here ?_;refine codeAny_handlers_suite_as ?_;obtain⟨g1,g2,g3,g4⟩:=id iw;refine wpAny_setFlight_noneW g1 g3 g4 λh4 k1 k2 k3 k4=>?_;have up4:h3.UpToSlots h4:=λb o hb W=>⟨o.slots,k4 b o hb W⟩
 have I4:Inv X c g d {s' with heap:=h4}:=f.inv I k1<|f.up.trans<|aq.trans<|bU.trans up4;obtain⟨oe,vs,T,oT,ts,he,⟨y,_⟩,hd,_⟩:=id k3
 have I5:Inv X c g (upd d a<|.D3 oe<|.own 0) {s' with heap:=h4}:=by
  refine I4.MO n1 n2 he (λv z=>by rw[hd]at z;cases z) (λz=>?_) λp hp z=>?_
  .have:=I.lt;obtain⟨m,⟨o,_,_,ho,_⟩,_⟩:=id I.loc;rw[<-z,n3]at ho;cases ho
  obtain⟨S,_⟩:=I.pin p hp;rw[z,n3]at S;cases S
 refine zF I5 hN hj (.inl U) (v:=.ref a) AM (λs6 I6=>?_)<|.inr U;have ps:=λE0:iQ->Shared->Prop=>sU (X:=X.mark (.ref a) E0) (MP (X:=X.mark (.ref a) E0) hN hi (.inl lx) (zS (X:=X.mark (.ref a) E0) hj (.inl U) gU eF) bz<|.inr lx)<|HY (X:=X.mark (.ref a) E0);refine Bl (ps _ c s6 _ _ {nx:=λP H7=>P=(g.set j<|Y<|.ref a).set i (Y<|.ref a)/\H7=upd d a (.D3 oe<|.own 0),rt:=λ_ _=>False} (I6.mark (.ref a) _) ⟨.ref a,by rw[oo gF],rfl,rfl⟩) λV s7 Z=>?_
 cases V with
 |ret u=>obtain⟨_,_,_,_,_,z⟩:=Z;exact z.elim
 |brk=>obtain⟨_,_,_,z⟩:=Z;exact z.elim
 |cont=>obtain⟨_,_,_,z⟩:=Z;exact z.elim
 |next=>
  obtain⟨P,H7,R,rfl,rfl⟩:=Z;have R:=R.unmark I.ok.hd;obtain⟨m,W,_⟩:=id R.loc;refine iL<|wpAny_bindName<|LN U W (λh₁ L Q=>?_) bM;unfold unbindBehindTheSuite;refine zg ?_;unfold unbindName;refine iL<|FX<|iL ?_;unfold deleteName;have ln':X.env.kindOf t=Y .local:=U;simp only[ln',bM];rw[jr<|by decide];refine iL<|wpAny_nsDel_keeps L λh₂ v₂ O G=>?_;simp only[kQ,fe,rG,ku,kR];refine ja<|FX ⟨(g.set j AR).set i<|Y<|.ref a,_,R.names (Q.trans G) (by simp) (λl v z=>?_) λm0 bI=>?_,k C d a oe q n1 y⟩
  .by_cases hl:l=i
   .subst hl;rw[oo<|by simpa using fJ]at z ⊢;exact z
   rw[om<|oF hl]at z ⊢;by_cases y9:l=j
   .subst y9;rw[oo gF]at z;cases z
   rw[om<|oF y9]at z ⊢;exact z
  refine⟨_,O,λl x v S e2=>?_⟩
  have hx:x≠t:=λz=>by subst z;have:=Ab hN S hj;subst this;rw[om l9,oo gF]at e2;cases e2
  simp only[hx,kR];obtain⟨o1,br,ep1,z1,z2,_,z3⟩:=id W;obtain⟨o2,es2,ep2,y1,y2,_,y3⟩:=id bI;rw[z1]at y1;cases y1;rw[z2]at y2;cases y2;exact(z3 x).symm.trans (y3 x)
end
end L2
namespace PX
open L2 PySem.SeqAt PySem.W
abbrev XS:=Dn->Option au
inductive tZ(K:jl)(mg:lE)(E:XK)(x:XS)(σ:L2.St)(H:Hp):Prop where
 |mk (δ:Dn) (T:B2) (c:au) (_:ER K H T σ δ) (_:∀a,¬Aa σ δ a) (_:x δ=A9 c) (_:∀H' C,(∀a o,H a=A9 o->H' a=A9 o)->mg c=A9 (.ref C)->E (.ref C) AR H')
def PZ(X:Cx)(E:XK)(st:bn)(x:XS):Prop:=PS X st λ_=>tZ X.K X.mg E x
def Jt(X:Cx)(E:XK)(st:List bn)(x:XS):Prop:=Ha X st λ_=>tZ X.K X.mg E x
def Kv(X:Cx)(E:XK)(e:iT)(x:XS):Prop:=PE X e λa T _=>tZ X.K X.mg E x a T
inductive tZo(K:jl)(mg:lE)(E:XK)(x:XS)(σ:L2.St)(H:Hp):Prop where
 |mk (δ:Dn) (T:B2) (c:au) (_:ER K H T σ δ) (_:x δ=A9 c) (_:∀H' C,(∀a o,H a=A9 o->¬Aa σ δ a->H' a=A9 o)->(∀a,H a≠AR->H' a≠AR)->mg c=A9 (.ref C)->E (.ref C) AR H')
def PZo(X:Cx)(E:XK)(e:iT)(x:XS):Prop:=PE X e λa T _=>tZo X.K X.mg E x a T
def MS(K:jl)(f:lE)(h:List D->Option au):Sp:=λg O _ E=>∃T e c,ER K O T (g.map Y) ((e.map λd=>(d,C)).map Y)/\h e=Y c/\∀Q b,(∀a o,O a=Y o->b a=Y o)->f c=Y (.ref Q)->E (.ref Q) U b
def Km(n np:Nat)(x:XS):List D->Option Str:=λa=>if (A2 a)=np/\np<=n then x (((a.map λd=>(d,C)).map Y)++ah (n-np) U)else U
def vP(c:List D->Option au)(fs:List FO):XS:=λd=>(kj fs d).bind λp=>(kf p.2 p.1).bind λb=>if(b.all λa=>!a.2)=J then c (b.map (·.1))else U
def Gr(c:au)(f:F):XS:=λa=>(f a).bind λ_=>Y c
def yD(a:Dn):Bool:=a.all λx=>match x with
 |some (_,J)=>C
 |_=>J
def Kl(t:FT)(x y:XS):XS:=λa=>(t a).bind λp=>if yD p.2=J then(if p.1=J then x p.2 else y p.2)else U
def zNo:XS:=λ_=>U
def wJ{b:Dn}(h:yD b=J)(c:L2.St)(a:iJ): ¬Aa c b a:=λT=>by
 obtain⟨i,d,h1,_⟩:=T
 have:=mJ.mp h _ (mW h1);simp at this
def IJ{b:List (D×Bool)}(h:(b.all λa=>!a.2)=J):∀a∈b,a=(a.1,C):=λa c=>by
 have:=mJ.mp h a c;obtain⟨d,f⟩:=a
 cases f
 .rfl
 cases this
theorem Aw:∀(os:List Bq)(as:List (D×Bool)),(∀a∈as,a=(a.1,C))->jq os as=[]
 |[],as,_=>by cases as<;>simp[jq]
 |o::os,[],_=>by simp[jq]
 |o::os,a::as,h=>by have b:=h a jW;obtain⟨d,f⟩:=a;cases b;cases o<;>simp[jq,Aw os as λa c=>h a<|jU _ c]
section
variable {X:Cx}{P:jm}{w:je}{i:List dO}{L:Hp}{s0:iN}{E:XK}{A:kN}{st:bn}{J5 a b:List bn}{x y:XS}{e:iT}{g:bu}
def Y9:Jt X E J5 zNo:=λc s d T D Q h=>by obtain⟨_,_,_,_,_,e,_⟩:=h;cases e
def UI:Ha X J5 λ_ _ _=>False:=λ_ _ _ _ _ _ h=>h.elim
def To(h:PZ X E st x):Jt X E (st::J5) x:=Ha.imp' (sU h UI) λ_ _ _ h=>h
def Pu{z:au}{N:iJ}{a:iT}{f:F}{np B:bu}(G:GG X P w i L s0 E)(s:X.calm=J)(n:excIn X.K N NC "ValueError.__new__"=J)(j:X.mg z=Y (.ref N))(t:Gl X z)(p:PX X a f)(hd:(z==("__debug__":au))=C)
  (u:ac [a] X.env=[(C,aW a X.env)]):PZ X E (.Raise (Y<|.Call (.Name z np) [a] [] B) U g) (Gr z f):=PS.imp' (aeB G s n j t p hd u) λD Q M h=>by
 obtain⟨O,T,c,E0,no,e,k⟩:=h;obtain⟨r,d,h1,e⟩:=iR e;cases e;exact⟨O,T,r,d,E0,h1,λv l m=>k l N (λa o q=>m.1.kp a o q<|no a) j⟩
def Za{c:iT}{f:FT}(u:Nb X c f)(r:Jt X E a x)(s:Jt X E b y):PZ X E (.If c a b g) (Kl f x y):=PS.imp' (SM u r s) λD j N h=>by
 obtain⟨O,T,c,E0,no,e,k⟩:=h;obtain⟨t,d,h1,e⟩:=iR e;dsimp only at e;split at e
 case isFalse=>cases e
 rename_i fz;refine⟨O,T,t,d,E0,h1,λn p l=>?_⟩;have fin:∀z:XS,z d=Y c->tZ X.K X.mg E z j n:=λz B=>⟨d,T,c,l,wJ fz j,B,λm Q M v=>k m Q (λa o q=>M a o<|p.kp a o q<|no a) v⟩
 cases t
 .exact Vm<|fin y (by simpa using e)
 exact Vl<|fin x (by simpa using e)
def Tp(h:Kv X E e x)(c:bG e U g.line X.env=pure C):PZ X E (.Expr e g) x:=PS.imp' (HZ h c) λ_ _ _ h=>h
variable {k:Nat}{f:iJ}{u:mT}{m:jw}{l:List D->Option au}{j:ky}{fs:List FO}{z:au}{p:bu}
def Pw(xk:GG X P w i L s0 E)(F:DV X.prog X.w X.K X.mg X.base (Ho P w) k f u m (MS X.K X.mg l))(hr:Bg k X.A)(hg:Gl X z)(hm:X.mg z=A9 (.ref f))(hk:bD X.K (.ref f)=Ap)(hb:Binds X.K u m [])
  (t:PA X (e::j) (tA X.K fs))(i6:(z==("__debug__":au))=AX)(he:ac (e::j) X.env=(AX,aW e X.env)::ac j X.env)(U:(aT g<|ac j X.env).any (·.1)=AX):
  PZo X E (.Call (.Name z p) (e::j) [] g) (vP l fs):=PE.imp' (Ds F hr hg hm hk hb (.nil) xk.pass t i6 he U) λσ H Q h=>by
 obtain⟨V,T,c,E0,e,R⟩:=h;obtain⟨os,v,h1,e⟩:=iR e;obtain⟨r,G,e⟩:=iM e;dsimp only at e G;split at e
 case isFalse=>cases e
 rename_i Y;refine⟨V,T,os,v,E0,h1,λS O Z B=>?_⟩;show MS X.K X.mg l (S++[]) O Q E;rw[uE];have J:=IJ Y
 have s:r=(r.map (·.1)).map λd=>(d,AX):=by
  rw[kZ]
  conv=>lhs;rw[<-qc r]
  exact oV λa t=>J a t
 have I:=yT E0 B G (by rw[Aw os r J];exact mU);rw[s]at I
 exact⟨_,r.map (·.1),c,I,e,λC N M D=>R N C (λa o q n=>M a o<|B.keep.kp a o q n) (λa q=>by
  cases h:O a with
  |none=>exact absurd h<|B.keep.dm a q
  |some o=>rw[M a o h];simp) D⟩
def Tq(M:GG X P w i L s0 E)(F:DV X.prog X.w X.K X.mg X.base (Ho P w) k f u m (MS X.K X.mg l))(I:Bg k X.A)(B:Gl X z)(d:X.mg z=Y (.ref f))(hk:bD X.K (.ref f)=Ap)(t:Binds X.K u m [])
  (s:PA X (e::j) (tA X.K fs))(O:(z==("__debug__":au))=AX)(v:ac (e::j) X.env=(AX,aW e X.env)::ac j X.env)(r:(aT g<|ac j X.env).any (·.1)=AX):
  Kv X E (.Call (.Name z p) (e::j) [] g) (vP l fs):=PE.imp' (Pw M F I B d hk t s O v r) λU H Q h=>by
 obtain⟨N,T,c,E0,no,e,G⟩:=h;exact⟨N,T,c,E0,e,λn C J _ d=>G n C (λa o q=>J a o q<|no a) d⟩
end
def RE{P:jm}{w:je}{K:jl}{j:lE}{base:jg}{x qual:au}{st:bn}{f:iJ}{n:mT}{N b:jw}{k:Nat}{t:XS}(F:J3 K x qual st f n)(S:Bb N b (iU st))
  (L:∀(i:iQ)(A:jh)(a:List dO)(s:iN)(H:Hp)(E:XK),Bg k (A.deeper<|aV qual (iU st) s.heap.objs.size f i)->Jt (rB (Ho P w) P w K j base N qual (iU st) f i A a s H E) E (mh st) t):
  DV P w K j base (Ho P w) (k+1) f n b (MS K j<|Km (A2 N) (A2 b) t):=by
 obtain⟨M,U,kV,v,Y,an,i,ct,D,e,lk,J⟩:=F.ex;subst e;refine Oq lk J S (λr H Q E h=>?_) λA a s H r Q E I h=>?_
 .obtain⟨T,l,c,E0,e,_⟩:=h;unfold Km at e;split at e
  case isFalse=>cases e
  rename_i q;have:=E0.len;simp at this;rw[this,q.1]
 obtain⟨T,l,c,E0,e,O⟩:=h;unfold Km at e;split at e
 case isFalse=>cases e
 rename_i q;have o:=E0.len;simp at o;refine⟨_,L i A a s H E I,((l.map λd=>(d,AX)).map A9)++ah (A2 N-A2 b) AR,T,c,?_,?_,e,λu C G y=>O C u G y⟩
 .have:=E0.pad (m:=A2 N-A2 b);unfold L2.oH;rw[show (A2 r)=(A2 b) by rw[o,q.1]];exact this
 refine wJ ?_ _;unfold yD;rw[mJ];intro z g;rcases pQ.mp g with g|g
 .obtain⟨p,B,rfl⟩:=ji g;obtain⟨d,_,rfl⟩:=ji B;rfl
 rw[(List.mem_replicate.mp g).2]
end PX
namespace L2
open PySem.W
section
variable {fs:kY}{N:jw}{scope:jS}{d:lF}{j:St}{H g:Hp}{h h':jg}{q:au}{a:cH}{b:iT}{f:iJ}
def DS.keep(T:DS N scope d j H h)(u:Un fs [] H g h h')(n:∀x c,d.lookup x=Y c->c∉fs):DS N scope d j g h':=by
 have p:∀{x c v},d.lookup x=Y c->h.IsCell c v->h'.IsCell c v:=λ{x c v} e z=>by obtain⟨o,k,l⟩:=z;exact⟨o,u.keep c o k (T.cell x c e).2 (n x c e)<|by simp,l⟩
 refine⟨T.inj,T.has,λx c e=>?_,λi x v h1 s=>?_,T.len⟩
 .obtain⟨⟨v,o,k,l⟩,y⟩:=T.cell x c e;exact⟨⟨v,p e ⟨o,k,l⟩⟩,u.free c o k y<|by simp⟩
 obtain⟨t,c,w,m,A,r⟩:=T.val i x v h1 s;exact⟨t,c,w,m,p m A,r⟩
def Hj.keep(L:Hj q a b scope d H h f)(u:Un fs [] H g h h')(n:f∉fs):Hj q a b scope d g h' f:=by obtain⟨m,c,k,e,l,w,o,t,h1,i⟩:=L.fn;exact⟨⟨m,c,k,u.keep f _ e L.un n (by simp),l,w,o,t,u.frzs _ _ _ h1,i⟩,u.free f _ e L.un (by simp)⟩
end
section
variable {X:Cx}{N:jw}{scope:jS}{b7:lF}{σl:St}{q:au}{params:cH}{body:iT}{fl:iJ}{k:Nat}{t:XK->TE}
structure Kk(X:Cx)(N:jw)(scope:jS)(b7:lF)(σl:St)(q:au)(params:cH)(body:iT)(fl:iJ)(k:Nat)(t:XK->TE):Prop where
 sc:EF scope
 cel:DS N scope b7 σl X.H₀ X.s₀.heap
 lam:Hj q params body scope b7 X.H₀ X.s₀.heap fl
 nfl:fl∉X.fs
 ncl:∀x c,b7.lookup x=A9 c->c∉X.fs
 bnd:∀pm c' l8,fI (kla_fn "<lambda>" q params body scope b7 pm (.ref c') l8) ⟨[],[]⟩=pure []
 run:∀(E:XK)(c':iJ)(s:iN)(H:Hp),Bg k (X.A.deeper<|AF q scope s.heap.objs.size fl (.ref c') b7)->PE (tK (Ho X.prog X.w) X.prog X.w X.K X.mg X.base N q scope fl (.ref c') b7 X.A X.stack s H E) body (t E)
def UJ{g y B b:au}{CR:iJ}{l i j:Nat}{M U Y p4 p5 p6 p7 p8 p9:bu}(L:Kk X N scope b7 σl q params body fl k t)(l4:X.stack=X.env::X.outer)(eD:X.env.frame=A9 X.env.locals)(hex:X.ex=[])(hr:Bg (k+1) X.A)
  (hc:X.N[l]?=A9 g)(vc:Ke X.env.scope g)(dG:(g==("__debug__":au))=C)(fN:(g==("__classdict__":au))=C)
  (T:bG (.Call (.Name g M) [] [] U) AR Y.line X.env=pure C)
  (hg:Gl X y)(hm:X.mg y=A9 (.ref CR))(i6:(y==("__debug__":au))=C)
  (hN:X.N.Nodup)(hi:X.N[i]?=A9 B)(hj:X.N[j]?=A9 b)(l9:i≠j)(lx:X.env.scope.names.lookup B=A9 .local)(ln:X.env.scope.names.lookup b=A9 .local)(gU:(b==("__debug__":au))=C)(eF:(b==("__classdict__":au))=C)
  (bz:bG (.Name b p6) (A9<|.Name B p5) p7.line X.env=pure C):
  PS X (.Try [.Expr (.Call (.Name g M) [] [] U) Y] [.ExceptHandler (A9<|.Name y p4) (A9 b) [.Assign [.Name B p5] (.Name b p6) p7] p8] [] [] p9)
   (λD c H'=>c[l]?=A9 (A9<|.ref fl)/\∃E:XK,t E σl H' (λ_ a=>D.nx c a)/\(∀C' a,E (.ref C') AR a->exmOne X.K (.ref C') (.ref CR)=A9 Ap)/\
    ∀C' a O o,E (.ref C') AR a->a O=AR->o.cls=.ref C'->D.nx ((c.set j AR).set i<|A9<|.ref O) (upd a O<|.D3 o<|.own 0)):=by
 intro p s c H' D I h;obtain⟨W,E,ht,S,hk⟩:=h;have un:Un X.fs [] X.H₀ H' X.s₀.heap s.heap:=by have:=I.base;rwa [hex]at this
 have C1:=L.cel.keep un L.ncl;have L1:=L.lam.keep un L.nfl;refine wpAny_Try_except ?_;refine wL<|Gc ?_ I.quiet T;refine va ?_;refine oj (zS (X:=X.Hx) hc vc dG fN p s c H' (λv a=>v=.ref fl/\a=H') (I.GQ _) ⟨.ref fl,W,rfl,rfl⟩) (λf s1 Z=>?_) λ_ _ z=>aJ z;obtain⟨v,G,d,rv,rfl,rfl⟩:=Z;cases rv;have d:=d.Dt;have x:Un X.fs [] X.H₀ G X.s₀.heap s1.heap:=by have:=d.base;rwa [hex]at this
 have F:=L.cel.keep x L.ncl;have m:=L.lam.keep x L.nfl;obtain⟨pm,J,l8,e,_⟩:=id m.fn;refine callWith_F0 ⟨_,_,_,_,e⟩<|xG<|rL (Rq (CX:=Ho X.prog X.w) (E:=E) (t:=t E) (Q:=λ_ a=>D.nx c a) L.sc hr d.Ku F m L.bnd (λJ V=>L.run E J s1 G V) ht) λr s2 n=>?_
 cases r with
 |error e=>exact aax l4 eD hex d n hg hm i6 S hN hi hj l9 lx ln gU eF bz hk
 |ok f=>
  cases f with
  |next=>exact aJ n
  |brk=>exact aJ n
  |cont=>exact aJ n
  |ret u=>obtain⟨v,P,R,_,qq⟩:=d.after n;exact zr<|zr ⟨c,P,R,qq⟩
end
end L2
namespace PX
open L2 PySem.SeqAt PySem.W
def sim:D->Bool
 |.Ar|.bl _|.int _|.str _=>J
 |_=>C
def HQ{K c:Frag}{T a:Hp}{O e:B2}{d:D}{v:V}(h:sim d=J)(r:Rep K T O d v):Rep c a e d v:=by
 cases d with
 |Ar=>rw[Rep]at r ⊢;exact r
 |bl b=>rw[Rep]at r ⊢;exact r
 |int b=>rw[Rep]at r ⊢;exact r
 |str b=>rw[Rep]at r ⊢;exact r
 |_=>cases h
def BE(n i:Nat)(fs:FS)(d:D):Option D:=match fs ((ah n U).set i<|Y (d,C))with
 |some (.rt (r,C) _)=>if sim r=J then Y r else U
 |_=>U
def Kh(e:kb)(f:F)(x:XS)(n i:Nat)(fs:FS)(h:au->Option Nat):F:=λg=>(kf g<|e.map .slot).bind λb=>if(b.all λa=>!a.2)=J then
  (match f (b.map Y)with
   |some _=>BE n i fs .Ar
   |none=>(x<|b.map Y).bind λc=>(h c).bind λT=>BE n i fs<|.B4 (.exc T) [] []).bind λd=>Y ((d,C),g)
 else U
def yO{n i:Nat}{d:D}(c:L2.St)(a:iJ): ¬Aa c ((ah n U).set i<|Y (d,C)) a:=λT=>by
 obtain⟨j,e,h1,_⟩:=T
 by_cases b:j=i
 .subst b;rw[zk]at h1;split at h1
  .split at h1<;>simp at h1
  rename_i z;exact z I
 rw[om<|oF b,vN]at h1;split at h1<;>cases h1
def VJ{K:Frag}{T:Hp}{f:L2.St}{n i:Nat}{d:D}{v:V}(o:(A2 f)=n)(k:f[i]?=Y (Y v))(r:Rep K T (λ_=>False) d v):ER K T (λ_=>False) f ((ah n U).set i<|Y (d,C)):=by
 have c:∀{j:Nat}{e:D}{b:Bool},((ah n U).set i<|Y (d,C))[j]?=Y (Y (e,b))->j=i/\e=d/\b=C:=λ{j e b} h=>by
  by_cases m:j=i
  .subst m;rw[oo<|by rw[LH,<-o];exact(tM.mp k).1]at h;cases h;exact⟨rfl,rfl,rfl⟩
  rw[om<|oF m,vN]at h;split at h<;>cases h
 refine⟨by simp[o],λj e h=>?_,λj e h=>?_,λj l e g a h=>?_,λa z=>absurd z<|yO f a,λ_ z=>z.elim⟩
 .obtain⟨rfl,rfl,_⟩:=c h;exact⟨v,k,Rep.mono (λ_ _ e _=>e) (λb _ z=>z.elim (yO f b) id) r⟩
 .obtain⟨_,_,z⟩:=c h;cases z
 obtain⟨_,_,z⟩:=c h;cases z
structure ClK(K:Frag)(C CR:iJ):Prop where
 k:Ky K C
 ty:∀n∈["int","bool","str","tuple","list","dict"],kitOne K (.ref C) (.type n)=A9 AX
 up:exmOne K (.ref C) (.ref CR)=A9 Ap
def Vv{b:List (D×Bool)}(h:∀a∈b,a=(a.1,C))(f:L2.St)(a:iJ): ¬Aa f (b.map Y) a:=λT=>by
 obtain⟨i,d,h1,_⟩:=T
 rw[kS]at h1;obtain⟨p,c,e⟩:=jz h1;cases e;have:=h _ (mW c);simp at this
section
variable {X:Cx}
def PE.or{e:iT}{t u:TE}(h1:PE X e t)(c:PE X e u):PE X e λb T Q=>t b T Q\/u b T Q:=λa s b T Q O h=>h.elim (h1 a s b T Q O)<|c a s b T Q O
def OP{T:B2}{g:L2.St}{l:Dn}{Q:Hp}{d:kb}{f:List (D×Bool)}{K:Frag}(m:ER K Q T g l)(r:kf l (d.map .slot)=Y f):
  ∃vs:List V,yu d 0 g=vs.map Y/\Ops K T g l Q (d.map Bq.slot) vs l Q T:=by
 obtain⟨u,s⟩:=nV r
 have there:∀(i j:Nat),d[i]?=Y j->∃v,g[j]?=Y (Y v):=λi j e=>by
  have t:i<(A2 f):=by have:=(tM.mp e).1;simp at u;lia
  obtain⟨o,q,k⟩:=s i _ (jT t);rw[kS,e]at q;cases q;have n:=oR k;generalize f[i]=y at n;obtain⟨x,b⟩:=y
  cases b
  .obtain⟨v,h,_⟩:=m.val j x n;exact⟨v,h⟩
  obtain⟨a,h,_⟩:=m.own j x n;exact⟨_,h⟩
 refine⟨d.map λj=>((g[j]?).join).getD .Ar,?_,by simp,.refl,m,λ_ z=>z,λj x v e=>?_,λj x v e=>?_,λj i v e hv=>?_⟩
 .unfold yu;rw[yY,uE];apply zi;intro i;rw[kS,kS,kS]
  cases e:d[i]? with
  |none=>rfl
  |some j=>obtain⟨v,hv⟩:=there i j e;simp[hv]
 .rw[kS]at e;obtain⟨_,_,z⟩:=jz e;cases z
 .rw[kS]at e;obtain⟨_,_,z⟩:=jz e;cases z
 rw[kS]at e;obtain⟨c,p,z⟩:=jz e;cases z;obtain⟨w,k⟩:=there j i p;rw[kS,p]at hv;simp[k]at hv;rw[k,hv]
end
section
variable {X:Cx}{Pt c:iJ}{params:cH}{body:iT}{scope:jS}{pos v7 pf:bu}{caps:kb}{N' NR:jw}{fB:F}{xB:XS}{aU:FS}{CI:au->Option Nat}{asg:kb}{st:bn}{fr:iJ}{dI:mT}{xf xc xr xx xn:au}{CR:iJ}{i j k:Nat}
structure JC(X:Cx)(st:bn)(NR:jw)(fr:iJ)(xf xc xr xx xn:au)(CR:iJ)(i j k:Nat)(asg:kb)(aU:FS):Prop where
 sc:Bb NR [xc] (iU st)
 as0:0∉asg
 hi:NR[i]?=A9 xx
 hj:NR[j]?=A9 xn
 ij:i≠j
 j0:j≠0
 lc:(iU st).names.lookup xc=A9 .local
 lx:(iU st).names.lookup xx=A9 .local
 ln:(iU st).names.lookup xn=A9 .local
 gl:(iU st).names.lookup xr=A9 .globalImplicit
 mg:X.mg xr=A9 (.ref CR)
 db:(xc==("__debug__":au))=AX/\(xc==("__classdict__":au))=AX/\(xn==("__debug__":au))=AX/\(xn==("__classdict__":au))=AX/\(xr==("__debug__":au))=AX
 body:∃p1 p2 p3 p4 p5 p6 p7 p8 p9 S1 rest,mh st=S1:: .Try [.Expr (.Call (.Name xc p1) [] [] p2) p3] [.ExceptHandler (A9<|.Name xr p4) (A9 xn) [.Assign [.Name xx p5] (.Name xn p6) p7] p8] [] [] p9::rest/\
  ∀(b8:iQ)(A:jh)(outer:List dO)(s:iN)(H:Hp)(L:LL),(∀i,L.p i->i<1)->Bg k (A.deeper<|aV xf (iU st) s.heap.objs.size fr b8)->
   bG (.Call (.Name xc p1) [] [] p2) AR p3.line (aV xf (iU st) s.heap.objs.size fr b8)=pure AX/\bG (.Name xn p6) (A9<|.Name xx p5) p7.line (aV xf (iU st) s.heap.objs.size fr b8)=pure AX/\
   MJ (rB GP X.prog X.w X.K X.mg X.base NR xf (iU st) fr b8 A outer s H L2.E0).Hx (λi=>i∈asg) L H S1 (kn i<|fC .Ar)/\Ft (rB GP X.prog X.w X.K X.mg X.base NR xf (iU st) fr b8 A outer s H L2.E0).Hx (λi=>i∈asg) L H rest aU
def Uv{more:nJ}(R:JC X st NR fr xf xc xr xx xn CR i j (k+1) asg aU)(F:J3 X.K xf xf st fr dI)(hJ:Binds X.K dI [xc] [])(gH:Gl X xf)(hmf:X.mg xf=A9 (.ref fr))(cW:(xf==("__debug__":au))=AX)
  (cU:∀x,X.fn x=Ap)(hr:Bg (k+2) X.A)(hTb:X.H₀ Pt=A9 (.tbl (#[.str (X.env.qual++"<lambda>") 0]++more)))(n9:X.env.code=.ref c)(C:CodeHd X.base c Pt)(hB:X.base.BuiltinsAt X.mg Pt)(gK:aj≠Pt)
  (CO:Ep X N' scope caps 0)(LS:EF scope)(aQ:t5 params X.env=([],[]))(l6:∀b7 pm J l8,fI (kla_fn "<lambda>" (X.env.qual++"<lambda>") params body scope b7 pm (.ref J) l8) ⟨[],[]⟩=pure [])
  (he:ac [.Lambda params body scope v7] X.env=(AX,aW (.Lambda params body scope v7) X.env)::ac [] X.env)(f7:(aT pos<|ac [] X.env).any (·.1)=AX)
  (ik:∀z C0,CI z=A9 C0->X.mg z=A9 (.ref C0)/\ClK X.K C0 CR)
  (hb:∀(B:iJ)(b7:lF)(J:iJ)(A:jh)(N:List dO)(s:iN)(H:Hp)(E:XK),Bg k (A.deeper<|AF (X.env.qual++"<lambda>") scope s.heap.objs.size B (.ref J) b7)->
   PX (tK (Ho X.prog X.w) X.prog X.w X.K X.mg X.base N' (X.env.qual++"<lambda>") scope B (.ref J) b7 A N s H E) body fB/\Kv (tK (Ho X.prog X.w) X.prog X.w X.K X.mg X.base N' (X.env.qual++"<lambda>") scope B (.ref J) b7 A N s H E) E body xB):
  PX X (.Call (.Name xf pf) [.Lambda params body scope v7] [] pos) (Kh caps fB xB (A2 NR) i aU CI):=by
 intro pins s g H Q I hw;obtain⟨U,T,r,δ',E1,e,kq⟩:=hw;obtain⟨t,ha,e⟩:=iM e;split at e
 case isFalse=>cases e
 rename_i hfz;have dB:=IJ hfz;obtain⟨d,hd,e⟩:=iM e;obtain⟨rfl,rfl⟩:=jn e;obtain⟨vs,gv,B0⟩:=OP E1 ha;have nd0:=Aw (caps.map Bq.slot) t dB;have Ec:=yT E1 B0 ha (by rw[nd0];exact mU);obtain⟨S,hclo,j5,j7⟩:=vH X.env scope λx hx hf=>I.ok.has x.1<|CO.free x hx hf;obtain⟨more2,hP⟩:=I.base.tbls Pt _ hTb;rw[Gn]at hP;refine va<|wu I gH hmf ?_ cW;refine callWith_K (h₀:=X.base) I.ok.mod.kin F.kp ?_ he f7;rw[he];show ae _ _ (vw ((AX,aW (.Lambda params body scope v7) X.env)::aT pos (ac [] X.env))) _ _ s;refine Gi<|ae9 I hP n9 C hB gK hclo aQ λs1 Y B P up L kp fr0 new=>?_;refine Gj ⟨P.G8,?_⟩
 have nst:∀x c,S.lookup x=A9 c->c∉Eg X.stack:=λx c e z=>by
  rcases kM.mp (I.GR c z)with q|q
  .exact I.Js x c (j5 x c e) q
  obtain⟨_,o,ho,_⟩:=I.ok.Ed.mem q;exact absurd (km ho)<|LP.mpr<|I.ok.cab x c (cU x)<|j5 x c e
 have nfl:B∉Eg X.stack:=λz=>by obtain⟨_,o,ho,_⟩:=I.stack.mem z;rw[new]at ho;cases ho
 have LC:DS N' scope S (vs.map A9) Y s1.heap:=by
  rw[<-gv];refine⟨λx y c h1 h2=>I.ok.inj x y c (j5 x c h1)<|j5 y c h2,λx hx=>j7 x<|qj hx,λx c h=>⟨P.cell x c<|j5 x c h,P.freeC x c<|j5 x c h⟩,λl x v h1 h2=>?_,CO.MY.len g⟩;obtain⟨hf,jj,hj,hv⟩:=CO.MY.pre g l v x h2 h1;refine⟨hf,?_⟩;obtain⟨m,hn,hl⟩:=P.loc;have j9:=CO.free (x,.free) (qj hf) AM;obtain⟨u,r,q⟩:=hl jj x v hj hv (by rcases j9 with z|z;exact .inr<|.inl z;exact .inr<|.inr z);rcases q with⟨eu,_⟩|⟨_,c,hc,i9⟩
  .have bJ:X.env.scope.names.lookup x=A9 .local:=eu;rcases j9 with z|z<;>(have z':X.env.scope.names.lookup x=_:=z;rw[bJ]at z';cases z')
  obtain⟨J,bp⟩:=j7 x<|qj hf;have:=j5 x J bp;rw[hc]at this;cases this;exact⟨c,u,bp,i9,r⟩
 have noT:∀(g:L2.St)(a:iJ),¬Aa g (t.map A9) a:=Vv dB;obtain⟨oc,od,kV,doc,pm,an,b8,ct,r8,rfl,lkr,hcdr⟩:=F.ex;have hbt:=hJ s1 [.ref B] P.G8 AM;refine Bl (xG<|rL (S8 (CX:=GP) (E:=L2.E0) (Q:=λv p=>Bk X.K T g U H (d,AX) U v p) (vs:=[.ref B]) lkr hcdr R.sc hr P.Ku hbt (.cons AM .nil) AM λdu=>?_) (R:=L2.CR GP X.stack X.prog X.w Y s1 (λv p=>Bk X.K T g U H (d,AX) U v p) L2.E0) λrr s2 hq=>?_) (Q:=EP X pins g λv p=>Bk X.K T g U H (d,AX) U v p) λv s2 ⟨x,G,I2,rx,q⟩=>⟨x,G,I2,rx,kq x G q⟩
 .obtain⟨p1,p2,p3,p4,p5,p6,p7,p8,p9,S1,rest,bO,hq⟩:=R.body;obtain⟨sw1,sw2,fQ,Z⟩:=hq b8 X.A X.stack s1 Y ⟨λ_=>False,AR⟩ (λ_ z=>z.elim) du
  have nl:∀{n:Nat}{a:iJ}{g:L2.St},¬Aa g (ah n AR) a:=λ{n a g} a'=>by
   obtain⟨l,e,h1,_⟩:=a'
   rw[vN]at h1;split at h1<;>cases h1
  have hlen:(L2.oH NR [V.ref B]).length=(A2 NR):=by
   have:1<=(A2 NR):=by have:=nM dM R.sc.pre;rw[rK]at this;simp at this;lia
   unfold L2.oH;simp;lia
  have fin:∀(z:D)(G:Hp)(O:L2.St)(v0:V),BE (A2 NR) i aU z=A9 d->(∀a o,Y a=A9 o->G a=A9 o)->(∀a,Y a≠AR->G a≠AR)->A2 O=A2 NR->O[i]?=A9 (A9 v0)->Rep X.K G (λ_=>False) z v0->
    tS X.K (λi=>i∈asg) ⟨λ_=>False,AR⟩ Y aU {nx:=λ_ p=>Bk X.K T g U H (d,AX) U .Ar p,rt:=λv p=>Bk X.K T g U H (d,AX) U v p} O G:=λz G O v0 ht W dm2 y9 fK rz=>by
   unfold BE at ht;split at ht
   case h_2=>cases ht
   rename_i rr δr hfs;obtain⟨hs,rfl⟩:=jo ht;refine⟨_,λ_=>False,_,VJ y9 fK rz,⟨λl a ⟨d,h1,h2⟩=>absurd ⟨l,d,h1,h2⟩<|yO O a,dm2,λ_ _ z=>z,λ_ h=>nomatch h⟩,hfs,λv σ3 H3 S3 hrv=>?_⟩;have ext:∀a o,H a=A9 o->H3 a=A9 o:=λa o q=>S3.kp a o (W a o<|up a o q)<|yO O a;exact⟨.ext ext,E1.mono (λb o q _=>ext b o q) (λ_ _ z=>z) λa z=>(E1.dom a z).up<|ext a,HQ hs hrv.2⟩
  rw[bO];have Xs:=(rB GP X.prog X.w X.K X.mg X.base NR xf (iU st) fr b8 X.A X.stack s1 Y L2.E0).Hx
  have run:∀(E:XK)(J:iJ)(s:iN)(H:Hp),Bg k ((X.A.deeper<|aV xf (iU st) s1.heap.objs.size fr b8).deeper<|AF (X.env.qual++"<lambda>") scope s.heap.objs.size B (.ref J) S)->
    PE (tK (Ho X.prog X.w) X.prog X.w X.K X.mg X.base N' (X.env.qual++"<lambda>") scope B (.ref J) S (X.A.deeper<|aV xf (iU st) s1.heap.objs.size fr b8) (aV xf (iU st) s1.heap.objs.size fr b8::X.stack) s H E) body (λg H Q=>tF X.K fB g H Q\/tZ X.K X.mg E xB g H):=λE J s H gy=>
   let⟨h1,h2⟩:=hb B S J _ _ s H E gy
   PE.or h1 h2
  have LI:Kk (rB GP X.prog X.w X.K X.mg X.base NR xf (iU st) fr b8 X.A X.stack s1 Y L2.E0).Hx N' scope S (vs.map A9) (X.env.qual++"<lambda>") params body B k (λE g H Q=>tF X.K fB g H Q\/tZ X.K X.mg E xB g H):=⟨LS,LC,L,nfl,nst,l6 S,run⟩
  have h0:NR[0]?=A9 xc:=by have:=nM (λl=>l[0]?) R.sc.pre;simpa using this
  have pt:=UJ (p4:=p4) (p8:=p8) (p9:=p9) LI AM AM AM du h0 (.inl R.lc) R.db.1 R.db.2.1 sw1 R.gl R.mg R.db.2.2.2.2 R.sc.nd R.hi R.hj R.ij R.lx R.ln R.db.2.2.1 R.db.2.2.2.1 sw2;refine⟨_,(sU fQ<|sU pt Z).Hx,?_⟩;have gG:i<(A2 NR):=(tM.mp R.hi).1;refine⟨ah (A2 NR) AR,λ_=>False,.nx<|(ah (A2 NR) AR).set i<|A9 (.Ar,AX),⟨by simp[hlen],λl d h=>?_,λl d h=>?_,λl m d e a h=>?_,λa z=>absurd z nl,λ_ z=>z.elim⟩,⟨λl a ⟨d,h1,h2⟩=>absurd ⟨l,d,h1,h2⟩ nl,λ_ z=>z,λ_ _ z=>z,λ_ h=>nomatch h⟩,?_,λσ1 G K1 ER1=>?_⟩
  .rw[vN]at h;split at h<;>cases h
  .rw[vN]at h;split at h<;>cases h
  .rw[vN]at h;split at h<;>cases h
  .show(if i<(ah (A2 NR) (AR:Sl)).length then A9 (Out.nx _)else AR)=_;rw[jb<|by simpa using gG]
  have W:∀a o,Y a=A9 o->G a=A9 o:=λa o q=>K1.kp a o q nl;have ax:(A2 σ1)=(A2 NR):=by have:=ER1.len;simpa using this
  have hs0:σ1[0]?=A9 (A9<|V.ref B):=by rw[K1.as 0 R.as0];unfold L2.oH;rfl
  have Ec2:ER X.K G (Tc T g U vs t) (vs.map A9) (t.map A9):=Ec.mono (λb o q _=>W b o<|up b o q) (λ_ _ z=>z) λa z=>(Ec.dom a z).up λo q=>W a o<|up a o q;split at hd
  ·
   rename_i z hz;refine⟨hs0,λ_ _ _=>False,.inl ⟨_,_,z.1,z.2,Ec2,hz,λv H3 P3=>?_⟩,λ_ _ z=>z.elim,λ_ _ _ _ z=>z.elim⟩;obtain⟨v0,fw,dQ⟩:=ER1.val i .Ar (by rw[oo<|by simpa using gG]);refine fin .Ar H3 σ1 v0 hd (λa o q=>P3.1.kp a o (W a o q)<|noT _ a) (λa q=>P3.1.dm a<|K1.dm a q) ax fw<|HQ AM dQ
  
  obtain⟨cn,hx,hd⟩:=iM hd;obtain⟨C0,hC0,hd⟩:=iM hd;obtain⟨hmC,ck⟩:=ik cn C0 hC0;refine⟨hs0,λcls _ p=>cls=.ref C0/\∀a o,G a=A9 o->p a=A9 o,.inr ⟨_,_,cn,Ec2,noT _,hx,λp C' eZ fF=>?_⟩,λC' p ⟨q,_⟩=>?_,λC' p ea o ⟨q,eZ⟩ hn ho=>?_⟩
  .rw[hmC]at fF;cases fF;exact⟨rfl,eZ⟩
  .cases q;exact ck.up
  cases q;have bU:∀a M,p a=A9 M->upd p ea (.D3 o<|.own 0) a=A9 M:=λa M q=>by rw[jx<|lu q hn];exact q
  refine fin (.B4 (.exc C0) [] []) _ _ (.ref ea) hd (λa M q=>bU a M<|eZ a M<|W a M q) (λa q=>?_) (by simp[ax]) (by rw[oo<|by simpa[ax]using gG]) (Rep.KJ (us:=[]) (λz=>z) ⟨⟨rfl,rfl,rfl⟩,o,jv,ho,λa=>afa ck.k ho,ck.ty⟩ AG.nil)
  cases hh:Y a with
  |none=>exact absurd hh q
  |some M=>rw[bU a M<|eZ a M<|W a M hh];simp
 cases rr with
 |error e=>exact aJ hq
 |ok f=>
  cases f with
  |ret u=>exact P.after hq
  |_=>exact aJ hq
end
def iD:D->Int
 |.int i=>i
 |_=>0
def Vq:D->Option (D×Bool)
 |.lst l=>if l.all isI=J then Y (.int<|mu (λj=>iD<|l.getD j .Ar)<|A2 l,C)else U
 |_=>U
theorem Ak:∀{c:jN}{b:iZ},gw c b->∃a:List (Int×wf),c=a.map (λp=>gR p.1 p.2)/\b=a.map (·.1)
 |_,_,.nil=>⟨[],rfl,rfl⟩
 |_,_,.cons n t r=>let⟨a,h1,d⟩:=Ak r;⟨(n,t)::a,by rw[h1];rfl,by rw[d];rfl⟩
theorem yf{f g:Nat->Int}:∀n,(∀j,j<n->f j=g j)->mu f n=mu g n
 |0,_=>rfl
 |n+1,h=>by rw[mu,mu,yf n λj a=>h j<|by lia,h n<|by lia]
section
variable {X:Cx}
def aee(i:X.calm=Ap):kH X (.builtin "sum") (GL X.K<|g1 Vq):=nU λe s J M x u Q O d z I y np hd b G=>by
 cases d with
 |lst l=>
  obtain⟨h,rfl⟩:=jo b;obtain⟨p,T,rfl,q,r⟩:=kU hd;cases y;obtain⟨N,v,w,_⟩:=I.list q;obtain⟨L,c,n⟩:=ZR h r v;obtain⟨f,g,a⟩:=Ak n;have k:X.A.handled=U:=I.ok.hd i
  have o:s.heap.IsList p (intItems f.toArray):=by have:=w.isList;rw[g]at this;simpa[intItems]using this
  refine sum_intListG k o λE B t' t=>?_;refine⟨.int<|mu (λj=>iD<|l.getD j .Ar)<|A2 l,M,I.kept (t':=B) t,⟨t',?_⟩,G.int⟩;have:(A2 l)=(A2 f):=by rw[c,a];simp
  rw[this,kz]
  congr 1
  refine yf _ λj m=>?_;rw[c,a];simp[numAt,iD,lM,m]
 |_=>cases b
def Vw(l:List D):Option Nat:=(oN l).bind λbs=>bs.findIdx? id
def RU(i:Nat):F:=λa=>match a[i]? with
 |some (Y (.lst l,J))=>(Vw l).bind λj=>if (A2 l)<=1000 then Y ((.int j,C),a)else U
 |_=>U
def aat(x:V)(b:List V)(T:Hp)(Q:VK):Prop:= ∃(l:iJ)(a:List V)(bs:List Bool)(j:Nat),x=.ref l/\b=[.bl J]/\T l=Y (.lst a)/\a=bs.map V.bl/\bs.findIdx? id=Y j/\(A2 bs)<=1000/\Q (.int j) T
theorem HH:∀{bs:List Bool}{a:jN},Vals (bs.map V.bl) a->a=bs.map dE
 |[],_,.nil=>rfl
 |b::bs,_,.cons r t=>by cases r;rw[HH t];rfl
def Ny:Nd X "list.index" aat:=by
 intro c s J M x T v O Q I B w h;obtain⟨l,G,bs,j,rfl,rfl,g,rfl,k,E,q⟩:=h;cases B;obtain⟨u,rfl,t⟩:=w.one;cases t;obtain⟨z,N,n,r,a,e⟩:=I.JG g;have i:=HH r;subst i;obtain⟨h1,d,f⟩:=List.findIdx?_eq_some_iff_getElem.mp k
 refine xD F.slot_list_index ⟨_,e,rfl⟩ F.entry_list_index (F.args_list_index_2 _ _)
  (list_indexAt l (bs.map dE).toArray n U #[] (.bool Ap) (λy=>match y with|.bool b=>b|_=>C) j (by simpa using h1) (by lia) (by simpa using d) (λm L p=>?_)) ⟨e,λy o=>?_,⟨.int j,M,I.tok _,⟨_,rfl⟩,q⟩⟩
 .have:=f m p;simpa using this
 obtain⟨b,_,rfl⟩:=ji<|List.mem_toArray.mp o;have:=EqAt.bool_bool (A:=X.A.in1) (s:=s) b Ap;cases b<;>simpa using this
variable {B w c o f:bu}{i:Nat}{x:au}{g:Nat}
theorem HU{K:jl}{T:Hp}{O:B2}:∀{l:List D}{bs:List Bool}{a:List V},oN l=Y bs->AG K T O l a->a=bs.map V.bl
 |[],bs,a,h,r=>by cases h;rw[AG]at r;exact r
 |.bl b::l,bs,a,h,r=>by obtain⟨d,h1,rfl⟩:=jz h;rw[AG]at r;obtain⟨v,k,rfl,e,j⟩:=r;rw[e.bl,HU h1 j];rfl
theorem Ck:∀{l:List D}{bs:List Bool},oN l=Y bs->A2 bs=A2 l
 |[],_,h=>by cases h;rfl
 |.bl b::l,_,h=>by obtain⟨a,h1,rfl⟩:=jz h;simp[Ck h1]
def aex(hv:PO X (.Name x w) (iK i))(G:MM X (.Name x w) "index")
  (J:MK X o [.Constant (.bool Ap) g f])
  (O:(c.endLine==o.line)=Ap)(s:ac [.Constant (.bool Ap) g f] X.env=(AX,aW (.Constant (.bool Ap) g f) X.env)::ac [] X.env)(A:(aT o<|ac [] X.env).any (·.1)=AX):
  PX X (.Call (.Attribute (.Name x w) "index" c) [.Constant (.bool Ap) g f] [] o) (RU i):=
 PX.imp (Ih Cv PySem.F.slot_list_index PySem.F.type_list_index Ny hv (lP SF oz s) G J O s A) λZ H Q I=>by
 obtain⟨d,T,W,D,E,e,k⟩:=I;unfold RU at e;split at e
 .rename_i l m;obtain⟨j,n,e⟩:=iM e;obtain⟨bs,r,n⟩:=iM n;obtain⟨C,e⟩:=jo e;obtain⟨rfl,rfl⟩:=sd e;refine⟨d,T,.slot i,d,E,by unfold iK;rw[m],λv K P=>?_⟩;obtain⟨u,h,b⟩:=P;obtain⟨a,g1,z,g2,V⟩:=h.own i _ m;rw[b]at g1;cases g1;refine⟨.inl ⟨rfl,z,Fd.of g2⟩,d,T,_,d,h,rfl,λy R q=>?_⟩;obtain⟨p,U⟩:=q.rep h;have L:=U.bl;subst L;obtain⟨S,t,Y,M,N⟩:=p.own i _ m;rw[b]at t;cases t;refine⟨_,Y,bs,j,rfl,rfl,M,HU r N,n,by rw[Ck r];exact C,?_⟩;exact k _ _ (Bk.val (u.trans q.1) p Rep.mkInt)
 cases e
end
def yB(a:kb)(b:Nat):D->Option (D×Bool)
 |.B4 (.exc T) _ _=>if a.contains T=J then Y (.bl<|T==b,C)else U
 |_=>U
def Vs(a:kb):D->Option (D×Bool)
 |.B4 (.exc T) _ _=>if a.contains T=J then Y (.bl J,C)else U
 |_=>U
section
variable {X:Cx}{e:iT}{fa:FO}{pos p p2:bu}{z:au}{CL:kb}{D0:Nat}
def Vn{g:D->Option (D×Bool)}{c:iQ}{f:V}(M:RelV f c)(B:∀k,RelV f k->k=c)(A:∀d n,g d=A9 n->∃C' b i l,d=.B4 (.exc C') i l/\n=(.bl b,C)/\kitOne X.K (.ref C') c=A9 b):
  kH X (.builtin "isinstance") (λm H' Q=>∃(O:B2)(d:D)(x:V)(b:Bool),m=[x,f]/\kg X.K H' O d x/\g d=A9 (.bl b,C)/\Q (.bl b) H'):=by
 intro j s Y H' m T Q I r h;obtain⟨O,d,x,b,rfl,hd,v,q⟩:=h;obtain⟨u,U,rfl,L,E⟩:=vT r;have:=B _ E;subst this;obtain⟨C',G,i,l,rfl,t,hk⟩:=A _ _ v;cases t;obtain⟨a,T,rfl,B4,_⟩:=oq hd;cases L;obtain⟨_,o,e,h1,y,J⟩:=B4;exact kia_one (y a) I.G8 (show Au X.prog X.w H' s.heap a (.D3 o<|.own 0)from I.hok a _ e).1 hk (λz=>nomatch z) λN=>⟨.bl _,H',I.tok _,rfl,q⟩
def HX{g:D->Option (D×Bool)}{w2:V}{h:iQ}{a:iT}(y:PO X e fa)(c:PE X a (tC w2))(f:RelV w2 h)(I:∀s,RelV w2 s->s=h)(q:∀d i,g d=Y i->∃C' b r t,d=.B4 (.exc C') r t/\i=(.bl b,C)/\kitOne X.K (.ref C') h=Y b)
  (u:Gl X "isinstance")(A:X.mg "isinstance"=U)(hv:aE "isinstance"=Y (.builtin "isinstance"))(s1:ac [e,a] X.env=(C,aW e X.env)::ac [a] X.env)(L:ac [a] X.env=(C,aW a X.env)::ac [] X.env)(w:(aT pos<|ac [a] X.env).any (·.1)=C):
  PX X (.Call (.Name "isinstance" p) [e,a] [] pos) (ma g fa):=by
 refine PX.imp (sV (Vn (X:=X) f I q) u A hv (lP y (lP c oz L) s1) (by decide) (by decide) s1 w) λN H Q f=>?_;obtain⟨O,T,M,G,E,e,k⟩:=f;obtain⟨o,l,h1,e⟩:=iR e;obtain⟨x,c,e⟩:=iM e;obtain⟨i,n,e⟩:=iM e;obtain⟨rfl,rfl⟩:=jn e;obtain⟨C',b,r,t,rfl,rfl,hk⟩:=q _ _ n;refine⟨O,T,o,l,E,h1,λv J m=>?_⟩;have B:=Ops.cons E m<|Ops.nil<|m.er E;exact⟨_,_,v,b,rfl,B.view (j:=0) AM AM c,n,(B.done k).bl⟩
structure ClT(K:Frag)(mg:lE)(CL:kb)(D0:Nat)(z:au):Prop where
 mg:mg z=A9 (.ref D0)
 is:∀C∈CL,kitOne K (.ref C) (.ref D0)=A9 (C==D0)
def xE(T:Tx X.mg)(c:ClT X.K X.mg CL D0 z)(g:QO X e fa)(b:Gl X "isinstance":=by rfl)(a:Gl X z:=by rfl)(j:DB z:=by exact rF)(s1:ac [e,.Name z p2] X.env=(C,aW e X.env)::ac [.Name z p2] X.env:=by rfl)(l:SE X (.Name z p2) []:=by rfl)(f:BA X pos [.Name z p2]:=by exact rF):
  QX X (.Call (.Name "isinstance" p) [e,.Name z p2] [] pos) (ma (yB CL D0) fa):=⟨HX (w2:=.ref D0) g.h (Qt a c.mg I j) I (λu h=>by cases h;rfl) (λd n h=>by
 unfold yB at h;split at h
 .rename_i Q k m;obtain⟨i,rfl⟩:=jo h;exact⟨Q,_,k,m,rfl,rfl,c.is Q<|by simpa using i⟩
 cases h) b T.n_isinstance og s1 l f⟩
def xEV(T:Tx X.mg)(c:X.mg "ValueError"=U)(hk:∀Q∈CL,kitOne X.K (.ref Q) (.type "ValueError")=Y J)(g:QO X e fa)(b:Gl X "isinstance":=by rfl)(a:Gl X "ValueError":=by rfl)(s1:ac [e,.Name "ValueError" p2] X.env=(C,aW e X.env)::ac [.Name "ValueError" p2] X.env:=by rfl)(k:SE X (.Name "ValueError" p2) []:=by rfl)(f:BA X pos [.Name "ValueError" p2]:=by exact rF):
  QX X (.Call (.Name "isinstance" p) [e,.Name "ValueError" p2] [] pos) (ma (Vs CL) fa):=⟨HX (w2:=.ty "ValueError") g.h (yM (v:=.ty "ValueError") a c (by decide+kernel) I (by decide)<|by decide) I (λu h=>by cases h;rfl) (λd m h=>by
 unfold Vs at h;split at h
 .rename_i Q j l;obtain⟨i,rfl⟩:=jo h;exact⟨Q,_,j,l,rfl,rfl,hk Q<|by simpa using i⟩
 cases h) b T.n_isinstance og s1 k f⟩
variable {x:au}{i kk:Nat}{f6 apos:bu}{a:iT}{f:F}
def Zr(hv:QO X (.Name x f6) (iK i))(g:MM X (.Name x f6) "index":=by rfl)
  (j:MK X pos [.Constant (.bool J) kk p2]:=by rfl)
  (d:(apos.endLine==pos.line)=J:=by rfl)(c:SE X (.Constant (.bool J) kk p2) []:=by rfl)(b:BA X pos []:=by exact rF):QX X (.Call (.Attribute (.Name x f6) "index" apos) [.Constant (.bool J) kk p2] [] pos) (RU i):=⟨aex hv.h g j d c b⟩
end
def Oy(Z:ZZ)(k:Nat)(x:au)(b:jw)(c:List D->Option au):Prop:= ∃f a,DV Z.P Z.w Z.K Z.mg Z.base (Ho Z.P Z.w) k f a b (MS Z.K Z.mg c)/\Z.mg x=Y (.ref f)/\keepIn Z.K (.ref f)=J/\Binds Z.K a b []
def Oy.up{Z:ZZ}{k j:Nat}{x:au}{c:jw}{d:List D->Option au}(o:Oy Z k x c d)(h:k<=j:=by decide):Oy Z j x c d:=let⟨f,e,a,b⟩:=o;⟨f,e,a.mono h,b⟩
abbrev BdY(Z:ZZ)(k:Nat)(x:au)(st:bn)(N:jw)(c:XS):Prop:= ∀(f:iJ)(b:iQ)(A:jh)(a:List dO)(s:iN)(T:Hp)(E:XK),Bg k (A.deeper<|aV x (iU st) s.heap.objs.size f b)->un (A.deeper<|aV x (iU st) s.heap.objs.size f b) 60->un (A.deeper<|aV x (iU st) s.heap.objs.size f b) 1->un (A.deeper<|aV x (iU st) s.heap.objs.size f b) 62->N.Nodup->
   Jt (rB (Ho Z.P Z.w) Z.P Z.w Z.K Z.mg Z.base N x (iU st) f b A a s T E) E (mh st) c
def oyB{Z:ZZ}{k:Nat}{x:au}{st:bn}{N d:jw}{g:XS}(a:Fz Z.K Z.mg x st)(S:Bb N d (iU st))(b:KH x st d)
  (j:BdY Z k x st N g):Oy Z (k+1) x d (Km (A2 N) (A2 d) g):=
 let⟨f,i,m,F⟩:=a
 ⟨f,i,RE F S λh A c s T E e=>by have:=e.un;exact j f h A c s T E e (by unfold un;omega) (by unfold un;omega) (by unfold un;omega) S.nd,m,F.kp,F.binds b⟩
def ClX(Z:ZZ)(z:au):Prop:= ∃T,Z.mg z=Y (.ref T)/\excIn Z.K T NC "ValueError.__new__"=J
section
variable {X:Cx}{P:jm}{w:je}{g:List dO}{n:Hp}{s0:iN}{E:XK}{A:kN}{st:bn}{J5 b:List bn}{x y:XS}{e:iT}{d p q:bu}{f:FS}{z:au}{a:iT}{m:F}{k:Nat}{o:jw}{j:List D->Option au}{i:ky}{fs:List FO}{l:FT}{c:iT}
def zR(T:GG X P w g n s0 E)(c:ClX (zX X) z)(s:QX X a m)(t:X.calm=J:=by rfl)(u:Gl X z:=by rfl)(hd:DB z:=by exact rF)(B:ac [a] X.env=[(C,aW a X.env)]:=by rfl):PZ X E (.Raise (Y<|.Call (.Name z p) [a] [] q) U d) (Gr z m):=
 let⟨_,v,r⟩:=c;Pu T t r v u s.h hd B
def zI(s:QT X c l)(r:Jt X E J5 x):PZ X E (.If c J5 b d) (Kl l x zNo):=Za s.h r Y9
def zC(Q:GG X P w g n s0 E)(M:Bg k X.A)(O:Oy (zX X) k z o j)(s:QA X (e::i) fs)(v:Gl X z:=by rfl)(L:DB z:=by exact rF)(u:SE X e i:=by rfl)(r:BA X d i:=by exact rF)(N:X.prog=P:=by rfl)(G:X.w=w:=by rfl):Kv X E (.Call (.Name z p) (e::i) [] d) (vP j fs):=by subst N;subst G;obtain⟨f,T,F,B,hk,t⟩:=O;exact Tq Q F M v B hk t s.h L u r
def zE(h:Kv X E e x)(r:bG e U d.line X.env=pure C:=by rfl):PZ X E (.Expr e d) x:=Tp h r
end
def aeo{P:jm}{w:je}{K:Frag}{d:lE}{base:jg}{N:jw}{q:au}{scope:jS}{c:iJ}{cd:iQ}{b:lF}{A:jh}{a:List dO}{s:iN}{T:Hp}{E:XK}:
  GG (tK (Ho P w) P w K d base N q scope c cd b A a s T E) P w a T s E:=⟨rfl,rfl,rfl,rfl,rfl,rfl,rfl,rfl,λ_ _ h=>h⟩
def Sf(q:au)(a:iJ)(T:Hp):Prop:= ∃more,T a=Y (.tbl (#[.str q 0]++more))
def spT(TB:List (iJ×au))(a:Sp):Sp:=λb T Q E=>(∀p∈TB,Sf p.2 p.1 T)/\a b T Q E
structure Mz(X:Cx)(Pt:iJ):Prop where
 t:Sf (X.env.qual++"<lambda>") Pt X.H₀
 c:∃c,X.env.code=.ref c/\CodeHd X.base c Pt
 b:X.base.BuiltinsAt X.mg Pt
 g:aj≠Pt
def Rf(Z:ZZ)(st:bn)(g:jw)(a e m n l:au)(i j k:Nat)(c:kb)(h:FS)(f:au->Option Nat):Prop:=
 ∃fr d CR,J3 Z.K a a st fr d/\Binds Z.K d [e] []/\Z.mg a=Y (.ref fr)/\(∀X:Cx,zX X=Z->JC X st g fr a e m n l CR i j (k+1) c h)/\∀z b,f z=Y b->Z.mg z=Y (.ref b)/\ClK Z.K b CR
def G2(scope:jS):Bool:=decide (scope.kind=.function)&&!scope.isCoroutine&&!scope.isGenerator&&(scope.names.all λy=>y.2 != .cell)
def Yj{scope:jS}(h:G2 scope=J):EF scope:=by unfold G2 at h;simp only[lg,mJ,rZ,fS,bne_iff_ne]at h;exact⟨h.1.1.1,h.1.1.2,h.1.2,h.2⟩
def xRf{X:Cx}{Q:iJ}{d:cH}{f:iT}{scope:jS}{p I pf:bu}{l:kb}{y:jw}{B:F}{xB:XS}{z:FS}{v:au->Option Nat}{u:kb}{st:bn}{r xc xr xx xn:au}{i j k C:Nat}
  (hr:Bg (k+2) X.A)(R:Rf (zX X) st y r xc xr xx xn i j k u z v)(q:Mz X Q)
  (hb:∀(o:iJ)(m:lF)(n:iJ)(A:jh)(e:List dO)(s:iN)(H:Hp)(E:XK),Bg k (A.deeper<|AF (X.env.qual++"<lambda>") scope s.heap.objs.size o (.ref n) m)->
   QX (tK (Ho X.prog X.w) X.prog X.w X.K X.mg X.base (cN X.N l []) (X.env.qual++"<lambda>") scope o (.ref n) m A e s H E) f B/\Kv (tK (Ho X.prog X.w) X.prog X.w X.K X.mg X.base (cN X.N l []) (X.env.qual++"<lambda>") scope o (.ref n) m A e s H E) E f xB)
  (L:uk X.N X.env.scope scope (cN X.N l []) l 0=Ap:=by kernel_rfl)(O:G2 scope=Ap:=by kernel_rfl)(hl:(A2 y)=C:=by rfl)(Y:Gl X r:=by rfl)(J:DB r:=by exact rF)(G:∀x,X.fn x=Ap:=by exact λ_=>rfl)(T:t5 d X.env=([],[]):=by rfl)(l6:∀m pm n l8,fI (kla_fn "<lambda>" (X.env.qual++"<lambda>") d f scope m pm (.ref n) l8) ⟨[],[]⟩=pure []:=by exact λ_ _ _ _=>rfl)
  (he:SE X (.Lambda d f scope I) []:=by rfl)(U:BA X p []:=by exact rF):
  QX X (.Call (.Name r pf) [.Lambda d f scope I] [] p) (Kh l B xB C i z v):=by
 subst hl;obtain⟨fr,dI,CR,F,P,W,S,ik⟩:=R;obtain⟨more,Z⟩:=q.t;obtain⟨c,V,D⟩:=q.c;exact⟨Uv (S X AM) F P Y W J G hr Z V D q.b q.g (DX AM AM L) (Yj O) T l6 he U ik λo m n A e s H E M=>let⟨a,b⟩:=hb o m n A e s H E M;⟨a.h,b⟩⟩
def walkT{l:OpenLaw}{q:jm}{m:jw}{XP:(au->Option iQ)->jg->Prop}{E:je->jg->Prop}{d:DefRec}{K:Params->Frag}{LV:Nat}{x:au}{Q:Bn}{TB:List (iJ×au)}(hk:Bg LV gq)(hn:l.most=A9 63)(cW:d.params.defaults=[])(hY:∀(w:je)(h:jg),E w h->(K w.params).In h)
  (L:∀(w:je)(h:jg),E w h->∀p∈TB,h.get? p.1=A9 (tabObj #[]))(fP:∀(w:je),∀p∈TB,(K w.params).lookup p.1=AR)(eG:(TB.map (·.1)).Nodup)
  (F:∀(w:je)(n:lE)(v:iJ)(h:jg),(K w.params).In h->h.Ns aj n->n d.name=A9 (.ref v)->∃I':mT,(∀(s:iN)(u:iQ),gu s I' ⟨[u],[]⟩ [(x,u)])/\(∀p∈TB,∃c,codeHdIn (K w.params) c p.1=Ap)/\∀base:jg,(K w.params).In base->base.Ns aj n->(∀p∈TB,base.BuiltinsAt n p.1)->DV l.prog w (K w.params) n base GP LV v I' [x] (spT TB<|J7 (K w.params) Q))
  (M:∀A:List Int,A2 A<=63->∃o j,Q [(.lst<|A.map .int,AX)]=A9 ((.bl Ap,o),j)):WalkO q m XP E l.row.toRowW d [] (λf B=>wT f B):=by
 refine Att.R8 hn cW λw U D n mb v o pm cd S a B A G Y ho hd n9 O R k i hg=>?_;have C:=hY w _ Y;obtain⟨I',hb,fO,hF⟩:=F w n v _ C G.T.g O;have N:=L w _ Y;refine adD (TB:=TB) C G.T.g G.T.b G.T.builtins G.T.nolimit hg N (fP w) (λp t=>?_) eG (λp t=>?_) R k (lC i<|by decide) hk hF hb (λH J hS=>?_) λH e s' z=>z
 .obtain⟨c,hc⟩:=fO p t;obtain⟨o,B,_,_,_,_,_,_,_,V,W,X,Z,_⟩:=codeHd_of_K C hc;exact⟨c,o,B,V,W,X,Z⟩
 .obtain⟨P,ob,h1,h2,r,h4,h5,y⟩:=G.T.bmain;refine⟨P,ob,h1,h2,λz=>?_,λz=>?_,r,h4,h5,y⟩
  .obtain⟨o',es,ep,e,dd,_⟩:=G.T.g;rw[z,e]at r;cases r;rw[dd]at y;cases y
  rw[z,N p t]at r;cases r;cases y
 obtain⟨o,j,e⟩:=M A i;exact⟨λp t=>⟨#[],by rw[J.all p t];rfl⟩,Ro J.all hS e⟩
def aaN(TB:List (iJ×au))(T:Hp):Prop:= ∀p∈TB,Sf p.2 p.1 T
def fnU{Z:ZZ}{k:Nat}{x:au}{st:bn}{N d:jw}{c:kb}{fs:FS}{f:iJ}{e:mT}{TB:List (iJ×au)}(F:J3 Z.K x x st f e)(S:Bb N d (iU st))
  (m:∀(b:iQ)(A:jh)(a:List dO)(s:iN)(T:Hp)(E:XK)(L:LL),(∀i,L.p i->i<A2 d)->Bg k (A.deeper<|aV x (iU st) s.heap.objs.size f b)->
   un (A.deeper<|aV x (iU st) s.heap.objs.size f b) 60->un (A.deeper<|aV x (iU st) s.heap.objs.size f b) 1->un (A.deeper<|aV x (iU st) s.heap.objs.size f b) 62->un (A.deeper<|aV x (iU st) s.heap.objs.size f b) 90->N.Nodup->
   b=e.code->aaN TB T->QQ (rB GP Z.P Z.w Z.K Z.mg Z.base N x (iU st) f b A a s T E).Hx (λi=>i∈c) L T (mh st) fs):
  DV Z.P Z.w Z.K Z.mg Z.base GP (k+1) f e d (spT TB<|J7 Z.K<|Be (A2 N) (A2 d) c fs):=by
 obtain⟨q,r,kV,j,t,an,b,ct,u,rfl,lk,n⟩:=F.ex;refine Oq lk n S (λo T Q E h=>HN h.2) λA a s T o Q E g h=>?_;obtain⟨L,h1,l⟩:=Ml h.2;have:=g.un;exact⟨_,((m b A a s T E L h1 g (by unfold un;omega) (by unfold un;omega) (by unfold un;omega) (by unfold un;omega) S.nd I h.1).h).Hx,l⟩
def aaJ{Z:ZZ}{k:Nat}{x q:au}{st:bn}{N e:jw}{asg:kb}{fs:FS}{f c d:iJ}{g:mT}{TB:List (iJ×au)}(F:J3 Z.K x x st f g)(u:g.code=.ref c)(n:CodeHd Z.base c d)(m:Z.base.BuiltinsAt Z.mg d)(y:aj≠d)(z:(d,q)∈TB)(S:Bb N e (iU st))
  (t:∀(f:iJ)(b:iQ)(A:jh)(a:List dO)(s:iN)(Q:Hp)(E:XK)(L:LL),(∀i,L.p i->i<A2 e)->Bg k (A.deeper<|aV x (iU st) s.heap.objs.size f b)->
   un (A.deeper<|aV x (iU st) s.heap.objs.size f b) 60->un (A.deeper<|aV x (iU st) s.heap.objs.size f b) 1->un (A.deeper<|aV x (iU st) s.heap.objs.size f b) 62->un (A.deeper<|aV x (iU st) s.heap.objs.size f b) 90->N.Nodup->
   Mz (rB GP Z.P Z.w Z.K Z.mg Z.base N x (iU st) f b A a s Q E).Hx d->QQ (rB GP Z.P Z.w Z.K Z.mg Z.base N x (iU st) f b A a s Q E).Hx (λi=>i∈asg) L Q (mh st) fs)
  (B:∀(L f:iJ)(cd:iQ),(aV x (iU st) L f cd).qual++"<lambda>"=q:=by exact λ_ _ _=>rfl):DV Z.P Z.w Z.K Z.mg Z.base GP (k+1) f g e (spT TB<|J7 Z.K<|Be (A2 N) (A2 e) asg fs):=
 fnU F S λb A a s Q E L o T h1 h j l O v r=>t f b A a s Q E L o T h1 h j l O ⟨by show Sf ((aV x (iU st) s.heap.objs.size f b).qual++"<lambda>") d Q;rw[B];exact r _ z,⟨c,v.trans u,n⟩,m,y⟩
def NA(K:Frag)(d:lE)(x:au)(st:bn)(b:iJ):Prop:= ∃f a c,d x=Y (.ref f)/\J3 K x x st f a/\a.code=.ref c/\codeHdIn K c b=J
def fzT{K:Frag}{h:jg}{g:lE}{x:au}{st:bn}{f c d:iJ}{j:iQ}{m an:Option iJ}{o:ya}{kV b n ct:iQ}(X:K.In h)(G:h.Ns aj g)(a:nsIn K aj x=Y (Y<|.ref f))
  (l:K.lookup f=Y ⟨j,m,.func<|fnOf x x (pY st) (mh st) (iU st) .none kV b n an (.ref c) ct,o⟩)(e:codeIn K (.ref c) x=J)(k:keepIn K (.ref f)=J)(i:codeHdIn K c d=J):NA K g x st d:=⟨f,_,c,mg_of X G a,Oj l e k,rfl,i⟩
def NA.cd{K:Frag}{d:lE}{x:au}{st:bn}{b:iJ}(a:NA K d x st b):∃c,codeHdIn K c b=J:=let⟨_,_,c,_,_,_,h⟩:=a;⟨c,h⟩
section
variable {X:Cx}{k:Nat}{f:iJ}{g:mT}{d:jw}{x:au}{p b:bu}{e a:iT}{j:ky}{i:Bn}{fs:List FO}{c:FO}{TB:List (iJ×au)}
def Zi(r:X.mg "sum"=U)(m:QA X [a] [c])(n:X.calm=J:=by rfl)(q:Gl X "sum":=by rfl)(o:SE X a []:=by rfl)(l:BA X b []:=by exact rF):QX X (.Call (.Name "sum" p) [a] [] b) (ju (g1 Vq) [c]):=
 ⟨Dq (aee n) q r (by decide+kernel) m.h (by decide) (by decide) o l⟩
end
structure Dy(K:Frag)(mg:lE)(ct rs:List (au×Nat))(CR:Nat):Prop where
 m:∀p∈ct,mg p.1=A9 (.ref p.2)
 mr:∀p∈rs,mg p.1=A9 (.ref p.2)
 is:∀p∈rs,∀r∈ct,kitOne K (.ref p.2) (.ref r.2)=A9 (p.2==r.2)
 ve:∀p∈rs,kitOne K (.ref p.2) (.type "ValueError")=A9 Ap
 ck:∀p∈rs,ClK K p.2 CR
 ex:∀p∈rs,excIn K p.2 NC "ValueError.__new__"=Ap
 su:mg "sum"=AR
 vm:mg "ValueError"=AR
 re:mg "RiddleError"=A9 (.ref CR)
def aN{a:Type}{P:a->Prop}:∀p∈([]:List a),P p:=λ_ h=>nomatch h
def aC{b:Type}{P:b->Prop}{a:b}{l:List b}(h:P a)(r:∀p∈l,P p):∀p∈a::l,P p:=List.forall_mem_cons.mpr ⟨h,r⟩
def JJ(ct:List (au×Nat))(z:au):Nat:=(ct.lookup z).getD 0
section
variable {Z:ZZ}{ct a:List (au×Nat)}{CR:Nat}
def M3{z:au}{T:Nat}(h:ct.lookup z=Y T):(z,T)∈ct:=qj h
def Dy.x(c:Dy Z.K Z.mg ct a CR)(z:au)(h:(a.lookup z).isSome=J:=by decide):ClX Z z:=by obtain⟨T,b⟩:=KP.mp h;exact⟨T,c.mr _ (M3 b),c.ex _ (M3 b)⟩
def Dy.t{K:Frag}{d:lE}(c:Dy K d ct a CR)(z:au)(h:(ct.lookup z).isSome=J:=by decide):ClT K d (a.map (·.2)) (JJ ct z) z:=by
 obtain⟨T,b⟩:=KP.mp h;have:JJ ct z=T:=by unfold JJ;rw[b];rfl
 rw[this];refine⟨c.m _ (M3 b),λD e=>?_⟩;obtain⟨p,f,rfl⟩:=ji e;exact c.is p f _ (M3 b)
def Dy.v{K:Frag}{e:lE}(c:Dy K e ct a CR):∀T∈a.map (·.2),kitOne K (.ref T) (.type "ValueError")=Y J:=λD b=>by obtain⟨p,d,rfl⟩:=ji b;exact c.ve p d
def Dy.ci(c:Dy Z.K Z.mg ct a CR):∀z b,a.lookup z=Y b->Z.mg z=Y (.ref b)/\ClK Z.K b CR:=λz T h=>⟨c.mr _ (M3 h),c.ck _ (M3 h)⟩
end
def aaG{K:Frag}{j:lE}{x y:au}{st:bn}{i h:iJ}(a:NA K j x st h)(l:j x=Y (.ref i))(b:KH x st [y]):∃d c,J3 K x x st i d/\d.code=.ref c/\codeHdIn K c h=J/\∀(s:iN)(v:iQ),gu s d ⟨[v],[]⟩ [(y,v)]:=by obtain⟨f,d,c,m,F,h1,n⟩:=a;have e:=l.symm.trans m;cases e;refine⟨d,c,F,h1,n,?_⟩;obtain⟨p,q,kV,g,o,an,k,ct,r,e,_⟩:=F.ex;exact λs v=>by subst e;exact .of_eq<|b kV g o an k ct [v] I
section
variable {X:Cx}{x y a b c d:iT}{u v z:au}{t s r q:FO}{f l k j i h:bu}{p o n:Nat}{m g e:cF}
end
end PX
namespace TT
section
variable {a:jm}{w:je}{A:jh}{E:jy}{s:iN}
end
end TT
namespace PX
open L2 PySem.SeqAt
def Mw(i:Nat)(f:F):F:=λa=>match a[i]? with
 |some (Y (d,_))=>f<|a.set i<|Y (d,C)
 |_=>U
section
variable {X:Cx}{e:iT}{f:F}{j:FO}{c l a g p:bu}{i:Nat}{x:au}
def XY(h:PX X e f):PX X e (Mw i f):=PX.imp h λt O Q q=>by
 obtain⟨s,T,r,m,E,e,k⟩:=q;unfold Mw at e;split at e
 .rename_i d b o;exact⟨_,T,r,m,(E.freeze o).1,e,λv n P=>k v n ⟨Bo.set.trans P.1,P.2⟩⟩
 cases e
def xFz(h:QX X e f):QX X e (Mw i f):=⟨XY h.h⟩
end
open PySem.W
def Bx(e:Tg)(fb:FS)(x:XS):List D->XS
 |[],_=>U
 |d::ds,f=>(e d f).bind λa=>if yD a=J then(match x a with
   |some c=>Y c
   |none=>(fb a).bind λo=>match o with
    |.nx b=>if yD b=J then Bx e fb x ds b else U
    |_=>U)else U
def LQ(b:Dr)(c:Tg)(a:FS)(x:XS):XS:=λd=>(b d).bind λp=>if yD p.2=J then Bx c a x p.1 p.2 else U
section
variable {X:Cx}{E:XK}{A:kN}{j iter:iT}{f:List bn}{p:Dr}{t:Tg}{g:FS}{x:XS}{l:bu}
def Wg(hp:dN (af X.prog X.w) X.A X.env X.xe)(hc:X.calm=Ap)(hi:Ju X (λ_=>False) j iter p)(hg:KC X A j t)(hb:Ft X A ⟨λ_=>False,AR⟩ (λ_=>AR) f g)(hz:Jt X E f x)(hs:∀x,ap iter X.env x=pure x):
  PZ X E (.For j iter f [] l) (LQ p t g x):=PS.imp' (MT hp hc hi hg (tb:=λD O H=>tS X.K A ⟨λ_=>False,AR⟩ (λ_=>AR) g D O H\/tZ X.K X.mg E x O H) (λM s O H D I h=>h.elim (hb M s O H D I)<|hz M s O H D I) hs) λD O H hw=>by
 obtain⟨δ,T,c,E0,no,e,k⟩:=hw;obtain⟨L,v,h1,e⟩:=iR e;obtain⟨fz,e⟩:=ue e;refine⟨δ,T,L,v,E0,h1,λJ U K1 E1 ok=>?_⟩;have up1:∀a o,H a=A9 o->U a=A9 o:=λa o q=>K1.kp a o q<|no a;refine⟨λi m B u=>m=A2 L-i/\i<=A2 L/\(∀a o,H a=A9 o->u a=A9 o)/\∃r,yD r=Ap/\SK A O v U B r u/\ER X.K u T B r/\Bx t g x (L.drop i) r=A9 c,⟨A2 L,by simp,mV _,up1,v,fz,.refl,E1,by simpa using e⟩,?_⟩;rintro i m G H2 ⟨rfl,hle,aq,Q,fz2,S2,E2,e2⟩;have t6:∀a o,U a=A9 o->¬KD (λ_=>False) T O v a->H2 a=A9 o:=λa o ea n=>S2.kp a o ea λ⟨i,d,z⟩=>n<|.inl ⟨i,id,d,z⟩;by_cases V:i<A2 L
 .refine .inr ?_;have hd:L[i]?=A9 L[i]:=jT V;obtain⟨go,yl⟩:=ok.go i _ H2 hd t6;rw[uW V]at e2;obtain⟨N,h3,Y⟩:=iM e2;obtain⟨F,Y⟩:=ue Y;refine⟨go,λB u=>(∀a o,H a=A9 o->u a=A9 o)/\∃r,yD r=Ap/\SK A O v U B r u/\ER X.K u T B r/\Bx t g x (L.drop<|i+1) r=A9 c,λB u ⟨q0,r,qz,q1,q2,q3⟩=>⟨A2 L-(i+1),by omega,rfl,V,q0,r,qz,q1,q2,q3⟩,λy u hy=>?_⟩;obtain⟨ext,rep⟩:=yl y u hy;have dh:ER X.K u T G Q:=E2.mono (λb ob eb _=>ext b ob eb) (λ_ _ z=>z) λa z=>(E2.dom a z).up<|ext a;have eL:SK A O v U G Q u:=S2.trans (Bo.ext ext).sk;have rx:=rep (λa=>Aa G Q a\/T a) (λb hb z=>z.elim (λz=>absurd z<|wJ fz2 G b) bL) λb hb z=>z.elim (λz=>E2.GS z hb) λz=>(E2.dom b z).ne hb;refine⟨Q,T,L[i],N,dh,rx,h3,λP S3 W=>?_⟩;have bT:=eL.trans S3;have bU:∀a o,H a=A9 o->u a=A9 o:=λa o q=>ext a o<|aq a o q;split at Y
  .rename_i c' hx;cases Y;exact .inr ⟨N,T,c,W,wJ F P,hx,λZ C kp hm=>k Z C (λa o q=>kp a o<|bU a o q) hm⟩
  obtain⟨o,h4,R⟩:=iM Y
  cases o with
  |nx δ4=>obtain⟨S,R⟩:=ue R;exact .inl ⟨N,T,_,W,⟨λ_ _ _=>.inr rfl,λ_ z=>absurd AM z,λ_ _ z=>z,λ_ h=>nomatch h⟩,h4,λσ4 Z S4 E4=>⟨λa o q=>S4.kp a o (bU a o q)<|wJ F P a,δ4,S,bT.trans S4,E4,R⟩⟩
  |_=>cases R
 refine .inl ⟨ok.stop i H2 (by omega) t6,?_⟩;rw[sG<|by omega]at e2;cases e2
def zFr(d:QI X (λ_=>False) j iter p)(c:QG X (λi=>i<40) j t)(a:QQ X (λi=>i<40) ⟨λ_=>False,U⟩ (λ_=>U) f g)(m:Jt X E f x)(e:dN (af X.prog X.w) X.A X.env X.xe:=by exact PassesOwn.leaving)(b:X.calm=J:=by rfl)(k:∀x,ap iter X.env x=pure x:=by intro _;rfl):PZ X E (.For j iter f [] l) (LQ p t g x):=Wg e b d.h c.h a.h m k
end
section
variable {X:Cx}{k:iT}{c:FO}{a b:bu}{j:Nat}
end
mutual
def Jo:D->Option cf
 |.int i=>Y<|.int i
 |.tup l=>(Jw l).map .tuple
 |.lst l=>(Jw l).map .list
 |_=>U
def Jw:List D->Option (List cf)
 |[]=>Y []
 |d::l=>(Jo d).bind λx=>(Jw l).map (x:: ·)
end
def BX(d:D):Option (D×Bool):=match d with
 |.lst l|.tup l=>(Jo d).bind λy=>if y.showable=J/\y.hasDict=C/\y.depth<=20/\y.shown.length<=sizeLine then Y (.str y.shown,C)else U
 |_=>U
def yL{o:Option (List cf)}{f:List cf->cf}{y:cf}(h:o.map f=Y y):∃l,o=Y l/\y=f l:=by
 cases o with
 |none=>cases h
 |some l=>cases h;exact⟨l,rfl,rfl⟩
def aew{o:Option (List cf)}{f:List cf->List cf}{y:List cf}(h:o.map f=Y y):∃l,o=Y l/\y=f l:=by
 cases o with
 |none=>cases h
 |some l=>cases h;exact⟨l,rfl,rfl⟩
section
variable {X:Cx}{b:jG}{f:L2.St}{H:Hp}{s:iN}
mutual
theorem Qa(T:Inv X b f H s):∀(d:D){v:V}{u:iQ}{O:B2}{y:cf},Rep X.K H O d v->RelV v u->Jo d=Y y->∃as,Reads s.heap u y as
 |.int i,v,u,O,y,r,c,h=>by
  cases h;cases r.int;obtain⟨t,rfl⟩:=c;exact⟨[],.int i t⟩
 |.tup l,v,u,O,y,r,c,h=>by obtain⟨m,j,rfl⟩:=yL h;obtain⟨a,z,rfl,q,p⟩:=lr<|.inl r;cases c;obtain⟨x,w,⟨o,h1,e,n,g⟩,_⟩:=T.tuple q;obtain⟨as,k⟩:=wa T l p w j;exact⟨as,.tuple h1 e g<|by simpa using k⟩
 |.lst l,v,u,O,y,r,c,h=>by obtain⟨m,j,rfl⟩:=yL h;obtain⟨a,z,rfl,q,p⟩:=kU<|.inl r;cases c;obtain⟨x,w,⟨o,n,h1,e,_,g⟩,_⟩:=T.list q;obtain⟨as,k⟩:=wa T l p w j;exact⟨a::as,.list h1 e g<|by simpa using k⟩
 |.bl _,_,_,_,_,_,_,h=>by cases h
 |.Ar,_,_,_,_,_,_,h=>by cases h
 |.str _,_,_,_,_,_,_,h=>by cases h
 |.B4 _ _ _,_,_,_,_,_,_,h=>by cases h
theorem wa(T:Inv X b f H s):∀(l:List D){c:List V}{a:jN}{O:B2}{e:List cf},AG X.K H O l c->Vals c a->Jw l=Y e->∃as,ReadsAll s.heap a e as
 |[],c,a,O,e,r,g,h=>by
  cases h;rw[AG]at r;subst r;cases g;exact⟨[],.nil⟩
 |d::l,c,a,O,e,r,g,h=>by
  rw[Jw]at h;obtain⟨x,j,h⟩:=iM h;obtain⟨m,i,rfl⟩:=aew h;rw[AG]at r;obtain⟨v,w,rfl,o,p⟩:=r
  cases g with
  |cons k n=>obtain⟨as,q⟩:=Qa T d o k j;obtain⟨bs,t⟩:=wa T l p n i;exact⟨_,.cons q t⟩
end
def acU(J:X.A.guards=A9 [])(U:X.A.units+62<aP):kH X (.builtin "repr") (GL X.K<|g1 BX):=nU λb s f H x u Q O d z I C np hd c G=>by
 have key:∀y,(∃as,Reads s.heap u y as)->(∃a,u=.ref a)->(if y.showable=Ap/\y.hasDict=AX/\y.depth<=20/\y.shown.length<=sizeLine then A9 (D.str y.shown,AX)else AR)=A9 z->ae (af X.prog X.w) X.A (call (.builtin "repr") [u]) (EP X b f Q) X.xe s:=λy ⟨as,r⟩ ⟨a,L⟩ h=>by obtain⟨⟨h1,g,i,T⟩,rfl⟩:=jo h;subst L;exact repr_of_reads' r h1 (PyData.noDict_hsm g) J (by lia) (λ_ _ e=>e) (λN t Y hk=>⟨.str y.shown,H,I.kept hk,⟨_,rfl⟩,G _ H (λ_ _ e=>e) Rep.mkStr⟩) T
 cases d with
 |lst l=>obtain⟨y,k,c⟩:=iM (show(Jo<|.lst l).bind _=A9 z from c);obtain⟨a,M,rfl,q,v⟩:=kU hd;cases C;obtain⟨m,j,rfl⟩:=yL k;obtain⟨E,B,⟨o,n,h1,g,_,i⟩,_⟩:=I.list q;obtain⟨as,p⟩:=wa I l v B j;exact key _ ⟨_,.list h1 g i<|by simpa using p⟩ ⟨a,rfl⟩ c
 |tup l=>obtain⟨y,k,c⟩:=iM (show(Jo<|.tup l).bind _=A9 z from c);obtain⟨a,M,rfl,q,v⟩:=lr hd;cases C;obtain⟨m,j,rfl⟩:=yL k;obtain⟨E,B,⟨o,h1,g,n,i⟩,_⟩:=I.tuple q;obtain⟨as,p⟩:=wa I l v B j;exact key _ ⟨_,.tuple h1 g i<|by simpa using p⟩ ⟨a,rfl⟩ c
 |_=>cases c
variable {a:iT}{g:FO}{c p:bu}{k:iT}{C:FO}{B:bu}{j:Nat}
def xRp{q:Nat}(e:Bg q X.A)(o:X.A.units+62<aP)(n:X.mg "repr"=U)(i:QA X [a] [g])(m:Gl X "repr":=by rfl)(l:SE X a []:=by rfl)(d:BA X c []:=by exact rF):QX X (.Call (.Name "repr" p) [a] [] c) (ju (g1 BX) [g]):=
 ⟨Dq (acU e.gd o) m n (by decide+kernel) i.h (by decide) (by decide) l d⟩
end
mutual
def D.fz:D->Bool
 |.lst _=>C
 |.B4 _ _ _=>C
 |.tup l=>D.Jr l
 |_=>J
def D.Jr:List D->Bool
 |[]=>J
 |x::l=>D.fz x&&D.Jr l
end
def Oi:∀l:List Int,D.Jr (l.map .int)=J:=by
 intro l
 induction l with
 |nil=>simp[D.Jr]
 |cons x l a=>simp[D.Jr,D.fz,a]
mutual
theorem Rep.fr{K T}{O c:B2}(h:∀b,c b->Ow (T b)):∀{d:D}{v:V},D.fz d=J->Rep K T O d v->Rep K T c d v
 |.int _,_,_,r=>by rw[Rep]at r ⊢;exact r
 |.tup l,_,p,r=>by rw[D.fz]at p;obtain⟨a,f,rfl,s,e⟩:=r.tup;exact Rep.Hu ⟨s.1,λz=>(h a z).nt f s.1⟩<|AG.fr h p e
 |.Ar,_,_,r=>by rw[Rep]at r ⊢;exact r
 |.bl _,_,_,r=>by rw[Rep]at r ⊢;exact r
 |.str _,_,_,r=>by rw[Rep]at r ⊢;exact r
 |.lst _,_,p,_=>by simp[D.fz]at p
 |.B4 _ _ _,_,p,_=>by simp[D.fz]at p
theorem AG.fr{K T}{O a:B2}(h:∀b,a b->Ow (T b)):∀{l:List D}{vs:List V},D.Jr l=J->AG K T O l vs->AG K T a l vs
 |[],_,_,r=>r
 |d::l,_,p,r=>by rw[D.Jr,lg]at p;rw[AG]at r ⊢;obtain⟨v,q,e,h1,c⟩:=r;exact⟨v,q,e,Rep.fr h p.1 h1,AG.fr h p.2 c⟩
end
def okR:D×Bool->Bool
 |(.lst l,J)=>D.Jr l
 |(d,C)=>D.fz d
 |_=>C
def DQ(c:Bn)(fs:List FO):F:=λd=>(kj fs d).bind λp=>(kf p.2 p.1).bind λb=>(c<|b.map λa=>(a.1,C)).bind λq=>if okR q.1=J then Y (q.1,p.2)else U
section
variable {K:jl}{T x:B2}{m:L2.St}{t c:Dn}{H s n:Hp}{os:List Bq}{g:List V}{f:List (D×Bool)}{u:Dn}{r:D×Bool}{v:V}
def Q8{g:List V}{a:iJ}: ¬Aa (g.map Y) ((f.map λa=>(a.1,C)).map Y) a:=λ⟨j,d,h,_⟩=>by simp at h
def OS(E:ER K H T m t)(B:Ops K T m t H os g c s x)(Q:kf c os=Y f):ER K s (λ_=>False) (g.map Y) ((f.map λa=>(a.1,C)).map Y):=by
 obtain⟨M,G⟩:=nV Q;refine⟨by simp[M,B.len],λj d h=>?_,λj d h=>by simp at h,λj k d e a h=>by simp at h,λa z=>absurd z Q8,λa z=>z.elim⟩;have h:=rR.mp h;rw[kS]at h;obtain⟨⟨l,b⟩,L,h⟩:=jz h;obtain rfl:l=d:=by cases h;rfl
 obtain⟨o,h1,A⟩:=G j _ L;have J:j<(A2 g):=by have:=(tM.mp h1).1;have:=B.len;lia
 have hv:g[j]?=Y g[j]:=jT J;refine⟨_,rR.mpr hv,?_⟩;have sub:∀{O:B2}(b:iJ),s b≠U->(Aa (g.map Y) ((f.map λa=>(a.1,C)).map Y) b\/False)->O b:=λb _ z=>z.elim (λz=>absurd z Q8) aJ
 cases o with
 |val q=>
  have:q.1=l:=by cases A;rfl
  subst this;exact Rep.mono (λ_ _ e _=>e) sub<|B.rep E h1 hv
 |slot i=>
  have N:c[i]?=Y (Y (l,b)):=oR A;have I:=B.slt j i _ h1 hv
  cases b
  .obtain⟨w,p,y⟩:=B.er.val i l N;rw[I]at p;have:g[j]=w:=by simpa using p
   rw[this];exact Rep.mono (λ_ _ e _=>e) sub y
  obtain⟨w,p,y⟩:=B.er.own i l N;rw[I]at p;have:g[j]=.ref w:=by simpa using p
  rw[this];exact y.rep (λz=>z.elim (λz=>absurd z Q8) aJ) sub
def adU(E:ER K H T m t)(B:Ops K T m t H os g c s x)(P:Bk K (λ_=>False) (g.map Y) ((f.map λa=>(a.1,C)).map Y) s r u v n)(ok:okR r=J):
  Bk K T m t H r c v n:=by
 have up:∀a o,s a=Y o->n a=Y o:=λa o e=>P.1.kp a o e Q8;have h:∀a,x a->Ow (n a):=λa z=>(B.er.dom a z).up<|up a;have j:ER K n x m c:=B.er.mono (λb o e _=>up b o e) (λ_ _ z=>z) h;have i:∀b,(Aa m c b\/T b)->Ow (n b):=λb z=>z.elim j.Ht λz=>h b<|B.tt b z;have y:ER K n T m c:=j.mono (λ_ _ e _=>e) (λb _ z=>B.tt b z) λa z=>h a<|B.tt a z;have q:=B.keep.trans<|Bo.ext up;obtain⟨d,b⟩:=r
 cases b
 .refine⟨q,y,?_⟩;exact Rep.fr i (by cases d<;>exact ok) P.2.2
 cases d with
 |lst l=>
  obtain⟨p,rfl,k,O,L,e,M⟩:=P.2;have w:Ow (n p):=by rw[e];trivial
  refine⟨q,p,rfl,?_,B.er.mono (λb o e _=>up b o e) (λb N z=>z.elim (B.tt b) λz=>absurd (z▸k) N) λa z=>z.elim (λz=>h a<|B.tt a z) λz=>z▸w,L,e,AG.fr (λb z=>?_) ok M⟩
  .cases A:H p with
   |none=>rfl
   |some Q=>exact absurd k<|B.keep.dm p (by rw[A];simp)
  rcases z with z|z|z
  .exact i b (.inl z)
  .exact i b (.inr z)
  exact z▸w
 |_=>cases ok
end
section
variable {X:Cx}{e:iT}{b:ky}{fs:List FO}{a p:bu}{k:Nat}{d:jw}{c:Bn}{x:au}
def xUB(y:Bg k X.A)(O:Oz (zX X) k x d c)(s:QA X (e::b) fs)(u:Gl X x:=by rfl)(C:DB x:=by exact rF)
  (t:SE X e b:=by rfl)(n:BA X a b:=by exact rF):QX X (.Call (.Name x p) (e::b) [] a) (DQ c fs):=
 let⟨_,_,ok,w,I',m⟩:=O;⟨PX.imp (Ds ok y u w I' m (.nil) SQ s.h C t n) λU H Q z=>by
 obtain⟨G,T,N,J,E,e,k⟩:=z;obtain⟨os,g,h1,e⟩:=iR e;obtain⟨i,o,e⟩:=iM e;obtain⟨r,f,q,e⟩:=iR e;obtain⟨ok,e⟩:=jo e;obtain⟨rfl,rfl⟩:=sd e;refine⟨G,T,os,g,E,h1,λL l M B=>?_⟩;show J7 X.K c (L++[]) l Q L2.E0;rw[uE];exact⟨_,_,r,f,OS E B o,q,λv j P=>k v j<|adU E B P ok⟩⟩
end
def JW:bn->au
 |.FunctionDef n .. =>n
 |_=>""
def JV(s:bn):List Str:=(pY s).args.map (·.arg)
def loS(s:bn):List Str:=(iU s).names.filterMap λp=>match p.2 with|.local|.cell=>Y p.1|_=>U
def qN(k:gf)(a:List b4):=Lean.Syntax.node .none k a.toArray
def qA:=Lean.Syntax.atom .none
def qK:=Lean.Name.str `Lean.Parser.Tactic
def qM(s:String):=qN<|.str `Lean.Parser.Term s
def qH(t s:String)(a:List b4):=qN (qK t) (qA s::a)
def qT(s:String):=qH s s
def qQ(a:List b4):=qN (qK "tacticSeq") [qN (qK "tacticSeq1Indented") [qN `null a]]
def qF(l:List b4):=qT "first" [qN `null (l.map λt=>qN `group [qA "|",t])]
def qP(f:gf)(a:List b4):=if a.isEmpty then(ww f).raw else qM "app" [ww f,qN `null a]
def qU:=qM "hole" [qA "_"]
def qY(a:List b4):=qM "byTactic" [qA "by",qQ a]
def qB:=qY [qT "assumption" []]
def qE(f:gf)(a:List b4):=qT "refine" [qP f a]
def qG:Nat->b4
 |1=>qM "syntheticHole" [qA "?",qA "_"]
 |2=>qB
 |3=>qP `rfl []
 |4=>qY [qF [qQ [qE `adF []],qQ [qE `aeo []]]]
 |5=>qP `Dy.x [qB,qU]
 |6=>qP `Dy.t [qB,qU]
 |7=>qP `Dy.vm [qB]
 |8=>qP `Dy.v [qB]
 |_=>qP `Dy.su [qB]
def qD:Nat->Nat->List b4
 |0,_=>[]
 |n+1,k=>if k=0 then[]else qD n (k / 10)++[qG<|k%10]
def XX(l:List (gf×Nat×List (Nat×List gf))):Lean.Syntax:=
 let r:=qP `rfl []
 let w t:=qH "withReducible" "with_reducible" [qQ [t]]
 let g:=l.map λg=>
  let f:=qF<|g.2.2.flatMap λp=>p.2.map λn=>qQ [qE n<|qD 9 p.1]
  if g.2.1=0 then qQ [qE g.1 [qG 1],qA ";",w f]else qQ [qT "show" [qP g.1<|ah g.2.1 qU],qA ";",f]
 qQ [qT "repeat'" [qQ [qF (qQ [w<|qT "intro" [qN `null [qU]]]::(g++[qE `d9 [qG 1,qG 1],qT "assumption" [],qH "tacticRfl" "rfl" [],qE `bH [r],qE `bL [qP `bH [r]],qE `bL [qP `bL [qP `bH [r]]],qE `bL [qP `bL [qP `bL [r]]]].map (λt=>qQ [t])))]]]
end PX
set_option backward.eqns.nonrecursive true
namespace PV
open L2 PX
noncomputable abbrev YT:Nat:=100000
abbrev RD:Nat:=6
def yj:FS:=iW (lA<|xX (ma (wB [.int])<|iK 0)<|VG<|ma (wB [.bool])<|iK 0) jt
def mI:Bn:=Be 1 1 [] yj
def rA:FS:=iW (lA<|xX (jc mI [iK 0])<|AB .LtE .LtE (iK 1) (iK 0)<|iK 2) jt
def lI:Bn:=Be 3 3 [] rA
abbrev lq:=iX<|fC<|.int 1
def As:FS:=iW (lA<|jc lI [iK 1,lq,iK 0]) jt
def pE:Bn:=Be 2 2 [] As
def vF:FS:=iW (lA<|xX (jc mI [iK 1])<|jc pE [iK 0,iX<|ju (g1 Ao) [iK 1]]) jt
def nq:Bn:=Be 2 2 [] vF
abbrev mX:=kG<|kI 1
abbrev Tu:=ma (wB [.tuple])<|iK 1
abbrev LX:=iX<|ju (g1 Bj) [iK 1]
abbrev Gs:=iW (lA<|fC<|.bl C) jt
def mZ:FS:=iW (EJ (E9 (uI<|fT Tu)<|fT<|jf J9 LX<|iK 0) Gs jt)<|iW (EJ (uI<|fT<|ju (g1 vC) [iX<|jL [0] 1 mX (iP 1) jZ<|ki<|jc nq [iK 0,iK 1]]) Gs jt)<|iW (lA<|jf Gw (iX<|uh [] 1 mX (iP 0) jZ<|AS<|ju (g1 Ao) [iK 0])<|iK 0) jt
def kD:Bn:=Be 2 2 [] mZ
abbrev LW:=iX<|ju (g1 Bj) [iK 0]
def pv:FS:=iW (EJ (fT<|jf (pH .Lt) (iK 1) LW) (iW (lA<|jf CK (iK 0)<|iK 1) jt) jt)<|iW (lA<|fC<|.int 0) jt
def lW:Bn:=Be 2 2 [] pv
abbrev D8:=fC<|.bl J
abbrev WJ:=iX<|jf G6 (iX<|fC<|.int 10)<|iX<|fC<|.int 18
def rp:FS:=iW (kn 2<|jc lW [iK 0,iK 1])<|iW (EJ (fT<|jf (pH .GtE) (iK 2) WJ) (iW (lA<|mR [jf Fq (iK 2) WJ,D8]) jt) jt)<|iW (lA<|mR [jf yA (iK 2)<|iX<|fC<|.int 2147483647,fC<|.bl C]) jt
def mM:Bn:=Be 3 2 [2] rp
abbrev oG:=iX<|fC<|.int 0
abbrev zw:=iX<|jf CK (iK 0) oG
def tD:FS:=iW (EJ (fT<|jf CK (iK 0) lq) (iW (kn 2<|jf yA zw<|iK 1)<|iW (pZ 0 (jf Og zw<|iK 1) oG)<|iW (pT 2) jt) jt)<|iW (pZ 0 (jf yA (iX<|jf lL (iX<|jf rQ zw<|iX<|fC<|.int 48271)<|iX<|fC<|.int 29)<|iX<|fC<|.int 2147483647) oG)<|iW (kn 3<|jf yA (iX<|jf lL (iX<|jf lL (iX<|jf rQ zw zw)<|iX<|jf rQ (iX<|fC<|.int 39373) zw)<|iX<|fC<|.int 7)<|iX<|fC<|.int 2147483629)<|iW (kn 3<|jf yA (iX<|jf lL (iX<|jf rQ (iK 3)<|iK 3)<|iX<|jf rQ (iX<|fC<|.int 16807)<|iK 3)<|iX<|fC<|.int 2147483587)<|iW (lA<|jf yA (iX<|jf Og (iK 3)<|iX<|fC<|.int 8)<|iK 1) jt
def jk:Bn:=Be 4 2 [2,3] tD
abbrev zy:=kn 3<|mR []
abbrev yd:=iX<|fC<|.int 2
abbrev LU:=ma Al lq
abbrev Tw:=jf lL (iK 1) lq
abbrev LY:=iX Tw
abbrev Wy:=iW (lA<|ju (g1 pk) [iK 3]) jt
abbrev WG:=iX<|jc jk [iK 0,yd]
abbrev WQ:=iX<|jc jk [iK 0,iX<|ju (g1 Bj) [iK 2]]
abbrev WX:=Az 2 WQ
abbrev Xa:=jf CK (iX<|mR [fC<|.int 1,LU]) WG
abbrev Xd:=iX Xa
def abm:FS:=iW (kn 2<|ju (JX .lst J) [lq,LY])<|iW zy<|iW (ny (vB<|iK 1) (iP 4)<|iW (nC<|md 3<|jf rQ (iX WX) Xd) jt) Wy
def kX:Bn:=Be 5 2 [2,3,4] abm
abbrev Wx:=kn 5<|jc jk [iK 0,iK 2]
abbrev WE:=iX<|jc jk [iK 0,iX<|fC<|.int 3]
abbrev Xb:=kn 2<|jf CK (iX<|mR [fC<|.int 3,fC<|.int 4,fC<|.int 6]) WE
abbrev zC4:=iW Wx<|iW (EJ (fT<|jf (pH .Lt) (iK 5) yd) (iW (nC<|md 3<|jf CK (iX<|mR [kI 4,ma Al<|iK 4])<|iK 5) jt) jt) jt
def abD:FS:=iW Xb<|iW zy<|iW (ny (J6 lq LY) (iP 4) zC4)<|iW (EJ (fT<|jf Gw (iK 3)<|iX<|mR []) (iW (nC<|md 3<|jf rQ Xd<|iX<|jf lL lq<|iX<|jc jk [iK 0,iK 1]) jt) jt) Wy
def nh:Bn:=Be 6 2 [2,3,4,5] abD
abbrev Ws:=jf (pH .Gt) (iK 1) oG
abbrev WT:=iX<|ju (g1 Kd) [iX Ws]
abbrev TL:=iX<|jf CK (iK 0)<|iX<|jf Fq (iX<|ju (g1 Ao) [iK 1]) lq
def rN:FS:=iW (lA<|jf rQ TL<|iX<|jf CK (iX<|mR [LU,fC<|.int 1]) WT) jt
def ml:Bn:=Be 2 2 [] rN
abbrev Tr:=ju (g1 Ao) [iK 4]
abbrev W8:=iW (kn 4<|jc ml [iK 0,iK 3])<|iW (Mu 2 (kI 4)<|iX Tr) jt
def wD:FS:=iW (kn 2 IM)<|iW (ny mX (iP 3) W8)<|iW (lA<|ju (g1 pk) [iX<|jL [2] 1 (kG<|ju (g1 mY) [iK 2]) (iP 1) jZ<|ki<|jf G7 (iK 0)<|iK 1]) jt
def kh:Bn:=Be 5 2 [2,3,4] wD
abbrev WI:=iW (kn 3<|jf lL (iK 3) lq) jt
abbrev WL:=fT<|jf (pH .Lt) (iK 3)<|iX<|ju (g1 Bj) [iK 2]
abbrev WV:=kn 5<|jc kh [iK 4,iX<|jf CK (iK 2)<|iK 3]
abbrev zC9:=iW WV<|iW (EJ (fT<|jf rn (iK 5)<|iK 2) (iW (nC<|md 2<|kI 5) jt) jt) jt
def abB:FS:=iW (kn 2<|ju (g1 Am) [iK 0])<|iW (kn 3<|fC<|.int 0)<|iW (pz WL (iW (ny mX (iP 4) zC9) WI) YT)<|iW (pT 2) jt
def nZ:Bn:=Be 6 2 [2,3,4,5] abB
abbrev Zb:=iX<|ju (g1 Vr) [iK 6]
abbrev Wk:=jc kX [iK 0,iK 1]
abbrev Wr:=jf (pH .Gt) (iK 4) oG
abbrev PF:=ju (g1 mY) [Zb]
abbrev WH:=kn 4<|jc jk [iK 0,iX<|fC<|.int 4]
abbrev TK:=fT<|jf (pH .Gt) (iX<|ju (g1 Bj) [iK 6])<|iX<|fC<|.int 30
abbrev WY:=iX<|jf lL lq<|iX<|jf yA (iK 4) yd
abbrev Zg:=iX<|jL [] 1 (kG<|kI 0) (iP 0) jZ<|ki<|ju (g1 Ao) [iK 0]
abbrev W3:=iW (kn 6<|tE (iK 6)<|iX<|jc jk [iK 0,iX<|fC<|.int 30]) jt
abbrev TM:=ju (g1 pk) [Zg]
abbrev W5:=ki TM
abbrev TN:=jf CK (iX<|mR [fC<|.int 4,fC<|.int 8,fC<|.int 13]) WE
abbrev Xe:=kn 3<|jf lL (iK 1)<|iX<|jc jk [iK 0,iX<|jf lL (iX<|jf Fq (iK 2)<|iK 1) lq]
abbrev zC3:=EJ (fT<|jf Gw (iK 4)<|iX<|fC<|.int 3) (iW (kn 7<|jL [] 1 (kG<|kI 7) (iP 0) jZ W5) jt) jt
abbrev zC0:=EJ (fT Wr) (iW (kn 7<|jL [0,3] 1 (vB WY) (iP 2) jZ<|ki Wk)<|iW zC3<|iW (kn 6<|jc nZ [iX<|tE (iX PF) yd,iK 7]) jt) jt
def abA:FS:=iW Xe<|iW WH<|iW (EJ (fT<|jf Gw (iK 3) oG) (iW (lA<|ou [fC<|.int 0,ou []]) jt) jt)<|iW (kn 5<|jc jk [iK 0,iX TN])<|iW (kn 6<|jL [0,3] 1 (vB<|iK 5) (iP 2) jZ<|ki<|jc nh [iK 0,iK 1])<|iW zC0<|iW (kn 6 PF)<|iW (EJ TK W3 jt)<|iW (lA<|ou [kI 3,ju (g1 pk) [iK 6]]) jt
def ng:Bn:=Be 8 3 [3,4,5,6,7] abA
def B6:FS:=iW (lA<|jc lI [iK 0,oG,lq]) jt
def oS:Bn:=Be 1 1 [] B6
def wI:FS:=iW (lA<|xX Tu<|xX (jf Gw LX<|iK 0)<|ju (g1 vC) [iX<|jL [] 1 mX (iP 0) jZ<|ki<|jc oS [iK 0]]) jt
def mO:Bn:=Be 2 2 [] wI
def E6:FS:=iW (lA<|jf Gw TL<|iX<|M5 (fT Ws) (fC<|.int 1)<|fC<|.int 0) jt
def pD:Bn:=Be 2 2 [] E6
def yC:FS:=iW (lA<|ju (g1 EZ) [iX<|jL [0] 1 mX (iP 1) jZ<|ki<|jc pD [iK 0,iK 1]]) jt
def nk:Bn:=Be 2 2 [] yC
abbrev Pz:=BD [iP 2,iP 3]
def Ol:FS:=iW (Ue Pz<|kI 0)<|iW (lA<|xX (jc mO [iK 2,iK 1])<|ju (g1 vC) [iX<|jL [1] 1 (kG<|kI 3) (iP 1) jZ<|ki<|jc nk [iK 0,iK 1]]) jt
def tH:Bn:=Be 4 2 [2,3] Ol
abbrev HA:=iW (pT 1) jt
abbrev HB:=iX<|ou [kI 1]
abbrev Px:=kn 1<|mR [ou []]
abbrev Tv:=ou [fC<|.int 0,fC<|.int 1]
abbrev PC:=kG Tv
abbrev Tz:=ki<|jf lL (iK 0) HB
abbrev zC8:=iW (kn 1<|jL [] 2 mX (iP 0) jZ<|KG PC (iP 1) jZ Tz) jt
def abo:FS:=iW Px<|iW (ny (vB<|iK 0) (iP 2) zC8) HA
def nH:Bn:=Be 3 1 [1,2] abo
abbrev TF:=jc nH [zw]
def acr:FS:=iW (lA<|jL [0] 1 (kG TF) (iP 1) (fT<|jc tH [iK 0,iK 1])<|ki<|kI 1) jt
def nS:Bn:=Be 1 1 [] acr
def BZ:FS:=iW (lA<|jf Gw TL WT) jt
def qI:Bn:=Be 2 2 [] BZ
def uw:FS:=iW (lA<|ju (g1 EZ) [iX<|jL [0] 1 mX (iP 1) jZ<|ki<|jc qI [iK 0,iK 1]]) jt
def lR:Bn:=Be 2 2 [] uw
abbrev Py:=iW (kn 1<|kI 3) jt
abbrev Xg:=iW (nC<|yQ 3<|jL [4] 1 PC (iP 1) jZ Tz) jt
def vE:FS:=iW Px<|iW (ny (vB<|iK 0) (iP 2)<|iW zy<|iW (ny mX (iP 4) Xg) Py) HA
def mf:Bn:=Be 5 1 [1,2,3,4] vE
abbrev Ww:=kG<|jf CK (iK 0) lq
abbrev Wv:=jc lR [iK 1,iK 0]
abbrev WW:=kn 1<|jc mf [zw]
abbrev W9:=iW (kn 1<|jL [2] 1 mX (iP 1) (fT Wv)<|ki<|kI 1) jt
abbrev zC7:=ny Ww (iP 2) W9
def abn:FS:=iW WW<|iW zC7 HA
def mH:Bn:=Be 3 1 [1,2] abn
abbrev Zc:=fT<|jc kD [iK 0,iK 1]
abbrev PD:=uI Zc
def nR:FS:=iW (EJ PD (iW GD jt) jt) jt
def jQ:Bn:=Be 2 2 [] nR
abbrev Wq:=jf (pH .Gt) (iK 3) oG
abbrev WM:=jf Fq (iX<|ju (g1 Ao) [iK 3]) lq
abbrev Xh:=iW (pZ 1 (M5 (fT Wq) (kI 2)<|ma Al<|iK 2)<|iX WM) jt
def RG:FS:=iW (kn 1<|ju (g1 Am) [iK 0])<|iW (ny (xS 1<|kI 0) Pz Xh)<|iW (lA<|ju (g1 pk) [iK 1]) jt
def ui:Bn:=Be 4 1 [1,2,3] RG
def abz:FS:=iW (nC<|jc jQ [LW,iK 1])<|iW (lA<|ju (g1 pk) [iX<|jL [0] 1 (kG<|jc ui [iK 1]) (iP 1) jZ<|ki<|M5 (fT<|jc pD [iK 0,iK 1]) (fC<|.int 1)<|fC<|.int 0]) jt
def nY:Bn:=Be 2 2 [] abz
abbrev Tt:=jf rn (iK 5)<|iK 4
abbrev Wu:=iX<|jf lL (iK 0) lq
abbrev Zd:=jf rn (iX<|ma Al<|iK 5)<|iK 4
abbrev TC:=fT Zd
abbrev zC6:=iW (EJ (Fb (fT Tt) TC) (iW (nC<|md 3<|jf lL (iK 4)<|iX<|ou [kI 5]) jt) jt) jt
def ux:FS:=iW Px<|iW (ny (vB<|iK 0) (iP 2)<|iW zy<|iW (ny mX (iP 4)<|iW (ny (kG<|jf lL (iX<|ju (JX .lst J) [iX<|ma Al<|iK 0,oG])<|iX<|ju (JX .lst J) [lq,Wu]) (iP 5) zC6) jt) Py) HA
def lS:Bn:=Be 6 1 [1,2,3,4,5] ux
abbrev WS:=jf ug (iX<|jc kh [iK 0,iK 3])<|iK 2
abbrev Xc:=iW (EJ (fT WS) Gs jt) jt
def rq:FS:=iW (ny mX (iP 3) Xc)<|iW (lA D8) jt
def oM:Bn:=Be 4 3 [3] rq
abbrev Wj:=ki<|ou [kI 0,D8]
abbrev WZ:=jc oM [iK 2,iX<|jf CK (iK 1) lq,iK 0]
def wC:FS:=iW (kn 1<|ju (g1 An) [iX<|jL [] 1 Ww (iP 0) jZ Wj])<|iW (lA<|jL [1,0] 1 (kG<|jc lS [zw]) (iP 2) (fT WZ)<|ki<|kI 2) jt
def mx:Bn:=Be 2 1 [1] wC
abbrev LR:=BD [iP 0,iP 1]
def lD(ev:Bn):FS:=iW (EJ (fT<|ma (wB [.list,.tuple])<|iK 1) (iW (EJ (E9 (fT<|jf J9 (iX<|ma (wB [.list])<|iK 0)<|iX<|ma (wB [.list])<|iK 1)<|fT<|jf J9 (iX<|ma (wB [.tuple])<|iK 0)<|iX Tu) Gs jt)<|iW (lA<|xX (jf Gw LW LX)<|ju (g1 vC) [iX<|jL [] 2 (xR (iK 0)<|iK 1) LR jZ<|ki<|jc ev [iK 0,iK 1]]) jt) jt)<|iW (lA<|xX (jf Gw (iX<|ma (wB [.bool])<|iK 0)<|iX<|ma (wB [.bool])<|iK 1)<|jf Gw (iK 0)<|iK 1) jt
def kJ:Nat->Bn
 |0=>λ_=>U
 |m+1=>Be 2 2 []<|lD<|kJ m
def abP:FS:=iW (lA<|jf (pH .LtE) (iK 0)<|iX<|jc nY [iK 0,iK 1]) jt
def nG:Bn:=Be 2 2 [] abP
abbrev Zf:=jf Fq (iX Tr) lq
abbrev TJ:=iX Zf
abbrev zC5:=jf CK (iX<|mR [jf Fq lq<|iX<|jf CK (iK 1)<|iK 3,jf CK (iK 1)<|iK 3])<|iX<|ju (g1 Kd) [iX Wr]
def wF:FS:=iW (kn 2<|ju (g1 Am) [iK 1])<|iW (ny (xS 0<|kI 0) (BD [iP 3,iP 4])<|iW (pZ 2 zC5 TJ) jt)<|iW (lA<|ju (g1 pk) [iK 2]) jt
def my:Bn:=Be 5 2 [2,3,4] wF
abbrev Wt:=iX<|jf lL (iK 3) lq
abbrev WN:=iX<|Ay (iK 2) Wt
abbrev WR:=iX<|jf lL (iX<|tE (iK 2)<|iK 3)<|iX<|ou [kI 4]
def vD:FS:=iW (kn 2 Wk)<|iW (kn 3<|jc jk [iK 0,LY])<|iW (kn 4<|jf CK (iX<|mR [fC<|.int 0,Tw,jf Fq (iX<|ma Al<|iK 1) lq,D8,fC .Ar,fC<|.str "1",ou [fC<|.int 1],jf G6 (iX<|fC<|.int 10)<|iX<|fC<|.int 29,mR [fC<|.int 1],fC<|.bl C])<|iX<|jc jk [iK 0,iX<|fC<|.int 10])<|iW (kn 5<|mR [jf lL WR WN,jf lL WR<|iX<|Ay (iK 2)<|iK 3,jf lL (iK 2)<|iX<|ou [Tw]])<|iW (kn 5<|jf lL (iK 5)<|iX<|mR [ju (g1 Am) [iK 2],fC .Ar,IM,mR [kI 4],ou [kI 2],jf lL (iX<|jf lL (iX<|tE (iK 2)<|iK 3) WN)<|iX<|ou [fC<|.int 0]])<|iW (lA<|jf CK (iK 5)<|iX<|jf CK (iX<|mR [fC<|.int 0,fC<|.int 0,fC<|.int 0,fC<|.int 1,fC<|.int 2,fC<|.int 3,fC<|.int 4,fC<|.int 5,fC<|.int 6,fC<|.int 7,fC<|.int 8])<|iX<|jc jk [iK 0,iX<|fC<|.int 11]) jt
def lz:Bn:=Be 6 2 [2,3,4,5] vD
def CT:List (au×Nat):=[("NoName",37),("NoBit",49),("NoTurning",61),("NoAnswer",73),("NoNumber",85),("NoClause",97),("NoPutting",109),("TooMany",121),("NoRiddle",133),("BadNote",145)]
def lU:XS:=Kl PD (Gr "NoTurning" (fC<|.str "that is no turning of as many names")) zNo
def lj:List D->Option Str:=Km 2 2 lU
abbrev W4:=iW (nC<|jc jQ [zw,iK 2]) jt
abbrev W7:=ju (g1 vC) [iX<|jL [1] 1 (kG<|kI 0) (iP 1) jZ<|ki<|jc nG [iK 0,iK 1]]
def RF:FS:=iW (ny mX (iP 2) W4)<|iW (lA<|jL [1] 1 (kG<|jc nS [iK 0]) (iP 1) (fT W7)<|ki<|kI 1) jt
def oK:Bn:=Be 3 2 [2] RF
def PJ:XS:=LQ mX (iP 2) W4<|vP lj [zw,iK 2]
def vQ:List D->Option Str:=Km 3 2 PJ
def yF:List (au×Nat):=[("NoTurning",61)]
def mG(ct a:List (au×Nat)):FS:=(iW (EJ (fT<|jf gIs (iK 1)<|iX<|fC .Ar) (iW (lA<|fC .Ar) jt) jt) (iW (kn 3 (mR [(ma (yB (a.map (·.2))<|JJ ct "NoName")<|iK 1),(ma (yB (a.map (·.2))<|JJ ct "NoBit")<|iK 1),(ma (yB (a.map (·.2))<|JJ ct "NoTurning")<|iK 1)])) (iW (kn 3 (jf lL (iK 3) (iX (mR [(ma (yB (a.map (·.2))<|JJ ct "NoAnswer")<|iK 1),(ma (yB (a.map (·.2))<|JJ ct "NoNumber")<|iK 1),(ma (yB (a.map (·.2))<|JJ ct "NoClause")<|iK 1)])))) (iW (kn 3 (jf lL (iK 3) (iX (mR [(ma (yB (a.map (·.2))<|JJ ct "NoPutting")<|iK 1),(ma (yB (a.map (·.2))<|JJ ct "TooMany")<|iK 1),(ma (yB (a.map (·.2))<|JJ ct "NoRiddle")<|iK 1)])))) (iW (nC (md 3 (ma (yB (a.map (·.2))<|JJ ct "BadNote")<|iK 1))) (iW (EJ (E9 (uI (fT (ma (Vs (a.map (·.2)))<|iK 1)))<|fT<|jf J9 (iX<|ju (g1 Vq) [iX<|jL [] 1 (Ai<|iK 3) (iP 0) jZ<|ki<|ju (g1 Kd) [iK 0]]) lq) (iW (lA LU) jt) jt)<|iW (lA<|RU 3) jt))))))
def wG:FS:=iW (lA<|ju (g1 vC) [iX<|jL [0] 1 mX (iP 1) jZ<|ki<|jf (pH .LtE) (iK 0)<|iX<|jc my [iK 1,iK 0]]) jt
def mz:Bn:=Be 2 2 [] wG
abbrev Wn:=jc mz [iK 1,iK 0]
def ab5:FS:=iW (lA<|jL [1] 1 (kG<|jc mH [iK 0]) (iP 1) (fT Wn)<|ki<|kI 1) jt
def pW:Bn:=Be 2 2 [] ab5
abbrev WU:=jc kX [iK 0,iX<|jf CK (iK 1) oG]
abbrev W0:=jf Gw WG oG
abbrev zC1:=iW (kn 6 WU)<|iW (EJ (fT W0) (iW (kn 6<|jf CK (iK 2) WQ) jt) jt)<|iW (nC<|md 4<|kI 6) jt
def wH:FS:=iW (kn 4<|mR [])<|iW (ny (vB<|iX<|jc jk [iK 0,Wt]) (iP 5) zC1)<|iW (pT 4) jt
def lH:Bn:=Be 7 4 [4,5,6] wH
abbrev Wm:=kn 4<|jc mx [iK 3]
abbrev Wl:=iX<|mR [fC<|.int 3,fC<|.int 39]
abbrev Wo:=iX<|jf CK (iK 3) oG
abbrev WA:=kn 2<|jc mM [iK 0,iK 1]
abbrev Wz:=kn 6<|DQ pW [iK 3,iK 5]
abbrev WB:=fT<|jc (kJ RD) [iK 9,iK 6]
abbrev WC:=iX<|ju (g2 II) [iK 1,lq]
abbrev WD:=iX<|jc jk [iK 2,yd]
abbrev WK:=kG<|mR [kI 5,ju (g1 pk) [iK 5],kI 5]
abbrev Ze:=jf lL (iX<|ju (g1 Bj) [iK 5]) lq
abbrev WO:=iX<|Ay (iK 5)<|iX<|jf lL (iK 10) lq
abbrev TH:=iX Ze
abbrev W2:=iX<|jf Fq (iX<|fC<|.int 5) WC
abbrev W6:=iX<|jf CK Wl WD
abbrev Xf:=iX<|jf lL (iX<|tE (iK 5)<|iK 10)<|iX<|mR [jc lz [iK 2,Wo]]
abbrev zC2:=iW (kn 8<|ju (g1 BX) [iK 7])<|iW (kn 9<|jc oK [iK 3,iK 7])<|iW (EJ (E9 (uI WB)<|fT<|jf J9 (iX<|ju (g1 BX) [iK 7])<|iK 8) Gs jt)<|iW (nC<|md 9<|ou []) jt
def Aq:FS:=iW (ny (vB<|iX<|ju (g2 Of) [lq,iX<|ju (g2 II) [LW,iX<|fC<|.int 6]]) (iP 1)<|iW WA<|iW (kn 3<|jc ng [iK 2,oG,W2])<|iW Wm<|iW (kn 5<|jc lH [iK 2,iK 3,iK 4,W6])<|iW Wz<|iW (ny WK (iP 7) zC2)<|iW (kn 10<|jc jk [iK 2,TH])<|iW (kn 11<|jf lL Xf WO)<|iW (EJ (fT<|jf J9 (iX<|Mw 11<|Kh [3,11] (jc oK [iK 0,iK 1]) (vP vQ [iK 0,iK 1]) 4 1 (mG CT yF) (λz=>yF.lookup z)) yd) Gs jt) jt)<|iW (lA<|xX (jf Gw (iX<|jc oK [iX<|ou [fC<|.int 0,ou []],iX<|mR []])<|iX<|mR [ou []])<|jf Gw (iX<|jc oK [iX<|ou [fC<|.int 1,ou []],iX<|ou [ou [LU]]])<|iX<|mR [ou [fC<|.int 0]]) jt
def uJ:Bn:=Be 12 1 [1,2,3,4,5,6,7,8,9,10,11] Aq
end PV
namespace K51
open L2 PX PV
noncomputable def top(i:Nat):Stmt:=PySem.Challenge.pw_twinriddles_k51_rows_that_answers_keep.main.body.getD i<|.Pass ⟨0,0,0,0⟩
abbrev TB51:List (iJ×au):=[(393,"law.<locals>.<lambda>")]
abbrev AZ(Z:ZZ)(i:Nat):Prop:=Fz Z.K Z.mg (JW<|top i)<|top i
abbrev Ow(Z:ZZ)(k i:Nat)(a:Bn):Prop:=Oz Z k (JW<|top i) (JV<|top i) a
abbrev Nc(Z:ZZ)(k i:Nat)(a:List D->Option au):Prop:=Oy Z k (JW<|top i) (JV<|top i) a
def aS:Lean.Syntax:=XX [(`QO,3,[(0,[`xV]),(1,[`xO])]),(`QX,3,[(231,[`Zl,`xI]),(211,[`xLS,`Zq]),(0,[`x3,`xW,`x2,`x1,`x4,`x7]),(221,[`xU,`Zt,`xUB]),(111,[`Zv,`Zu,`xIf,`xCh]),(11,[`xIx,`xC,`Zx,`Zw,`Zk,`Zj,`Zm,`Zs]),(2311,[`xB,`xT]),(1,[`Zp,`Zh,`Zo,`xBo,`Zn,`Zr,`xFz]),(261,[`xE]),(2221,[`xRp,`xRf]),(2781,[`xEV]),(91,[`Zi]),(2331,[`xI2])]),(`QA,3,[(11,[`xA]),(0,[`xA0])]),(`QQ,6,[(11,[`s1]),(0,[`s0])]),(`QS,6,[(21,[`sS]),(1,[`sR,`sE]),(111,[`sI,`sF,`Br]),(211,[`sC]),(2,[`sRV]),(11,[`sT,`sW]),(0,[`sX]),(2111,[`sDP])]),(`QG,4,[(2,[`gN]),(11,[`gT])]),(`QP.mk,0,[(0,[`QR,`QD,`QJ,`QK,`QE,`QN,`UX]),(1,[`UY,`UW,`adu,`acC]),(11,[`QH])]),(`QL,3,[(11,[`xL]),(0,[`xL0])]),(`QT,3,[(111,[`ZM]),(1,[`ZE,`Ko,`tW])]),(`QC.mk,0,[(0,[`aej,`adT,`ack,`acX,`aek]),(1,[`adS,`ael,`acV,`acW]),(11,[`abL,`aef])]),(`QI,5,[(1,[`iS,`iSV]),(21,[`iR1,`iE1,`iR2,`iE]),(211,[`iZV])]),(`QW,3,[(11,[`wOr,`Zz]),(1,[`Zy,`Xl])]),(`QF,3,[(0,[`f0]),(1,[`f1])]),(`QB,6,[(1,[`bE]),(31111,[`bF])]),(`Jt,4,[(1,[`To])]),(`PZ,4,[(11,[`zI]),(451,[`zR]),(1111,[`zFr]),(1,[`zE])]),(`Kv,4,[(4221,[`zC])])]
def qS{P:Prop}(h:autoParam P aS):P:=h
def Du{Z:ZZ}{k:Nat}{st:bn}{c:kb}{fs:FS}(a:Fz Z.K Z.mg (JW st) st)(_:Tx Z.mg)(N:List Str:=loS st)(d:Bd Z k (JW st) st N (JV st) c fs:=by exact qS)(S:Bb N (JV st) (iU st):=by exact NJ)(b:KH (JW st) st (JV st):=by intro _ _ _ _ _ _;repeat' (first|exact MN rfl|refine Kz λ_=>?_)):Oz Z (k+1) (JW st) (JV st) (Be (A2 N) (JV st).length c fs):=ozB a S b d
def oyS{Z:ZZ}{k CR:Nat}{st:bn}{c:XS}(a:Fz Z.K Z.mg (JW st) st)(_:Tx Z.mg)(_:Dy Z.K Z.mg CT yF CR)(N:List Str:=loS st)(d:BdY Z k (JW st) st N c:=by exact qS)(S:Bb N (JV st) (iU st):=by exact NJ)(b:KH (JW st) st (JV st):=by intro _ _ _ _ _ _;repeat' (first|exact MN rfl|refine Kz λ_=>?_)):Oy Z (k+1) (JW st) (JV st) (Km (A2 N) (JV st).length c):=oyB a S b d
section
variable(Z:ZZ)(k:Nat)
theorem ab8(a:AZ Z 13)(T:Tx Z.mg):Ow Z (k+1) 13 mI:=Du a T
theorem ab3(a:AZ Z 14)(T:Tx Z.mg)(b:Ow Z k 13 mI):Ow Z (k+1) 14 lI:=Du a T
theorem adx(a:AZ Z 15)(T:Tx Z.mg)(b:Ow Z k 14 lI):Ow Z (k+1) 15 oS:=Du a T
theorem acF(a:AZ Z 16)(T:Tx Z.mg)(b:Ow Z k 14 lI):Ow Z (k+1) 16 pE:=Du a T
theorem acE(a:AZ Z 17)(T:Tx Z.mg)(b:Ow Z k 13 mI)(c:Ow Z k 16 pE):Ow Z (k+1) 17 nq:=Du a T
theorem ab4(a:AZ Z 18)(T:Tx Z.mg)(b:Ow Z k 15 oS):Ow Z (k+1) 18 mO:=Du a T
theorem Nn(a:AZ Z 19)(T:Tx Z.mg):Ow Z (k+1) 19 pD:=Du a T
theorem yw(a:AZ Z 20)(T:Tx Z.mg)(b:Ow Z k 19 pD):Ow Z (k+1) 20 nk:=Du a T
theorem Nm(a:AZ Z 21)(T:Tx Z.mg)(c:Ow Z k 18 mO)(b:Ow Z k 20 nk):Ow Z (k+1) 21 tH:=Du a T
theorem abl(a:AZ Z 22)(T:Tx Z.mg):Ow Z (k+1) 22 nH:=Du a T
theorem acG(a:AZ Z 23)(T:Tx Z.mg)(b:Ow Z k 22 nH)(c:Ow Z k 21 tH):Ow Z (k+1) 23 nS:=Du a T
theorem abx(a:AZ Z 25)(T:Tx Z.mg)(b:Ow Z k 17 nq):Ow Z (k+1) 25 kD:=Du a T
theorem xJ{CR:Nat}(a:AZ Z 26)(T:Tx Z.mg)(c:Dy Z.K Z.mg CT yF CR)(b:Ow Z k 25 kD):Nc Z (k+1) 26 lj:=oyS a T c
theorem xP(a:AZ Z 26)(T:Tx Z.mg)(b:Ow Z k 25 kD):Ow Z (k+1) 26 jQ:=Du a T
theorem Q6(a:AZ Z 28)(T:Tx Z.mg):Ow Z (k+1) 28 ui:=Du a T
theorem abt(a:AZ Z 27)(T:Tx Z.mg)(b:Ow Z k 26 jQ)(d:Ow Z k 28 ui)(c:Ow Z k 19 pD):Ow Z (k+1) 27 nY:=Du a T
theorem ab2(a:AZ Z 30)(T:Tx Z.mg)(b:Ow Z k 27 nY):Ow Z (k+1) 30 nG:=Du a T
theorem PH{CR:Nat}(a:AZ Z 31)(T:Tx Z.mg)(f:Dy Z.K Z.mg CT yF CR)(b:Ow Z k 26 jQ)(e:Ow Z k 23 nS)(d:Ow Z k 30 nG)(c:Nc Z k 26 lj):Nc Z (k+1) 31 vQ:=oyS a T f
theorem Q5(a:AZ Z 31)(T:Tx Z.mg)(b:Ow Z k 26 jQ)(d:Ow Z k 23 nS)(c:Ow Z k 30 nG):Ow Z (k+1) 31 oK:=Du a T
theorem zY(a:AZ Z 33)(T:Tx Z.mg):Ow Z (k+1) 33 lW:=Du a T
theorem ab0(a:AZ Z 34)(T:Tx Z.mg)(b:Ow Z k 33 lW):Ow Z (k+1) 34 mM:=Du a T
theorem ab6(a:AZ Z 35)(T:Tx Z.mg):Ow Z (k+1) 35 jk:=Du a T
abbrev uG(Z:ZZ)(k:Nat):Prop:=Rf Z (top 36) ["_law_call","_law_error","e","_law_sorts"] "_law_refused" "_law_call" "RiddleError" "_law_error" "e" 1 2 k [1,2,3] (mG CT yF) (λz=>yF.lookup z)
theorem abj:KH "_law_refused" (top 36) ["_law_call"]:=λ_ _ _ _ _ _=>Kz λ_=>MN I
theorem zW{CR:Nat}(a:AZ Z 36)(T:Tx Z.mg)(c:Dy Z.K Z.mg CT yF CR):uG Z k:=by
 have S:Bb ["_law_call","_law_error","e","_law_sorts"] ["_law_call"] (iU<|top 36):=NJ;obtain⟨f,e,m,F⟩:=a;refine⟨f,e,CR,F,F.binds abj,m,λX g=>?_,c.ci⟩;subst g;refine⟨S,by decide,rfl,rfl,by decide,by decide,rfl,rfl,rfl,rfl,c.re,by decide,_,_,_,_,_,_,_,_,_,_,_,rfl,λd A b s Q L l i=>?_⟩;have j:=S.nd;have n:=i.un;have o:un (A.deeper<|aV "_law_refused" (iU<|top 36) s.heap.objs.size f d) 60:=by unfold un;omega
 refine⟨rfl,rfl,QS.h (show QS _ _ _ _ _ _ from(sS j x1)),QQ.h (show QQ _ _ _ _ _ (mG CT yF)from qS)⟩
theorem abw(a:AZ Z 37)(T:Tx Z.mg)(b:Ow Z k 35 jk):Ow Z (k+1) 37 nh:=Du a T
theorem zV(a:AZ Z 38)(T:Tx Z.mg)(b:Ow Z k 35 jk):Ow Z (k+1) 38 kX:=Du a T
theorem yv(a:AZ Z 39)(T:Tx Z.mg):Ow Z (k+1) 39 ml:=Du a T
theorem wj(a:AZ Z 40)(T:Tx Z.mg)(b:Ow Z k 39 ml):Ow Z (k+1) 40 kh:=Du a T
theorem wk(a:AZ Z 41)(T:Tx Z.mg):Ow Z (k+1) 41 my:=Du a T
theorem abv(a:AZ Z 42)(T:Tx Z.mg)(b:Ow Z k 40 kh):Ow Z (k+1) 42 nZ:=Du a T
theorem abu(a:AZ Z 43)(T:Tx Z.mg)(e:Ow Z k 35 jk)(c:Ow Z k 37 nh)(b:Ow Z k 38 kX)(d:Ow Z k 42 nZ):Ow Z (k+1) 43 ng:=Du a T
theorem adw(a:AZ Z 44)(T:Tx Z.mg):Ow Z (k+1) 44 qI:=Du a T
theorem ur(a:AZ Z 45)(T:Tx Z.mg)(b:Ow Z k 44 qI):Ow Z (k+1) 45 lR:=Du a T
theorem vz(a:AZ Z 46)(T:Tx Z.mg):Ow Z (k+1) 46 mf:=Du a T
theorem zZ(a:AZ Z 47)(T:Tx Z.mg)(c:Ow Z k 46 mf)(b:Ow Z k 45 lR):Ow Z (k+1) 47 mH:=Du a T
theorem uv(a:AZ Z 48)(T:Tx Z.mg):Ow Z (k+1) 48 lS:=Du a T
theorem ab1(a:AZ Z 49)(T:Tx Z.mg)(b:Ow Z k 40 kh):Ow Z (k+1) 49 oM:=Du a T
theorem wg(a:AZ Z 50)(T:Tx Z.mg)(d:Z.mg "dict"=U)(b:Ow Z k 48 lS)(c:Ow Z k 49 oM):Ow Z (k+1) 50 mx:=Du a T
theorem vt(a:AZ Z 51)(T:Tx Z.mg)(b:Ow Z k 38 kX)(c:Ow Z k 35 jk):Ow Z (k+1) 51 lz:=Du a T
theorem wm(a:AZ Z 52)(T:Tx Z.mg)(b:Ow Z k 41 my):Ow Z (k+1) 52 mz:=Du a T
theorem ab7(a:AZ Z 53)(T:Tx Z.mg)(c:Ow Z k 47 mH)(b:Ow Z k 52 mz):Ow Z (k+1) 53 pW:=Du a T
theorem wo(a:AZ Z 54)(T:Tx Z.mg)(c:Ow Z k 35 jk)(b:Ow Z k 38 kX):Ow Z (k+1) 54 lH:=Du a T
theorem acn:KH "_law_same" (top 55) ["_law_found","_law_due"]:=λ_ _ _ _ _ _=>Kz λ_=>Kz λ_=>MN I
theorem abZ{c:Bn}(a:AZ Z 55)(T:Tx Z.mg)(b:Ow Z k 55 c):Ow Z (k+1) 55 (Be 2 2 []<|lD c):=Du a T
theorem yh(a:AZ Z 55)(T:Tx Z.mg):∀m,Ow Z m 55<|kJ m
 |0=>oz0 a acn
 |m+1=>abZ Z _ a T (yh a T m)
theorem VY:KH "law" (top 56) ["_law_script"]:=λ_ _ _ _ _ _=>Kz λ_=>MN I
theorem U6{f c:iJ}{r:mT}(F:J3 Z.K "law" "law" (top 56) f r)(u:r.code=.ref c)(t:PySem.W.CodeHd Z.base c 393)(s:Z.base.BuiltinsAt Z.mg 393)(T:Tx Z.mg)(n:Z.mg "repr"=U)(h:Ow Z (k+2) 34 mM)(g:Ow Z (k+2) 43 ng)(d:Ow Z (k+2) 50 mx)(v:Ow Z (k+2) 35 jk)(b:Ow Z (k+2) 54 lH)(l:Ow Z (k+2) 53 pW)(i:Ow Z k 31 oK)(m:Ow Z (k+2) 55 (kJ RD))(a:Ow Z (k+2) 51 lz)(e:uG Z k)(p:Nc Z k 31 vQ):DV Z.P Z.w Z.K Z.mg Z.base GP (k+3) f r ["_law_script"] (spT TB51<|J7 Z.K uJ):=by have S:Bb ["_law_script","_law_k","_law_state_here","_law_riddle_here","_law_likes","_law_rows","_law_due","_law_some","_law_kept","_law_found","_law_at","_law_bad"] ["_law_script"] (iU<|top 56):=NJ;have o:=i.up (j:=k+2) (by omega);refine aaJ (q:="law.<locals>.<lambda>") (asg:=[1,2,3,4,5,6,7,8,9,10,11]) (fs:=Aq) F u t s (by decide) (by decide) S λ_ _ _ _ _ _ _ _ _ _ _ _ _ _ _ _=>?_;exact qS
end
def all_mk{l:PySem.W.OpenLaw}{w:je}{K:jl}{a:lE}{fa:iJ}(dB:a "law"=A9 (.ref fa))(T:Tx a)
  (a0:Fz K a "is_whole" (top 13))
  (a1:Fz K a "is_number" (top 14))
  (a2:Fz K a "is_bit" (top 15))
  (a3:Fz K a "is_name" (top 16))
  (a4:Fz K a "is_sign" (top 17))
  (a5:Fz K a "is_answer" (top 18))
  (a6:Fz K a "is_so" (top 19))
  (a7:Fz K a "keeps_clause" (top 20))
  (a8:Fz K a "keeps" (top 21))
  (a9:Fz K a "all_answers" (top 22))
  (a10:Fz K a "answers" (top 23))
  (a11:Fz K a "is_turning" (top 25))
  (j:Fz K a "check_turning" (top 26))
  (a13:Fz K a "back" (top 28))
  (a14:Fz K a "led_answer" (top 27))
  (a15:Fz K a "keeps_row" (top 30))
  (k:Fz K a "left" (top 31))
  (a17:Fz K a "_law_cell_at" (top 33))
  (a18:Fz K a "_law_state" (top 34))
  (a19:Fz K a "_law_take" (top 35))
  (a20:Fz K a "_law_refused" (top 36))
  (a21:Fz K a "_law_clause" (top 37))
  (a22:Fz K a "_law_turning" (top 38))
  (a23:Fz K a "_law_led_sign" (top 39))
  (a24:Fz K a "_law_led_clause" (top 40))
  (a25:Fz K a "_law_led_answer" (top 41))
  (a26:Fz K a "_law_closed" (top 42))
  (a27:Fz K a "_law_riddle" (top 43))
  (a28:Fz K a "_law_so" (top 44))
  (a29:Fz K a "_law_keeps_clause" (top 45))
  (a30:Fz K a "_law_all_answers" (top 46))
  (a31:Fz K a "_law_answers" (top 47))
  (a32:Fz K a "_law_all_turnings" (top 48))
  (a33:Fz K a "_law_leads" (top 49))
  (a34:Fz K a "_law_likenesses" (top 50))
  (a35:Fz K a "_law_bad_turning" (top 51))
  (a36:Fz K a "_law_keeps_rows" (top 52))
  (a37:Fz K a "_law_left" (top 53))
  (a38:Fz K a "_law_drawn_rows" (top 54))
  (a39:Fz K a "_law_same" (top 55))
  (m:NA K a "law" (top 56) 393)
  (b:a "dict"=AR)
  (d:a "repr"=AR)
  (o:Dy K a CT yF 24)
  :∃n:mT,(∀(s:iN)(v:iQ),gu s n ⟨[v],[]⟩ [("_law_script",v)])/\(∀p∈TB51,∃c,PySem.W.codeHdIn K c p.1=Ap)/\∀base:jg,K.In base->base.Ns aj a->(∀p∈TB51,base.BuiltinsAt a p.1)->DV l.prog w K a base GP 12 fa n ["_law_script"] (spT TB51<|J7 K uJ):=by
 obtain⟨n,c,F,hc,hC,hb⟩:=aaG m dB VY;refine⟨n,hb,aC m.cd<|aN,λbase KB _ BB=>?_⟩
 let z:ZZ:=⟨l.prog,w,K,a,base⟩
 have Z:=ab8 z 0 a0 T;have O1:=ab3 z 1 a1 T Z.up;have O2:=adx z 2 a2 T O1.up;have O3:=acF z 2 a3 T O1.up;have O4:=acE z 3 a4 T Z.up O3.up;have O5:=ab4 z 3 a5 T O2.up;have O6:=Nn z 0 a6 T;have O7:=yw z 1 a7 T O6.up;have O8:=Nm z 4 a8 T O5.up O7.up;have O9:=abl z 0 a9 T;have f:=acG z 5 a10 T O9.up O8.up;have g:=abx z 4 a11 T O4.up;have X:=xP z 5 j T g.up;have R:=xJ z 5 j T o g.up;have q:=Q6 z 0 a13 T;have r:=abt z 6 a14 T X.up q.up O6.up;have h:=ab2 z 7 a15 T r.up;have t:=Q5 z 8 k T X.up f.up h.up;have S:=PH z 8 k T o X.up f.up h.up R.up;have u:=zY z 0 a17 T;have x:=ab0 z 1 a18 T u.up;have e:=ab6 z 0 a19 T;have y:=zW z 9 a20 T o;have A:=abw z 1 a21 T e.up;have V:=zV z 1 a22 T e.up;have B:=yv z 0 a23 T;have i:=wj z 1 a24 T B.up;have C:=wk z 0 a25 T;have E:=abv z 2 a26 T i.up;have H:=abu z 3 a27 T e.up A.up V.up E.up;have I:=adw z 0 a28 T;have L:=ur z 1 a29 T I.up;have O:=vz z 0 a30 T;have Q:=zZ z 2 a31 T O.up L.up;have G:=uv z 0 a32 T;have J:=ab1 z 2 a33 T i.up;have M:=wg z 3 a34 T b G.up J.up;have N:=vt z 2 a35 T V.up e.up;have U:=wm z 1 a36 T C.up;have Y:=ab7 z 3 a37 T Q.up U.up;have D:=wo z 2 a38 T e.up V.up;have P:=yh z a39 T RD;exact U6 z 9 F hc (PySem.W.codeHd_of_K KB hC) (BB _ jW) T d x.up H.up M.up e.up D.up Y.up t.up P.up N.up y S.up
end K51
namespace PV
open L2 PX
@[simp] theorem aa8(d:D)(a:Dn):fC d a=Y ((d,C),a):=rfl
@[simp] theorem aaa(f:F)(a:Dn):iX f a=(f a).bind λp=>Y (.val p.1,p.2):=rfl
@[simp] theorem Y3(x:D×Bool)(a:Dn):iK 0 (Y x::a)=Y (.slot 0,Y x::a):=rfl
@[simp] theorem Y2(a:Sl)(x:D×Bool)(b:Dn):iK 1 (a::Y x::b)=Y (.slot 1,a::Y x::b):=rfl
@[simp] theorem Y1(a b:Sl)(x:D×Bool)(c:Dn):iK 2 (a::b::Y x::c)=Y (.slot 2,a::b::Y x::c):=rfl
@[simp] theorem Y0(a b c:Sl)(x:D×Bool)(d:Dn):iK 3 (a::b::c::Y x::d)=Y (.slot 3,a::b::c::Y x::d):=rfl
@[simp] theorem YZ(a b c d:Sl)(x:D×Bool)(e:Dn):iK 4 (a::b::c::d::Y x::e)=Y (.slot 4,a::b::c::d::Y x::e):=rfl
@[simp] theorem YY(a b c d e:Sl)(x:D×Bool)(f:Dn):iK 5 (a::b::c::d::e::Y x::f)=Y (.slot 5,a::b::c::d::e::Y x::f):=rfl
@[simp] theorem YX(a b c d e f:Sl)(x:D×Bool)(g:Dn):iK 6 (a::b::c::d::e::f::Y x::g)=Y (.slot 6,a::b::c::d::e::f::Y x::g):=rfl
@[simp] theorem YW(a b c d e f g:Sl)(x:D×Bool)(h:Dn):iK 7 (a::b::c::d::e::f::g::Y x::h)=Y (.slot 7,a::b::c::d::e::f::g::Y x::h):=rfl
@[simp] theorem YV(a b c d e f g h:Sl)(x:D×Bool)(i:Dn):iK 8 (a::b::c::d::e::f::g::h::Y x::i)=Y (.slot 8,a::b::c::d::e::f::g::h::Y x::i):=rfl
@[simp] theorem zM(δ:Dn)(r:D×Bool):res δ (.val r)=Y r.1:=rfl
@[simp] theorem Z9(x:D×Bool)(a:Dn):res (Y x::a) (.slot 0)=Y x.1:=rfl
@[simp] theorem Z8(a:Sl)(x:D×Bool)(b:Dn):res (a::Y x::b) (.slot 1)=Y x.1:=rfl
@[simp] theorem Z7(a b:Sl)(x:D×Bool)(c:Dn):res (a::b::Y x::c) (.slot 2)=Y x.1:=rfl
@[simp] theorem Z6(a b c:Sl)(x:D×Bool)(d:Dn):res (a::b::c::Y x::d) (.slot 3)=Y x.1:=rfl
@[simp] theorem Z5(a b c d:Sl)(x:D×Bool)(e:Dn):res (a::b::c::d::Y x::e) (.slot 4)=Y x.1:=rfl
@[simp] theorem Z4(a b c d e:Sl)(x:D×Bool)(f:Dn):res (a::b::c::d::e::Y x::f) (.slot 5)=Y x.1:=rfl
@[simp] theorem Z3(a b c d e f:Sl)(x:D×Bool)(g:Dn):res (a::b::c::d::e::f::Y x::g) (.slot 6)=Y x.1:=rfl
@[simp] theorem Z2(a b c d e f g:Sl)(x:D×Bool)(h:Dn):res (a::b::c::d::e::f::g::Y x::h) (.slot 7)=Y x.1:=rfl
@[simp] theorem Z1(a b c d e f g h:Sl)(x:D×Bool)(i:Dn):res (a::b::c::d::e::f::g::h::Y x::i) (.slot 8)=Y x.1:=rfl
@[simp] theorem aal(g:D->Option (D×Bool))(a:FO)(b:Dn):ma g a b=(a b).bind λp=>(res p.2 p.1).bind λx=>(g x).bind λz=>Y (z,p.2):=rfl
@[simp] theorem aak(g:D->D->Option (D×Bool))(a b:FO)(c:Dn):jf g a b c=(a c).bind λp=>(b p.2).bind λq=>(res q.2 p.1).bind λx=>(res q.2 q.1).bind λy=>(g x y).bind λz=>Y (z,q.2):=rfl
@[simp] theorem XN(a:Dn):kj [] a=Y ([],a):=rfl
@[simp] theorem Y6(f:FO)(fs:List FO)(a:Dn):kj (f::fs) a=(f a).bind λp=>(kj fs p.2).bind λq=>Y (p.1::q.1,q.2):=rfl
@[simp] theorem Qb(a:Dn):vp a []=Y []:=rfl
@[simp] theorem Up(a:Dn)(o:Bq)(os:List Bq):vp a (o::os)=(res a o).bind λd=>(vp a os).bind λl=>Y (d::l):=rfl
@[simp] theorem Y5(g:List D->Option (D×Bool))(fs:List FO)(a:Dn):ju g fs a=(kj fs a).bind λp=>(vp p.2 p.1).bind λb=>(g b).bind λz=>Y (z,p.2):=rfl
@[simp] theorem YU:oZ []=Y []:=rfl
@[simp] theorem ZS(r:D×Bool)(os:List Bq):oZ (.val r::os)=(oZ os).map (r.1:: ·):=rfl
@[simp] theorem aai(fs:List F)(b:Dn):ou fs b=(kj (fs.map iX) b).bind λp=>(oZ p.1).bind λa=>if (A2 a)<=sizeLine then Y ((.tup a,C),p.2)else U:=rfl
@[simp] theorem Ur(fs:List F)(b:Dn):mR fs b=(kj (fs.map iX) b).bind λp=>(oZ p.1).bind λa=>if (A2 a)<=sizeLine then Y ((.lst a,J),p.2)else U:=rfl
@[simp] theorem aa1(b o:Bool)(a:Dn):Kc ((.bl b,o),a)=Y (b,a):=rfl
@[simp] theorem aa7(f:F)(a:Dn):fT f a=(f a).bind Kc:=rfl
@[simp] theorem Y7(f g:FT)(a:Dn):Fb f g a=(f a).bind λp=>if p.1=J then g p.2 else Y (C,p.2):=rfl
@[simp] theorem aaj(f g:FT)(a:Dn):E9 f g a=(f a).bind λp=>if p.1=J then Y (J,p.2)else g p.2:=rfl
@[simp] theorem Y4(f:FT)(a:Dn):uI f a=(f a).bind λp=>Y (!p.1,p.2):=rfl
@[simp] theorem MH(f g:F)(a:Dn):xX f g a=(f a).bind λp=>(Kc p).bind λq=>if q.1=J then g q.2 else Y ((.bl C,C),q.2):=rfl
@[simp] theorem aam(f:F)(a:Dn):VG f a=(f a).bind λp=>(Kc p).bind λq=>Y ((.bl (!q.1),C),q.2):=rfl
@[simp] theorem SD(t:FT)(f g:F)(δ:Dn):M5 t f g δ=(t δ).bind λp=>if p.1=J then f p.2 else g p.2:=rfl
@[simp] theorem ZY(a:Dn):jt a=Y (.nx a):=rfl
noncomputable def nxt(g:FS):Out->Option Out
 |.nx a=>g a
 |o=>Y o
@[simp] theorem aac(g:FS)(a:Dn):nxt g (.nx a)=g a:=rfl
@[simp] theorem aab(g:FS)(r:D×Bool)(a:Dn):nxt g (.rt r a)=Y (.rt r a):=rfl
@[simp] theorem GI(f g:FS)(a:Dn):iW f g a=(f a).bind (nxt g):=by
 unfold iW
 cases f a with
 |none=>rfl
 |some o=>cases o<;>rfl
@[simp] theorem HV(f:F)(δ:Dn):nC f δ=(f δ).bind λp=>Y (.nx p.2):=rfl
@[simp] theorem ZX(f:F)(a:Dn):lA f a=(f a).bind λp=>Y (.rt p.1 p.2):=rfl
@[simp] theorem aaT(t:FT)(f g:FS)(a:Dn):EJ t f g a=(t a).bind λp=>if p.1=J then f p.2 else g p.2:=rfl
@[simp] theorem ZW(i:Nat)(f:F)(a:Dn):kn i f a=(f a).bind λp=>if i<(A2 p.2)then Y (.nx<|p.2.set i<|Y p.1)else U:=rfl
@[simp] theorem ZV(b:Tg)(f:F)(c:Dn):Ue b f c=(f c).bind λp=>(b p.1.1 p.2).bind λa=>Y (.nx a):=rfl
@[simp] theorem aa6(g:D->Option (D×Bool))(d:D):g1 g [d]=g d:=rfl
@[simp] theorem aa5(g:D->D->Option (D×Bool))(d e:D):g2 g [d,e]=g d e:=rfl
@[simp] theorem XQ(i j:Int):lL (.int i) (.int j)=Y (.int<|i+j,C):=rfl
@[simp] theorem aaS(i j:Int):PX.Fq (.int i) (.int j)=Y (.int<|i-j,C):=rfl
@[simp] theorem aaU(i:Int):Al (.int i)=Y (.int (-i),C):=rfl
@[simp] theorem aa2(i:Int):Ao (.int i)=Y (.int (if i<0 then -i else i),C):=rfl
@[simp] theorem Uq(l:List D):Bj (.tup l)=Y (.int<|A2 l,C):=rfl
@[simp] theorem aaf(l:List D):Bj (.lst l)=Y (.int<|A2 l,C):=rfl
@[simp] theorem ZU(l:List D):pk (.lst l)=Y (.tup l,C):=rfl
@[simp] theorem ZT(l:List D):pk (.tup l)=Y (.tup l,C):=rfl
@[simp] theorem aad(l:List D):Am (.tup l)=Y (.lst l,J):=rfl
@[simp] theorem aae(l:List D):Am (.lst l)=Y (.lst l,J):=rfl
@[simp] theorem aah(b:Bool):Kd (.bl b)=Y (.int (if b then 1 else 0),C):=rfl
@[simp] theorem aag(b:Int):Kd (.int b)=Y (.int b,C):=rfl
@[simp] theorem aaY(i j:Int):Of (.int i) (.int j)=Y (.int (if j>i then j else i),C):=rfl
@[simp] theorem aaX(i j:Int):II (.int i) (.int j)=Y (.int (if j<i then j else i),C):=rfl
@[simp] theorem aaZ(a:List Ty)(d:D):wB a d=Y (.bl<|a.any<|Hf d,C):=rfl
@[simp] theorem MI(i j:Int):Gw (.int i) (.int j)=Y (.bl<|i==j,C):=by unfold Gw;rw[jb<|by simp[D.dep]];simp[D.Ba]
@[simp] theorem aaV(i j:Int):J9 (.int i) (.int j)=Y (.bl (!(i==j)),C):=by unfold J9;rw[jb<|by simp[D.dep]];simp[D.Ba]
@[simp] theorem aa0(i j:Bool):Gw (.bl i) (.bl j)=Y (.bl<|i==j,C):=by unfold Gw;rw[jb<|by simp[D.dep]];simp[D.Ba]
@[simp] theorem aaW(i j:Bool):J9 (.bl i) (.bl j)=Y (.bl (!(i==j)),C):=by unfold J9;rw[jb<|by simp[D.dep]];simp[D.Ba]
@[simp] theorem XM(i j:Int):pH .Lt (.int i) (.int j)=Y (.bl<|decide<|i<j,C):=by simp[pH,nK,lK,D.dep]
@[simp] theorem aa3(i j:Int):pH .LtE (.int i) (.int j)=Y (.bl<|decide<|i<=j,C):=by simp[pH,nK,lK,D.dep]
@[simp] theorem MF(i j:Int):pH .Gt (.int i) (.int j)=Y (.bl<|decide<|i>j,C):=by simp[pH,nK,lK,D.dep]
@[simp] theorem aa4(i j:Int):pH .GtE (.int i) (.int j)=Y (.bl<|decide<|i>=j,C):=by simp[pH,nK,lK,D.dep]
@[simp] theorem Dp(f:F)(δ:Dn):kG f δ=(f δ).bind λp=>match p.1.1 with|.lst l=>Y (l,p.2)|.tup l=>Y (l,p.2)|_=>U:=rfl
@[simp] theorem Z0(b:Dr)(c:Tg)(a:FS)(d:Dn):ny b c a d=(b d).bind λp=>mB c a p.1 p.2:=rfl
@[simp] theorem wc(a:Dn):jZ a=Y (J,a):=rfl
@[simp] theorem yK(f:F)(a:List D)(b:Dn):ki f a b=(f b).bind λp=>if (A2 a)<sizeLine then Y (a++[p.1.1],p.2)else U:=rfl
def yI(h:n<=10000):n<=sizeLine:=by rw[kK];lia
def PY(h:n<=10000):n<sizeLine:=by rw[kK];lia
noncomputable abbrev enc(t:iZ):D×Bool:=(.tup<|t.map .int,C)
noncomputable abbrev ii(n:Int):Sl:=Y (.int n,C)
abbrev eN(t:iZ):Sl:=Y<|enc t
noncomputable abbrev pI(n:Int):D×Bool:=(.int n,C)
noncomputable abbrev pS(a:Int)(b:Bool):D×Bool:=(.lst [.int a,.bl b],J)
def Jp(i:Nat):([i]:List Nat).Nodup:=by simp
noncomputable abbrev B1(a:Int)(b:Bool):Sl:=Y (.lst [.int a,.bl b],J)
noncomputable abbrev Bc(l:iZ):Sl:=Y (.lst<|l.map .int,J)
@[simp] theorem Qc(b:Bn)(fs:List FO)(c:Dn):jc b fs c=(kj fs c).bind λp=>(kf p.2 p.1).bind λa=>if(jq p.1 a).Nodup then(b a).bind λq=>Y (q.1,wb p.1 a q.2 p.2)else U:=rfl
@[simp] theorem tY(δ:Dn):kf δ []=Y []:=rfl
@[simp] theorem XO(b:Dn)(o:Bq)(os:List Bq):kf b (o::os)=(yp b o).bind λa=>(kf b os).bind λl=>Y (a::l):=rfl
@[simp] theorem aan(a:Dn)(r:D×Bool):yp a (.val r)=Y (r.1,C):=rfl
@[simp] theorem aao(a:Dn)(i:Nat):yp a (.slot i)=(a[i]?).join:=rfl
def tR(a:Int)(b:Bool)(m:Int)(c:0<m)(d:m<1073741824):
  ∃v e,0<=v/\v<m/\jk [pS a b,pI m]=Y ((.int v,C),[Y (.lst [.int e,.bl b],J),ii m]):=by
 cases b
 .have h1:∀x:Int, -18446744073709551616<x%2147483647/\x%2147483647<18446744073709551616:=λx=>by lia
  have f:∀x:Int, -18446744073709551616<x%2147483629/\x%2147483629<18446744073709551616:=λx=>by lia
  simp only[jk,tD];simp[Be,CK,Hq,GN,yA,gI,Og,rQ,G6,pZ,pT,jD,jq,wb,KN,yG,E5,c,d,h1,f];exact⟨FK _ (by lia),FL _ c⟩
 simp only[jk,tD];simp[Be,CK,Hq,GN,yA,gI,Og,rQ,G6,pZ,pT,jD,jq,wb,KN,yG,E5,c,d];exact⟨FK _ (by lia),FL _ c⟩
theorem rC(x y:Int):(x==y)=decide (x=y):=rfl
def kx{g:List D->Option (D×Bool)}{fs:List FO}{δ a:Dn}{os:List Bq}{ds:List D}{z:D×Bool}(h1:kj fs δ=Y (os,a))(b:vp a os=Y ds)(c:g ds=Y z):ju g fs δ=Y (z,a):=by unfold ju;rw[h1];simp only[jH];rw[b];simp only[jH];rw[c];rfl
def ko(h1:(A2 args)=np/\np<=n/\(args.zipIdx.all λp=>!(p.1.2&&asg.contains p.2))=J)(a:f (args.map Y++ah (n-np) U)=Y (.rt r δ)):Be n np asg f args=Y (r,jD args δ):=by unfold Be;rw[jb h1,a]
def iO(h:f δ=Y (.nx δ1)):iW f g δ=g δ1:=by unfold iW;rw[h];rfl
def jJ{r}(h:f δ=Y (.rt r δ1)):iW f g δ=Y (.rt r δ1):=by unfold iW;rw[h];rfl
def la{r}(h:f δ=Y (r,δ1)):lA f δ=Y (.rt r δ1):=by unfold lA;rw[h];rfl
def jK{r}(h:f δ=Y (r,δ1))(a:i<A2 δ1):kn i f δ=Y (.nx<|δ1.set i<|Y r):=by unfold kn;rw[h];simp only[jH];rw[jb a]
def lY(h:f δ=Y ((.bl b,o),δ1)):fT f δ=Y (b,δ1):=by unfold fT;rw[h];rfl
def jd{r}(h:f δ=Y (r,δ1)):iX f δ=Y (.val r,δ1):=by unfold iX;rw[h];rfl
def jM(h1:a δ=Y (o1,δ1))(b:fb δ1=Y (o2,δ2))(c:res δ2 o1=Y x)(d:res δ2 o2=Y y)(e:g x y=Y z):jf g a fb δ=Y (z,δ2):=by unfold jf;rw[h1];simp only[jH];rw[b];simp only[jH];rw[c,d];simp only[jH];rw[e];rfl
def jY{b:Bn}{fs:List FO}{δ δ1:Dn}{os:List Bq}{args:List (D×Bool)}{r:D×Bool}{a:Dn}(h1:kj fs δ=Y (os,δ1))(c:kf δ1 os=Y args)(d:(jq os args).Nodup)(e:b args=Y (r,a)):jc b fs δ=Y (r,wb os args a δ1):=by unfold jc;rw[h1];simp only[jH];rw[c];simp only[jH];rw[jb d,e];rfl
def VF(h:f δ=Y (C,δ1)):E9 f g δ=g δ1:=by unfold E9;rw[h];rfl
def AA(h:f δ=Y (b,δ1)):uI f δ=Y (!b,δ1):=by unfold uI;rw[h];rfl
def pU(h:t δ=Y (C,δ1)):EJ t f g δ=g δ1:=by unfold EJ;rw[h];rfl
def rM(h:t δ=Y (J,δ1)):EJ t f g δ=f δ1:=by unfold EJ;rw[h];rfl
def mS{b fb:FO}{δ δ1 a:Dn}{o1 o2:Bq}(h1:b δ=Y (o1,δ1))(c:fb δ1=Y (o2,a)):kj [b,fb] δ=Y ([o1,o2],a):=by simp only[kj];rw[h1];simp only[jH];rw[c];rfl
def qa{a:FO}{δ δ1:Dn}{o1:Bq}(h1:a δ=Y (o1,δ1)):kj [a] δ=Y ([o1],δ1):=by simp only[kj];rw[h1];rfl
def kO(h:fi δ=Y (ds,δ1)):ny fi tg fb δ=mB tg fb ds δ1:=by unfold ny;rw[h];rfl
def pA{os}(h1:b δ=Y (o1,δ1))(c:kj fs δ1=Y (os,a)):kj (b::fs) δ=Y (o1::os,a):=by simp only[kj];rw[h1];simp only[jH];rw[c];rfl
def IL{fs:List F}{δ δ1:Dn}{os:List Bq}{a:List D}(h1:kj (fs.map iX) δ=Y (os,δ1))(b:oZ os=Y a)(c:(A2 a)<=sizeLine):mR fs δ=Y ((.lst a,J),δ1):=by unfold mR;rw[h1];simp only[jH];rw[b];simp only[jH];rw[jb c]
def R3(a:iZ)(k:Nat):∃c,lW [(.lst<|a.map .int,C),pI k]=Y ((.int c,C),[Y (.lst<|a.map .int,C),ii k]):=by
 by_cases hk:k<A2 a
 .refine⟨a[k],?_⟩;simp[lW,pv,Be,CK,Hq,GN,jD,hk]
 refine⟨0,?_⟩;simp[lW,pv,Be,jD,hk]
def SN:G6 (.int 10) (.int 18)=ii 1000000000000000000:=by
 have:yG 10 18:=by unfold yG;decide+kernel
 show((if yG 10 18 then Y (D.int (10^(18:Int).toNat))else U).map λz=>(z,C))=_;rw[jb this];rfl
def X1:G6 (.int 10) (.int 29)=ii 100000000000000000000000000000:=by
 have:yG 10 29:=by unfold yG;decide+kernel
 show((if yG 10 29 then Y (D.int (10^(29:Int).toNat))else U).map λz=>(z,C))=_;rw[jb this];rfl
def aeM(d:iZ)(k:Nat):∃a b,mM [(.lst<|d.map .int,C),pI k]=Y ((.lst [.int a,.bl b],J),[Y (.lst<|d.map .int,C),ii k]):=by
 obtain⟨c,e⟩:=R3 d k;by_cases h:c>=1000000000000000000
 .refine⟨c-1000000000000000000,J,?_⟩;simp[mM,rp,Be,e,jq,wb,SN,h,kK,jD]
 refine⟨c%2147483647,C,?_⟩;simp[mM,rp,Be,e,jq,wb,SN,h,kK,jD,yA,gI]
noncomputable def st(n:Nat):List Int:=(am n).map λ(k:Nat)=>(1+(k:Int))
def T8(n:Nat):(st n).map D.int=jA 1 n:=by simp[st,jA]
noncomputable def nD:Nat->List Int->List Int->List (List Int)
 |0,_,f=>[f]
 |k+1,r,f=>(am<|A2 r).flatMap λv=>nD k (r.eraseIdx v) (f++[r.getD v 0*1])++nD k (r.eraseIdx v) (f++[r.getD v 0* -1])
theorem B7(f:Int->D):∀(l:iZ)(k:Nat),(l.map f).eraseIdx k=(l.eraseIdx k).map f
 |[],k=>by simp
 |x::l,0=>by simp
 |x::l,k+1=>by simp[B7 f l k]
def ad4{i:Nat}{f:FO}{a δ1:Dn}{o:Bq}{n l:List D}{k:Int}{j:Nat}{d:D}(b:a[i]?=Y (Y (.lst n,J)))(h1:f a=Y (o,δ1))(c:res δ1 o=Y (.int k))(e:δ1[i]?=Y (Y (.lst l,J)))(g: -(2^63)<=k/\k<2^63)(h:GN (A2 l) k=Y j)(m:l[j]?=Y d):
  Az i f a=Y ((d,C),δ1.set i<|Y (.lst<|l.eraseIdx j,J)):=by
 unfold Az;rw[b];simp only[];rw[h1];simp only[jH];rw[c,e];simp only[];rw[jb g,h];simp only[jH];rw[m];rfl
def pB{i:Nat}{f:F}{δ δ1:Dn}{r:D×Bool}{l0 l:List D}(a:δ[i]?=Y (Y (.lst l0,J)))(h1:f δ=Y (r,δ1))(b:δ1[i]?=Y (Y (.lst l,J)))(c:(A2 l)<sizeLine):
  md i f δ=Y ((.Ar,C),δ1.set i<|Y (.lst<|l++[r.1],J)):=by
 unfold md;rw[a];simp only[];rw[h1];simp only[jH];rw[b];simp only[];rw[jb c]
def pd{r}(h:f δ=Y (r,δ1)):nC f δ=Y (.nx δ1):=by unfold nC;rw[h];rfl
abbrev YG:F:=WX
abbrev YF:F:=Xa
abbrev fbT:FS:=iW (nC<|md 3<|jf rQ (iX YG)<|iX YF) jt
def UK(a:Int)(b:Bool)(n:Sl)(r f:iZ)(x:Sl)(i:0<A2 r)(l:(A2 r)<=5):∃v c,v<A2 r/\YG [B1 a b,n,Bc r,Bc f,x]=Y ((.int<|r.getD v 0,C),[B1 c b,n,Bc<|r.eraseIdx v,Bc f,x]):=by
 obtain⟨v,c,h,hv,e⟩:=tR a b (A2 r) (by lia) (by lia);have d:v.toNat<(A2 r):=by lia
 refine⟨v.toNat,c,d,?_⟩;have g:(Bc (r.eraseIdx v.toNat):Sl)=Y (.lst<|(r.map D.int).eraseIdx v.toNat,J):=by rw[B7]
 rw[g];refine ad4 (k:=v) (δ1:=[B1 c b,n,Bc r,Bc f,x]) I (jd (r:=(.int v,C))<|jY (δ1:=[B1 a b,n,Bc r,Bc f,x]) (os:=[.slot 0,.val (.int<|A2 r,C)]) (args:=[pS a b,pI<|A2 r]) ?_ I (show([0]:List Nat).Nodup from by decide) e) I I ⟨by lia,by lia⟩ (j:=v.toNat) ?_ ?_
 .show Y ([Bq.slot 0,Bq.val (D.int ((r.map D.int).length:Nat),C)],_)=_;rw[kd]
 .unfold GN;rw[jb h,jb<|by simpa using hv]
 simp[d]
def Uc(a:Int)(b:Bool)(n y z x:Sl):∃s c,(s=1\/s= -1)/\YF [B1 a b,n,y,z,x]=Y ((.int s,C),[B1 c b,n,y,z,x]):=by obtain⟨v,c,f,hv,e⟩:=tR a b 2 (by lia) (by lia);have d:∀δ:Dn,mR [fC<|.int 1,LU] δ=Y ((.lst [.int 1,.int (-1)],J),δ):=λδ=>rfl;refine⟨if v=0 then 1 else -1,c,by split<;>simp,?_⟩;refine jM (δ1:=[B1 a b,n,y,z,x]) (jd<|d _) (jd (δ1:=[B1 c b,n,y,z,x])<|jY (δ1:=[B1 a b,n,y,z,x]) (os:=[.slot 0,.val (.int 2,C)]) (args:=[pS a b,pI 2]) I I (show([0]:List Nat).Nodup from by decide) e) I I ?_;rcases(show v=0\/v=1 by lia)with rfl|rfl<;>rfl
def Vy(a:Int)(b:Bool)(n:Sl)(r f:iZ)(x:Sl)(j:0<A2 r)(k:(A2 r)<=5)(m:(A2 f)<=5):∃v s c,v<A2 r/\(s=1\/s= -1)/\fbT [B1 a b,n,Bc r,Bc f,x]=Y (.nx [B1 c b,n,Bc<|r.eraseIdx v,Bc<|f++[r.getD v 0*s],x]):=by
 obtain⟨v,a1,hv,e⟩:=UK a b n r f x j k;obtain⟨s,d,q,g⟩:=Uc a1 b n (Bc<|r.eraseIdx v) (Bc f) x;refine⟨v,s,d,hv,q,?_⟩
 have p:rQ (.int<|r.getD v 0) (.int s)=ii (r.getD v 0*s):=by have:E5 (r.getD v 0) s:=.inr (by lia);show((if E5 (r.getD v 0) s then Y (D.int<|r.getD v 0*s)else U).map λz=>(z,C))=_;rw[jb this];rfl
 have o:(f.map D.int).length<sizeLine:=by rw[kd];exact xa m (by decide)
 have h:=pB (i:=3) (δ:=[B1 a b,n,Bc r,Bc f,x]) (l0:=f.map .int) I (jM (jd e) (jd g) I I p) (l:=f.map .int) I o;refine(iO<|pd h).trans ?_;simp[jt,Bc]
def Yt(b:Bool)(n:Sl):∀(c:List D)(a:Int)(r f:iZ)(x:Sl),A2 c=A2 r->A2 f+A2 r<=5->
  ∃g t i j,t∈nD (A2 c) r f/\mB (iP 4) fbT c [B1 a b,n,Bc r,Bc f,x]=Y (.nx [B1 g b,n,Bc i,Bc t,j]):=by
 intro p
 induction p with
 |nil=>intro a r f x _ _;exact⟨a,f,r,x,by simp[nD],rfl⟩
 |cons d c o=>
  intro a r f x h q;simp only[kP]at h;obtain⟨v,s,a1,hv,m,e⟩:=Vy a b n r f (Y (d,C)) (by lia) (by lia) (by lia);obtain⟨g,t,i,j,k,l⟩:=o a1 (r.eraseIdx v) (f++[r.getD v 0*s]) (Y (d,C)) (by rw[yZ,jb hv];lia) (by rw[yZ,jb hv,nA];simp only[kP,rE];lia);refine⟨g,t,i,j,?_,?_⟩
  .simp only[kP,nD,uM,pQ,um];refine⟨v,hv,?_⟩;rcases m with rfl|rfl
   .exact .inl k
   exact .inr k
  unfold mB;rw[show iP 4 d [B1 a b,n,Bc r,Bc f,x]=Y [B1 a b,n,Bc r,Bc f,Y (d,C)]from I];simp only[jH];rw[e];simp only[jH];exact l
def Mv(n:Nat)(b:n<=5):JX .lst J [.int 1,.int<|(n:Int)+1]=Y (.lst<|(st n).map .int,J):=by
 have:n=0\/n=1\/n=2\/n=3\/n=4\/n=5:=by lia
 have h1:Eo 1 ((n:Int)+1):=by rcases this with rfl|rfl|rfl|rfl|rfl|rfl<;>decide+kernel
 have a:((n:Int)+1-1).toNat=n:=by lia
 show(if Eo 1 ((n:Int)+1)then Y (D.lst<|jA 1 ((n:Int)+1-1).toNat,J)else U)=_;rw[jb h1,a,<-T8]
def oJ{f:FO}{δ δ1:Dn}{o:Bq}{n:Nat}(h1:f δ=Y (o,δ1))(a:res δ1 o=Y (.int n))(e:n<=63):vB f δ=Y (jA 0 n,δ1):=by
 have d:(-(2^62)<=(n:Int)/\(n:Int)<2^62):=⟨by lia,by lia⟩
 have b:kj [f] δ=Y ([o],δ1):=by simp[kj,h1]
 have c:vp δ1 [o]=Y [.int n]:=by simp[vp,a]
 unfold vB;rw[b];simp only[jH];rw[c];simp only[];rw[jb d];rfl
def vn(a:Int)(b:Bool)(n:Nat)(f:n<=5):∃d t,t∈nD n (st n) []/\kX [pS a b,pI n]=Y (enc t,[B1 d b,ii n]):=by
 have c:(jA 0 n).length=n:=by simp[jA]
 have h:(st n).length=n:=by simp[st]
 obtain⟨d,t,j,k,g,e⟩:=Yt b (ii n) (jA 0 n) a (st n) [] U (by rw[c,h]) (by rw[h];simpa using f);rw[c]at g;refine⟨d,t,g,?_⟩;refine ko (δ:=[B1 d b,ii n,Bc j,Bc t,k]) ⟨rfl,by decide,rfl⟩ ?_;refine(iO (δ1:=[B1 a b,ii n,Bc<|st n,U,U])<|jK (i:=2) (δ1:=[B1 a b,ii n,U,U,U]) (kx (os:=[.val (.int 1,C),.val (.int<|(n:Int)+1,C)]) I I<|Mv n f) (show 2<5 by decide)).trans ?_;refine(iO (δ1:=[B1 a b,ii n,Bc<|st n,Bc [],U]) I).trans ?_;refine(iO<|(kO<|oJ (o:=.slot 1) I I<|by lia).trans e).trans ?_;exact jJ<|la<|kx (os:=[.slot 3]) I I I
def adt:∀(k:Nat)(r f t:iZ),A2 r=k->t∈nD k r f->A2 t=A2 f+k:=by
 intro c
 induction c with
 |zero=>intro r f t _ h;simp[nD]at h;subst h;simp
 |succ k b=>
  intro r f t d h;simp only[nD,uM,pQ,um]at h;obtain⟨v,hv,h⟩:=h;have a:(r.eraseIdx v).length=k:=by rw[yZ,jb hv];lia
  rcases h with h|h
  .have:=b _ _ t a h;simp at this;lia
  have:=b _ _ t a h;simp at this;lia
def aeJ{n:Nat}{t:iZ}(h:t∈nD n (st n) []):(A2 t)=n:=by have:=adt n (st n) [] t (by simp[st]) h;simpa using this
def wM:∀t:List Int,D.Bp (t.map .int)=0:=by
 intro b
 induction b with
 |nil=>simp[D.Bp]
 |cons s t a=>simp[D.Bp,D.dep,a]
theorem AD:∀a b:List Int,D.D1 (a.map .int) (b.map .int)=decide (a=b)
 |[],[]=>by simp[D.D1]
 |[],_::_=>by simp[D.D1]
 |_::_,[]=>by simp[D.D1]
 |x::a,y::b=>by simp[D.D1,D.Ba,AD a b,ss,rC]
@[simp] theorem BY(a b:iZ):Gw (.lst<|a.map .int) (.lst<|b.map .int)=Y (.bl<|decide<|a=b,C):=by unfold Gw;rw[jb<|by simp[D.dep,wM]];simp[D.Ba,AD]
def Dz:∀(l m:iZ),l.Nodup->(∀x∈l,x∈m)->A2 m<=A2 l->l.Perm m:=by
 intro k
 induction k with
 |nil=>intro m _ _ h;have:m=[]:=Pq.mp (by simpa using h);subst this;exact uR _
 |cons x l j=>
  intro m a c h;rw[zu]at a;have g:=c x jW;have b:=K0 g;refine((j (m.erase x) a.2 (λy d=>?_) ?_).cons x).trans b.symm
  .have f:=c y<|jU _ d;have i:y≠x:=λe=>a.1<|e▸d;exact(FH i).mpr f
  have:=b.length_eq;simp only[kP]at this h
  lia
def KS:x∈st n↔1<=x/\x<=n:=by
 simp only[st,yc,um];constructor
 .rintro⟨k,h,rfl⟩;lia
 rintro⟨h1,a⟩;exact⟨(x-1).toNat,by lia,by lia⟩
def XB(n:Nat):(st n).Pairwise (· < ·):=by simp only[st];rw[vJ];exact Wf.imp λh=>by lia
def Sw(n:Nat):(st n).Nodup:=(XB n).imp λh=>by lia
def Ie{n:Nat}{l:iZ}:l.Perm (st n)↔(A2 l)=n/\(∀x∈l,1<=x/\x<=n)/\l.Nodup:=by
 constructor
 .intro h;refine⟨by rw[h.length_eq];simp[st],λx a=>KS.mp<|h.mem_iff.mp a,h.symm.nodup<|Sw n⟩
 rintro⟨h1,b,c⟩;exact Dz l (st n) c (λx a=>KS.mpr<|b x a) (by simp[st,h1])
def wz{l:iZ}{m:List D}(h:m.Perm (l.map D.int)):∃k:List Int,m=k.map .int:=by
 refine⟨m.map λd=>match d with|D.int i=>i|_=>0,?_⟩;rw[kZ]
 symm
 rw[oV (g:=id),qc];intro d hd;obtain⟨i,_,rfl⟩:=ji<|h.mem_iff.mp hd;rfl
def aci(l:iZ):oy (l.map .int)=J:=by
 unfold oy
 cases l with
 |nil=>rfl
 |cons x l=>rw[xm];right;simp only[jP];simp[lV,D.pr,D.dep,show ∀i j:Int,nK .Lt (.int i) (.int j)=Y (lK .Lt i j)from λ_ _=>rfl]
def ade:∀l:List Int,(∀k,(nQ<|l.reverse.map .int).1 k=decide (k∈l.reverse))/\(nQ<|l.reverse.map .int).2<=A2 l/\((nQ<|l.reverse.map .int).2=(A2 l)↔l.Nodup):=by
 intro e
 induction e with
 |nil=>exact⟨λk=>by simp[nQ],by simp[nQ],by simp[nQ]⟩
 |cons x l d=>
  obtain⟨h1,f,c⟩:=d;rw[List.reverse_cons,oD,jP,oh,BG];refine⟨λk=>?_,?_,?_⟩
  .dsimp only;rw[h1 k];by_cases a:k∈l.reverse<;>by_cases b:k=x<;>simp_all
  .dsimp only;rw[kP];split<;>lia
  dsimp only;rw[h1 x,zu];by_cases a:x∈l
  .simp only[d0,a,decide_true,kQ,not_true_eq_false,false_and,iff_false,kP];lia
  simp only[d0,a,decide_false,ku,kR,not_false_eq_true,true_and,kP];rw[<-c];lia
def P6(l:iZ):(nQ<|l.map .int).2=(A2 l)↔l.Nodup:=by have:=(ade l.reverse).2.2;rw[List.reverse_reverse,Ln,ze l |>.nodup_iff]at this;exact this
def Df(pre:Dn)(x:Sl)(d:D):iP (A2 pre) d (pre++[x])=Y (pre++[Y (d,C)]):=by unfold iP;rw[jb<|by simp];simp[sm]
def AO(f:F)(g:D->D)(pre:Dn):∀(l a:List D)(x:Sl),(∀d∈l,∃o,f (pre++[Y (d,C)])=Y ((g d,o),pre++[Y (d,C)]))->A2 a+A2 l<=sizeLine->
  ∃b,lJ (iP<|A2 pre) jZ (ki f) l a (pre++[x])=Y (a++l.map g,pre++[b]):=by
 intro n
 induction n with
 |nil=>intro a x _ _;exact⟨x,by simp[lJ]⟩
 |cons d l m=>
  intro a x h c;obtain⟨o,hd⟩:=h d jW;obtain⟨b,e⟩:=m (a++[g d]) (Y (d,C)) (λi j=>h i<|jU _ j) (by simp at c ⊢;lia);refine⟨b,?_⟩;have k:(A2 a)<sizeLine:=by simp at c;lia
  rw[lJ,Df];simp only[jH,wc,kQ,yK];rw[hd];simp only[jH];rw[jb k];simp only[jH];rw[e];simp
def VV(f:F)(g:D->Int)(pre:Dn):∀(l a:List D)(x:Sl),(∀d∈l,∃o,f (pre++[Y (d,C)])=Y ((.int<|g d,o),pre++[Y (d,C)]))->A2 a+A2 l<=1000->
  ∃b,lJ (iP<|A2 pre) jZ (AS f) l a (pre++[x])=Y (a++l.map λd=>.int (g d),pre++[b]):=by
 intro n
 induction n with
 |nil=>intro a x _ _;exact⟨x,by simp[lJ]⟩
 |cons d l m=>
  intro a x h c;obtain⟨o,hd⟩:=h d jW;obtain⟨b,e⟩:=m (a++[.int<|g d]) (Y (d,C)) (λi j=>h i<|jU _ j) (by simp at c ⊢;lia);refine⟨b,?_⟩;have p:jp=4096:=rfl;have k:(A2 a)+1<scanBound:=by simp at c;lia
  rw[lJ,Df];simp only[jH,wc,kQ,AS];rw[hd];simp only[jH];rw[jb k];simp only[jH];rw[e];simp
def Cj(p:D->Bool):∀l:List D,oN (l.map λd=>.bl (p d))=Y (l.map p):=by
 intro b
 induction b with
 |nil=>exact I
 |cons d l a=>simp[oN,a]
def wW(p:D->Bool)(l:List D):vC (.lst<|l.map λd=>.bl (p d))=Y (.bl<|l.all p,C):=by simp[vC,Cj,ez,rH]
def OX(p:D->Bool)(l:List D):EZ (.lst<|l.map λd=>.bl (p d))=Y (.bl<|l.any p,C):=by simp[EZ,Cj,xu,rH]
noncomputable def ab(s:Int):Int:=if s<0 then -s else s
noncomputable def wh:D->Bool
 |.int _=>J
 |_=>C
def sg(n:Int):D->Bool
 |.int s=>decide (1<=ab s)&&decide (ab s<=n)
 |_=>C
noncomputable def Dd:D->Int
 |.int s=>s
 |_=>0
def vR(d:D):mI [(d,C)]=Y ((.bl<|wh d,C),[Y (d,C)]):=by
 cases d<;>simp[mI,yj,Be,jD,wh,Hf]
def BM(d:D)(lo a:Int):lI [(d,C),(.int lo,C),(.int a,C)]=Y ((.bl (match d with|.int s=>decide (lo<=s)&&decide (s<=a)|_=>C),C),[Y (d,C),Y (.int lo,C),Y (.int a,C)]):=by
 cases d with
 |int s=>by_cases h:lo<=s<;>simp[lI,rA,Be,jD,vR,wh,jq,wb,AB,lK,h]
 |_=>simp[lI,rA,Be,jD,vR,wh,jq,wb]
def Ip(d:D)(n:Int):pE [(.int n,C),(d,C)]=Y ((.bl (match d with|.int s=>decide (1<=s)&&decide (s<=n)|_=>C),C),[Y (.int n,C),Y (d,C)]):=by simp[pE,As,Be,jD,BM,jq,wb]
def P0(n:Int)(d:D):nq [pI n,(d,C)]=Y ((.bl<|sg n d,C),[ii n,Y (d,C)]):=by
 cases d with
 |int s=>simp[nq,vF,Be,jD,vR,Ip,wh,jq,wb,sg,ab];rfl
 |_=>simp[nq,vF,Be,jD,vR,Ip,wh,jq,wb,sg,ab]
def GB(h:sg n d=J):d=.int (Dd d):=by cases d<;>simp_all [sg,Dd]
def L8(h:wh d=J):d=.int (Dd d):=by cases d<;>simp_all [wh,Dd]
def tB(n:Nat):D->Bool
 |.tup l=>decide (A2 l=n)&&(l.all (sg n)&&decide ((l.map λd=>ab<|Dd d).Nodup))
 |_=>C
def lB(n:Nat):D->Bool
 |.tup l=>l.all wh&&decide ((l.map λd=>ab<|Dd d).Perm<|st n)
 |_=>C
def Sv(n:Nat)(d:D):tB n d=lB n d:=by
 cases d with
 |tup l=>
  rw[tB,lB,Bool.eq_iff_iff];simp only[lg,rZ,mJ,Ie,kd,yc];constructor
  .rintro⟨h1,a,b⟩;refine⟨λd hd=>?_,h1,?_,b⟩
   .rw[GB<|a d hd];rfl
   rintro x ⟨d,hd,rfl⟩;have:=a d hd;rw[GB this]at this;simpa[sg]using this
  rintro⟨h1,a,b,c⟩;refine⟨a,λd hd=>?_,c⟩;have:=b _ ⟨d,hd,rfl⟩;rw[L8<|h1 d hd];simpa[sg]using this
 |_=>rfl
def sP(n:Nat)(d:D)(hd:∀l,d=.tup l->A2 l<=60):kD [pI n,(d,C)]=Y ((.bl<|tB n d,C),[ii n,Y (d,C)]):=by
 cases d with
 |tup l=>
  have i:=hd l I;by_cases h1:(A2 l)=n
  .obtain⟨x1,b⟩:=AO (jc nq [iK 0,iK 1]) (λd=>.bl (sg n d)) [ii n] l [] U (λd _=>⟨C,by simp[P0,jq,wb]⟩) (by rw[kK];simp;lia);simp only[uN,qd,kP,rE,fW]at b;by_cases a:l.all (sg n)=J
   .have h:∀d∈l,∃o,ju (g1 Ao) [iK 0] ([]++[Y (d,C)])=Y ((.int<|ab<|Dd d,o),([]++[Y (d,C)]:Dn)):=λd hd=>⟨C,by rw[mJ]at a;rw[GB<|a d hd];rfl⟩
    obtain⟨x2,c⟩:=VV (ju (g1 Ao) [iK 0]) (λd=>ab<|Dd d) [] l [] U h (by simp;lia);simp only[uN,qd,kP,rE]at c
    have e:(nQ<|l.map λd=>D.int<|ab<|Dd d).2=(A2 l)↔(l.map λd=>ab<|Dd d).Nodup:=by have:=P6<|l.map λd=>ab<|Dd d;rw[kZ,kd]at this;exact this
    have g:(((nQ<|l.map λd=>D.int<|ab<|Dd d).2:Int)==(n:Int))=decide ((l.map λd=>ab<|Dd d).Nodup):=by
     rw[rC,<-h1];by_cases q:(l.map λd=>ab<|Dd d).Nodup
     .rw[rJ q,e.mpr q];simp
     rw[nv q];simp only[decide_eq_false_iff_not,tf];exact λz=>q<|e.mp z
    simp[kD,mZ,Be,Hf,h1,jL,uh,kI,b,c,wW,a,jD,jq,wb,tB,g]
   have f:l.all (sg n)=C:=by simpa using a
   simp[kD,mZ,Be,Hf,h1,jL,uh,kI,b,wW,f,jD,jq,wb,tB]
  have: ¬(((A2 l):Int)=(n:Int)):=by lia
  simp[kD,mZ,Be,Hf,this,h1,jD,jq,wb,tB]
 |_=>simp[kD,mZ,Be,Hf,jD,tB]
def JD(d:D):Prop:= ∀l,d=.tup l->A2 l<=60
def ixl(a:0<=v)(h:v<L.length):CK (.lst L) (.int v)=Y (L.getD v.toNat .Ar,C):=by
 have h1:v.toNat<L.length:=by lia
 simp[CK,Hq,GN,a,h,h1]
def ixi{t:iZ}{v:Int}(a:0<=v)(h:v<A2 t):CK (.tup<|t.map .int) (.int v)=ii (t.getD v.toNat 0):=by
 have h1:v.toNat<(A2 t):=by lia
 simp[CK,Hq,GN,a,h,h1]
def Vj{t:iZ}{v:Int}(a:0<=v)(h:v<A2 t):CK (.lst<|t.map .int) (.int v)=ii (t.getD v.toNat 0):=by
 have h1:v.toNat<(A2 t):=by lia
 simp[CK,Hq,GN,a,h,h1]
def AW{P:D->Prop}{L:List D}(a:P .Ar)(h:∀d∈L,P d)(k:Nat):P (L.getD k .Ar):=by
 rw[lM]
 cases e:L[k]? with
 |none=>exact a
 |some d=>exact h d<|mW e
def Q3:JD .Ar:=λl h=>by cases h
def YS(h1:(A2 l)<=1000)(a:(A2 m)<=1000):lL (.tup l) (.tup m)=Y (.tup<|l++m,C):=by simp only[lL];rw[jb<|by rw[kK];lia]
def V1(h1:(A2 l)<=1000)(a:(A2 m)<=1000):lL (.lst l) (.lst m)=Y (.lst<|l++m,J):=by simp only[lL];rw[jb<|by rw[kK];lia]
inductive TkI(m:Int)(P:Int->Int->Prop):Prop where
 |mk (v a:Int) (_:0<=v) (_:v<m) (_:P v a)
def lZ(a:Int)(b:Bool)(m:Int)(j:0<m)(f:m<1073741824):TkI m λv c=>∀(d:FO)(δ:Dn)(o:Bq),d (B1 a b::δ)=Y (o,B1 a b::δ)->yp (B1 a b::δ) o=ii m->jc jk [iK 0,d] (B1 a b::δ)=Y ((.int v,C),B1 c b::δ):=by
 obtain⟨v,c,g,h1,e⟩:=tR a b m j f;refine⟨v,c,g,h1,λd δ o h i=>?_⟩;refine(jY (os:=[.slot 0,o]) (args:=[pS a b,pI m]) (mS I h) ?_ ?_ e).trans ?_
 .simp[i]
 .cases o<;>simp[jq]
 cases o<;>simp[wb]
def wN(l:List D)(lo a:Option Int):(oA l lo a).length<=(A2 l):=by unfold PX.oA;rw[rK,zo];lia
noncomputable def led(u:iZ)(s:Int):Int:=if 0<s then u.getD (s-1).toNat 0 else -(u.getD (-s-1).toNat 0)
def aaw(x:Int):rQ (.int x) (.int 1)=ii x:=by have:E5 x 1:=.inr (by lia);show((if E5 x 1 then Y (D.int<|x*1)else U).map λz=>(z,C))=_;rw[jb this,zq];rfl
def aav(x:Int):rQ (.int x) (.int (-1))=ii (-x):=by have:E5 x (-1):=.inr (by lia);show((if E5 x (-1)then Y (D.int<|x*(-1))else U).map λz=>(z,C))=_;rw[jb this,Fk,zq];rfl
def Ei(a:Int)(b:Bool)(m:Int)(l:0<m)(h:m<1073741824):TkI m λv f=>∀(g:FO)(c d:Sl)(δ:Dn)(o:Bq),g (c::d::B1 a b::δ)=Y (o,c::d::B1 a b::δ)->yp (c::d::B1 a b::δ) o=ii m->jc jk [iK 2,g] (c::d::B1 a b::δ)=Y ((.int v,C),c::d::B1 f b::δ):=by
 obtain⟨v,f,i,h1,e⟩:=tR a b m l h;refine⟨v,f,i,h1,λg c d δ o j k=>?_⟩;refine(jY (os:=[.slot 2,o]) (args:=[pS a b,pI m]) (mS I j) ?_ ?_ e).trans ?_
 .simp[k]
 .cases o<;>simp[jq]
 cases o<;>simp[wb]
def DT(n:Nat)(c:iZ):Prop:=c≠[]/\(c.map ab).Pairwise (· < ·)/\∀s∈c,1<=ab s/\ab s<=n
def CA(j:Int)(c:iZ):Prop:=(c.map ab).Pairwise (· < ·)/\∀s∈c,1<=ab s/\ab s<j
def pG(h:0<=i):ab i=i:=by unfold ab;rw[jr<|by lia]
def A6(h:0<=i):ab (-i)=i:=by unfold ab;split<;>lia
def CA.snoc{j s:Int}{c:iZ}(h:CA j c)(h1:ab s=j)(e:1<=j):CA (j+1) (c++[s]):=by
 refine⟨?_,λx a=>?_⟩
 .rw[oD,uL];refine⟨h.1,by simp,λx a y b=>?_⟩;obtain⟨z,d,rfl⟩:=ji a;simp at b;subst b;have:=h.2 z d;lia
 rcases pQ.mp a with a|a
 .have:=h.2 x a;lia
 simp at a;subst a;lia
def CA.up(h:CA j c):CA (j+1) c:=⟨h.1,λx a=>by have:=h.2 x a;lia⟩
abbrev fbC:FS:=zC4
def vG{i:Nat}{f:F}{δ δ1:Dn}{r:D×Bool}{l0 l:List D}(a:δ[i]?=Y (Y (.lst l0,J)))(h1:f δ=Y (r,δ1))(b:δ1[i]?=Y (Y (.lst l,J)))(c:(A2 l)<=10000):
  iW (nC<|md i f) jt δ=Y (.nx<|δ1.set i<|Y (.lst<|l++[r.1],J)):=
 (iO<|pd<|pB a h1 b<|PY c).trans rfl
def VC(a:Int)(b:Bool)(n w:Int)(p:0<w)(q:w<100)(j:Int)(o:1<=j)(c:iZ)(m:CA j c)(t:(A2 c)<=10)(x:Sl):∃d f s,CA (j+1) f/\(A2 f)<=A2 c+1/\fbC [B1 a b,ii n,ii w,Bc c,ii j,x]=Y (.nx [B1 d b,ii n,ii w,Bc f,ii j,s]):=by
 obtain⟨v,d,u,y,e⟩:=lZ a b w p (by lia)
 have s1:∀g,iW Wx g [B1 a b,ii n,ii w,Bc c,ii j,x]=g [B1 d b,ii n,ii w,Bc c,ii j,ii v]:=λg=>iO<|jK (i:=5) (δ1:=[B1 d b,ii n,ii w,Bc c,ii j,x]) (e _ [ii n,ii w,Bc c,ii j,x] (.slot 2) rfl rfl) (show 5<6 by decide)
 by_cases h:v<2
 .have k:CK (.lst [.int j,.int (-j)]) (.int v)=ii (if v=0 then j else -j):=by rcases(show v=0\/v=1 by lia)with rfl|rfl<;>rfl
  refine⟨d,c++[if v=0 then j else -j],ii v,m.snoc (by split;exact pG (by lia);exact A6<|by lia) o,by simp,?_⟩;refine(s1 _).trans ((iO<|(rM (δ1:=[B1 d b,ii n,ii w,Bc c,ii j,ii v])<|by simp[h]).trans<|vG (δ1:=[B1 d b,ii n,ii w,Bc c,ii j,ii v]) (r:=(.int (if v=0 then j else -j),C)) (l0:=c.map .int) (l:=c.map .int) I (by simp[kI,kK,k]) I<|by simp;lia).trans ?_);simp[Bc]
 refine⟨d,c,ii v,m.up,by lia,?_⟩;exact(s1 _).trans ((iO<|(pU<|by simp[h]).trans I).trans I)
def aaI(b:Bool)(n w:Int)(u:0<w)(h:w<100):∀(m:Nat)(j:Nat)(a:Int)(c:iZ)(x4 d:Sl),1<=j->CA j c->A2 c+m<=10->∃f e i l,CA (j+m:Nat) e/\(A2 e)<=10/\mB (iP 4) fbC ((bN j m).map λ(k:Nat)=>D.int (k:Int)) [B1 a b,ii n,ii w,Bc c,x4,d]=Y (.nx [B1 f b,ii n,ii w,Bc e,i,l]):=by
 intro x
 induction x with
 |zero=>intro j a c x4 d s g t;exact⟨a,c,x4,d,by simpa using g,by lia,rfl⟩
 |succ m v=>intro j a c x4 d s g t;obtain⟨a1,o,x1,h1,z,p⟩:=VC a b n w u h j (by lia) c g (by lia) d;obtain⟨f,e,i,l,r,y,q⟩:=v (j+1) a1 o (ii j) x1 (by lia) (by simpa using h1) (by lia);refine⟨f,e,i,l,by rw[show j+(m+1)=j+1+m by lia];exact r,y,?_⟩;rw[zf,jP];unfold mB;rw[show iP 4 (.int (j:Int)) [B1 a b,ii n,ii w,Bc c,x4,d]=Y [B1 a b,ii n,ii w,Bc c,ii j,d]from I];simp only[jH];rw[p];simp only[jH];exact q
def Ry(h1:f δ=Y (o1,δ1))(a:g δ1=Y (o2,δ2))(b:res δ2 o1=Y (.int i))(c:res δ2 o2=Y (.int j))(d:0<=i/\i<=1000)(e:0<=j/\j<=1000):J6 f g δ=Y (jA i (j-i).toNat,δ2):=by unfold J6;rw[mS h1 a];simp only[jH,Up,Qb,b,c];rw[jb ⟨by lia,by lia,by lia,by lia⟩]
def aec(a:Int)(b:Bool)(n:Nat)(h1:1<=n)(M:n<=5):∃B c,DT n c/\nh [pS a b,pI n]=Y (enc c,[B1 B b,ii n]):=by
 obtain⟨v,a1,G,J,C⟩:=lZ a b 3 (by lia) (by lia)
 let h:List Int:=[3,4,6]
 let w:=h.getD v.toNat 0
 have z:0<w/\w<100:=by rcases(show v=0\/v=1\/v=2 by lia)with rfl|rfl|rfl<;>decide
 obtain⟨e,c,x4,d,u,N,E⟩:=aaI b n w z.1 z.2 n 1 a1 [] AR AR (by lia) ⟨by simp,by simp⟩ (by simp;lia)
 have T:J6 lq LY [B1 a1 b,ii n,ii w,Bc [],AR,AR]=Y ((bN 1 n).map λ(k:Nat)=>D.int (k:Int),[B1 a1 b,ii n,ii w,Bc [],AR,AR]):=by
  rw[Ry (o1:=.val (.int 1,AX)) (o2:=.val (.int<|(n:Int)+1,AX)) (i:=1) (j:=(n:Int)+1) AM AM AM AM (by lia)<|by lia];rw[show((n:Int)+1-1).toNat=n by lia]
  congr 2
  unfold jA;rw[List.range'_eq_map_range,kZ];apply oV;intro k _;simp
 have pre:∀g,(iW Xb<|iW zy<|iW (ny (J6 lq LY) (iP 4) fbC) g) [B1 a b,ii n,AR,AR,AR,AR]=g [B1 e b,ii n,ii w,Bc c,x4,d]:=by
  intro g;refine(iO (δ1:=[B1 a1 b,ii n,ii w,AR,AR,AR]) ?_).trans ?_
  .refine jK (i:=2) (δ1:=[B1 a1 b,ii n,AR,AR,AR,AR]) (jM (o1:=.val (.lst<|h.map .int,Ap)) (o2:=.val (.int v,AX)) (jd (δ1:=[B1 a b,ii n,AR,AR,AR,AR])<|by simp[h,kK]) (jd<|C _ [ii n,AR,AR,AR,AR] _ rfl rfl) AM AM<|Vj G<|by simpa[h]using J) (show 2<6 by decide)
  refine(iO (δ1:=[B1 a1 b,ii n,ii w,Bc [],AR,AR])<|by simp[Bc,kK]).trans ?_;exact iO<|(kO T).trans E
 by_cases p:c=[]
 .subst p;obtain⟨s,t,s0,s1,H⟩:=lZ e b 2 (by lia) (by lia);obtain⟨i,m,i0,U,I⟩:=lZ t b n (by lia) (by lia);refine⟨m,[if s=0 then 1+i else -(1+i)],?_,?_⟩
  .refine⟨by simp,by simp,λx A=>?_⟩;simp at A;subst A;split
   .rw[pG<|by lia];lia
   rw[show -(1+i)= -(1+i)from AM,A6<|by lia];lia
  refine ko (δ:=[B1 m b,ii n,ii w,Bc [if s=0 then 1+i else -(1+i)],x4,d]) ⟨rfl,by decide,rfl⟩ ((pre _).trans ?_)
  have L:∀q,CK (.lst [.int 1,.int (-1)]) (.int s)=Y q->rQ q.1 (.int (1+i))=ii (if s=0 then 1+i else -(1+i)):=by
   intro q y;have O:E5 1 (1+i):=by unfold E5;lia
   have Q:E5 (-1) (1+i):=by unfold E5;lia
   rcases(show s=0\/s=1 by lia)with rfl|rfl
   .cases y;simp[rQ,gI,O]
   cases y;simp[rQ,gI,Q]
  have f:CK (.lst [.int 1,.int (-1)]) (.int s)=ii (if s=0 then 1 else -1):=by rcases(show s=0\/s=1 by lia)with rfl|rfl<;>rfl
  refine(iO<|(rM (δ1:=[B1 e b,ii n,ii w,Bc [],x4,d])<|lY<|jM (o1:=.slot 3) (o2:=.val (.lst [],Ap)) (δ2:=[B1 e b,ii n,ii w,Bc [],x4,d]) AM (jd<|by simp[kK]) AM AM<|BY [] []).trans<|vG (r:=(.int (if s=0 then 1+i else -(1+i)),AX)) (δ1:=[B1 m b,ii n,ii w,Bc [],x4,d]) (l0:=[]) (l:=[]) AM ?_ AM<|by simp).trans ?_
  .refine jM (δ1:=[B1 t b,ii n,ii w,Bc [],x4,d]) (jd<|jM (δ1:=[B1 e b,ii n,ii w,Bc [],x4,d]) (o1:=.val (.lst [.int 1,.int (-1)],Ap)) (jd<|by simp[kK]) (jd<|H _ _ _ rfl rfl) AM AM f) (jd<|jM (o1:=.val (.int 1,AX)) AM (jd<|I _ _ (.slot 1) rfl rfl) AM AM AM) AM AM (L _ f)
  exact jJ (la<|kx (os:=[.slot 3]) AM AM AM)
 refine⟨e,c,⟨p,u.1,λs f=>by have:=u.2 s f;lia⟩,?_⟩;refine ko (δ:=[B1 e b,ii n,ii w,Bc c,x4,d]) ⟨rfl,by decide,rfl⟩<|(pre _).trans ?_;refine(iO<|(pU (δ1:=[B1 e b,ii n,ii w,Bc c,x4,d])<|lY (o:=AX)<|jM (o1:=.slot 3) (o2:=.val (.lst [],Ap)) (δ2:=[B1 e b,ii n,ii w,Bc c,x4,d]) AM (jd<|by simp[kK]) AM AM<|(BY c []).trans<|by rw[nv p]).trans AM).trans ?_;exact jJ<|la<|kx (os:=[.slot 3]) AM AM AM
noncomputable def J5(n:Nat):List Int:=(am n).map λ(k:Nat)=>(-(n:Int)+(k:Int))
def Uk(n:Nat)(b:n<=5):JX .lst J [.int (-(n:Int)),.int 0]=Y (.lst<|(J5 n).map .int,J):=by
 have:n=0\/n=1\/n=2\/n=3\/n=4\/n=5:=by lia
 have h1:Eo (-(n:Int)) 0:=by rcases this with rfl|rfl|rfl|rfl|rfl|rfl<;>decide+kernel
 have a:(0- -(n:Int)).toNat=n:=by lia
 show(if Eo (-(n:Int)) 0 then Y (D.lst<|jA (-(n:Int)) (0- -(n:Int)).toNat,J)else U)=_;rw[jb h1,a];simp[J5,jA]
def mn(h:f δ=Y ((.lst l,o),δ1)):kG f δ=Y (l,δ1):=by unfold kG;rw[h];rfl
def DA{b:Type}[BEq b][LawfulBEq b]:∀(l m:List b),l.Nodup->(∀x∈l,x∈m)->A2 l<=(A2 m):=by
 intro n
 induction n with
 |nil=>intro m _ _;exact mV _
 |cons x l k=>
  intro m a c;rw[zu]at a;have i:=c x jW;have h:=K0 i
  have:=k (m.erase x) a.2 (λy d=>by have f:=c y<|jU _ d;have j:y≠x:=λe=>a.1<|e▸d;exact(FH j).mpr f)
  have g:=h.length_eq;simp only[kP]at g ⊢
  lia
def ML{l:iZ}(h:l.Pairwise (· < ·)):l.Nodup:=h.imp λh=>by lia
def DT.len{n:Nat}{c:iZ}(h:DT n c):(A2 c)<=n:=by
 have:=DA (c.map ab) (st n) (ML h.2.1) (λx b=>by obtain⟨s,a,rfl⟩:=ji b;exact KS.mpr<|h.2.2 s a)
 simpa[st]using this
def J2(n:Nat)(t:iZ):Prop:=A2 t=n/\∀x∈t,1<=ab x/\ab x<=n
theorem mp0:CK (.lst [.int (-1),.int 1]) (.int 0)=ii (-1):=rfl
theorem mp1:CK (.lst [.int (-1),.int 1]) (.int 1)=ii 1:=rfl
def Yf(u:iZ)(s:Int)(b:s≠0)(h1: -((A2 u):Int)<=s)(c:s<=A2 u):
  ml [enc u,pI s]=Y ((.int<|led u s,C),[eN u,ii s]):=by
 simp only[ml,rN];by_cases h:0<s
 .have:=ixi (t:=u) (v:=s-1) (by lia) (by lia);have a: ¬s<0:=by lia
  simp only[Be];simp[h,a,led,this,jD,kK,mp1,aaw]
 have:=ixi (t:=u) (v:= -s-1) (by lia) (by lia);have a:s<0:=by lia
 simp only[Be];simp[h,a,led,this,jD,kK,mp0,aav]
def oU(i:Int):ab (-i)=ab i:=by unfold ab;split<;>split<;>lia
def ll{l:iZ}{k:Nat}(h:k<A2 l):l.getD k 0∈l:=by rw[lM,jT h];exact za h
def GZ{n:Nat}{t:iZ}(b:J2 n t){s:Int}(h1:1<=ab s)(a:ab s<=n):1<=ab (led t s)/\ab (led t s)<=n:=by
 unfold led;unfold ab at h1 a;have c:=b.1;split
 .rename_i h;rw[jr<|by omega]at h1 a;exact b.2 _ (ll<|by omega)
 rename_i h;rw[oU];split at h1
 .rw[jb<|by assumption]at a;exact b.2 _ (ll<|by omega)
 omega
def dD(a:iZ):D:=.B4 .dct (a.map λw=>.int (ab w)) (a.map .int)
def zO(a:iZ)(w:Int):List Int:=if ab w∈a.map ab then a.map λx=>if ab x=ab w then w else x else a++[w]
def VZ(w:Int):∀a:List Int,((a.map λw=>D.int<|ab w).any (D.Ba · (.int<|ab w)))=decide (ab w∈a.map ab):=by
 intro c
 induction c with
 |nil=>simp
 |cons x a b=>
  simp only[jP,sA,b,D.Ba,kM];by_cases h:ab x=ab w
  .simp[h]
  have: ¬ab w=ab x:=λe=>h e.symm;simp[h,this]
def P9(w:Int):∀a:List Int,sQ (a.map λw=>D.int<|ab w) (a.map .int) (.int<|ab w) (.int w)=(a.map λx=>if ab x=ab w then w else x).map .int:=by
 intro c
 induction c with
 |nil=>simp[sQ]
 |cons x a b=>simp only[jP,sQ,b,D.Ba];by_cases h:ab x=ab w<;>simp[h]
def UD(a:iZ)(w:Int):D.B4 .dct (uq (a.map λw=>.int (ab w)) (a.map .int) (.int<|ab w)<|.int w).1 (uq (a.map λw=>.int (ab w)) (a.map .int) (.int<|ab w)<|.int w).2=dD (zO a w):=by
 unfold uq zO dD;rw[VZ];by_cases h:ab w∈a.map ab
 .rw[jb<|by simpa using h,jb h,P9]
  congr 1
  show(a.map λw=>D.int<|ab w)=cp (λw=>D.int<|ab w) (a.map λx=>if ab x=ab w then w else x);rw[kZ];apply oV;intro x _;simp only[bj];split
  .rename_i e;rw[e]
  rfl
 rw[jr<|by simpa using h,jr h];simp
def DW(n:Nat)(a:iZ):Prop:=(a.map ab).Nodup/\∀w∈a,1<=ab w/\ab w<=n
def DW.put(h:DW n ws)(h1:1<=ab w/\ab w<=n):DW n (zO ws w):=by
 unfold zO;split
 .rename_i c;refine⟨?_,λx a=>?_⟩
  .have:((ws.map λx=>if ab x=ab w then w else x).map ab)=ws.map ab:=by
    rw[kZ];apply oV;intro x _;simp only[bj];split
    .rename_i e;rw[e]
    rfl
   rw[this];exact h.1
  obtain⟨y,b,rfl⟩:=ji a;split
  .exact h1
  exact h.2 y b
 rename_i c;refine⟨?_,λx a=>?_⟩
 .rw[oD,yX];refine⟨h.1,by simp,λx a y b e=>?_⟩;simp at b;subst b;subst e;exact c a
 rcases pQ.mp a with a|a
 .exact h.2 x a
 simp at a;subst a;exact h1
def Ql(a:iZ)(w:Int):zO a w≠[]:=by
 unfold zO;split
 .rename_i h
  cases a with
  |nil=>simp at h
  |cons=>simp
 simp
def DW.len(h:DW n ws):(A2 ws)<=n:=by
 have:=DA (ws.map ab) (st n) h.1 (λx b=>by obtain⟨s,a,rfl⟩:=ji b;exact KS.mpr<|h.2 s a)
 simpa[st]using this
def Iy(k:Int):∀a:List Int,k∈a.map ab->∃w∈a,ab w=k/\mw (a.map λw=>D.int<|ab w) (a.map .int) (.int k)=Y (.int w):=by
 intro f
 induction f with
 |nil=>intro h;simp at h
 |cons x a d=>
  intro h;simp only[jP,mw,D.Ba];by_cases e:ab x=k
  .exact⟨x,by simp,e,by simp[e]⟩
  have:k∈a.map ab:=by
   simp only[jP,kM]at h;rcases h with h|h
   .exact absurd h.symm e
   exact h
  obtain⟨w,c,h1,b⟩:=d this;exact⟨w,by simp[c],h1,by simp[e,b]⟩
def EU(a:iZ)(k:Int):qy (a.map λw=>D.int<|ab w) (.int k)=J:=by simp[qy,tu]
abbrev NQ:FS:=W8
def Ov{n:Nat}{t:iZ}(f:J2 n t)(j:n<=5){s:Int}(h1:1<=ab s/\ab s<=n){a:iZ}(g:DW n a)(b x4:Sl):NQ [eN t,b,Y (dD a,J),ii s,x4]=Y (.nx [eN t,b,Y (dD<|zO a<|led t s,J),ii s,ii<|led t s]):=by
 have h:=f.1
 have c:s≠0/\ -((A2 t):Int)<=s/\s<=(A2 t):=by have:=h1;unfold ab at this;split at this<;>lia
 refine(iO (δ1:=[eN t,b,Y (dD a,J),ii s,ii<|led t s]) ?_).trans ?_
 .exact jK (i:=4) (δ1:=[eN t,b,Y (dD a,J),ii s,x4]) (jY (δ1:=[eN t,b,Y (dD a,J),ii s,x4]) (os:=[.slot 0,.slot 3]) (args:=[enc t,pI s]) I I mU<|Yf t s c.1 c.2.1 c.2.2) (show 4<5 by decide)
 refine(iO (δ1:=[eN t,b,Y (dD<|zO a<|led t s,J),ii s,ii<|led t s]) ?_).trans I;have d:kI 4 [eN t,b,Y (dD a,J),ii s,ii<|led t s]=Y ((.int<|led t s,C),[eN t,b,Y (dD a,J),ii s,ii<|led t s]):=rfl;have e:iX Tr [eN t,b,Y (dD a,J),ii s,ii<|led t s]=Y (.val (.int<|ab<|led t s,C),[eN t,b,Y (dD a,J),ii s,ii<|led t s]):=rfl;unfold Mu;rw[d];simp only[jH,qR,sh];rw[e];simp only[jH,zM,qR,sh,dD];rw[jb ⟨EU a _,by have:=g.len;simp;lia⟩,UD];rfl
def Yy{n:Nat}{t:iZ}(k:J2 n t)(m:n<=5)(d:Sl):∀(c a:iZ)(x3 x4:Sl),(∀s∈c,1<=ab s/\ab s<=n)->DW n a->∃b g j,DW n b/\(a≠[]\/c≠[]->b≠[])/\mB (iP 3) NQ (c.map .int) [eN t,d,Y (dD a,J),x3,x4]=Y (.nx [eN t,d,Y (dD b,J),g,j]):=by
 intro q
 induction q with
 |nil=>intro a x3 x4 _ f;exact⟨a,x3,x4,f,λh=>h.elim id λh=>absurd I h,rfl⟩
 |cons s c p=>intro a x3 x4 h f;have i:=h s jW;obtain⟨b,g,j,h1,l,e⟩:=p (zO a<|led t s) (ii s) (ii<|led t s) (λx o=>h x<|jU _ o)<|f.put<|GZ k i.1 i.2;refine⟨b,g,j,h1,λ_=>l<|.inl<|Ql _ _,?_⟩;rw[jP];unfold mB;rw[show iP 3 (.int s) [eN t,d,Y (dD a,J),x3,x4]=Y [eN t,d,Y (dD a,J),ii s,x4]from I];simp only[jH];rw[Ov k m i f];simp only[jH];exact e
def Ua{l k:iZ}(m:l.Nodup)(h:pR DY (l.map .int)=k.map .int):k.Perm l/\k.Pairwise (· < ·):=by
 have f:=mE DY<|l.map D.int;rw[h]at f;have c:=(f.map λd=>match d with|D.int i=>i|_=>0)
 simp only[kZ]at c;have e:((λd=>match d with|D.int i=>i|_=>0)∘D.int)=id:=rfl;rw[e,qc,qc]at c;refine⟨c,?_⟩;have g:=qo<|l.map D.int;rw[h,vJ]at g;have j:=c.symm.nodup m;have:=g.and j;refine this.imp λ{a b} h=>?_;have h1:=h.1;rw[BO]at h1;simp only[cT]at h1;by_cases q:b<a
 .simp[q]at h1
 have:=h.2;lia
def adE(a:iZ):∀k:List Int,(∀x∈k,x∈a.map ab)->∃c:List Int,c.map ab=k/\(∀w∈c,w∈a)/\k.map (λx=>(mw (a.map λw=>D.int<|ab w) (a.map .int)<|.int x).getD .Ar)=c.map .int:=by
 intro l
 induction l with
 |nil=>intro _;exact⟨[],rfl,by simp,rfl⟩
 |cons x k j=>intro h;obtain⟨w,g,h1,f⟩:=Iy x a<|h x jW;obtain⟨c,b,d,e⟩:=j λy i=>h y<|jU _ i;exact⟨w::c,by simp[h1,b],by simp[g];exact d,by simp[f,e]⟩
def IB{n:Nat}(T:n<=5){t c a:iZ}{x3 x4:Sl}(l:DW n a)(y:a≠[])(e:mB (iP 3) NQ (c.map .int) [eN t,eN c,Y (dD [],J),U,U]=Y (.nx [eN t,eN c,Y (dD a,J),x3,x4])):
  ∃b,((b.map ab).Pairwise (· < ·)/\(∀w∈b,w∈a)/\(b.map ab).Perm (a.map ab))/\kh [enc t,enc c]=Y (enc b,[eN t,eN c]):=by
 have j:=l.len;obtain⟨k,hk⟩:=wz<|mE DY<|(a.map ab).map D.int;obtain⟨f,z⟩:=Ua l.1 hk;obtain⟨b,i,o,p⟩:=adE a k λx h=>f.mem_iff.mp h;refine⟨b,⟨by rw[i];exact z,o,by rw[i];exact f⟩,?_⟩
 have m:(A2 k)<=5:=by have:=f.length_eq;simp at this;lia
 have s1:mY (dD a)=Y (.lst<|k.map .int,J):=by
  unfold mY dD;have q:((a.map λw=>D.int<|ab w).all λk=>(tu k).isSome)=J:=by simp[tu]
  have B:(a.map λw=>D.int<|ab w)≠[]:=by simpa using y
  simp only;rw[jb ⟨q,B⟩];have r:(a.map λw=>D.int<|ab w)=(a.map ab).map D.int:=by rw[kZ];rfl
  unfold ly;rw[r,jb ⟨aci _,by rw[kK];simp;lia⟩,hk]
 obtain⟨E,g⟩:=AO (jf G7 (iK 0)<|iK 1) (λd=>match d with|.int x=>(mw (a.map λw=>D.int<|ab w) (a.map .int)<|.int x).getD .Ar|_=>.Ar) [Y (dD a,J)] (k.map .int) [] U (by intro d hd;obtain⟨x,h,rfl⟩:=ji hd;obtain⟨w,u,h1,s⟩:=Iy x a<|f.mem_iff.mp h;refine⟨C,jM (o1:=.slot 0) (o2:=.slot 1) I I I I ?_⟩;simp only[G7,dD];rw[jb<|EU a x,s];rfl) (by rw[kK];simp;lia)
 have A:((k.map D.int).map λd=>match d with|.int x=>(mw (a.map λw=>D.int<|ab w) (a.map .int)<|.int x).getD .Ar|_=>.Ar)=b.map .int:=by rw[kZ,<-p];rfl
 rw[A]at g;simp only[uN,qd,kP,rE,fW]at g;refine ko (δ:=[eN t,eN c,Y (dD a,J),x3,x4]) ⟨rfl,by decide,rfl⟩ ?_;refine(iO (δ1:=[eN t,eN c,Y (dD [],J),U,U]) I).trans ?_;refine(iO<|(kO (ds:=c.map .int) (δ1:=[eN t,eN c,Y (dD [],J),U,U]) I).trans e).trans ?_;refine jJ<|la<|kx (os:=[.val (.lst<|b.map .int,J)]) (qa<|jd ?_) I I;have v:kG (ju (g1 mY) [iK 2]) [eN t,eN c,Y (dD a,J),x3,x4]=Y (k.map .int,[eN t,eN c,Y (dD a,J),x3,x4]):=mn<|kx (os:=[.slot 2]) I I s1;unfold jL;rw[v];simp only[jH,jP,oh];rw[show kf [eN t,eN c,Y (dD a,J),x3,x4] [.slot 2]=Y [(dD a,J)]from I];simp only[jH];rw[jb (show(jq [Bq.slot 2] [(dD a,J)]).Nodup from(Jp 2))];rw[show(cp Y [(dD a,J)]++ah 1 U:Dn)=[Y (dD a,J),U]from I,g];rfl
def aby{n:Nat}(f:n<=5){t c:iZ}(k:J2 n t)(d:DT n c):∃a,DT n a/\kh [enc t,enc c]=Y (enc a,[eN t,eN c]):=by obtain⟨l,x3,x4,g,b,e⟩:=Yy k f (eN c) c [] U U d.2.2 ⟨by simp,by simp⟩;have b:=b<|.inr d.1;obtain⟨a,⟨h1,h,i⟩,e⟩:=IB f g b e;refine⟨a,⟨λz=>b ?_,h1,λs j=>g.2 s<|h s j⟩,e⟩;have:=i.length_eq;rw[z]at this;exact Pq.mp (by simpa using this.symm)
noncomputable abbrev cD(c:iZ):D:=.tup (c.map .int)
def AI(c:iZ):D.dep (cD c)=1:=by simp[D.dep,wM]
def RX:∀a:List (List Int),D.Bp (a.map cD)<=1:=by
 intro d
 induction d with
 |nil=>simp[D.Bp]
 |cons c a b=>have:=b;simp only[jP,D.Bp,AI];lia
def OD(a b:iZ):D.Ba (cD a) (cD b)=decide (a=b):=by simp[D.Ba,AD]
def OY(c:iZ):∀a:List (List Int),(a.map cD).any (λd=>D.Ba d<|cD c)=decide (c∈a):=by
 intro f
 induction f with
 |nil=>simp
 |cons x a b=>
  simp only[jP,sA,b,OD,kM];by_cases h:x=c
  .simp[h]
  have: ¬c=x:=λe=>h e.symm;simp[h,this]
def Nt(c:iZ)(a:jI):rn (cD c) (.lst<|a.map cD)=Y (.bl (!decide (c∈a)),C):=by
 have:inD (cD c) (.lst<|a.map cD)=Y (decide<|c∈a):=by have hd:=RX a;show(if D.Bp (a.map cD)<=50/\(cD c).dep<=50 then Y ((a.map cD).any λd=>D.Ba d<|cD c)else U)=_;rw[jb ⟨by lia,by rw[AI];lia⟩,OY]
 unfold rn;rw[this];rfl
noncomputable def A4:Nat->List (List Int)
 |0=>[[]]
 |k+1=>A4 k++((A4 k).map λc=>c++[(k:Int)+1])++((A4 k).map λc=>c++[-((k:Int)+1)])
def Pa:∀(k:Nat)(c:iZ),(c.map ab).Pairwise (· < ·)->(∀s∈c,1<=ab s/\ab s<=k)->c∈A4 k:=by
 intro j
 induction j with
 |zero=>
  intro c _ h
  cases c with
  |nil=>simp[A4]
  |cons s c=>have:=h s jW;lia
 |succ k f=>
  intro c b h;simp only[A4,pQ,yc];by_cases d:c=[]
  .subst d;exact .inl<|.inl<|f [] (by simp) (by simp)
  have hd:=KZ d;generalize c.dropLast=i at hd;generalize c.getLast d=s at hd;subst hd;rw[oD,uL]at b;have l:=h s (by simp);have g:∀x∈i,1<=ab x/\ab x<ab s:=λx a=>⟨(h x<|by simp[a]).1,b.2.2 (ab x) (xb a) (ab s)<|by simp⟩
  by_cases q:ab s<=k
  .refine .inl (.inl<|f _ ?_ λx a=>?_)
   .rw[oD,uL];exact b
   rcases pQ.mp a with a|a
   .have:=g x a;lia
   simp at a;subst a;lia
  have e:ab s=(k:Int)+1:=by lia
  have hk:=f i b.1 λx a=>by have:=g x a;lia
  unfold ab at e;split at e
  .exact .inr ⟨i,hk,by rw[show s= -((k:Int)+1) by lia]⟩
  exact .inl (.inr ⟨i,hk,by rw[show s=((k:Int)+1) by lia]⟩)
def adW:∀(k:Nat)(n:Nat),n<=k->(A4 n).length<=(A4 k).length:=by
 intro b
 induction b with
 |zero=>intro n h;rw[show n=0 by lia];exact kc _
 |succ k a=>
  intro n h;by_cases e:n=k+1
  .subst e;exact kc _
  have:=a n (by lia);simp only[A4,nA,kd];lia
def Dw(n:Nat)(a:jI):Prop:=a.Nodup/\∀c∈a,DT n c
def Dw.len(b:n<=5)(h:Dw n cs):(A2 cs)<=243:=by
 have h1:=DA cs (A4 n) h.1 λc a=>Pa n c (h.2 c a).2.1 (h.2 c a).2.2;have d:=adW 5 n b;have e:(A4 5).length=243:=by decide
 lia
def Dw.snoc{n:Nat}{b:jI}{c:iZ}(h:Dw n b)(f:DT n c)(g:c∉b):Dw n (b++[c]):=by
 refine⟨?_,λx a=>?_⟩
 .rw[yX];exact⟨h.1,by simp,λx a y d e=>by simp at d;subst d;subst e;exact g a⟩
 rcases pQ.mp a with a|a
 .exact h.2 x a
 simp at a;subst a;exact f
abbrev Dx(a:jI):Sl:=Y (.lst<|a.map cD,J)
abbrev Vz:FS:=zC9
def ixc{a:jI}{i:Nat}(h:i<A2 a):CK (.lst<|a.map cD) (.int i)=Y (cD<|a.getD i [],C):=by
 have:(i:Int)<(A2 a):=by lia
 simp[CK,Hq,GN,h]
def ad1{a:jI}{i:Nat}(h:i<A2 a):a.getD i []∈a:=by rw[lM,jT h];exact za h
def RK{n:Nat}(q:n<=5){t:iZ}(u:J2 n t){a:jI}(f:Dw n a){i:Nat}(p:i<A2 a)(c d j:Sl):∃k v,Dw n k/\(A2 a)<=A2 k/\Vz [c,d,Dx a,ii i,eN t,j]=Y (.nx [c,d,Dx k,ii i,eN t,v]):=by
 obtain⟨b,s,e⟩:=aby q u<|f.2 _ (ad1 p);have w:=f.len q
 have s1:∀g,iW WV g [c,d,Dx a,ii i,eN t,j]=g [c,d,Dx a,ii i,eN t,eN b]:=λg=>iO<|jK (i:=5) (δ1:=[c,d,Dx a,ii i,eN t,j]) (jY (δ1:=[c,d,Dx a,ii i,eN t,j]) (os:=[.slot 4,.val<|enc<|a.getD i []]) (args:=[enc t,enc<|a.getD i []]) (mS I<|jd<|jM (o1:=.slot 2) (o2:=.slot 3) I I I I<|ixc p) I mU e) (show 5<6 by decide)
 have m:(fT<|jf rn (iK 5)<|iK 2) [c,d,Dx a,ii i,eN t,eN b]=Y (!decide (b∈a),[c,d,Dx a,ii i,eN t,eN b]):=
  lY (o:=C) (jM (o1:=.slot 5) (o2:=.slot 2) I I I I<|Nt b a)
 by_cases h:b∈a
 .refine⟨a,eN b,f,kc _,(s1 _).trans<|(iO<|(pU ?_).trans I).trans I⟩;rw[m,rJ h];rfl
 refine⟨a++[b],eN b,f.snoc s h,by simp,(s1 _).trans ?_⟩;rw[nv h]at m;refine(iO<|(rM m).trans<|vG (δ1:=[c,d,Dx a,ii i,eN t,eN b]) (r:=enc b) (l0:=a.map cD) (l:=a.map cD) I I I<|by simp;lia).trans ?_;simp[Dx,jt]
def Yu{n:Nat}(r:n<=5)(i:Nat)(c d:Sl):∀(h:jI)(a:jI)(x4 b:Sl),(∀t∈h,J2 n t)->Dw n a->i<A2 a->∃e g j,Dw n e/\(A2 a)<=A2 e/\mB (iP 4) Vz (h.map cD) [c,d,Dx a,ii i,x4,b]=Y (.nx [c,d,Dx e,ii i,g,j]):=by
 intro w
 induction w with
 |nil=>intro a x4 b _ f k;exact⟨a,x4,b,f,kc _,rfl⟩
 |cons t h v=>intro a x4 b l f k;obtain⟨p,x,h1,y,m⟩:=RK r (l t jW) f k c d b;obtain⟨e,g,j,q,z,o⟩:=v p (eN t) x (λu s=>l u<|jU _ s) h1 (by lia);refine⟨e,g,j,q,by lia,?_⟩;rw[jP];unfold mB;rw[show iP 4 (cD t) [c,d,Dx a,ii i,x4,b]=Y [c,d,Dx a,ii i,eN t,b]from I];simp only[jH];rw[m];simp only[jH];exact o
abbrev ftW:FT:=WL
abbrev fbW:FS:=iW (ny mX (iP 4) Vz) WI
def TV{n:Nat}(x:n<=5)(e:Sl)(c:jI)(z:∀t∈c,J2 n t):∀(m a i:Nat)(o:Bool)(b:jI)(x4 d:Sl),i+m=243->m<a->Dw n b->∃k s q r u,Dw n k/\(A2 b)<=A2 k/\pz ftW fbW a [e,Y (.lst<|c.map cD,o),Dx b,ii i,x4,d]=Y (.nx [e,Y (.lst<|c.map cD,s),Dx k,ii q,r,u]):=by
 intro m
 induction m with
 |zero=>
  intro a i o b x4 d p E j;have N:=j.len x;obtain⟨f,rfl⟩:∃f,a=f+1:=⟨a-1,by lia⟩
  refine⟨b,o,i,x4,d,j,kc _,?_⟩;have h: ¬((i:Int)<A2 b):=by lia
  have g:ftW [e,Y (.lst<|c.map cD,o),Dx b,ii i,x4,d]=Y (C,[e,Y (.lst<|c.map cD,o),Dx b,ii i,x4,d]):=
   lY (o:=C) (jM (o1:=.slot 3) (o2:=.val (.int<|A2 b,C)) I (jd<|kx (os:=[.slot 2]) I I<|by simp) I I<|by rw[XM,nv h])
  unfold pz;rw[g];rfl
 |succ m Q=>
  intro a i o b x4 d p E j;obtain⟨f,rfl⟩:∃f,a=f+1:=⟨a-1,by lia⟩
  have g:ftW [e,Y (.lst<|c.map cD,o),Dx b,ii i,x4,d]=Y (decide<|(i:Int)<A2 b,[e,Y (.lst<|c.map cD,o),Dx b,ii i,x4,d]):=
   lY (o:=C) (jM (o1:=.slot 3) (o2:=.val (.int<|A2 b,C)) I (jd<|kx (os:=[.slot 2]) I I<|by simp) I I<|by rw[XM])
  by_cases h:((i:Int)<A2 b)
  .rw[rJ h]at g;obtain⟨l,v,w,h1,L,A⟩:=Yu x i e (Y (.lst<|c.map cD,C)) c b x4 d z j (by lia);obtain⟨k,s,q,r,u,T,O,B⟩:=Q f (i+1) C l v w (by lia) (by lia) h1;refine⟨k,s,q,r,u,T,by lia,?_⟩;unfold pz;rw[g];simp only[jH,kQ]
   have y:fbW [e,Y (.lst<|c.map cD,o),Dx b,ii i,x4,d]=Y (.nx [e,Y (.lst<|c.map cD,C),Dx l,ii (i+1:Nat),v,w]):=by refine(iO<|(kO (ds:=c.map cD) (δ1:=[e,Y (.lst<|c.map cD,C),Dx b,ii i,x4,d]) I).trans A).trans ?_;refine(iO<|jK (i:=3) (δ1:=[e,Y (.lst<|c.map cD,C),Dx l,ii i,v,w]) (jM (o1:=.slot 3) (o2:=.val (.int 1,C)) I I I I I) (show 3<6 by decide)).trans ?_;simp[jt]
   rw[y];simp only[jH];exact B
  rw[nv h]at g;refine⟨b,o,i,x4,d,j,kc _,?_⟩;unfold pz;rw[g];rfl
def aeb{n:Nat}(i:n<=5){b a:jI}(f:∀t∈b,J2 n t)(h:Dw n a)(o:Bool):∃c m,Dw n c/\(A2 a)<=A2 c/\nZ [(.lst<|a.map cD,C),(.lst<|b.map cD,o)]=Y ((.lst<|c.map cD,J),[Y (.lst<|a.map cD,C),m]):=by
 obtain⟨c,d,j,l,p,g,k,e⟩:=TV i (Y (.lst<|a.map cD,C)) b f 243 YT 0 o a U U (by lia) (by decide) h;refine⟨c,if o=J then Y (.lst<|b.map cD,d)else Y (.lst<|b.map cD,o),g,k,?_⟩;refine(ko (r:=(.lst<|c.map cD,J)) (δ:=[Y (.lst<|a.map cD,C),Y (.lst<|b.map cD,d),U,ii j,l,p]) ⟨rfl,(show 2<=6 by decide),by cases o<;>rfl⟩ ?_).trans ?_
 .refine(iO (δ1:=[Y (.lst<|a.map cD,C),Y (.lst<|b.map cD,o),Dx a,U,U,U]) I).trans ?_;refine(iO (δ1:=[Y (.lst<|a.map cD,C),Y (.lst<|b.map cD,o),Dx a,ii 0,U,U]) I).trans ?_;exact(iO e).trans (jJ I)
 cases o<;>rfl
noncomputable def Bt(a:jI)(c:iZ):List (List Int):=if c∈a then a else a++[c]
def dd(a:jI):List (List Int):=a.foldl Bt []
def Sd(a:jI)(c:iZ):pJ (a.map cD) (cD c)=(Bt a c).map cD:=by unfold pJ Bt;rw[show(a.map cD).any (D.Ba · (cD c))=decide (c∈a)from OY c a];by_cases h:c∈a<;>simp[h]
def OL:∀(b a:jI),(b.map cD).foldl pJ (a.map cD)=(b.foldl Bt a).map cD:=by
 intro e
 induction e with
 |nil=>intro a;exact I
 |cons c b d=>intro a;rw[jP,sD,sD,Sd,d]
def Pd:x∈Bt a c↔x∈a\/x=c:=by
 unfold Bt;by_cases h:c∈a
 .rw[jb h];constructor
  .exact .inl
  rintro(h1|rfl)
  .exact h1
  exact h
 rw[jr h];simp
def ad3:∀(b a:jI)(x:iZ),x∈b.foldl Bt a↔x∈a\/x∈b:=by
 intro e
 induction e with
 |nil=>intro a x;simp
 |cons c b d=>intro a x;rw[sD,d,Pd,kM,or_assoc]
def Se(h:f.Nodup):(Bt f c).Nodup:=by
 unfold Bt;split
 .exact h
 rename_i b;rw[yX];exact⟨h,by simp,λx d y a e=>by simp at a;subst a;subst e;exact b d⟩
def Oo:∀(b a:jI),a.Nodup->(b.foldl Bt a).Nodup:=by
 intro e
 induction e with
 |nil=>intro a h;exact h
 |cons c b d=>intro a h;rw[sD];exact d _ (Se h)
def wd:∀l:List Int,D.Hs (l.map .int)=J:=by
 intro b
 induction b with
 |nil=>simp[D.Hs]
 |cons x l a=>simp[D.Hs,D.pr,a]
def U7(c:iZ):Fl (cD c)=J:=by simp[Fl,wd,wM]
def Np(a:jI):(a.map cD).all Fl=J:=by rw[mJ];intro d hd;obtain⟨c,_,rfl⟩:=ji hd;exact U7 c
theorem Cf(c:cF):∀a b:List Int,(nr c (a.map .int)<|b.map .int).isSome=J
 |[],b=>by simp[nr]
 |x::a,[]=>by simp[nr]
 |x::a,y::b=>by
  simp only[jP,nr];split
  .exact Cf c a b
  simp[nK]
def adP(a:jI)(h:∀c∈a,c≠[]):oy (a.map cD)=J:=by
 have hk:∀c:List Int,c≠[]->lV (cD c)=Y 1:=λc i=>by
  cases c with
  |nil=>exact absurd I i
  |cons=>rfl
 unfold oy
 cases a with
 |nil=>rfl
 |cons c a=>
  rw[xm];right;simp only[jP];rw[lg,lg,hk c<|h c jW];refine⟨⟨rfl,?_⟩,?_⟩
  .rw[mJ];intro d hd;rw[<-jP (f:=cD)]at hd;obtain⟨x,g,rfl⟩:=ji hd;rw[hk x<|h x g,AI];simp[D.pr,wd]
  rw[mJ];intro d hd;rw[mJ];intro e b;rw[<-jP (f:=cD)]at hd b;obtain⟨x,g,rfl⟩:=ji hd;obtain⟨y,j,rfl⟩:=ji b;simp only[nK];rw[jb<|.inl trivial];exact Cf _ _ _
def JF:D->List Int
 |.tup l=>l.map Dd
 |_=>[]
def nO(c:iZ):JF (cD c)=c:=by simp only[JF,kZ];rw[oV (g:=id),qc];intro x _;rfl
def acR(h:m.Perm (cs.map cD)):∃a:List (List Int),m=a.map cD/\a.Perm cs:=by
 refine⟨m.map JF,?_,?_⟩
 .rw[kZ]
  symm
  rw[oV (g:=id),qc];intro d hd;obtain⟨c,_,rfl⟩:=ji<|h.mem_iff.mp hd;simp only[bj,nO];rfl
 have:=h.map JF;rw[kZ]at this;rw[show cp (JF∘cD) cs=cp id cs from oV λc _=>nO c,qc]at this;exact this
def JL(c:jI):Prop:=c.Pairwise λa b=>DY (cD b) (cD a)=C
def XD{n:Nat}{a:jI}(j:∀c∈a,DT n c)(l:(A2 a)<500):∃k b:List (List Int),Dw n b/\JL b/\(∀c,c∈b↔c∈a)/\(A2 b)<=A2 a/\Vr (.lst<|a.map cD)=Y (.B4 .set []<|k.map cD,J)/\mY (.B4 .set []<|k.map cD)=Y (.lst<|b.map cD,J):=by
 have f:∀c,c∈dd a↔c∈a:=λc=>by unfold dd;rw[ad3];simp
 have i:(dd a).Nodup:=Oo a [] (by simp);obtain⟨b,e,g⟩:=acR<|mE DY<|(dd a).map cD;have d:(dd a).length<=(A2 a):=DA _ _ i λc h=>(f c).mp h;refine⟨dd a,b,⟨g.symm.nodup i,λc h=>j c<|(f c).mp<|g.mem_iff.mp h⟩,?_,λc=>g.mem_iff.trans<|f c,by rw[g.length_eq];exact d,?_,?_⟩
 .have:=qo<|(dd a).map cD;rw[e,vJ]at this;exact this
 .show(if(a.map cD).all Fl=J/\(a.map cD).length<500 then Y (D.B4 .set []<|nI<|a.map cD,J)else U)=_;rw[jb ⟨Np a,by simpa using l⟩];unfold nI;rw[show([]:List D)=([]:List (List Int)).map cD from I,OL];rfl
 show(if((dd a).map cD).all Fl=J then ly ((dd a).map cD)else U)=_;rw[jb<|Np _];unfold ly;rw[jb ⟨adP _ λc h=>(j c<|(f c).mp h).1,by rw[kK];simp;lia⟩,e]
def ads:∀(k:Nat)(r f t:iZ),t∈nD k r f->∀x∈t,x∈f\/∃y∈r,x=y*1\/x=y* -1:=by
 intro e
 induction e with
 |zero=>intro r f t h x a;simp[nD]at h;subst h;exact .inl a
 |succ k d=>
  intro r f t h x a;simp only[nD,uM,pQ,um]at h;obtain⟨v,hv,h⟩:=h
  have key:∀s:Int,(s=1\/s= -1)->t∈nD k (r.eraseIdx v) (f++[r.getD v 0*s])->x∈f\/∃y∈r,x=y*1\/x=y* -1:=by
   intro s b h;rcases d _ _ t h x a with h1|⟨y,c,h1⟩
   .rcases pQ.mp h1 with h1|h1
    .exact .inl h1
    simp at h1;refine .inr ⟨r.getD v 0,ll hv,?_⟩;rw[lM];rcases b with rfl|rfl<;>simp[h1]
   exact .inr ⟨y,KY c,h1⟩
  rcases h with h|h
  .exact key 1 (.inl I) h
  exact key (-1) (.inr I) h
def aeK{n:Nat}{t:iZ}(h:t∈nD n (st n) []):J2 n t:=by
 refine⟨aeJ h,λx a=>?_⟩;rcases ads n _ _ t h x a with h1|⟨y,b,h1⟩
 .simp at h1
 have:=KS.mp b;unfold ab;rcases h1 with rfl|rfl<;>split<;>omega
def J2.abs(h:J2 n t):J2 n (t.map ab):=by refine⟨by simpa using h.1,λx a=>?_⟩;obtain⟨y,b,rfl⟩:=ji a;have:=h.2 y b;rw[pG (i:=ab y)<|by lia];exact this
def OT(l:Bn)(P:List Int->Prop)(b:Bool)(n:Int)(h:∀a,∃i c,P c/\l [pS a b,pI n]=Y (enc c,[B1 i b,ii n])):∀(k:List D)(f:jI)(a:Int)(x:Sl),(∀c∈f,P c)->A2 f+A2 k<=1000->
  ∃(i:Int)(j:jI)(o:Sl),(∀c∈j,P c)/\(A2 j)=A2 f+A2 k/\lJ (iP 2) jZ (ki<|jc l [iK 0,iK 1]) k (f.map cD) [B1 a b,ii n,x]=Y (j.map cD,[B1 i b,ii n,o]):=by
 intro A
 induction A with
 |nil=>intro f a x m _;exact⟨a,f,x,m,by simp,rfl⟩
 |cons d k w=>
  intro f a x m p;obtain⟨a1,z,v,r⟩:=h a
  obtain⟨i,j,o,t,q,e⟩:=w (f++[z]) a1 (Y (d,C)) (λy g=>by
   rcases pQ.mp g with g|g
   .exact m y g
   simp at g;subst g;exact v) (by simp at p ⊢;lia)
  refine⟨i,j,o,t,by simp at q ⊢;lia,?_⟩;have u:(f.map cD).length<sizeLine:=by rw[kK];simp at p ⊢;lia
  have s:jc l [iK 0,iK 1] [B1 a b,ii n,Y (d,C)]=Y (enc z,[B1 a1 b,ii n,Y (d,C)]):=
   jY (δ1:=[B1 a b,ii n,Y (d,C)]) (os:=[.slot 0,.slot 1]) (args:=[pS a b,pI n]) rfl rfl (Jp 0) r
  rw[lJ,show iP 2 d [B1 a b,ii n,x]=Y [B1 a b,ii n,Y (d,C)]from I];simp only[jH,wc,kQ,yK];rw[s];simp only[jH];rw[jb u];rw[oD]at e;exact e
def AL(l:Bn)(P:List Int->Prop)(b:Bool)(n:Int)(h:∀a,∃f c,P c/\l [pS a b,pI n]=Y (enc c,[B1 f b,ii n]))(k:List D)(hd:(A2 k)<=1000)(a:Int)(g i:Sl)(d:Dn)(o:Dr)(m:o (B1 a b::g::i::ii n::d)=Y (k,B1 a b::g::i::ii n::d)):
  ∃(f:Int)(j:jI),(∀c∈j,P c)/\(A2 j)=A2 k/\jL [0,3] 1 o (iP 2) jZ (ki<|jc l [iK 0,iK 1]) (B1 a b::g::i::ii n::d)=Y ((.lst<|j.map cD,J),B1 f b::g::i::ii n::d):=by
 obtain⟨f,j,q,h1,p,e⟩:=OT l P b n h k [] a U (by simp) (by simpa using hd);refine⟨f,j,h1,by simpa using p,?_⟩;unfold jL;rw[m];simp only[jH,jP,oh];rw[show kf (B1 a b::g::i::ii n::d) [.slot 0,.slot 3]=Y [pS a b,pI n]from I];simp only[jH];rw[jb (show(jq [Bq.slot 0,Bq.slot 3] [(D.lst [.int a,.bl b],J),pI n]).Nodup from(Jp 0))];rw[show(cp Y [(D.lst [.int a,.bl b],J),(D.int n,C)]++ah 1 U:Dn)=[B1 a b,ii n,U]from I];rw[show([]:List D)=([]:List (List Int)).map cD from I,e];rfl
def OM(a:jI)(v:Nat):∃m,m<=v/\PX.oA (a.map cD) U (Y (v:Int))=(a.take m).map cD:=by refine⟨min v<|A2 a,by lia,?_⟩;unfold PX.oA;rw[HT.Sy,HT.Ug,u3,kd,te,y7]
def JL.take(h:JL ks)(m:Nat):JL (ks.take m):=y8 (xF m ks) h
def Dw.take(h:Dw n ks)(m:Nat):Dw n (ks.take m):=⟨List.Nodup.sublist (xF m ks) h.1,λc a=>h.2 c<|uU a⟩
def Pf(t:iZ)(a:(A2 t)<=100):TM [Y (cD t,C)]=Y ((cD<|t.map ab,C),[Y (cD t,C)]):=by
 obtain⟨b,e⟩:=AO (ju (g1 Ao) [iK 0]) (λd=>.int (ab<|Dd d)) [] (t.map .int) [] U (by intro d hd;obtain⟨i,_,rfl⟩:=ji hd;exact⟨C,rfl⟩) (by rw[kK];simp;lia)
 simp only[uN,qd,kP,rE,kZ]at e;refine kx (os:=[.val (.lst<|(t.map ab).map .int,J)]) (qa<|jd ?_) I I;unfold jL;rw[show kG (kI 0) [Y (cD t,C)]=Y (t.map .int,[Y (cD t,C)])from I];simp only[jH,oh,tY,jq,mU,kQ,qd,dq,yY];rw[e,kZ];rfl
def YL{f:F}{c:Dr}{e a:Dn}{b d:List D}{h:Sl}(h1:c e=Y (b,a))(g:lJ (iP 0) jZ (ki f) b [] [U]=Y (d,[h])):jL [] 1 c (iP 0) jZ (ki f) e=Y ((.lst d,J),a):=by unfold jL;rw[h1];simp only[jH,oh,tY,jq,mU,kQ,qd,dq,yY];rw[g];rfl
def adX(a:jI)(m:(A2 a)<=1000)(l:∀t∈a,A2 t<=100)(b c f g i j k:Sl)(o:Bool):jL [] 1 (kG<|kI 7) (iP 0) jZ W5 [b,c,f,g,i,j,k,Y (.lst<|a.map cD,o)]=Y ((.lst<|(a.map<|cp ab).map cD,J),[b,c,f,g,i,j,k,Y (.lst<|a.map cD,C)]):=by
 obtain⟨n,e⟩:=AO TM (λd=>cD<|(JF d).map ab) [] (a.map cD) [] U (by intro d hd;obtain⟨t,h,rfl⟩:=ji hd;refine⟨C,?_⟩;rw[nO];exact Pf t<|l t h) (by rw[kK];simp;lia)
 simp only[uN,qd,kP,rE,kZ]at e;have:(a.map<|(λd=>cD<|(JF d).map ab)∘cD)=a.map (cD∘cp ab):=oV λt _=>by simp only[bj,nO]
 rw[this]at e;rw[kZ];exact YL I e
def A7(n:Nat)(a:jI):Prop:=n<=5/\Dw n a/\JL a/\(A2 a)<=30
abbrev Hr(n:Nat)(ks:jI):D:=.tup [.int n,.tup<|ks.map cD]
abbrev rS(n:Nat)(ks:jI):Sl:=Y (Hr n ks,C)
noncomputable abbrev lv(L:List D):Sl:=Y (.lst L,J)
def acM(h:kj fs δ=kj b a):jc ev fs δ=jc ev b a:=by unfold jc;rw[h]
def adg(a:Int)(b:Bool)(lo d:Nat)(h1:lo<=d)(h5:d<=5):∃Y' n ks,A7 n ks/\lo<=n/\n<=d/\ng [pS a b,pI lo,pI d]=Y ((Hr n ks,AX),[B1 Y' b,ii lo,ii d]):=by
 obtain⟨v,a1,v0,v1,e1⟩:=lZ a b ((d:Int)-lo+1) (by lia) (by lia);obtain⟨w,q,w0,w1,e2⟩:=lZ a1 b 4 (by lia) (by lia);obtain⟨n,hn⟩:∃n:Nat,(lo:Int)+v=n:=⟨(lo+v).toNat,by lia⟩
 have pre:∀g,iW Xe (iW WH g) [B1 a b,ii lo,ii d,AR,AR,AR,AR,AR]=g [B1 q b,ii lo,ii d,ii n,ii w,AR,AR,AR]:=by
  intro g;refine(iO (δ1:=[B1 a1 b,ii lo,ii d,ii n,AR,AR,AR,AR]) ?_).trans ?_
  .refine jK (i:=3) (δ1:=[B1 a1 b,ii lo,ii d,AR,AR,AR,AR,AR]) (jM (o1:=.slot 1) (o2:=.val (.int v,AX)) AM (jd<|e1 _ _ _ rfl rfl) AM AM ?_) (show 3<8 by decide);rw[XQ,hn]
  exact iO (jK (i:=4) (δ1:=[B1 q b,ii lo,ii d,ii n,AR,AR,AR,AR]) (e2 _ [ii lo,ii d,ii n,AR,AR,AR,AR] _ rfl rfl) (show 4<8 by decide))
 by_cases hz:n=0
 .subst hz;refine⟨q,0,[],⟨by lia,⟨by simp,by simp⟩,c3,by simp⟩,by lia,by lia,?_⟩;refine ko (δ:=[B1 q b,ii lo,ii d,ii (0:Nat),ii w,AR,AR,AR]) ⟨rfl,by decide,rfl⟩<|(pre _).trans ?_;refine jJ<|(rM (δ1:=[B1 q b,ii lo,ii d,ii (0:Nat),ii w,AR,AR,AR])<|by simp).trans<|jJ<|la ?_;simp[kK]
 have n1:1<=n:=by lia
 have T:n<=5:=by lia
 obtain⟨u,H,u0,u1,e3⟩:=lZ q b 3 (by lia) (by lia)
 let M:List Int:=[4,8,13]
 let m:=M.getD u.toNat 0
 have hm:0<m/\m<=13:=by rcases(show u=0\/u=1\/u=2 by lia)with rfl|rfl|rfl<;>decide
 obtain⟨c,I,q0,q1,e4⟩:=lZ H b m hm.1 (by lia);obtain⟨f,rfl⟩:∃f:Nat,c=f:=⟨c.toNat,by lia⟩
 have i1:vB (iK 5) [B1 I b,ii lo,ii d,ii n,ii w,ii f,AR,AR]=Y (jA 0 f,[B1 I b,ii lo,ii d,ii n,ii w,ii f,AR,AR]):=oJ (o:=.slot 5) AM AM (by lia);obtain⟨B,j,cY,m5,e5⟩:=AL nh (DT n) b n (λa=>aec a b n n1 T) (jA 0 f) (by simp[jA];lia) I (ii lo) (ii d) [ii w,ii f,AR,AR] (vB<|iK 5) i1;have j7:(A2 j)<13:=by simp[jA]at m5;lia
 have E:∃(h:Int)(z:jI)(l:Sl),(∀c∈z,DT n c)/\(A2 z)<500/\zC0 [B1 B b,ii lo,ii d,ii n,ii w,ii f,lv<|j.map cD,AR]=Y (.nx [B1 h b,ii lo,ii d,ii n,ii w,ii f,lv<|z.map cD,l]):=by
  by_cases hw:0<w
  .obtain⟨k,hk,bJ⟩:∃k:Nat,(1:Int)+w%2=k/\k<=2:=⟨(1+w%2).toNat,by lia,by lia⟩
   have i2:vB WY [B1 B b,ii lo,ii d,ii n,ii w,ii f,lv<|j.map cD,AR]=Y (jA 0 k,[B1 B b,ii lo,ii d,ii n,ii w,ii f,lv<|j.map cD,AR]):=by refine oJ (o:=.val (.int k,AX)) (jd ?_) AM (by lia);rw[<-hk];simp[yA,gI]
   obtain⟨h,A,F,V,e6⟩:=AL kX (J2 n) b n (λa=>by obtain⟨Y',t,L,e⟩:=vn a b n T;exact⟨Y',t,aeK L,e⟩) (jA 0 k) (by simp[jA];lia) B (ii lo) (ii d) [ii w,ii f,lv<|j.map cD,AR] _ i2
   have O:(A2 A)<=1000:=by simp[jA]at V;lia
   have X:∃s:List (List Int),(∀t∈s,J2 n t)/\∀g,iW zC3 g [B1 h b,ii lo,ii d,ii n,ii w,ii f,lv<|j.map cD,lv<|A.map cD]=g [B1 h b,ii lo,ii d,ii n,ii w,ii f,lv<|j.map cD,lv<|s.map cD]:=by
    by_cases h3:w=3
    .refine⟨A.map<|cp ab,λt L=>?_,λg=>?_⟩
     .obtain⟨t',gx,rfl⟩:=ji L;exact(F t' gx).abs
     refine iO ((rM (δ1:=[B1 h b,ii lo,ii d,ii n,ii w,ii f,lv<|j.map cD,lv<|A.map cD])<|lY (o:=AX)<|jM (o1:=.slot 4) (o2:=.val (.int 3,AX)) AM AM AM AM<|by rw[MI,h3];rfl).trans<|(iO<|jK (i:=7) (δ1:=[B1 h b,ii lo,ii d,ii n,ii w,ii f,lv<|j.map cD,Y (.lst<|A.map cD,AX)]) (adX A O (λt L=>by have:=(F t L).1;lia) _ _ _ _ _ _ _ Ap) (show 7<8 by decide)).trans AM)
    refine⟨A,F,λg=>iO<|(pU (δ1:=[B1 h b,ii lo,ii d,ii n,ii w,ii f,lv<|j.map cD,lv<|A.map cD])<|lY (o:=AX)<|jM (o1:=.slot 4) (o2:=.val (.int 3,AX)) AM AM AM AM<|by rw[MI,rC,nv h3]).trans AM⟩
   obtain⟨s,Q,X⟩:=X;obtain⟨Z,ks,J,P,S,R,D,W⟩:=XD cY (by lia);obtain⟨x,gA,ct⟩:=OM ks 2;obtain⟨z,l,U,_,e7⟩:=aeb T Q (J.take x) Ap;refine⟨h,z,l,U.2,by have:=U.len T;lia,?_⟩;refine(rM (δ1:=[B1 B b,ii lo,ii d,ii n,ii w,ii f,lv<|j.map cD,AR])<|lY (o:=AX)<|jM (o1:=.slot 4) (o2:=.val (.int 0,AX)) AM AM AM AM<|by rw[MF,rJ (show w>0 from hw)]).trans ?_;refine(iO<|jK (i:=7) e6 (show 7<8 by decide)).trans ((X _).trans<|(iO<|jK (i:=6) (δ1:=[B1 h b,ii lo,ii d,ii n,ii w,ii f,lv<|j.map cD,l]) (jY (δ1:=[B1 h b,ii lo,ii d,ii n,ii w,ii f,lv<|j.map cD,lv<|s.map cD]) (os:=[.val (.lst<|(ks.take x).map cD,Ap),.slot 7]) (args:=[(.lst<|(ks.take x).map cD,AX),(.lst<|s.map cD,Ap)]) (mS (δ1:=[B1 h b,ii lo,ii d,ii n,ii w,ii f,lv<|j.map cD,lv<|s.map cD]) (jd ?_) AM) AM (Jp 7) e7) (show 6<8 by decide)).trans AM)
   have f1:PF [B1 h b,ii lo,ii d,ii n,ii w,ii f,lv<|j.map cD,lv<|s.map cD]=Y ((.lst<|ks.map cD,Ap),[B1 h b,ii lo,ii d,ii n,ii w,ii f,lv<|j.map cD,lv<|s.map cD]):=
    kx (os:=[.val (.B4 .set []<|Z.map cD,Ap)]) (qa<|jd<|kx (os:=[.slot 6]) AM AM D) rfl W
   unfold tE;rw[jd f1];simp only[jH];rw[show yd [B1 h b,ii lo,ii d,ii n,ii w,ii f,lv<|j.map cD,lv<|s.map cD]=Y (.val (.int 2,AX),[B1 h b,ii lo,ii d,ii n,ii w,ii f,lv<|j.map cD,lv<|s.map cD])from AM];simp only[jH,zM];rw[show Kt AR (Y 2) (.lst<|ks.map cD)=Y (.lst<|PX.oA (ks.map cD) AR<|Y 2,Ap)from AM];simp only[jH];rw[show PX.oA (ks.map cD) AR (Y 2)=(ks.take x).map cD from ct]
  refine⟨B,j,AR,cY,by lia,?_⟩;exact(pU (δ1:=[B1 B b,ii lo,ii d,ii n,ii w,ii f,lv<|j.map cD,AR])<|lY (o:=AX)<|jM (o1:=.slot 4) (o2:=.val (.int 0,AX)) AM AM AM AM<|by rw[MF,nv (show ¬w>0 from hw)]).trans AM
 obtain⟨h,z,l,U,y9,E⟩:=E;obtain⟨Z,ks,J,P,S,R,D,W⟩:=XD U y9
 have f1:PF [B1 h b,ii lo,ii d,ii n,ii w,ii f,lv<|z.map cD,l]=Y ((.lst<|ks.map cD,Ap),[B1 h b,ii lo,ii d,ii n,ii w,ii f,lv<|z.map cD,l]):=
  kx (os:=[.val (.B4 .set []<|Z.map cD,Ap)]) (qa<|jd<|kx (os:=[.slot 6]) AM AM D) rfl W
 have last:∃(y:Int)(C:jI),Dw n C/\JL C/\(A2 C)<=30/\EJ TK W3 jt [B1 h b,ii lo,ii d,ii n,ii w,ii f,lv<|ks.map cD,l]=Y (.nx [B1 y b,ii lo,ii d,ii n,ii w,ii f,lv<|C.map cD,l]):=by
  have N:TK [B1 h b,ii lo,ii d,ii n,ii w,ii f,lv<|ks.map cD,l]=Y (decide<|((A2 ks):Int)>30,[B1 h b,ii lo,ii d,ii n,ii w,ii f,lv<|ks.map cD,l]):=
   lY (o:=AX) (jM (o1:=.val (.int<|A2 ks,AX)) (o2:=.val (.int 30,AX)) (jd<|kx (os:=[.slot 6]) AM AM<|by simp) AM AM AM<|MF _ _)
  by_cases hb:((A2 ks):Int)>30
  .obtain⟨p,y,p0,p1,e8⟩:=lZ h b 30 (by lia) (by lia);obtain⟨G,rfl⟩:∃G:Nat,p=G:=⟨p.toNat,by lia⟩
   obtain⟨x,gA,ct⟩:=OM ks G;refine⟨y,ks.take x,J.take x,P.take x,by rw[rK];lia,?_⟩;rw[rJ hb]at N;refine(rM N).trans ((iO<|jK (i:=6) (δ1:=[B1 y b,ii lo,ii d,ii n,ii w,ii f,lv<|ks.map cD,l]) (r:=(.lst<|(ks.take x).map cD,Ap)) ?_ (show 6<8 by decide)).trans AM);unfold tE;rw[show iK 6 [B1 h b,ii lo,ii d,ii n,ii w,ii f,lv<|ks.map cD,l]=Y (.slot 6,[B1 h b,ii lo,ii d,ii n,ii w,ii f,lv<|ks.map cD,l])from AM];simp only[jH];rw[jd<|e8 _ [ii lo,ii d,ii n,ii w,ii f,lv<|ks.map cD,l] _ rfl rfl];simp only[jH,zM];rw[show res (B1 y b::[ii lo,ii d,ii n,ii w,ii f,lv<|ks.map cD,l]) (.slot 6)=Y (.lst<|ks.map cD)from AM];simp only[jH];rw[show Kt AR (Y (G:Int)) (.lst<|ks.map cD)=Y (.lst<|PX.oA (ks.map cD) AR<|Y (G:Int),Ap)from AM,ct];rfl
  rw[nv hb]at N;exact⟨h,ks,J,P,by lia,(pU N).trans AM⟩
 obtain⟨y,C,k1,k2,k3,last⟩:=last;refine⟨y,n,C,⟨T,k1,k2,k3⟩,by lia,by lia,?_⟩;refine ko (δ:=[B1 y b,ii lo,ii d,ii n,ii w,ii f,lv<|C.map cD,l]) ⟨rfl,by decide,rfl⟩<|(pre _).trans ?_;refine(iO<|(pU (δ1:=[B1 q b,ii lo,ii d,ii n,ii w,AR,AR,AR])<|by simp[hz]).trans AM).trans ?_;refine(iO (δ1:=[B1 I b,ii lo,ii d,ii n,ii w,ii f,AR,AR]) ?_).trans ?_
 .refine jK (i:=5) (δ1:=[B1 I b,ii lo,ii d,ii n,ii w,AR,AR,AR]) ?_ (show 5<8 by decide)
  have em:iX TN [B1 q b,ii lo,ii d,ii n,ii w,AR,AR,AR]=Y (.val (.int m,AX),[B1 H b,ii lo,ii d,ii n,ii w,AR,AR,AR]):=
   jd (jM (o1:=.val (.lst<|M.map .int,Ap)) (o2:=.val (.int u,AX)) (jd (δ1:=[B1 q b,ii lo,ii d,ii n,ii w,AR,AR,AR])<|by simp[M,kK]) (jd<|e3 _ [ii lo,ii d,ii n,ii w,AR,AR,AR] _ rfl rfl) AM AM<|Vj u0<|by simpa[M]using u1)
  have K:=e4 (λ_=>Y (.val (.int m,AX),[B1 H b,ii lo,ii d,ii n,ii w,AR,AR,AR])) [ii lo,ii d,ii n,ii w,AR,AR,AR] (.val (.int m,AX)) AM AM
  have hf:kj [iK 0,iX TN] [B1 q b,ii lo,ii d,ii n,ii w,AR,AR,AR]=kj [iK 0,λ_=>Y (.val (.int m,AX),[B1 H b,ii lo,ii d,ii n,ii w,AR,AR,AR])] (B1 H b::[ii lo,ii d,ii n,ii w,AR,AR,AR]):=by rw[mS (o1:=.slot 0) AM em];rfl
  exact(acM hf).trans K
 refine(iO<|jK (i:=6) e5 (show 6<8 by decide)).trans ?_;refine(iO E).trans ?_;refine(iO<|jK (i:=6) f1 (show 6<8 by decide)).trans ?_;refine(iO last).trans (jJ<|la ?_);simp[kI,kK]
noncomputable abbrev D3(a:List D):Dn:=a.map λd=>Y (d,C)
theorem wq:∀(os:List Bq)(a:List D),jq os (a.map λd=>(d,C))=[]
 |[],_=>by simp[jq]
 |_::_,[]=>by simp[jq]
 |o::os,d::a=>by cases o<;>simp[jq,wq os a]
theorem HG:∀(os:List Bq)(b:List D)(a c:Dn),wb os (b.map λd=>(d,C)) a c=c
 |[],_,_,_=>by simp[wb]
 |_::_,[],_,_=>by simp[wb]
 |_::_,_::_,[],_=>by simp[wb]
 |o::os,d::b,x::xs,c=>by cases o<;>simp[wb,HG os b xs]
def YN{f:F}{ti:FT}{g:D->D}{p:D->Bool}{pre:Dn}:∀(l a:List D)(x:Sl),(∀d∈l,ti (pre++[Y (d,C)])=Y (p d,pre++[Y (d,C)])/\(p d=J->∃o,f (pre++[Y (d,C)])=Y ((g d,o),pre++[Y (d,C)])))->A2 a+A2 l<=sizeLine->
  ∃b,lJ (iP<|A2 pre) ti (ki f) l a (pre++[x])=Y (a++(l.filter p).map g,pre++[b]):=by
 intro r
 induction r with
 |nil=>intro a x _ _;exact⟨x,by simp[lJ]⟩
 |cons d l m=>
  intro a x h j;obtain⟨h1,n⟩:=h d jW;have q:(A2 a)<sizeLine:=by simp at j;lia
  rw[lJ,Df];simp only[jH];rw[h1]
  cases k:p d
  .obtain⟨b,e⟩:=m a (Y (d,C)) (λc i=>h c<|jU _ i) (by simp at j ⊢;lia);exact⟨b,by simp[e,k]⟩
  obtain⟨o,hd⟩:=n k;obtain⟨b,e⟩:=m (a++[g d]) (Y (d,C)) (λc i=>h c<|jU _ i) (by simp at j ⊢;lia);refine⟨b,?_⟩;simp only[jH,kQ,yK];rw[hd];simp only[jH];rw[jb q];simp only[jH];rw[e];simp[k]
def AK{caps:kb}{fi:Dr}{f:F}{ti:FT}{δ δ1:Dn}{l args:List D}(g:D->D)(p:D->Bool)(h1:fi δ=Y (l,δ1))(a:kf δ1 (caps.map .slot)=Y (args.map λd=>(d,C)))(b:(A2 args)=A2 caps)
  (h:∀d∈l,ti (D3 args++[Y (d,C)])=Y (p d,D3 args++[Y (d,C)])/\(p d=J->∃o,f (D3 args++[Y (d,C)])=Y ((g d,o),D3 args++[Y (d,C)])))(c:(A2 l)<=10000):
  jL caps 1 fi (iP<|A2 caps) ti (ki f) δ=Y ((.lst<|(l.filter p).map g,J),δ1):=by
 obtain⟨i,e⟩:=YN (f:=f) (ti:=ti) (g:=g) (p:=p) (pre:=D3 args) l [] U h (by rw[kK];simp;lia);unfold jL;rw[h1];simp only[jH];rw[a];simp only[jH,wq,mU,kQ,kZ,HG];rw[show iP (A2 caps)=iP (D3 args).length from by rw[kd,b]];rw[show((args.map<|Y∘λd=>(d,C))++ah 1 U:Dn)=D3 args++[U]from I,e];simp
def AJ{caps:kb}{fi:Dr}{f:F}{δ δ1:Dn}{l args:List D}(g:D->D)(h1:fi δ=Y (l,δ1))(a:kf δ1 (caps.map .slot)=Y (args.map λd=>(d,C)))(b:(A2 args)=A2 caps)
  (h:∀d∈l,∃o,f (D3 args++[Y (d,C)])=Y ((g d,o),D3 args++[Y (d,C)]))(c:(A2 l)<=10000):
  jL caps 1 fi (iP<|A2 caps) jZ (ki f) δ=Y ((.lst<|l.map g,J),δ1):=by
 rw[AK g (λ_=>J) h1 a b (λd hd=>⟨rfl,λ_=>h d hd⟩) c,Wa.mpr λ_ _=>rfl]
def wO{caps:kb}{fi:Dr}{f:F}{δ a:Dn}{l args:List D}(p:D->Bool)(h1:fi δ=Y (l,a))(b:kf a (caps.map .slot)=Y (args.map λd=>(d,C)))(c:(A2 args)=A2 caps)
  (h:∀d∈l,∃o,f (D3 args++[Y (d,C)])=Y ((.bl<|p d,o),D3 args++[Y (d,C)]))(e:(A2 l)<=10000):
  ju (g1 vC) [iX<|jL caps 1 fi (iP<|A2 caps) jZ<|ki f] δ=Y ((.bl<|l.all p,C),a):=
 kx (qa<|jd<|AJ (λd=>.bl (p d)) h1 b c h e) rfl (wW p l)
def ON{caps:kb}{fi:Dr}{f:F}{δ a:Dn}{l args:List D}(p:D->Bool)(h1:fi δ=Y (l,a))(b:kf a (caps.map .slot)=Y (args.map λd=>(d,C)))(c:(A2 args)=A2 caps)
  (h:∀d∈l,∃o,f (D3 args++[Y (d,C)])=Y ((.bl<|p d,o),D3 args++[Y (d,C)]))(e:(A2 l)<=10000):
  ju (g1 EZ) [iX<|jL caps 1 fi (iP<|A2 caps) jZ<|ki f] δ=Y ((.bl<|l.any p,C),a):=
 kx (qa<|jd<|AJ (λd=>.bl (p d)) h1 b c h e) rfl (OX p l)
def aaL{f:F}{c:Dr}{g:D->D->D}{m:List D}(r:∀d y,c [Y (d,C),y]=Y (m,[Y (d,C),y])):∀(l a:List D)(x y:Sl),(∀d∈l,∀e∈m,∃o,f [Y (d,C),Y (e,C)]=Y ((g d e,o),[Y (d,C),Y (e,C)]))->A2 a+(A2 l)*(A2 m)<=sizeLine->
  ∃v b,lJ (iP 0) jZ (KG c (iP 1) jZ<|ki f) l a [x,y]=Y (a++l.flatMap λd=>m.map<|g d,[v,b]):=by
 intro u
 induction u with
 |nil=>intro a x y _ _;exact⟨x,y,by simp[lJ]⟩
 |cons d l t=>
  intro a x y h s;have A:(A2 a)+A2 m+(A2 l)*(A2 m)<=sizeLine:=by simp[xj]at s;omega
  obtain⟨b,j⟩:=AO f (g d) [Y (d,C)] m a y (λe q=>h d jW e q) (by omega);obtain⟨x2,w,k⟩:=t (a++m.map (g d)) (Y (d,C)) b (λi n=>h i<|jU _ n) (by simp;omega);refine⟨x2,w,?_⟩;rw[lJ];rw[show iP 0 d [x,y]=Y [Y (d,C),y]from I];simp only[jH,wc,kQ];unfold KG;rw[r];simp only[jH];rw[show lJ (iP 1) jZ (ki f) m a [Y (d,C),y]=_ from j];simp only[jH];rw[show lJ (iP 0) jZ (λa z=>(c z).bind λp=>lJ (iP 1) jZ (ki f) p.1 a p.2) l (a++m.map (g d)) ([Y (d,C)]++[b])=_ from k];simp
def VS{fi fi2:Dr}{f:F}{δ δ1:Dn}{l m:List D}(g:D->D->D)(h1:fi δ=Y (l,δ1))(a:∀d y,fi2 [Y (d,C),y]=Y (m,[Y (d,C),y]))(h:∀d∈l,∀e∈m,∃o,f [Y (d,C),Y (e,C)]=Y ((g d e,o),[Y (d,C),Y (e,C)]))(b:(A2 l)*(A2 m)<=10000):
  jL [] 2 fi (iP 0) jZ (KG fi2 (iP 1) jZ<|ki f) δ=Y ((.lst<|l.flatMap λd=>m.map<|g d,J),δ1):=by
 obtain⟨c,i,e⟩:=aaL (f:=f) (g:=g) a l [] U U h (by rw[kK];simp;lia);unfold jL;rw[h1];simp only[jH,oh,tY,jq,mU,kQ,qd,dq,yY];rw[e];simp[wb]
inductive FIv(P:Dn->Prop)(x:Option Out):Prop where
 |mk (δ:Dn) (_:P δ) (_:x=A9 (.nx δ))
def nX{tg:Tg}{fb:FS}(T:List D->Dn->Prop)(step:∀d ds δ,T (d::ds) δ->∃δ1 a,tg d δ=Y δ1/\fb δ1=Y (.nx a)/\T ds a):∀(ds:List D)(δ:Dn),T ds δ->FIv (T []) (mB tg fb ds δ):=by
 intro j
 induction j with
 |nil=>intro δ h;exact⟨δ,h,rfl⟩
 |cons d ds i=>intro δ h;obtain⟨δ1,a,h1,c,e⟩:=step d ds δ h;obtain⟨b,f,g⟩:=i a e;refine⟨b,f,?_⟩;unfold mB;rw[h1];simp only[jH];rw[c];exact g
def OB{caps:kb}{k:Nat}{d:Dr}{e:Tg}{ti:FT}{c:FB}{δ δ1 b:Dn}{l a:List D}{args:List (D×Bool)}(h1:d δ=Y (l,δ1))(f:kf δ1 (caps.map .slot)=Y args)(g:(jq (caps.map .slot) args).Nodup)(h:lJ e ti c l [] (args.map Y++ah k U)=Y (a,b)):
  jL caps k d e ti c δ=Y ((.lst a,J),wb (caps.map .slot) args (jD args b) δ1):=by
 unfold jL;rw[h1];simp only[jH];rw[f];simp only[jH];rw[jb g,h];rfl
noncomputable def OV:D->Bool
 |.int i=>decide (0<=i)&&decide (i<=1)
 |_=>C
def VW(d:D):oS [(d,C)]=Y ((.bl<|OV d,C),[Y (d,C)]):=by
 cases d<;>simp[oS,B6,Be,jD,BM,jq,wb,OV]
def isA(n:Nat):D->Bool
 |.tup l=>decide (A2 l=n)&&l.all OV
 |_=>C
def DR(h:f δ=Y ((.bl J,o),δ1)):xX f g δ=g δ1:=by rw[MH,h];rfl
def OC(h:f δ=Y ((.bl C,o),δ1)):xX f g δ=Y ((.bl C,C),δ1):=by rw[MH,h];rfl
def adV(n:Nat)(d:D)(hd:JD d):mO [pI n,(d,C)]=Y ((.bl<|isA n d,C),[ii n,Y (d,C)]):=by
 cases d with
 |tup l=>
  have c:=wO (caps:=[]) (fi:=kG<|kI 1) (f:=jc oS [iK 0]) (δ:=[ii n,Y (.tup l,C)]) (l:=l) (args:=[]) OV I I I (λd _=>⟨C,by simp[VW,jq,wb]⟩) (by have:=hd l I;lia)
  have e:jf Gw LX (iK 0) [ii n,Y (.tup l,C)]=Y ((.bl<|decide<|A2 l=n,C),[ii n,Y (.tup l,C)]):=by simp[rC,tf]
  refine ko (δ:=[ii n,Y (.tup l,C)]) ⟨rfl,by decide,rfl⟩<|jJ<|la<|(DR I).trans ?_;rw[isA];by_cases h:(A2 l)=n
  .rw[rJ h]at e ⊢;exact(DR e).trans c
  rw[nv h]at e ⊢;exact OC e
 |_=>simp[mO,wI,Be,jD,Hf,isA]
noncomputable def vZ:D->List D
 |.tup l=>l
 |.lst l=>l
 |_=>[]
def JU(t:iZ)(s:Int):Bool:=t.getD ((ab s).toNat-1) 0==(if s>0 then 1 else 0)
def Ym(t:iZ)(s:Int)(h:1<=ab s/\ab s<=A2 t):CK (.tup<|t.map .int) (.int<|ab s-1)=ii (t.getD ((ab s).toNat-1) 0):=by
 have h1:0<=ab s-1:=by lia
 have b:ab s-1<((t.map D.int).length:Int):=by simp;lia
 have c:(ab s-1).toNat=(ab s).toNat-1:=by lia
 have d:(ab s).toNat-1<(A2 t):=by lia
 have a:GN (t.map D.int).length (ab s-1)=Y ((ab s).toNat-1):=by unfold GN;rw[jb h1,jb b,c]
 rw[kd]at a;simp[CK,Hq,a,d]
def Sx(t:iZ)(s:Int)(h:1<=ab s/\ab s<=A2 t):pD [enc t,pI s]=Y ((.bl<|JU t s,C),[eN t,ii s]):=by have:=Ym t s h;unfold ab at this;by_cases a:s>0<;>simp[pD,E6,Be,jD,this,a,JU,ab]
def Va(t:iZ)(s:Int)(h:1<=ab s/\ab s<=A2 t):qI [enc t,pI s]=Y ((.bl<|JU t s,C),[eN t,ii s]):=by have:=Ym t s h;unfold ab at this;by_cases a:s>0<;>simp[qI,BZ,Be,jD,this,a,JU,ab]
def kC(t c:iZ):Bool:=c.any<|JU t
def R9(p:Int->Bool)(c:iZ):(c.map D.int).any (λd=>p<|Dd d)=c.any p:=by simp[xu,rH,Dd]
def S6(n:Nat)(i:n<=5)(t c:iZ)(j:(A2 t)=n)(g:DT n c)(a:Bn)(b:∀s,1<=ab s/\ab s<=A2 t->a [enc t,pI s]=Y ((.bl<|JU t s,C),[eN t,ii s])):
  Be 2 2 [] (iW (lA<|ju (g1 EZ) [iX<|jL [0] 1 mX (iP 1) jZ<|ki<|jc a [iK 0,iK 1]]) jt) [enc t,enc c]=Y ((.bl<|kC t c,C),[eN t,eN c]):=by
 have e:=ON (caps:=[0]) (fi:=kG<|kI 1) (f:=jc a [iK 0,iK 1]) (δ:=[eN t,eN c]) (l:=c.map .int) (args:=[cD t]) (λd=>JU t<|Dd d) I I I (λd hd=>⟨C,by obtain⟨s,h,rfl⟩:=ji hd;have:=g.2.2 s h;simp[b s<|by lia,jq,wb,Dd]⟩) (by have:=DT.len g;simp;lia)
 rw[R9]at e;exact ko ⟨rfl,by decide,rfl⟩<|jJ<|la e
def Vh{n:Nat}(b:n<=5){t c:iZ}(d:(A2 t)=n)(a:DT n c):nk [enc t,enc c]=Y ((.bl<|kC t c,C),[eN t,eN c]):=S6 n b t c d a _ λs h=>Sx t s h
def Rg{n:Nat}(b:n<=5){t c:iZ}(d:(A2 t)=n)(a:DT n c):lR [enc t,enc c]=Y ((.bl<|kC t c,C),[eN t,eN c]):=S6 n b t c d a _ λs h=>Va t s h
def kB(n:Nat)(a:jI)(d:D):Bool:=isA n d&&a.all (kC<|(vZ d).map Dd)
def Rz(h:isA n d=J):∃t:List Int,d=cD t/\(A2 t)=n:=by
 cases d with
 |tup l=>
  rw[isA,lg,rZ,mJ]at h;refine⟨l.map Dd,?_,by simp[h.1]⟩;rw[cD,kZ]
  congr 1
  rw[oV (g:=id),qc];intro x a;have:=h.2 x a;cases x<;>simp[OV,Dd]at this ⊢
 |_=>cases h
def Sa{n:Nat}(k:n<=5){a:jI}(hk:∀c∈a,DT n c)(j:(A2 a)<=30){t:iZ}(m:(A2 t)=n){b:Bn}(e:∀c,DT n c->b [enc t,enc c]=Y ((.bl<|kC t c,C),[eN t,eN c])){fi:Dr}{δ:Dn}{i:Nat}(h:δ[i]?=Y (eN t))(h1:fi δ=Y (a.map cD,δ)):
  ju (g1 vC) [iX<|jL [i] 1 fi (iP 1) jZ<|ki<|jc b [iK 0,iK 1]] δ=Y ((.bl<|a.all<|kC t,C),δ):=by
 have:=wO (caps:=[i]) (fi:=fi) (f:=jc b [iK 0,iK 1]) (δ:=δ) (l:=a.map cD) (args:=[cD t]) (λd=>kC t<|(vZ d).map Dd) h1 (by simp[h]) I (λd hd=>⟨C,by obtain⟨c,g,rfl⟩:=ji hd;simp[e c<|hk c g,jq,wb,vZ,rH,Dd]⟩) (by simp;lia)
 refine this.trans ?_;simp[ez,rH,vZ,Dd]
def afd{n:Nat}{a:jI}(h:A7 n a)(d:D)(hd:JD d):tH [(Hr n a,C),(d,C)]=Y ((.bl<|kB n a d,C),[rS n a,Y (d,C)]):=by
 let δ:Dn:=[rS n a,Y (d,C),ii n,Y (.tup<|a.map cD,C)]
 have e:jc mO [iK 2,iK 1] δ=Y ((.bl<|isA n d,C),δ):=jY (os:=[.slot 2,.slot 1]) (args:=[pI n,(d,C)]) I I mU<|adV n d hd;refine ko (δ:=δ) ⟨rfl,by decide,rfl⟩<|(iO (δ1:=δ) I).trans<|jJ<|la ?_;rw[kB]
 cases b:isA n d with
 |false=>rw[b]at e;exact OC e
 |true=>rw[b]at e;refine(DR e).trans ?_;obtain⟨t,rfl,f⟩:=Rz b;refine(Sa h.1 h.2.1.2 h.2.2.2 f (λc g=>Vh h.1 f g) (i:=1) I I).trans ?_;simp[vZ,rH,Dd]
noncomputable def lX:Nat->List (List Int)
 |0=>[[]]
 |n+1=>(lX n).flatMap λt=>[t++[0],t++[1]]
theorem Cr:∀n:Nat,(lX n).length=2^n
 |0=>rfl
 |n+1=>by
  rw[lX,List.length_flatMap,uy,<-Cr n];generalize lX n=L
  induction L with
  |nil=>rfl
  |cons t L a=>simp at a ⊢;lia
def qL:∀{n:Nat}{t:iZ},t∈lX n->A2 t=n/\∀x∈t,x=0\/x=1:=by
  intro e
  induction e with
  |zero=>intro t h;simp[lX]at h;simp[h]
  |succ n d=>
    intro t h;rw[lX,uM]at h;obtain⟨u,c,h⟩:=h;obtain⟨h1,b⟩:=d c;simp only[kM,lN,mC]at h
    rcases h with rfl|rfl<;>
      (refine⟨by simp[h1],λx a=>?_⟩
       rcases pQ.mp a with a|a
       · exact b x a
       · simp at a;simp[a])
def A5{n:Nat}(a:n<=5):(lX n).length<=32:=by rw[Cr];exact xg (n:=2) (by decide) a
noncomputable abbrev KW:List D:=[.int 0,.int 1]
def Hy(d e:D):D:=.tup (vZ d++[e])
def Pe(L:jI):(L.map cD).flatMap (λd=>KW.map<|Hy d)=(L.flatMap λt=>[t++[0],t++[1]]).map cD:=by simp[List.flatMap_map,List.map_flatMap,Hy,vZ,cD]
def Jk(t:iZ)(a:(A2 t)<=100)(e:D):jf lL (iK 0) HB [Y (cD t,C),Y (e,C)]=Y ((Hy (cD t) e,C),[Y (cD t,C),Y (e,C)]):=by
 have:=kK;have h:(A2 t)<=16777215:=by lia
 simp[kI,this,lL,Hy,vZ,h]
def Cc(δ:Dn):PC δ=Y (KW,δ):=by simp[kK]
abbrev fbA:FS:=zC8
def abk{n:Nat}(k:n<=5):nH [pI n]=Y ((.lst<|(lX n).map cD,J),[ii n]):=by
 let z:Sl:=ii n
 obtain⟨i,⟨j,x,a,rfl⟩,e⟩:=nX (tg:=iP 2) (fb:=fbA) (λb δ=>∃j x,j+A2 b=n/\δ=[z,Y (.lst<|(lX j).map cD,J),x]) (λd b δ g=>by
  obtain⟨j,x,a,e⟩:=g;subst e
  have c:=VS (fi:=kG<|kI 1) (fi2:=kG Tv) (f:=jf lL (iK 0) HB) (δ:=[z,Y (.lst<|(lX j).map cD,J),Y (d,C)]) (δ1:=[z,Y (.lst<|(lX j).map cD,C),Y (d,C)]) (l:=(lX j).map cD) (m:=KW) Hy I (λd y=>Cc _) (λd hd e _=>by obtain⟨t,h,rfl⟩:=ji hd;exact⟨C,Jk t (by have:=(qL h).1;simp at a;lia) e⟩) (by have:=A5 (n:=j) (by lia);simp;lia)
  rw[Pe]at c;exact⟨_,_,rfl,(iO<|jK c (show 1<3 by decide)).trans I,j+1,_,by simp at a;lia,rfl⟩) (jA 0 n) [z,Y (.lst<|(lX 0).map cD,J),U] ⟨0,U,by simp[jA],rfl⟩
 have:j=n:=by simpa using a
 subst this;exact ko (δ:=[z,U,x]) ⟨rfl,by decide,rfl⟩<|(iO (δ1:=[z,Y (.lst<|(lX 0).map cD,J),U]) I).trans<|(iO<|(kO<|oJ (o:=.slot 0) I I<|by lia).trans e).trans<|jJ I
abbrev VB:FS:=Xg
abbrev YC:FS:=iW zy<|iW (ny mX (iP 4) VB) Py
def RO(z x1 x2:Sl)(L:jI)(d:(A2 L)<=100)(t:iZ)(b:(A2 t)<=100):VB [z,x1,x2,lv<|L.map cD,Y (cD t,C)]=Y (.nx [z,x1,x2,lv<|(L++[t++[0],t++[1]]).map cD,Y (cD t,C)]):=by
 have c:=AJ (caps:=[4]) (fi:=kG Tv) (f:=jf lL (iK 0) HB) (δ:=[z,x1,x2,lv<|L.map cD,Y (cD t,C)]) (l:=KW) (args:=[cD t]) (Hy<|cD t) (Cc _) I I (λe _=>⟨C,Jk t b e⟩) (by simp);have h1:=kK;have a:(A2 L)+2<=16777216:=by lia
 refine(iO ?_).trans rfl;rw[HV];unfold yQ;simp only[qR,sh];rw[show jL [4] 1 PC (iP 1) jZ Tz [z,x1,x2,lv<|L.map cD,Y (cD t,C)]=_ from c];simp[h1,a,Hy,vZ,cD]
noncomputable abbrev ext(t:iZ):List (List Int):=[t++[0],t++[1]]
def yx{n:Nat}(w:n<=5):∃o,mf [pI n]=Y ((.lst<|(lX n).map cD,o),[ii n]):=by
 let z:Sl:=ii n
 obtain⟨m,⟨j,o,x2,x3,x4,h,rfl⟩,e⟩:=nX (tg:=iP 2) (fb:=YC) (λc δ=>∃j o x2 x3 x4,j+A2 c=n/\δ=[z,Y (.lst<|(lX j).map cD,o),x2,x3,x4]) (λd c δ i=>by
  obtain⟨j,o,x2,x3,x4,h,e⟩:=i;subst e;have k:j<=5:=by simp at h;lia
  have q:=A5 k
  obtain⟨m,⟨b,a,l,h1,f,rfl⟩,e⟩:=nX (tg:=iP 4) (fb:=VB) (λc δ=>∃b a l,b++a=lX j/\c=a.map cD/\δ=[z,Y (.lst<|(lX j).map cD,C),Y (d,C),lv<|(b.flatMap ext).map cD,l]) (λt c δ i=>by
   obtain⟨b,a,l,h1,f,p⟩:=i;subst p
   cases a with
   |nil=>cases f
   |cons u a=>
    obtain⟨rfl,rfl⟩:=uT f;have s:u∈lX j:=by rw[<-h1];simp
    have hd:(A2 b)<=32:=by have:=nM dM h1;simp at this;lia
    refine⟨_,_,rfl,RO z _ _ (b.flatMap ext) ?_ u (by have:=(qL s).1;lia),b++[u],a,Y (cD u,C),by simp[<-h1],rfl,?_⟩
    .have:∀L:List (List Int),(L.flatMap ext).length=2*(A2 L):=λL=>by
      induction L with
      |nil=>rfl
      |cons t L v=>simp at v ⊢;lia
     rw[this];lia
    simp[List.flatMap_append]) ((lX j).map cD) [z,Y (.lst<|(lX j).map cD,C),Y (d,C),lv [],x4] ⟨[],lX j,x4,rfl,rfl,rfl⟩
  have r:a=[]:=by simpa using f.symm
  subst r;rw[uE]at h1;subst h1;exact⟨_,_,rfl,(iO (δ1:=[z,Y (.lst<|(lX j).map cD,o),Y (d,C),lv [],x4]) I).trans<|(iO<|(kO<|mn (o:=C) I).trans e).trans I,j+1,C,_,_,_,by simp at h;lia,rfl⟩) (jA 0 n) [z,Y (.lst<|(lX 0).map cD,J),U,U,U] ⟨0,J,U,U,U,by simp[jA],rfl⟩
 have:j=n:=by simpa using h
 subst this
 have pre:∀g,iW Px (iW (ny (vB<|iK 0) (iP 2) YC) g) [z,U,U,U,U]=g [z,Y (.lst<|(lX j).map cD,o),x2,x3,x4]:=λg=>(iO (δ1:=[z,Y (.lst<|(lX 0).map cD,J),U,U,U]) I).trans<|iO<|(kO<|oJ (o:=.slot 0) I I<|by lia).trans e
 refine⟨o,?_⟩
 cases o
 .exact ko (δ:=[z,Y (.lst<|(lX j).map cD,C),x2,x3,x4]) ⟨rfl,by decide,rfl⟩<|(pre _).trans<|jJ I
 exact ko (δ:=[z,U,x2,x3,x4]) ⟨rfl,by decide,rfl⟩<|(pre _).trans<|jJ I
def wy(n:Nat)(a:jI):List (List Int):=(lX n).filter λt=>a.all<|kC t
def RA{n:Nat}{t:iZ}(h:t∈lX n):isA n (cD t)=J:=by obtain⟨h1,a⟩:=qL h;simp only[isA,kd,h1,decide_true,fx,ez,mJ,bj];intro x b;rcases a x b with rfl|rfl<;>rfl
def Vi{n:Nat}{a:jI}{t:iZ}(h:t∈lX n):kB n a (cD t)=a.all (kC t):=by rw[kB,RA h];simp[vZ,rH,Dd]
def SR{t:iZ}(h:(A2 t)<=60):JD (cD t):=λl e=>by cases e;simpa using h
def qC(p:D->Bool)(L:jI):((L.map cD).filter p).map (λd=>d)=(L.filter λt=>p<|cD t).map cD:=by rw[List.map_id',List.filter_map];rfl
def ac3{n:Nat}{a:jI}(h:A7 n a):nS [(Hr n a,C)]=Y ((.lst<|(wy n a).map cD,J),[rS n a]):=by
 have h1:kG TF [rS n a]=Y ((lX n).map cD,[rS n a]):=
  mn (jY (os:=[.val (.int n,C)]) (args:=[pI n]) I I mU<|abk h.1)
 have c:=AK (caps:=[0]) (fi:=kG TF) (f:=kI 1) (ti:=fT<|jc tH [iK 0,iK 1]) (δ:=[rS n a]) (l:=(lX n).map cD) (args:=[Hr n a]) (λd=>d) (kB n a) h1 I I (λd hd=>by obtain⟨t,b,rfl⟩:=ji hd;have:=(qL b).1;have e:=h.1;exact⟨lY<|jY (os:=[.slot 0,.slot 1]) (args:=[(Hr n a,C),(cD t,C)]) I I mU<|afd h _ (SR<|by lia),λ_=>⟨C,rfl⟩⟩) (by have:=A5 h.1;simp;lia)
 rw[qC,List.filter_congr λt b=>Vi b]at c;exact ko ⟨rfl,by decide,rfl⟩<|jJ<|la c
def ace{n:Nat}{j:jI}(h:A7 n j):∃o,mH [(Hr n j,C)]=Y ((.lst<|(wy n j).map cD,o),[rS n j]):=by
 obtain⟨o0,p⟩:=yx h.1
 let z:Sl:=rS n j
 let cond (b:jI):List (List Int):=(lX n).filter λt=>b.all<|kC t
 obtain⟨x,⟨b,a,o,x2,h1,k,rfl⟩,e⟩:=nX (tg:=iP 2) (fb:=W9) (λm δ=>∃b a o x2,b++a=j/\m=a.map cD/\δ=[z,Y (.lst<|(cond b).map cD,o),x2]) (λd m δ r=>by
  obtain⟨b,a,o,x2,h1,k,q⟩:=r;subst q
  cases a with
  |nil=>cases k
  |cons u a=>
   obtain⟨rfl,rfl⟩:=uT k;have w:DT n u:=h.2.1.2 u (by rw[<-h1];simp)
   have c:=AK (caps:=[2]) (fi:=kG<|kI 1) (f:=kI 1) (ti:=fT Wv) (δ:=[z,Y (.lst<|(cond b).map cD,o),Y (cD u,C)]) (δ1:=[z,Y (.lst<|(cond b).map cD,C),Y (cD u,C)]) (l:=(cond b).map cD) (args:=[cD u]) (λd=>d) (λd=>kC ((vZ d).map Dd) u) (mn (o:=C) I) I I (λd hd=>by obtain⟨t,v,rfl⟩:=ji hd;have:=(qL (Fx.mp v).1).1;refine⟨lY (o:=C) ?_,λ_=>⟨C,rfl⟩⟩;rw[show((vZ<|cD t).map Dd)=t by simp[vZ,rH,Dd]];exact jY (os:=[.slot 1,.slot 0]) (args:=[enc t,enc u]) I I mU<|Rg h.1 this w) (by rw[kd];exact lC (lC (yW _ _)<|A5 h.1)<|by decide)
   rw[qC]at c;refine⟨_,_,rfl,(iO<|jK c (show 1<3 by decide)).trans I,b++[u],a,J,Y (cD u,C),by simp[<-h1],rfl,?_⟩
   simp[cond,List.filter_filter,vZ,rH,Dd,Bool.and_comm]) (j.map cD) [z,Y (.lst<|(lX n).map cD,o0),U] ⟨[],j,o0,U,rfl,rfl,by rw[show cond []=lX n from Wa.mpr λ_ _=>rfl]⟩
 have s:a=[]:=by simpa using k.symm
 subst s;rw[uE]at h1;subst h1
 have pre:∀g,iW WW (iW zC7 g) [z,U,U]=g [z,Y (.lst<|(wy n b).map cD,o),x2]:=λg=>(iO (δ1:=[z,Y (.lst<|(lX n).map cD,o0),U])<|jK (i:=1) (δ1:=[z,U,U]) (jY (os:=[.val (.int n,C)]) (args:=[pI n]) I I mU p) (show 1<3 by decide)).trans<|iO<|(kO I).trans e
 refine⟨o,?_⟩
 cases o
 .exact ko (δ:=[z,Y (.lst<|(wy n b).map cD,C),x2]) ⟨rfl,by decide,rfl⟩<|(pre _).trans<|jJ I
 exact ko (δ:=[z,U,x2]) ⟨rfl,by decide,rfl⟩<|(pre _).trans<|jJ I
def YR(x:Int)(c:iZ):(c.map D.int).any (λd=>D.Ba d<|.int x)=c.contains x:=by
 induction c with
 |nil=>rfl
 |cons y c a=>rw[jP,sA,a,List.contains_cons];simp[D.Ba,rC,eq_comm]
def Io(x:Int)(c:iZ):rn (.int x) (cD c)=Y (.bl (!c.contains x),C):=by
 have:inD (.int x) (cD c)=Y (c.contains x):=by show(if D.Bp (c.map .int)<=50/\(D.int x).dep<=50 then Y ((c.map D.int).any λd=>D.Ba d<|.int x)else U)=_;rw[jb ⟨by rw[wM];lia,by simp[D.dep]⟩,YR]
 unfold rn;rw[this];rfl
def EX{d:D}(h:d.dep<=50):J9 d d=Y (.bl C,C):=by unfold J9;rw[jb ⟨h,h⟩,D.EE];rfl
def VQ(l:List D)(v:Nat):PX.oA l (Y (v:Int)) U=l.drop v:=by
 unfold PX.oA;rw[HT.Ug,HT.Sy];by_cases h:v<=A2 l
 .rw[xq h,zc<|by simp]
 rw[r9<|by lia,sG<|kc _,sG<|by lia,List.take_nil]
def VO(l:List D)(v:Nat):PX.oA l U (Y (v:Int))=l.take v:=by
 unfold PX.oA;rw[HT.Sy,HT.Ug,te,y7];by_cases h:v<=A2 l
 .rw[xq h]
 rw[r9<|by omega,zc<|kc _,zc<|by omega]
def TT(n:Nat)(t:iZ):Prop:=(t.map ab).Perm<|st n
def SG(n:Nat)(s:Int):Prop:=1<=ab s/\ab s<=n
def TT.len{n:Nat}{t:iZ}(h:TT n t):(A2 t)=n:=by simpa using(Ie.mp h).1
def TT.sg{n:Nat}{t:iZ}(h:TT n t){x:Int}(a:x∈t):SG n x:=(Ie.mp h).2.1 _ (xb a)
def TT.tok{n:Nat}{t:iZ}(h:TT n t):J2 n t:=⟨h.len,λx a=>h.sg a⟩
def XH{n:Nat}{s:Int}(h:SG n s):s≠0:=by rintro rfl;have:=h.1;simp[ab]at this
def Ud{n:Nat}{s:Int}(h:SG n s):SG n (-s):=by unfold SG;rw[oU];exact h
def qu{n:Nat}{s:Int}(h:SG n s):∃k:Nat,k<n/\(s=(k:Int)+1\/s= -((k:Int)+1)):=by
 have:=h;unfold SG ab at this;split at this
 .exact⟨(-s-1).toNat,by omega,.inr<|by omega⟩
 exact⟨(s-1).toNat,by omega,.inl<|by omega⟩
def Mp{n k:Nat}(h:k<n):SG n ((k:Int)+1):=by unfold SG;rw[pG<|by lia];lia
def nj(t:iZ)(k:Nat):led t ((k:Int)+1)=t.getD k 0:=by unfold led;rw[jb<|by lia,show((k:Int)+1-1).toNat=k by lia]
def ot(t:iZ)(k:Nat):led t (-((k:Int)+1))= -t.getD k 0:=by unfold led;rw[jr<|by lia,show(- -((k:Int)+1)-1).toNat=k by lia]
def DD{n:Nat}(t:iZ){s:Int}(h:SG n s):led t (-s)= -led t s:=by
 obtain⟨k,_,rfl|rfl⟩:=qu h
 .rw[nj,ot]
 rw[Fa,nj,ot,Fa]
def V2{n:Nat}{t:iZ}(a:(A2 t)=n){s:Int}(h:SG n s):ab (led t s)=(t.map ab).getD ((ab s).toNat-1) 0:=by
 obtain⟨k,hk,rfl|rfl⟩:=qu h
 .rw[nj,pG (i:=(k:Int)+1)<|by lia,show(((k:Int)+1).toNat-1)=k by lia];simp[lM,a,hk]
 rw[ot,oU,A6<|by lia,show(((k:Int)+1).toNat-1)=k by lia];simp[lM,a,hk]
def TT.led{n:Nat}{t:iZ}(h:TT n t){s:Int}(a:SG n s):SG n (led t s):=GZ h.tok a.1 a.2
def DE{n:Nat}{t:iZ}(h:TT n t){s r:Int}(g:SG n s)(f:SG n r)(e:PV.led t s=PV.led t r):s=r:=by
 have k:=(Ie.mp h).2.2
 have c:∀{i j:Nat},i<n->j<n->ab (t.getD i 0)=ab (t.getD j 0)->i=j:=λ{i j} a b e=>by
  have l:=h.len
  have:=(Gm (xs:=t.map ab) (i:=i) (j:=j) (h₀:=by simpa[l]using a) (h₁:=by simpa[l]using b) k).mp (by simp only[gc];simpa[lM,l,a,b]using e)
  exact this
 have d:∀{i:Nat},i<n->t.getD i 0≠0:=λ{i} a=>XH<|h.sg<|ll (by rw[h.len];exact a);obtain⟨i,a,rfl|rfl⟩:=qu g<;>obtain⟨j,b,rfl|rfl⟩:=qu f
 .rw[nj,nj]at e;rw[c a b<|by rw[e]]
 .rw[nj,ot]at e;have:=c a b (by rw[e,oU]);subst this;exact absurd (show t.getD i 0=0 by lia)<|d a
 .rw[nj,ot]at e;have:=c a b (by rw[<-e,oU]);subst this;exact absurd (show t.getD i 0=0 by lia)<|d a
 rw[ot,ot]at e;rw[c a b<|by rw[show t.getD i 0=t.getD j 0 by lia]]
def Rm{n:Nat}{t u:iZ}(h1:(A2 t)=n)(a:(A2 u)=n)(h:∀s,SG n s->PV.led t s=PV.led u s):t=u:=by apply zj (by rw[h1,a]);intro i b c;have:=h _ (Mp (n:=n) (k:=i)<|by lia);rw[nj,nj]at this;simpa[lM,b,c]using this
def Gy(n:Nat):(st n).length=n:=by simp[st]
def XC(n:Nat):TT n (st n):=by
 have:(st n).map ab=st n:=by
  conv=>rhs;rw[<-qc (st n)]
  refine oV λx a=>?_;have:=KS.mp a;exact pG (by lia)
 unfold TT;rw[this]
def Vd{n:Nat}{s:Int}(h:SG n s):PV.led (st n) s=s:=by
 obtain⟨k,hk,rfl|rfl⟩:=qu h
 .rw[nj];simp[st,lM,hk];lia
 rw[ot];simp[st,lM,hk];lia
def BK(n:Nat)(t w:iZ):Prop:=A2 w=n/\∀s,SG n s->PV.led w (PV.led t s)=s
def BK.tt{n:Nat}{t w:iZ}(h:BK n t w)(f:TT n t):TT n w:=by
 refine(Dz (st n) (w.map ab) (Sw n) (λx g=>?_)<|by simp[Gy,h.1]).symm;have i:=KS.mp g;have c:SG n x:=by unfold SG;rw[pG<|by lia];lia
 have e:=h.2 x c;have a:=f.led c;have b:ab (PV.led w<|PV.led t x)=x:=by rw[e,pG<|by lia]
 rw[V2 h.1 a]at b;rw[<-b];have d:(ab<|PV.led t x).toNat-1<(w.map ab).length:=by have:=a.2;have:=a.1;rw[kd,h.1];lia
 exact ll d
def BK.sym{n:Nat}{t w:iZ}(h:BK n t w)(b:TT n t):BK n w t:=by refine⟨b.len,λs a=>?_⟩;have c:=h.tt b;exact DE c (b.led<|c.led a) a<|h.2 _ (c.led a)
def acA:∀(k:Nat)(r f t:iZ),A2 r=k->(∀x∈r,0<=x)->t∈nD k r f->(t.map ab).Perm (f.map ab++r):=by
 intro m
 induction m with
 |zero=>intro r f t d _ h;simp[nD]at h;subst h;rw[Pq.mp d];simp
 |succ k i=>
  intro r f t d b h;simp only[nD,uM,pQ,um]at h;obtain⟨v,hv,h⟩:=h;have c:(r.eraseIdx v).length=k:=by rw[yZ,jb hv];lia
  have g:∀x∈r.eraseIdx v,0<=x:=λx a=>b x<|KY a;have a:=b _ (ll hv)
  have fin:∀y:Int,ab y=r.getD v 0->(cp ab (f++[y])++r.eraseIdx v).Perm (f.map ab++r):=λy l=>by
   rw[oD,qh];refine Le _ ?_;simp only[jP,oh,uN,qd,l];have e:r.getD v 0=r[v]:=by simp[lM,hv]
   rw[e];rw[List.eraseIdx_eq_take_drop_succ];have j:r=r.take v++r[v]::r.drop (v+1):=by rw[<-uW hv,si]
   conv=>rhs;rw[j]
   exact Pl.symm
  rcases h with h|h
  .exact(i _ _ t c g h).trans (fin _ (by rw[zq];exact pG a))
  exact(i _ _ t c g h).trans (fin _ (by rw[Fk,zq];exact A6 a))
def HK{n:Nat}{t:iZ}(h:t∈nD n (st n) []):TT n t:=by have:=acA n (st n) [] t (Gy n) (λx a=>by have:=KS.mp a;lia) h;unfold TT;simpa using this
def lc(t c:iZ):List Int:=(pR KL<|(c.map<|led t).map D.int).map Dd
def Kw(t c d:iZ):Prop:=d.Perm (c.map<|led t)/\(d.map ab).Pairwise (· < ·)
def aeV{m:List D}{l:iZ}(h:m.Perm (l.map D.int)):m=(m.map Dd).map D.int/\(m.map Dd).Perm l:=by
 obtain⟨k,rfl⟩:=wz h;have e:(k.map D.int).map Dd=k:=by rw[kZ];exact qc k
 rw[e];refine⟨rfl,?_⟩;have:=h.map Dd
 rwa [e,kZ,show cp (Dd∘D.int) l=l from qc l]at this
def Ct{n:Nat}{t c:iZ}(g:TT n t)(h1:(c.map ab).Nodup)(f:∀s∈c,SG n s):((c.map<|led t).map ab).Nodup:=by
 rw[kZ,mi,vJ];rw[mi,vJ]at h1;refine h1.imp_of_mem λ{a b} j k i e=>i ?_;have e:ab (led t a)=ab (led t b):=e;have h:=f a j;have d:=f b k;by_cases q:led t a=led t b
 .rw[DE g h d q]
 have:led t a=led t (-b):=by rw[DD t d];unfold ab at e;split at e<;>split at e<;>lia
 rw[DE g h (Ud d) this,oU]
def IC{n:Nat}{t c:iZ}(j:TT n t)(g:DT n c):Kw t c (lc t c)/\(pR KL<|(c.map<|led t).map D.int)=(lc t c).map D.int:=by
 obtain⟨e,i⟩:=aeV<|mE KL<|(c.map<|led t).map D.int;refine⟨⟨i,?_⟩,e⟩;have k:=Ct j (ML g.2.1) λs d=>g.2.2 s d;have f:((lc t c).map ab).Nodup:=(i.map ab).symm.nodup k;have d:=adQ<|(c.map<|led t).map D.int;rw[e,vJ]at d;rw[vJ];rw[mi,vJ]at f;refine(d.and f).imp λ{a b} h=>?_;have h1:ab a<=ab b:=h.1;have l:ab a≠ab b:=h.2
 lia
def Kw.uniq{n:Nat}{t c d e:iZ}(h1:Kw t c d)(f:Kw t c e):d=e:=by have g:=h1.2;have h:=f.2;rw[vJ]at g h;refine(h1.1.trans f.1.symm).eq_of_pairwise (le:=λa b=>ab a<ab b) (λa b _ _ x y=>absurd x<|by lia) g h
def Yi{n:Nat}{c:iZ}(a:DT n c):lc (st n) c=c:=by
 refine Kw.uniq (n:=n) (t:=st n) (c:=c) (IC (XC n) a).1 ⟨T2 ?_,a.2.1⟩
 conv=>lhs;rw[<-qc c]
 exact oV λs b=>(Vd<|a.2.2 s b).symm
def Cu(n:Nat)(a:iZ):Prop:=A2 a=n/\∀x∈a,x=0\/x=1
def V9:∀{n:Nat}{a:iZ},a∈lX n↔Cu n a:=λ{n a}=>by
 constructor
 .exact λh=>qL h
 intro h
 induction n generalizing a with
 |zero=>rw[Pq.mp h.1];simp[lX]
 |succ n f=>
  have b:a≠[]:=λe=>by have:=h.1;rw[e]at this;simp at this
  have e:=KZ b;have c:=h.2 _ (List.getLast_mem b);have:=f (a:=a.dropLast) ⟨by rw[List.length_dropLast,h.1];rfl,λx d=>h.2 x<|List.dropLast_subset _ d⟩;simp only[lX,uM];refine⟨a.dropLast,this,?_⟩;rcases c with z|z
  .rw[z]at e;rw[e];simp
  rw[z]at e;rw[e];simp
def Jq(w a:iZ):List Int:=w.map λs=>if JU a s=J then 1 else 0
def RJ(b:FO)(a:Dn)(d:D):Prop:= ∃o,b a=Y (o,a)/\res a o=Y d
def FJ(b:FO)(a:Dn)(d:D):Prop:= ∃o,b a=Y (o,a)/\res a o=Y d/\yp a o=Y (d,C)
def FJ.r{c:FO}{δ:Dn}{d:D}(h:FJ c δ d):RJ c δ d:=let⟨o,a,b,_⟩:=h;⟨o,a,b⟩
def jV{i:Nat}{δ:Dn}{d:D}(h:δ[i]?=Y (Y (d,C))):FJ (iK i) δ d:=⟨.slot i,by unfold iK;rw[h],by unfold res;simp[h],by simp[h]⟩
def jR{i:Nat}{δ:Dn}{d:D}{b:Bool}(h:δ[i]?=Y (Y (d,b))):RJ (iK i) δ d:=⟨.slot i,by unfold iK;rw[h],by unfold res;simp[h]⟩
def jE{f:F}{δ:Dn}{d:D}{b:Bool}(h:f δ=Y ((d,b),δ)):FJ (iX f) δ d:=⟨.val (d,b),jd h,rfl,rfl⟩
def Mj{c:Bn}{e:FO}{δ:Dn}{a:D}{r:D×Bool}{b:Dn}(h:c [(a,C)]=Y (r,b))(g:FJ e δ a):jc c [e] δ=Y (r,δ):=by obtain⟨o,h1,_,f⟩:=g;refine(jY (qa h1) (args:=[a].map λd=>(d,C)) (by simp[f]) (by rw[wq];exact mU) h).trans ?_;rw[HG]
def JR{e:Bn}{f fb:FO}{δ:Dn}{a b:D}{r:D×Bool}{c:Dn}(h:e [(a,C),(b,C)]=Y (r,c))(i:FJ f δ a)(j:FJ fb δ b):jc e [f,fb] δ=Y (r,δ):=by obtain⟨o,h1,_,g⟩:=i;obtain⟨m,k,_,l⟩:=j;refine(jY (mS h1 k) (args:=[a,b].map λd=>(d,C)) (by simp[g,l]) (by rw[wq];exact mU) h).trans ?_;rw[HG]
def jO{g:D->D->Option (D×Bool)}{c fb:FO}{δ:Dn}{a b:D}{r:D×Bool}(h:g a b=Y r)(e:RJ c δ a)(f:RJ fb δ b):jf g c fb δ=Y (r,δ):=by obtain⟨o,h1,d⟩:=e;obtain⟨k,i,j⟩:=f;exact jM h1 i d j h
def jC{g:D->Option (D×Bool)}{b:FO}{δ:Dn}{a:D}{r:D×Bool}(h:g a=Y r)(d:RJ b δ a):ju (g1 g) [b] δ=Y (r,δ):=by obtain⟨o,h1,c⟩:=d;exact kx (ds:=[a]) (qa h1) (by simp[c]) h
def XI{f:F}{np:Nat}{args:List (D×Bool)}{r:D×Bool}{δ:Dn}(h1:(A2 args)=np/\np<=np/\(args.zipIdx.all λp=>!(p.1.2&&([]:List Nat).contains p.2))=J)(a:f (args.map Y++ah (np-np) U)=Y (r,δ)):Be np np [] (iW (lA f) jt) args=Y (r,jD args δ):=
 ko h1 (jJ<|la a)
def ae0(f:Int->Int)(l:iZ):(l.map D.int).map (λd=>D.int<|f<|Dd d)=(l.map f).map D.int:=by rw[kZ,kZ];rfl
def ad9{a:kb}{fi:Dr}{f:F}{δ b:Dn}{l:iZ}{args:List D}(g:Int->Int)(h1:fi δ=Y (l.map D.int,b))(c:kf b (a.map .slot)=Y (args.map λd=>(d,C)))(e:(A2 args)=A2 a)
  (h:∀x∈l,∃o,f (D3 args++[ii x])=Y ((.int<|g x,o),D3 args++[ii x]))(i:(A2 l)<=10000):
  jL a 1 fi (iP<|A2 a) jZ (ki f) δ=Y ((.lst<|(l.map g).map D.int,J),b):=by
 rw[AJ (λd=>.int (g<|Dd d)) h1 c e (λd hd=>by obtain⟨x,j,rfl⟩:=ji hd;exact h x j)<|by simpa using i,ae0]
def acg{n:Nat}(b:n<=5){t:iZ}(a:TT n t):kD [pI n,enc t]=Y ((.bl J,C),[ii n,eN t]):=by
 have h:tB n (cD t)=J:=by rw[Sv];simp only[lB,lg,mJ,rZ,kZ];refine⟨λd hd=>?_,a⟩;obtain⟨x,_,rfl⟩:=ji hd;rfl
 rw[sP n (cD t) (λl e=>by cases e;rw[kd,a.len];lia),h]
def Fi{n:Nat}(a:n<=5){t:iZ}(b:TT n t):jQ [pI n,enc t]=Y ((.Ar,C),[ii n,eN t]):=by
 have:EJ PD (iW GD jt) jt [ii n,eN t]=Y (.nx [ii n,eN t]):=
  (pU<|AA<|lY<|JR (acg a b) (jV I)<|jV I).trans rfl
 have e:nR [ii n,eN t]=Y (.nx [ii n,eN t]):=(iO this).trans I;simp only[jQ,Be];rw[jb ⟨rfl,by decide,rfl⟩];show(match nR [ii n,Y<|enc t]with|some (.rt r δ)=>Y (r,jD _ δ)|some (.nx δ)=>Y ((D.Ar,C),jD _ δ)|_=>U)=_;rw[e];rfl
noncomputable def Jv(t:iZ)(j:Nat):Int:=if t.getD j 0>0 then(j:Int)+1 else -((j:Int)+1)
def N6(n:Nat)(t:iZ)(k:Nat)(w:iZ):Prop:=A2 w=n/\∀j,j<k->w.getD ((ab<|t.getD j 0).toNat-1) 0=Jv t j
def N0{n:Nat}{t w:iZ}(a:TT n t)(h:N6 n t n w):BK n t w:=by
 refine⟨h.1,λs g=>?_⟩
 have one:∀j,j<n->led w (t.getD j 0)=(j:Int)+1:=λj b=>by
  have c:=a.sg<|ll (l:=t) (k:=j) (by rw[a.len];exact b);have e:=h.2 j b;unfold Jv at e;unfold led;unfold SG at c;by_cases d:t.getD j 0>0
  .rw[jb d]at e ⊢;rw[pG<|by lia]at e;rw[show(t.getD j 0-1).toNat=(t.getD j 0).toNat-1 by lia,e]
  have f:ab (t.getD j 0)= -t.getD j 0:=by unfold ab;split<;>lia
  rw[jr d]at e ⊢;rw[f]at e c;rw[show(-t.getD j 0-1).toNat=(-t.getD j 0).toNat-1 by lia,e]
  lia
 obtain⟨k,hk,rfl|rfl⟩:=qu g
 .rw[nj];exact one k hk
 rw[DD t<|Mp hk,DD w<|a.led<|Mp hk,nj,one k hk]
def afe{n:Nat}{t w:iZ}(a:TT n t){k:Nat}(hk:k<n)(h:N6 n t k w):N6 n t (k+1) (w.set ((ab<|t.getD k 0).toNat-1)<|Jv t k):=by
 have b:∀j,j<n->1<=ab (t.getD j 0)/\ab (t.getD j 0)<=n:=λj c=>a.sg<|ll (l:=t) (k:=j) (by rw[a.len];exact c);refine⟨by simp[h.1],λj c=>?_⟩;have d:=b k hk;have f:=b j (by lia);by_cases e:j=k
 .subst e;rw[lM,oo<|by rw[h.1];lia];rfl
 have ne:ab (t.getD j 0)≠ab (t.getD k 0):=λq=>e (by
  have l:=a.len
  have:=(Gm (xs:=t.map ab) (i:=j) (j:=k) (h₀:=by simp[l];lia) (h₁:=by simp[l];lia) (Ie.mp a).2.2).mp (by simp only[gc];simpa[lM,l,hk,show j<n by lia]using q)
  exact this)
 rw[lM,om<|by lia,<-lM];exact h.2 j (by lia)
abbrev fbB:FS:=Xh
def VD{n:Nat}{t w:iZ}(c:TT n t){k:Nat}(hk:k<n)(f:(A2 w)=n):fbB [eN t,Bc w,ii<|(k:Int)+1,ii<|t.getD k 0]=Y (.nx [eN t,Bc<|w.set ((ab<|t.getD k 0).toNat-1)<|Jv t k,ii<|(k:Int)+1,ii<|t.getD k 0]):=by
 have b:=c.sg<|ll (l:=t) (k:=k) (by rw[c.len];exact hk)
 have d:M5 (fT Wq) (kI 2) (ma Al<|iK 2) [eN t,Bc w,ii<|(k:Int)+1,ii<|t.getD k 0]=Y ((.int<|Jv t k,C),[eN t,Bc w,ii<|(k:Int)+1,ii<|t.getD k 0]):=by
  rw[SD,lY (o:=C)<|jO (MF _ _) (jV I).r (jE I).r];simp only[jH];unfold Jv;by_cases a:t.getD k 0>0
  .rw[jb<|by simpa using a,jb a];rfl
  rw[jr<|by simpa using a,jr a];rfl
 have e:iX WM [eN t,Bc w,ii<|(k:Int)+1,ii<|t.getD k 0]=Y (.val (.int<|ab (t.getD k 0)-1,C),[eN t,Bc w,ii<|(k:Int)+1,ii<|t.getD k 0]):=rfl
 have g:GN (w.map D.int).length (ab (t.getD k 0)-1)=Y ((ab<|t.getD k 0).toNat-1):=by
  have:=b.1;have:=b.2;unfold GN;rw[kd,f,jb<|by lia,jb<|by lia]
  congr 1;lia
 refine(iO (δ1:=[eN t,Bc<|w.set ((ab<|t.getD k 0).toNat-1)<|Jv t k,ii<|(k:Int)+1,ii<|t.getD k 0]) ?_).trans rfl;unfold pZ;rw[d];simp only[jH,qR,sh];rw[e];simp only[jH,zM,qR,sh];rw[g];simp[Bc,wv]
def Yz{n:Nat}{t:iZ}(f:TT n t):∀(m k:Nat)(w:iZ)(x y:Sl),k+m=n->N6 n t k w->∃b c d,N6 n t n b/\mB Pz fbB ((bN k m).map λ(j:Nat)=>.tup [.int<|(j:Int)+1,.int<|t.getD j 0]) [eN t,Bc w,x,y]=Y (.nx [eN t,Bc b,c,d]):=by
 intro i
 induction i with
 |zero=>intro k w x y h a;exact⟨w,x,y,by rw[show k=n by lia]at a;exact a,rfl⟩
 |succ m g=>intro k w x y h a;obtain⟨b,c,d,h1,e⟩:=g (k+1) _ (ii<|(k:Int)+1) (ii<|t.getD k 0) (by lia) (afe f (by lia) a);refine⟨b,c,d,h1,?_⟩;rw[zf,jP];unfold mB;rw[show Pz (.tup [.int<|(k:Int)+1,.int<|t.getD k 0]) [eN t,Bc w,x,y]=Y [eN t,Bc w,ii<|(k:Int)+1,ii<|t.getD k 0]from I];simp only[jH];rw[VD f (by lia) a.1];exact e
def VL(t:iZ):(((t.map D.int).zipIdx).map λq=>D.tup [.int (1+q.2),q.1])=(bN 0<|A2 t).map λ(j:Nat)=>.tup [.int<|(j:Int)+1,.int<|t.getD j 0]:=by
 apply zj
 .simp
 intro i h1 b;have a:i<(A2 t):=by simpa using h1
 simp[lM,a,Int.add_comm]
def Jh{n:Nat}{t:iZ}(b:TT n t):∃w,BK n t w/\ui [enc t]=Y (enc w,[eN t]):=by
 obtain⟨w,x,y,h,e⟩:=Yz b n 0 t U U (by lia) ⟨b.len,λj c=>absurd c<|by lia⟩;refine⟨w,N0 b h,?_⟩;refine ko (δ:=[eN t,Bc w,x,y]) ⟨rfl,by decide,rfl⟩ ?_;refine(iO (δ1:=[eN t,Bc t,U,U]) I).trans ((iO<|(kO (δ1:=[eN t,Bc t,U,U]) (ds:=(bN 0 n).map λ(j:Nat)=>.tup [.int<|(j:Int)+1,.int<|t.getD j 0]) ?_).trans e).trans ?_)
 .show Y (((t.map D.int).zipIdx).map λq=>D.tup [.int (1+q.2),q.1],([eN t,Bc t,U,U]:Dn))=_;rw[VL,b.len]
 exact jJ (la<|jC (a:=.lst (w.map D.int)) I<|jR I)
def BK.uniq{n:Nat}{t w v:iZ}(c:TT n t)(h1:BK n t w)(a:BK n t v):w=v:=
 Rm h1.1 a.1 λs b=>by have e:=(h1.sym c).2 s b;have:=a.2 _ ((h1.tt c).led b);rw[e]at this;exact this.symm
def R7{n:Nat}{t w:iZ}(a:TT n t)(b:BK n t w):ui [enc t]=Y (enc w,[eN t]):=by obtain⟨v,h1,e⟩:=Jh a;rw[b.uniq a h1];exact e
def Yh{n:Nat}{t:iZ}(h:(A2 t)=n):Bj (cD t)=ii n:=by rw[Uq,kd,h]
def Rl{n:Nat}(g:n<=5){t w a:iZ}(c:TT n t)(e:BK n t w)(d:Cu n a):nY [enc a,enc t]=Y (enc<|Jq w a,[eN a,eN t]):=by
 have f:=e.tt c;refine ko (δ:=[eN a,eN t]) ⟨rfl,by decide,rfl⟩ ?_;refine(iO<|pd<|JR (Fi g c) (jE<|jC (Yh d.1) (jV I).r)<|jV I).trans (jJ<|la<|jC (a:=.lst ((Jq w a).map D.int)) I (jE (b:=J)<|ad9 (args:=[cD a]) (λs=>if JU a s=J then 1 else 0) (fi:=kG<|jc ui [iK 1]) (l:=w) ?_ I I (λx h=>⟨C,?_⟩)<|by rw[f.len];lia).r)
 .rw[Dp,Mj (R7 c e)<|jV I];rfl
 rw[SD,lY<|JR (Sx a x (by have:=f.sg h;rw[d.1];exact this)) (jV I)<|jV I];cases JU a x<;>rfl
def dC(a:jI):D:=.B4 .dct (a.map cD) (a.map λ_=>.bl J)
theorem BU:∀l:List Int,(Bh<|l.map .int).isSome=J
 |[]=>rfl
 |x::l=>by
  have:=BU l;simp only[jP,Bh,tu]
  cases h:Bh (l.map D.int)with
  |none=>rw[h]at this;cases this
  |some k=>rfl
def IF(c:iZ):(yy<|cD c).isSome=J:=BU c
def Rw(a:jI):((a.map cD).all λk=>(yy k).isSome)=J:=by rw[mJ];intro d hd;obtain⟨c,_,rfl⟩:=ji hd;exact IF c
def afb(a:jI)(c:iZ):qy (a.map cD) (cD c)=J:=by unfold qy;rw[IF,Rw];simp
theorem Iw(c:iZ):∀a:List (List Int),(mw (a.map cD) (a.map λ_=>.bl J)<|cD c).isSome=decide (c∈a)
 |[]=>rfl
 |x::a=>by
  simp only[jP,mw,OD];by_cases h:x=c
  .simp[h]
  have: ¬c=x:=λe=>h e.symm;simp[h,this,Iw c a]
def aau{a b:D}{c d:FO}{δ:Dn}(h:a=b)(hd:a.dep<=50)(e:RJ c δ a)(f:RJ d δ b):fT (jf J9 c d) δ=Y (C,δ):=by subst h;exact lY (o:=C)<|jO (EX hd) e f
def no{t:FT}{f:FS}{δ:Dn}(g:FS)(h:t δ=Y (C,δ)):iW (EJ t f jt) g δ=g δ:=iO<|(pU h).trans I
def Wh{t:FT}{x y:XS}{a:Dn}(h:t a=Y (J,a))(b:yD a=J):Kl t x y a=x a:=by unfold Kl;rw[h];simp only[jH];rw[jb b];rfl
def Wi{t:FT}{x y:XS}{a:Dn}(h:t a=Y (C,a))(b:yD a=J):Kl t x y a=y a:=by unfold Kl;rw[h];simp only[jH];rw[jb b];rfl
def Fc{n np:Nat}{b:kb}{f:FS}{a:List (D×Bool)}(h:f (a.map Y++ah (n-np) U)=U):Be n np b f a=U:=by
 unfold Be;split
 .rw[h]
 rfl
def RT{b:kb}{f:F}{x:XS}{n i:Nat}{fs:FS}{e:au->Option Nat}{δ:Dn}{args:List (D×Bool)}{c:au}{T:Nat}{d:D}(h1:kf δ (b.map .slot)=Y args)(g:(args.all λa=>!a.2)=J)(h:f (args.map Y)=U)(j:x (args.map Y)=Y c)(k:e c=Y T)(l:BE n i fs (.B4 (.exc T) [] [])=Y d):Kh b f x n i fs e δ=Y ((d,C),δ):=by unfold Kh;rw[h1];simp only[jH];rw[jb g,h];simp only[];rw[j];simp only[jH];rw[k];simp only[jH];rw[l];rfl
def acL{b:Bn}{fs:List FO}{c a:Dn}{os:List Bq}{args:List (D×Bool)}(h1:kj fs c=Y (os,a))(d:kf a os=Y args)(e:b args=U):jc b fs c=U:=by rw[Qc,h1];simp only[jH];rw[d];simp only[jH];rw[e];split<;>rfl
def Fs(ev:Bn)(d:D):Prop:= ∀b c,ev [(d,b),(d,c)]=Y ((.bl J,C),[Y (d,b),Y (d,c)])
theorem Jg{ev:Bn}:∀(l a:List D)(x y:Sl),(∀d∈l,Fs ev d)->A2 a+A2 l<=10000->∃b c,lJ LR jZ (ki<|jc ev [iK 0,iK 1]) ((l.zip l).map λp=>.tup [p.1,p.2]) a [x,y]=Y (a++l.map λ_=>.bl J,[b,c])
 |[],a,x,y,_,_=>⟨x,y,by simp[lJ]⟩
 |d::l,a,x,y,h,f=>by
  obtain⟨b,c,e⟩:=Jg l (a++[.bl J]) (Y (d,C)) (Y (d,C)) (λg i=>h g<|jU _ i) (by simp at f ⊢;lia);refine⟨b,c,?_⟩;have j:(A2 a)<sizeLine:=by rw[kK];simp at f;lia
  simp only[uS,jP,lJ];rw[show LR (.tup [d,d]) [x,y]=Y [Y (d,C),Y (d,C)]from I];simp only[jH,wc,kQ,yK];rw[jY (os:=[.slot 0,.slot 1]) (args:=[(d,C),(d,C)]) I I mU<|h d jW C C];simp only[jH];rw[jb j];simp only[jH];rw[show wb [.slot 0,.slot 1] [(d,C),(d,C)] [Y (d,C),Y (d,C)] [Y (d,C),Y (d,C)]=[Y (d,C),Y (d,C)]from I,e];simp
def PT(n m:Nat)(p:iZ):Prop:=A2 p=m/\(∀x∈p,SG n x)/\(p.map ab).Nodup
def PT.tt{n:Nat}{t:iZ}(h:PT n n t):TT n t:=Ie.mpr ⟨by simp[h.1],λx a=>by obtain⟨y,b,rfl⟩:=ji a;exact h.2.1 y b,h.2.2⟩
noncomputable def L9(n:Nat):List Int:=((am (2*n+1)).map λ(k:Nat)=> -(n:Int)+k).filter λs=>!(s==0)
def M4(n:Nat)(t:iZ):List Int:=(L9 n).filter λs=>!t.contains s&&!t.contains (-s)
def JS(n:Nat)(L:jI):List (List Int):=L.flatMap λt=>(M4 n t).map λs=>t++[s]
def wX(n:Nat):Nat->List (List Int)
 |0=>[[]]
 |m+1=>JS n<|wX n m
def XG{n:Nat}{s:Int}:s∈L9 n↔SG n s:=by
 unfold L9 SG;simp only[Fx,yc,um];constructor
 .rintro⟨⟨k,hk,rfl⟩,b⟩;unfold ab;simp at b;split<;>lia
 rintro⟨h1,a⟩;unfold ab at h1 a;refine⟨⟨(s+n).toNat,by split at a<;>lia,by split at a<;>lia⟩,by simp;split at h1<;>lia⟩
def AY{n:Nat}:∀{m:Nat}{t:iZ},t∈wX n m->PT n m t:=by
 intro r
 induction r with
 |zero=>intro t h;simp[wX]at h;subst h;exact⟨rfl,λx c=>by simp at c,mU⟩
 |succ m q=>
  intro t h;simp only[wX,JS,uM,yc]at h;obtain⟨p,o,s,d,rfl⟩:=h;obtain⟨h1,j,k⟩:=q o;unfold M4 at d;simp only[Fx,lg,fS,List.contains_eq_mem,decide_eq_false_iff_not]at d;obtain⟨d,f,g⟩:=d;have sg:=XG.mp d;refine⟨by simp[h1],λx c=>?_,?_⟩
  .rcases pQ.mp c with c|c
   .exact j x c
   simp at c;subst c;exact sg
  rw[oD,yX];refine⟨k,by simp,λa l b i e=>?_⟩;simp at i;subst i;subst e;obtain⟨x,c,e⟩:=ji l;unfold ab at e;have:x=s\/x= -s:=by split at e<;>split at e<;>lia
  rcases this with rfl|rfl
  .exact f c
  exact g c
def A0:∀n,n<6->∀m,m<6->(wX n m).length<=3840:=by decide+kernel
def T9:∀n,n<6->st n∈wX n n:=by decide+kernel
abbrev Gv(L:jI)(o:Bool):Sl:=Y (.lst<|L.map cD,o)
abbrev L6(L:jI):Sl:=Y (.tup<|L.map cD,C)
theorem IS{n:Nat}(a:n<=5):∀L:List (List Int),(JS n L).length<=10*(A2 L)
 |[]=>by simp[JS]
 |t::L=>by
  have:=IS a L
  have b:((M4 n t).map λs=>t++[s]).length<=10:=by rw[kd];refine lC (yW _ _) ?_;rcases(show n=0\/n=1\/n=2\/n=3\/n=4\/n=5 by lia)with rfl|rfl|rfl|rfl|rfl|rfl<;>decide
  unfold JS at*;rw[List.flatMap_cons,nA,kP]
  lia
section
variable {n:Nat}{a e:jI}(b:n<=5)(hk:∀c∈a,DT n c)(d:a.length<=30)
include b hk d
end
def aey{a:iZ}{w:Int}(h:ab w∉a.map ab):zO a w=a++[w]:=by unfold zO;rw[jr h]
def Yx{n:Nat}{t:iZ}(m:J2 n t)(o:n<=5)(b:Sl):∀(c a:iZ)(x3 x4:Sl),(∀s∈c,1<=ab s/\ab s<=n)->DW n a->((a++c.map (led t)).map ab).Nodup->DW n (a++c.map (led t))/\∃f i,mB (iP 3) NQ (c.map .int) [eN t,b,Y (dD a,J),x3,x4]=Y (.nx [eN t,b,Y (dD<|a++c.map (led t),J),f,i]):=by
 intro r
 induction r with
 |nil=>intro a x3 x4 _ d _;simp only[oh,uE];exact⟨d,x3,x4,rfl⟩
 |cons s c q=>
  intro a x3 x4 h d j;have g:=h s jW
  have u:ab (led t s)∉a.map ab:=by rw[oD,yX]at j;exact λz=>j.2.2 _ z _ (by simp) rfl
  have l:=aey u;have k:a++(s::c).map (led t)=(a++[led t s])++c.map (led t):=by simp
  obtain⟨h1,f,i,e⟩:=q (a++[led t s]) (ii s) (ii<|led t s) (λx p=>h x<|jU _ p) (l▸d.put (GZ m g.1 g.2))<|k▸j;rw[k];refine⟨h1,f,i,?_⟩;rw[jP];unfold mB;rw[show iP 3 (.int s) [eN t,b,Y (dD a,J),x3,x4]=Y [eN t,b,Y (dD a,J),ii s,x4]from I];simp only[jH];rw[Ov m o g d,l];simp only[jH];exact e
def Nw{l:iZ}(h:(l.map ab).Nodup):l.Nodup:=zn ab (λ_ _ h e=>h<|nM ab e) h
def ae3{n:Nat}(f:n<=5){t c:iZ}(b:TT n t)(a:DT n c):kh [enc t,enc c]=Y (enc<|lc t c,[eN t,eN c]):=by
 have h:=Ct b (ML a.2.1) λs m=>a.2.2 s m;obtain⟨g,x3,x4,e⟩:=Yx b.tok f (eN c) c [] U U a.2.2 ⟨by simp,by simp⟩ (by simpa using h);rw[qd]at g e;obtain⟨i,⟨h1,j,d⟩,e⟩:=IB f g (by simpa using a.1) e;rw[e];have k:Kw t c i:=⟨?_,h1⟩
 .rw[Kw.uniq (n:=n) k (IC b a).1]
 have l:=d.length_eq;simp only[kd]at l;exact Dz _ _ (Nw<|d.symm.nodup h) j (by simp;lia)
def P4:∀n:Nat,n<6->L9 n=J5 n++st n:=by decide
abbrev Ou:FS:=zC6
abbrev VA:FS:=iW (ny (kG<|jf lL (iX<|ju (JX .lst J) [iX<|ma Al<|iK 0,oG])<|iX<|ju (JX .lst J) [lq,Wu]) (iP 5) Ou) jt
abbrev YB:FS:=iW zy<|iW (ny mX (iP 4) VA) Py
abbrev dS(n:Nat)(a b:Sl)(F:jI)(c d:Sl):Dn:=[ii n,a,b,Gv F J,c,d]
def RL(n:Nat)(a c:Sl)(F:jI)(g:F.length<=100000){t:iZ}(h:(A2 t)<=100)(s:Int):Ou (dS n a c F (eN t)<|ii s)=Y (.nx<|dS n a c (if(!t.contains s&&!t.contains (-s))=J then F++[t++[s]]else F) (eN t)<|ii s):=by
 have h1:fT Tt (dS n a c F (eN t)<|ii s)=Y (!t.contains s,dS n a c F (eN t)<|ii s):=lY<|jO (Io s t) (jV I).r (jV I).r;have f:TC (dS n a c F (eN t)<|ii s)=Y (!t.contains (-s),dS n a c F (eN t)<|ii s):=lY<|jO (Io (-s) t) (jE (b:=C) I).r (jV I).r
 have d:Fb (fT Tt) TC (dS n a c F (eN t)<|ii s)=Y (!t.contains s&&!t.contains (-s),dS n a c F (eN t)<|ii s):=by
  unfold Fb;rw[h1];simp only[jH];cases t.contains s
  .simp only[gL,kQ,fx];exact f
  rfl
 cases e:(!t.contains s&&!t.contains (-s))with
 |false=>rw[e]at d;exact(iO<|(pU d).trans I).trans I
 |true=>
  rw[e]at d;rw[jb I];refine(iO<|(rM d).trans<|(iO<|pd (r:=(.Ar,C)) ?_).trans I).trans I;refine(pB (i:=3) (δ1:=dS n a c F (eN t)<|ii s) (l0:=F.map cD) (l:=F.map cD) (r:=(cD<|t++[s],C)) I ?_ I<|by rw[kK];simp;lia).trans ?_
  .refine jO (b:=.tup [.int s]) ?_ (jV I).r (jE (b:=C)<|by simp[kK,kI]).r;show lL (.tup<|t.map .int) (.tup [.int s])=_;simp only[lL];rw[jb<|yI<|by simp;lia,<-List.map_singleton,<-oD]
  simp
def Yv(n:Nat)(a b:Sl){t:iZ}(k:(A2 t)<=100):∀(l:iZ)(F:jI)(d:Sl),F.length+A2 l<=100000->∃c,mB (iP 5) Ou (l.map .int) (dS n a b F (eN t) d)=Y (.nx<|dS n a b (F++(l.filter λs=>!t.contains s&&!t.contains (-s)).map λs=>t++[s]) (eN t) c):=by
 intro m
 induction m with
 |nil=>intro F d _;exact⟨d,by simp[mB]⟩
 |cons s l i=>
  intro F d h;simp only[kP]at h;have j:=RL n a b F (by lia) k s
  have f:∀G c,mB (iP 5) Ou (l.map .int) (dS n a b (if(!t.contains s&&!t.contains (-s))=J then F++[t++[s]]else F) (eN t)<|ii s)=Y (.nx<|dS n a b G (eN t) c)->mB (iP 5) Ou ((s::l).map .int) (dS n a b F (eN t) d)=Y (.nx<|dS n a b G (eN t) c):=λG c e=>by rw[jP];unfold mB;rw[show iP 5 (.int s) (dS n a b F (eN t) d)=Y (dS n a b F (eN t)<|ii s)from I];simp only[jH];rw[j];exact e
  cases g:(!t.contains s&&!t.contains (-s))with
  |true=>rw[g,jb I]at f;obtain⟨c,e⟩:=i (F++[t++[s]]) (ii s) (by simp;lia);refine⟨c,f _ _ (e.trans ?_)⟩;rw[List.filter_cons_of_pos<|by exact g];simp
  |false=>rw[g,jr lG]at f;obtain⟨c,e⟩:=i F (ii s) (by lia);refine⟨c,f _ _ (e.trans ?_)⟩;rw[List.filter_cons_of_neg<|by rw[g];exact lG]
def RM{n:Nat}(h:n<=5)(c d:Sl){t:iZ}(i:(A2 t)<=100)(F:jI)(j:F.length<=90000)(g:Sl):∃f,VA (dS n c d F (eN t) g)=Y (.nx<|dS n c d (F++(M4 n t).map λs=>t++[s]) (eN t) f):=by
 have k:(L9 n).length<=10:=by rcases(show n=0\/n=1\/n=2\/n=3\/n=4\/n=5 by lia)with rfl|rfl|rfl|rfl|rfl|rfl<;>decide
 obtain⟨f,e⟩:=Yv n c d i (L9 n) F g (by lia);refine⟨f,(iO<|(kO<|mn (o:=J) ?_).trans e).trans I⟩;rw[P4 n<|by lia,oD];refine jO (a:=.lst ((J5 n).map .int)) (b:=.lst ((st n).map .int)) ?_ (jE (b:=J) ?_).r (jE (b:=J) ?_).r
 .simp only[lL];rw[jb<|yI<|by simp[J5,Gy];lia]
 .exact kx (os:=[.val (.int (-n),C),.val (.int 0,C)]) I I (Uk n h)
 exact kx (os:=[.val (.int 1,C),.val (.int<|(n:Int)+1,C)]) I I (Mv n h)
def Yw{n:Nat}(k:n<=5)(b c:Sl):∀(L F:jI)(d a:Sl),(∀t∈L,A2 t<=100)->F.length+10*(A2 L)<=80000->∃f i,mB (iP 4) VA (L.map cD) (dS n b c F d a)=Y (.nx<|dS n b c (F++JS n L) f i):=by
 intro p
 induction p with
 |nil=>intro F d a _ _;exact⟨d,a,by simp[mB,JS]⟩
 |cons t L o=>
  intro F d a h m;simp only[kP]at m;obtain⟨q,l⟩:=RM k b c (h t jW) F (by lia) a;have j:=IS k [t];have g:JS n [t]=(M4 n t).map λs=>t++[s]:=by simp[JS]
  rw[g]at j;simp only[xy]at j;obtain⟨f,i,e⟩:=o (F++(M4 n t).map λs=>t++[s]) (eN t) q (λt g=>h t<|jU _ g) (by rw[nA];lia);refine⟨f,i,?_⟩;rw[jP];unfold mB;rw[show iP 4 (cD t) (dS n b c F d a)=Y (dS n b c F (eN t) a)from I];simp only[jH];rw[l];refine(show _=_ from e).trans ?_;simp[JS]
def RN{n:Nat}(i:n<=5)(L:jI)(h:∀t∈L,A2 t<=100)(j:(A2 L)<=4000)(o:Bool)(a g b c:Sl):∃d f,YB [ii n,Gv L o,a,g,b,c]=Y (.nx [ii n,Gv (JS n L) C,a,Gv (JS n L) C,d,f]):=by obtain⟨d,f,e⟩:=Yw i (Gv L C) a L [] b c h (by simp;lia);refine⟨d,f,(iO (δ1:=[ii n,Gv L o,a,Gv [] J,b,c])<|by simp[kK]).trans<|(iO<|(kO<|mn (o:=C) (by cases o<;>rfl)).trans e).trans I⟩
def aco{n:Nat}(k:n<=5):∃o,lS [pI n]=Y ((.lst<|(wX n n).map cD,o),[ii n]):=by
 obtain⟨_,⟨m,o,f,a,b,c,i,rfl⟩,e⟩:=nX (tg:=iP 2) (fb:=YB) (λg δ=>∃(m:Nat)(o:Bool)(f a b c:Sl),(m+A2 g=n)/\δ=[ii n,Gv (wX n m) o,f,a,b,c]) (λd g δ j=>by obtain⟨m,o,f,a,b,c,h1,h⟩:=j;subst h;simp only[kP]at h1;obtain⟨p,q,e⟩:=RN k (wX n m) (λt l=>by have:=(AY l).1;lia) (by have:=A0 n (by lia) m (by lia);lia) o (Y (d,C)) a b c;exact⟨_,_,rfl,e,m+1,C,_,_,_,_,by lia,rfl⟩) (jA 0 n) [ii n,Gv [[]] J,U,U,U,U] ⟨0,J,U,U,U,U,by simp[jA],rfl⟩
 simp only[rE,hX]at i;subst i;refine⟨o,?_⟩;cases o
 .refine ko (δ:=[ii m,Gv (wX m m) C,f,a,b,c]) ⟨rfl,by decide,rfl⟩ ((iO (δ1:=[ii m,Gv [[]] J,U,U,U,U])<|by simp[kK]).trans<|(iO<|(kO ?_).trans e).trans<|jJ I);exact oJ (o:=.slot 0) I I (by lia)
 refine ko (δ:=[ii m,U,f,a,b,c]) ⟨rfl,by decide,rfl⟩ ((iO (δ1:=[ii m,Gv [[]] J,U,U,U,U])<|by simp[kK]).trans<|(iO<|(kO ?_).trans e).trans<|jJ I);exact oJ (o:=.slot 0) I I (by lia)
abbrev G9:FS:=Xc
def adA(c:iZ)(a:jI):ug (cD c) (dC a)=Y (.bl (!decide (c∈a)),C):=by unfold ug Vp dC;simp only;rw[jb<|afb a c,Iw];rfl
def aaH{n:Nat}(q:n<=5){t:iZ}(s:TT n t)(a:jI)(b:Bool)(f:Sl):∀(g:jI)(x:Sl),(∀c∈g,DT n c)->∃j,mB (iP 3) G9 (g.map cD) [eN t,f,Y (dC a,b),x]=if(g.all λc=>decide<|lc t c∈a)=J then Y (.nx [eN t,f,Y (dC a,b),j])else Y (.rt (.bl C,C) [eN t,f,Y (dC a,b),j]):=by
 intro v
 induction v with
 |nil=>intro x _;exact⟨x,rfl⟩
 |cons c g u=>
  intro x h;have p:=h c jW;have i:fT WS [eN t,f,Y (dC a,b),eN c]=Y (!decide (lc t c∈a),[eN t,f,Y (dC a,b),eN c]):=lY<|jO (b:=dC a) (adA _ _) (jE (b:=C)<|JR (ae3 q s p) (jV I)<|jV I).r<|jR I
  have l:mB (iP 3) G9 ((c::g).map cD) [Y<|enc t,f,Y (dC a,b),x]=(G9 [Y<|enc t,f,Y (dC a,b),Y<|enc c]).bind λo=>match o with
   |.nx d=>mB (iP 3) G9 (g.map cD) d
   |.ct d=>mB (iP 3) G9 (g.map cD) d
   |.bk d=>Y<|.nx d
   |.rt r d=>Y (.rt r d):=rfl
  rw[l,dR];by_cases k:lc t c∈a
  .rw[rJ k]at i ⊢;obtain⟨j,e⟩:=u (eN c) λc m=>h c<|jU _ m;refine⟨j,?_⟩;have s1:G9 [eN t,f,Y (dC a,b),eN c]=Y (.nx [eN t,f,Y (dC a,b),eN c]):=(iO<|(pU i).trans I).trans I;rw[s1];exact e
  rw[nv k]at i ⊢;refine⟨eN c,?_⟩;have s1:G9 [eN t,f,Y (dC a,b),eN c]=Y (.rt (.bl C,C) [eN t,f,Y (dC a,b),eN c]):=jJ<|(rM i).trans I;rw[s1];rfl
def ae7{n:Nat}(i:n<=5){t:iZ}(j:TT n t)(d a:jI)(hk:∀c∈a,DT n c)(b:Bool):oM [enc t,(.tup<|a.map cD,C),(dC d,b)]=Y ((.bl<|a.all λc=>decide<|lc t c∈d,C),[eN t,L6 a,Y (dC d,b)]):=by
 obtain⟨x,e⟩:=aaH i j d b (L6 a) a U hk;have h:∀x,jD [enc t,(.tup<|a.map cD,C),(dC d,b)] [eN t,L6 a,Y (dC d,b),x]=[eN t,L6 a,Y (dC d,b)]:=λx=>by cases b<;>rfl
 cases g:a.all λc=>decide (lc t c∈d)with
 |true=>
  rw[g,jb I]at e;have q:=ko (n:=4) (np:=3) (asg:=[3]) (f:=rq) (args:=[enc t,(.tup<|a.map cD,C),(dC d,b)]) (r:=(.bl J,C)) (δ:=[eN t,L6 a,Y (dC d,b),x]) ⟨rfl,by decide,by cases b<;>rfl⟩<|(iO<|(kO I).trans e).trans<|jJ I
  rwa [h]at q
 |false=>
  rw[g,jr lG]at e;have q:=ko (n:=4) (np:=3) (asg:=[3]) (f:=rq) (args:=[enc t,(.tup<|a.map cD,C),(dC d,b)]) (r:=(.bl C,C)) (δ:=[eN t,L6 a,Y (dC d,b),x]) ⟨rfl,by decide,by cases b<;>rfl⟩<|jJ<|(kO I).trans e
  rwa [h]at q
def Vg:∀c:List Int,Bh (c.map .int)=Y (c.map cZ):=by
 intro b
 induction b with
 |nil=>exact I
 |cons x c a=>simp only[jP,Bh,tu,jH];rw[a];rfl
def Ve:∀a:List (List Int),JY (a.map λc=>.tup [cD c,.bl J])=Y (a.map λc=>c.map cZ):=by
 intro d
 induction d with
 |nil=>exact I
 |cons c a b=>simp only[jP,JY,kyT];rw[b,show yy (cD c)=Y (c.map cZ)from Vg c];rfl
def Oh{d:jI}(h:d.Nodup)(g:(A2 d)<=1000):An (.lst<|d.map λc=>.tup [cD c,.bl J])=Y (dC d,J):=by
 show((JY<|d.map λc=>.tup [cD c,.bl J]).bind λd=>if (A2 d)<=1000/\d.Nodup then Y (D.B4 .dct (d.map λk=>.tup (k.map kA))<|d.map λ_=>.bl J,J)else U)=_;rw[Ve];simp only[jH];have i:(d.map λc=>c.map (cZ:Int->Key)).Nodup:=zx _ (λa b f e=>f<|(List.map_inj_right λ_ _ e=>Sum.inl.inj e).mp e) h;rw[jb ⟨by simpa using g,i⟩];unfold dC;rw[kZ,kZ]
 have:((λk:List Key=>D.tup<|k.map kA)∘λc:List Int=>c.map cZ)=cD:=by funext c;simp only[bj,kZ,cD];rfl
 rw[this];rfl
abbrev fDc(i:Nat):F:=ju (g1 An) [iX<|jL [] 1 (kG<|jf CK (iK i) lq) (iP 0) jZ Wj]
def VH{n i:Nat}{a:jI}{δ:Dn}(c:δ[i]?=Y (rS n a))(h:a.Nodup)(g:(A2 a)<=1000):fDc i δ=Y ((dC a,J),δ):=by
 refine jC (Oh h g) (jE (b:=J) ?_).r;have e:=AJ (caps:=[]) (fi:=kG<|jf CK (iK i) lq) (f:=ou [kI 0,D8]) (δ:=δ) (δ1:=δ) (l:=a.map cD) (args:=[]) (λd=>.tup [d,.bl J]) ?_ I I (λd hd=>⟨C,by simp[kK,kI]⟩) (by simp;lia)
 .rw[kZ]at e;exact e
 rw[Dp,jO (r:=(.tup<|a.map cD,C)) I (jV c).r (jE I).r];rfl
def ae1{n:Nat}{ks:jI}(h:A7 n ks):mx [(Hr n ks,C)]=Y ((.lst<|((wX n n).filter λt=>ks.all λc=>decide<|lc t c∈ks).map cD,J),[rS n ks]):=by
 obtain⟨a,hk,_,s⟩:=h;obtain⟨o,j⟩:=aco a;have hd:=VH (n:=n) (i:=0) (δ:=[rS n ks,U]) I hk.1 (by lia);have m:=A0 n (by lia) n (by lia)
 obtain⟨u,e⟩:=YN (f:=kI 2) (ti:=fT WZ) (g:=λd=>d) (p:=λd=>ks.all λc=>decide<|lc (JF d) c∈ks) (pre:=[Y (dC ks,J),rS n ks]) ((wX n n).map cD) [] U (λd hd=>by obtain⟨t,q,rfl⟩:=ji hd;rw[nO];have tt:=(AY q).tt;refine⟨lY (o:=C)<|(jY (δ1:=[Y (dC ks,J),rS n ks,eN t]) (os:=[.slot 2,.val (.tup<|ks.map cD,C),.slot 0]) (args:=[enc t,(.tup<|ks.map cD,C),(dC ks,J)]) (pA I<|mS (jd<|jO I (jV I).r (jE I).r) I) I (Jp 0)<|ae7 a tt ks ks hk.2 J).trans I,λ_=>⟨C,rfl⟩⟩) (by rw[kK];simp;lia)
 rw[qd,qC]at e;simp only[nO]at e;refine ko (δ:=[rS n ks,Y (dC ks,J)]) ⟨rfl,by decide,rfl⟩<|(iO<|jK (i:=1) hd (show 1<2 by decide)).trans<|jJ<|la ?_;refine(OB (caps:=[1,0]) (k:=1) (l:=(wX n n).map cD) (δ1:=[rS n ks,Y (dC ks,J)]) (args:=[(dC ks,J),(Hr n ks,C)]) (mn (o:=o) ?_) I (Jp 1) e).trans I;exact Mj j<|jE (b:=C)<|jO I (jV I).r (jE I).r
section
variable {n:Nat}{a:jI}(h:A7 n a){d:D}(hd:JD d)
include h hd
end
def pj(t:iZ)(k:Nat):Nat:=(ab<|t.getD k 0).toNat-1
noncomputable def vA(t a:iZ)(k:Nat):Int:=if t.getD k 0>0 then a.getD k 0 else 1-a.getD k 0
abbrev fvA:F:=zC5
abbrev YE:FS:=iW (pZ 2 fvA TJ) jt
def Yr{a:iZ}{k:Nat}(h:k<A2 a):CK (cD a) (.int k)=ii (a.getD k 0):=by simp[CK,Hq,GN,h,lM]
section
variable {n:Nat}{t w a:iZ}(c:TT n t)(o:Cu n a)
include c o
theorem NP(i:BK n t w){k:Nat}(hk:k<n):(Jq w a).getD (pj t k) 0=vA t a k:=by
 obtain⟨r,_,_,h,_⟩:=Yz c n 0 t U U (by lia) ⟨c.len,λj q=>absurd q<|by lia⟩;have e:=i.uniq c<|N0 c h;subst e;have m:=h.2 k hk;have g:=c.sg<|ll (l:=t) (k:=k) (by rw[c.len];exact hk);have f:pj t k<(A2 w):=by have:=g.1;have:=g.2;rw[i.1];unfold pj;lia
 have p:w[pj t k]=Jv t k:=by rw[<-m];simp[lM,pj]at f ⊢;simp[f]
 have b:=o.2 (a.getD k 0)<|ll (by rw[o.1];exact hk);rw[Jq,lM,kS,jT f,p];simp only[nw,lm];unfold JU Jv vA;by_cases d:t.getD k 0>0
 .rw[jb d,jb d,pG<|by lia,show((k:Int)+1).toNat-1=k by lia,jb (show(k:Int)+1>0 by lia)];rcases b with b|b<;>rw[b]<;>rfl
 rw[jr d,jr d,A6<|by lia,show((k:Int)+1).toNat-1=k by lia,jr (show ¬ -((k:Int)+1)>0 by lia)];rcases b with b|b<;>rw[b]<;>rfl
theorem RQ{k:Nat}(hk:k<n){f:iZ}(j:(A2 f)=n):YE [eN t,eN a,Bc f,ii k,ii<|t.getD k 0]=Y (.nx [eN t,eN a,Bc<|f.set (pj t k)<|vA t a k,ii k,ii<|t.getD k 0]):=by
 let δ:Dn:=[eN t,eN a,Bc f,ii k,ii<|t.getD k 0]
 have e:=c.sg<|ll (l:=t) (k:=k) (by rw[c.len];exact hk);have m:=Yr (a:=a) (k:=k) (by rw[o.1];exact hk);have d:jf CK (iK 1) (iK 3) δ=Y ((.int<|a.getD k 0,C),δ):=jO m (jV I).r (jV I).r
 have h:fvA δ=Y ((.int<|vA t a k,C),δ):=by
  refine jO (a:=.lst [.int (1-a.getD k 0),.int<|a.getD k 0]) (b:=.int (if t.getD k 0>0 then 1 else 0)) ?_ (jE (b:=J) ?_).r (jE (b:=C)<|jC (a:=.bl (decide<|t.getD k 0>0)) ?_ (jE<|jO (MF _ _) (jV I).r (jE I).r).r).r
  .unfold vA;split<;>rfl
  .rw[Ur];simp only[jP,oh];rw[mS (jd<|jO (g:=Fq) (a:=.int 1) I (jE I).r (jE d).r)<|jd d];simp[kK,oZ]
  by_cases p:t.getD k 0>0<;>simp[p]
 have q:GN (f.map D.int).length (ab (t.getD k 0)-1)=Y (pj t k):=by
  have:=e.1;have:=e.2;unfold GN pj;rw[kd,j,jb<|by lia,jb<|by lia]
  congr 1;lia
 have i:TJ δ=Y (.val (.int<|ab (t.getD k 0)-1,C),δ):=rfl;refine(iO (δ1:=[eN t,eN a,Bc<|f.set (pj t k)<|vA t a k,ii k,ii<|t.getD k 0]) ?_).trans I;unfold pZ;rw[h];simp only[jH,δ,qR,sh];rw[i];simp only[jH,zM,δ,qR,sh];rw[q];simp[Bc,wv]
theorem ae4(v:BK n t w):my [enc t,enc a]=Y (enc<|Jq w a,[eN t,eN a]):=by
 obtain⟨_,⟨f,k,m,x,y,h1,b,z,g,rfl⟩,e⟩:=nX (tg:=BD [iP 3,iP 4]) (fb:=YE) (λds δ=>∃f k m x y,k+m=n/\(A2 f)=n/\(∀j,j<k->f.getD (pj t j) 0=vA t a j)/\ds=((bN k m).map λ(j:Nat)=>D.tup [.int j,.int<|t.getD j 0])/\δ=[eN t,eN a,Bc f,x,y]) (λd ds δ I=>by
  obtain⟨f,k,m,x,y,h1,b,z,g,M⟩:=I;subst M
  cases m with
  |zero=>cases g
  |succ m=>
   rw[zf,jP]at g;obtain⟨rfl,rfl⟩:=uT g;refine⟨_,_,rfl,RQ c o (k:=k) (by lia) b,_,k+1,m,_,_,by lia,by simpa using b,?_,rfl,rfl⟩;intro j p;have A:=c.sg<|ll (l:=t) (k:=k) (by rw[c.len];lia);have B:pj t k<(A2 f):=by have:=A.1;have:=A.2;rw[b];unfold pj;lia
   by_cases r:pj t j=pj t k
   .have u:=NP c o v (k:=k) (by lia);rw[<-r,NP c o v (k:=j)<|by lia]at u;rw[r,u];simp[lM,B]
   rw[lM,om<|oF r,<-lM];refine z j ?_;rcases Nat.lt_succ_iff_lt_or_eq.mp p with h|h
   .exact h
   rw[h]at r;exact absurd AM r) ((bN 0 n).map λ(j:Nat)=>D.tup [.int j,.int<|t.getD j 0]) [eN t,eN a,Bc a,U,U] ⟨a,0,n,U,U,by lia,o.1,λj p=>absurd p<|by lia,rfl,rfl⟩
 have A:m=0:=by
  cases m with
  |zero=>rfl
  |succ m=>rw[zf]at g;cases g
 have hk:k=n:=by lia
 have L:f=Jq w a:=by
  apply zj
  .rw[b,Jq,kd,v.1]
  intro i T G;have:((i:Int)+1)∈t.map ab:=c.mem_iff.mpr<|KS.mpr (by lia);obtain⟨s,Q,e⟩:=ji this;obtain⟨j,p,rfl⟩:=List.mem_iff_getElem.mp Q;have E:j<n:=by rw[<-c.len];exact p
  have B:pj t j=i:=by unfold pj;simp[lM,p];lia
  have a1:=z j (by lia);have N:=NP c o v E;rw[B]at a1 N;rw[<-N]at a1;simpa[lM,T,G]using a1
 subst L;refine ko (δ:=[eN t,eN a,Bc<|Jq w a,x,y]) ⟨rfl,by decide,rfl⟩ ?_;refine(iO (δ1:=[eN t,eN a,Bc a,U,U]) AM).trans ((iO<|(kO (δ1:=[eN t,eN a,Bc a,U,U]) (ds:=(bN 0 n).map λ(j:Nat)=>.tup [.int j,.int<|t.getD j 0]) ?_).trans e).trans ?_)
 .show Y (((t.map D.int).zipIdx).map λq=>D.tup [.int (0+q.2),q.1],([eN t,eN a,Bc a,U,U]:Dn))=_
  congr 2
  apply zj
  .simp[c.len]
  intro i h1 b;have O:i<(A2 t):=by simpa using h1
  simp[lM,O]
 exact jJ (la<|jC (a:=.lst ((Jq w a).map D.int)) AM<|jR AM)
end
theorem SW:∀a b:List Int,∃r,nr .LtE (a.map .int) (b.map .int)=Y (!r)/\nr .Lt (b.map .int) (a.map .int)=Y r
 |[],[]=>⟨C,by simp[nr,lK],by simp[nr,lK]⟩
 |[],y::b=>⟨C,by simp[nr,lK];lia,by simp[nr,lK];lia⟩
 |x::a,[]=>⟨J,by simp[nr,lK]<;>lia,by simp[nr,lK]<;>lia⟩
 |x::a,y::b=>by
  obtain⟨r,h1,d⟩:=SW a b;by_cases h:x=y
  .subst h;exact⟨r,by simp[nr,D.Ba,h1],by simp[nr,D.Ba,d]⟩
  have c: ¬y=x:=λe=>h e.symm;refine⟨decide<|y<x,?_,?_⟩
  .simp only[jP,nr,D.Ba,rC,nv h,nK,lK];simp;by_cases q:y<x
   .have: ¬x<=y:=by lia
    simp[q,this]
   have:x<=y:=by lia
   simp[q,this]
  simp[nr,D.Ba,c,nK,lK]
def SY(a b:iZ):pH .LtE (cD a) (cD b)=Y (.bl (!DY (cD b) (cD a)),C):=by obtain⟨r,h1,c⟩:=SW a b;have e:=yS (cD b) (cD a) (by simp[D.pr,wd]) (by simp[D.pr,wd]) r (by simpa[nK]using c);unfold pH;rw[jb ⟨by rw[AI];omega,by rw[AI];omega⟩,show nK .LtE (cD a) (cD b)=Y (!r)from by simpa[nK]using h1,e];rfl
abbrev LZ(w a:iZ):Bool:=DY (cD<|Jq w a)<|cD a
def DH{n:Nat}{b:jI}{a:iZ}(h:a∈wy n b):Cu n a:=V9.mp (Fx.mp h).1
def Ag{n:Nat}(a:n<=5)(b:jI):(wy n b).length<=32:=lC (yW _ _)<|A5 a
section
variable {n:Nat}(e:n<=5){t w:iZ}(d:TT n t)(c:BK n t w)
include e d c
theorem Uj{a:iZ}(f:Cu n a):nG [enc a,enc t]=Y ((.bl (!LZ w a),C),[eN a,eN t]):=
 XI ⟨rfl,by decide,rfl⟩ (jO (SY _ _) (jV I).r (jE (b:=C)<|JR (Rl e d c f) (jV I)<|jV I).r)
end
def Mn{ev:Bn}{l:List D}{d:D}(hd:d=.lst l\/d=.tup l)(h:∀d∈l,Fs ev d)(k:(A2 l)<=5000):Fs (Be 2 2 []<|lD ev) d:=λb c=>by
 obtain⟨m,o,e⟩:=Jg (ev:=ev) l [] U U h (by simp;lia)
 have i:jL [] 2 (xR (iK 0)<|iK 1) LR jZ (ki<|jc ev [iK 0,iK 1]) [Y (d,b),Y (d,c)]=Y ((.lst<|l.map λ_=>.bl J,J),[Y (d,b),Y (d,c)]):=by unfold jL;rw[show xR (iK 0) (iK 1) [Y (d,b),Y (d,c)]=Y ((l.zip l).map λp=>.tup [p.1,p.2],[Y (d,b),Y (d,c)])from by rcases hd with rfl|rfl<;>rfl];simp only[jH,oh,tY,jq,mU,kQ,qd,dq,yY];rw[e];rfl
 have g:ju (g1 vC) [iX<|jL [] 2 (xR (iK 0)<|iK 1) LR jZ<|ki<|jc ev [iK 0,iK 1]] [Y (d,b),Y (d,c)]=Y ((.bl J,C),[Y (d,b),Y (d,c)]):=
  kx (qa<|jd i) rfl (by rw[show g1 vC [.lst<|l.map λ_=>.bl J]=vC (.lst<|l.map λ_=>.bl J)from I,wW λ_=>J];simp)
 have a:jf Gw LW LX [Y (d,b),Y (d,c)]=Y ((.bl J,C),[Y (d,b),Y (d,c)]):=by rcases hd with rfl|rfl<;>simp
 have j:jD [(d,b),(d,c)] [Y (d,b),Y (d,c)]=[Y (d,b),Y (d,c)]:=by cases b<;>cases c<;>rfl
 have:=ko (args:=[(d,b),(d,c)]) (np:=2) (n:=2) (asg:=[]) (f:=lD ev) (δ:=[Y (d,b),Y (d,c)]) (r:=(.bl J,C)) ⟨rfl,by decide,by simp⟩ (by refine jJ<|(rM (δ1:=[Y (d,b),Y (d,c)]) (by rcases hd with rfl|rfl<;>rfl)).trans ?_;refine(iO<|(pU (δ1:=[Y (d,b),Y (d,c)]) ?_).trans I).trans (jJ<|la<|(DR a).trans g);rcases hd with rfl|rfl<;>simp[Hf])
 rwa [j]at this
def ZP(ev:Bn)(i:Int):Fs (Be 2 2 []<|lD ev) (.int i):=λb c=>by
 cases b<;>cases c<;>simp[lD,Be,jD,Hf]
def XE(L:jI)(a:(A2 L)<=5000)(h:∀t∈L,A2 t<=5000):Fs (kJ RD) (.lst<|L.map cD):=
 Mn (ev:=kJ 5) (.inl I) (λd hd=>by
  obtain⟨t,b,rfl⟩:=ji hd
  exact Mn (ev:=kJ 4) (.inr I) (λd hd=>by obtain⟨i,_,rfl⟩:=ji hd;exact ZP (kJ 3) i)<|by simpa using h t b) (by simpa using a)
def Hn(n:Int)(t:iZ)(i:Int)(x:D):List D:=
  [.tup<|oA (t.map .int) U (Y i)++[x]++oA (t.map .int) (Y<|i+1) U,.tup<|oA (t.map .int) U (Y i)++[x]++oA (t.map .int) (Y i) U,.tup<|t.map .int++[.int<|n+1],
   .lst (t.map .int),.Ar,.B4 .dct [] [],.lst [x],.tup [.tup<|t.map .int],.tup<|oA (t.map .int) U (Y i)++oA (t.map .int) (Y<|i+1) U++[.int 0]]
def Q4(n:Int)(t:iZ)(c:(A2 t)<=5)(i:Int)(x:D):∀d∈Hn n t i x,JD d:=by
 intro d hd;have a:∀lo b,(oA (t.map D.int) lo b).length<=5:=λlo b=>lC (wN _ _ _) (by simpa using c);have e:=a U<|Y i;have f:=a (Y<|i+1) U;have g:=a (Y i) U;simp only[Hn,kM,lN,mC]at hd;rcases hd with rfl|rfl|rfl|rfl|rfl|rfl|rfl|rfl|rfl
 all_goals (intro l h;cases h)
 all_goals (simp;try lia)
def Ek{n:Nat}{l:List D}{x:D}(a:x∈l)(h:sg n x=C):tB n (.tup l)=C:=by
 cases e:tB n (.tup l)with
 |false=>rfl
 |true=>rw[tB,lg,lg,mJ]at e;rw[e.2.1 x a]at h;cases h
def T6(n:Nat)(t:iZ)(i:Int)(x:D)(a:sg n x=C):∀d∈Hn n t i x,tB n d=C:=by
 intro d hd;simp only[Hn,kM,lN,mC]at hd;rcases hd with rfl|rfl|rfl|rfl|rfl|rfl|rfl|rfl|rfl
 .exact Ek (x:=x) (by simp) a
 .exact Ek (x:=x) (by simp) a
 .exact Ek (x:=.int (n+1)) (by simp) (by simp[sg,ab];lia)
 .rfl
 .rfl
 .rfl
 .rfl
 .exact Ek (x:=.tup (t.map .int)) (by simp) I
 exact Ek (x:=.int 0) (by simp) (by simp[sg,ab])
def R6(a:Int)(b:Bool)(n:Nat)(s:n<=5):∃A d,JD d/\tB n d=AX/\lz [pS a b,pI n]=A9 ((d,AX),[B1 A b,ii n]):=by
 obtain⟨m,t,O,B⟩:=vn a b n s;have tt:=HK O;have Q:(A2 t)<=5:=by rw[tt.len];exact s
 obtain⟨i,a1,i0,Y,C⟩:=lZ m b ((n:Int)+1) (by lia) (by lia);obtain⟨w,e,N,U,E⟩:=lZ a1 b 10 (by lia) (by lia);obtain⟨v,o,J,M,H⟩:=lZ e b 11 (by lia) (by lia)
 let f:List D:=[.int 0,.int<|(n:Int)+1,.int (-(n:Int)-1),.bl Ap,.Ar,.str "1",.tup [.int 1],.int 100000000000000000000000000000,.lst [.int 1],.bl AX]
 let x:=f.getD w.toNat .Ar
 let l:List Int:=[0,0,0,1,2,3,4,5,6,7,8]
 let q:=l.getD v.toNat 0
 have u:0<=q/\q<9:=by
  have:v.toNat=0\/v.toNat=1\/v.toNat=2\/v.toNat=3\/v.toNat=4\/v.toNat=5\/v.toNat=6\/v.toNat=7\/v.toNat=8\/v.toNat=9\/v.toNat=10:=by lia
  rcases this with h|h|h|h|h|h|h|h|h|h|h<;>simp[q,l,h]
 have r:∀lo c,(oA (t.map D.int) lo c).length<=1000:=λlo c=>lC (wN _ _ _) (by simp;lia);have z:∀lo c,(oA (t.map D.int) lo c).length<=999:=λlo c=>lC (wN _ _ _) (by simp;lia);have I:∀lo c k p,(oA (t.map D.int) lo c).length+(oA (t.map D.int) k p).length<=1000:=λlo c k p=>lC (Nat.add_le_add (wN _ _ _)<|wN _ _ _) (by simp;lia);have g:(A2 t)<=1000:=by lia
 have j:(A2 t)<=999:=by lia
 let T:Sl:=eN t
 have G:sg n x=AX:=AW (P:=λx:D=>sg n x=AX) AM (λd hd=>by simp only[f,kM,lN,mC]at hd;rcases hd with rfl|rfl|rfl|rfl|rfl|rfl|rfl|rfl|rfl|rfl<;>first|rfl|(simp[sg,ab];try lia)) _
 refine⟨o,(Hn n t i x).getD q.toNat .Ar,AW Q3 (Q4 n t Q i x) _,AW (P:=λd=>tB n d=AX) AM (T6 n t i x G) _,?_⟩;refine ko (δ:=[B1 o b,ii n,T,ii i,A9 (x,AX),A9 (.lst<|Hn n t i x,Ap)]) ⟨rfl,by decide,rfl⟩ ?_;refine(iO (δ1:=[B1 m b,ii n,T,AR,AR,AR])<|jK (i:=2) (δ1:=[B1 m b,ii n,AR,AR,AR,AR]) ((jY (δ1:=[B1 a b,ii n,AR,AR,AR,AR]) (os:=[.slot 0,.slot 1]) (args:=[pS a b,pI n]) AM AM (Jp 0) B).trans AM) (show 2<6 by decide)).trans ?_;refine(iO (δ1:=[B1 a1 b,ii n,T,ii i,AR,AR])<|jK (i:=3) (C _ [ii n,T,AR,AR,AR] (.val (.int<|(n:Int)+1,AX)) (by simp) rfl) (show 3<6 by decide)).trans ?_;refine(iO (δ1:=[B1 e b,ii n,T,ii i,A9 (x,AX),AR])<|jK (i:=4) (δ1:=[B1 e b,ii n,T,ii i,AR,AR]) (jM (o1:=.val (.lst f,Ap)) (o2:=.val (.int w,AX)) (jd (δ1:=[B1 a1 b,ii n,T,ii i,AR,AR])<|by simp[X1,kK,f,kI]) (jd<|E _ [ii n,T,ii i,AR,AR] _ rfl rfl) AM AM<|ixl (L:=f) N<|by simpa[f]using U) (show 4<6 by decide)).trans ?_;refine(iO (δ1:=[B1 e b,ii n,T,ii i,A9 (x,AX),A9 (.lst<|(Hn n t i x).take 3,Ap)]) ?_).trans ?_
 .generalize x=y;simp[T,tE,Ay,Kt,YS,r,z,g,j,kK,Hn,kI]
 refine(iO (δ1:=[B1 e b,ii n,T,ii i,A9 (x,AX),A9 (.lst<|Hn n t i x,Ap)]) ?_).trans ?_
 .generalize x=y;simp[T,tE,Ay,Kt,YS,V1,r,z,I,g,j,kK,Hn,kI,IM]
 refine jJ<|la<|jM (o1:=.slot 5) (o2:=.val (.int q,AX)) AM (jd<|jM (o1:=.val (.lst<|l.map .int,Ap)) (o2:=.val (.int v,AX)) (jd (δ1:=[B1 e b,ii n,T,ii i,A9 (x,AX),A9 (.lst<|Hn n t i x,Ap)]) ?_) (jd<|H _ _ _ rfl rfl) AM AM ?_) AM AM<|ixl u.1 (by simpa[Hn]using u.2)
 .simp[kK,l]
 exact Vj J (by simpa[l]using M)
section
variable {d:D}{lo a:Int}
end
theorem Et{b:Type}:∀{l:List b}{i:Nat}{a:b},l[i]?=Y a->l.set i a=l
 |[],i,a,h=>by simp at h
 |x::l,0,a,h=>by simp at h;simp[h]
 |x::l,i+1,a,h=>by simp at h;simp[Et h]
section
variable {n m:Nat}{V R:jI}{d:D}
def sq(d:D)(L:jI):Prop:=d=.lst (L.map cD)\/d=.tup (L.map cD)
def N2{L:jI}(h:sq d L){i:Nat}{δ:Dn}(a:δ[i]?=Y (Y (d,C))):kG (kI i) δ=Y (L.map cD,δ):=by
 have e:kI i δ=Y ((d,C),δ):=by unfold kI;rw[a];simp only[];rw[Et a]
 rw[Dp,e];rcases h with rfl|rfl<;>rfl
end
section
variable {a b c:D}
end
def Xz{n:Nat}{d:D}(h:tB n d=J):∃t,d=cD t/\TT n t:=by
 rw[Sv]at h
 cases d with
 |tup l=>
  simp only[lB,lg,mJ,rZ]at h;refine⟨l.map Dd,?_,?_⟩
  .have:l=(l.map Dd).map D.int:=by
    rw[kZ]
    conv=>lhs;rw[<-qc l]
    exact oV λd hd=>L8<|h.1 d hd
   exact nM D.tup this
  unfold TT;rw[kZ];exact h.2
 |_=>cases h
section
variable {n:Nat}{d:D}
def VR(hd:JD d):PD [ii n,Y (d,C)]=Y (!tB n d,[ii n,Y (d,C)]):=
 AA (lY<|JR (sP n d hd) (jV I)<|jV I)
def YK(hd:JD d)(h:tB n d=C):jQ [(.int n,C),(d,C)]=U/\lj [.int n,d]=Y "NoTurning":=by
 constructor
 .refine Fc ?_;show iW _ _ [ii n,Y (d,C)]=U;rw[GI,rM<|(VR hd).trans<|by rw[h];rfl];rfl
 show lU [ii n,Y (d,C)]=Y "NoTurning";unfold lU;rw[Wh ((VR hd).trans<|by rw[h];rfl) I];rfl
def aaK(hd:JD d)(h:tB n d=J):lj [.int n,d]=U:=by show lU [ii n,Y (d,C)]=U;unfold lU;rw[Wi ((VR hd).trans<|by rw[h];rfl) I];rfl
def zU2{c:List D->Option au}{fa fb:FO}{δ:Dn}{a b:D}(f:FJ fa δ a)(g:FJ fb δ b):vP c [fa,fb] δ=c [a,b]:=by obtain⟨o,h1,_,e⟩:=f;obtain⟨j,h,_,i⟩:=g;unfold vP;rw[mS h1 h];simp[e,i]
def uN2{c:Bn}{fa fb:FO}{δ:Dn}{a b:D}(h:c [(a,C),(b,C)]=U)(f:FJ fa δ a)(g:FJ fb δ b):jc c [fa,fb] δ=U:=by obtain⟨o,h1,_,e⟩:=f;obtain⟨k,i,_,j⟩:=g;exact acL (mS h1 i) (args:=[(a,C),(b,C)]) (by simp[e,j]) h
end
section
variable {n:Nat}{L a V R:jI}{d:D}
end
section
variable {n:Nat}{L a c V F:jI}{d:D}{b:iZ}
end
theorem M1{B:Nat}:∀a:List au,(∀t∈a,t.length<=B)->piled a<=a.length*(B+2)
 |[],_=>by simp[piled]
 |t::a,h=>by have:=M1 a λx b=>h x<|jU _ b;have:=h t jW;rw[piled_cons,kP,xj];lia
def Mf{B:Nat}(a:jw)(h:∀t∈a,t.length<=B):(tupleText a).length<=a.length*(B+2)+3:=by
 unfold tupleText;rw[yV,yV];have c:((("(":String):au)).length=1:=rfl;have d:(((if a.length==1 then ",)" else ")":String):au)).length<=2:=by split<;>decide
 rw[c];by_cases b:a=[]
 .subst b;have e:(au.join ", " ([]:List au)).length=0:=rfl;simp only[rE,Nat.zero_mul]at d ⊢
  lia
 have:=join_length_add a b;have:=M1 a h
 lia
def U9{B:Nat}(a:jw)(h:∀t∈a,t.length<=B):(listText a).length<=a.length*(B+2)+2:=by
 unfold listText
 have c:∀(a:jw)(k:Nat)(b:au),(∀t∈a,t.length<=B)->(G0 k b a).length<=b.length+a.length*(B+2):=λa=>by
  induction a with
  |nil=>intro k b _;simp[G0]
  |cons t a f=>
   intro k b h;rw[G0,kP,xj];refine lC (f _ _ λx d=>h x<|jU _ d) ?_;have:=h t jW;rw[yV,yV];have e:(((if k>0 then ", " else "":String):au)).length<=2:=by split<;>decide
   lia
 have:=c a 0 "[" h;rw[yV];have g:((("[":String):au)).length=1:=rfl;have i:((("]":String):au)).length=1:=rfl
 lia
theorem Ey:∀t:List Int,Jw (t.map .int)=Y (t.map .int)
 |[]=>rfl
 |x::t=>by rw[jP,Jw,Ey t];rfl
theorem GJ:∀L:List (List Int),Jw (L.map cD)=Y (L.map λt=>.tuple (t.map .int))
 |[]=>rfl
 |t::L=>by rw[jP,Jw,GJ L,Jo,Ey];rfl
theorem yJ{a:Type}(f:a->cf):∀l:List a,na (l.map f)=l.map λx=>(f x).shown
 |[]=>rfl
 |x::l=>by rw[jP,na,yJ f l];rfl
theorem Dg{a:Type}(f:a->cf):∀l:List a,(∀x∈l,(f x).showable=J)->im (l.map f)=J
 |[],_=>rfl
 |x::l,h=>by rw[jP,im,h x jW,Dg f l λy b=>h y<|jU _ b];rfl
theorem DK{a:Type}(f:a->cf):∀l:List a,(∀x∈l,(f x).hasDict=C)->iF (l.map f)=C
 |[],_=>rfl
 |x::l,h=>by rw[jP,iF,h x jW,DK f l λy b=>h y<|jU _ b];rfl
theorem DU{a:Type}{k:Nat}(f:a->cf):∀l:List a,(∀x∈l,(f x).depth<=k)->f5 (l.map f)<=k
 |[],_=>by simp[f5]
 |x::l,h=>by rw[jP,f5];exact Nat.max_le.mpr ⟨h x jW,DU f l λy b=>h y<|jU _ b⟩
def P8{n:Nat}{d:D}{L:jI}(w:n<=5)(i:sq d L)(g:∀t∈L,TT n t)(q:L.length<=100):∃z,BX d=Y (.str z,C):=by
 have f:∀t∈L,∀x∈t,x.natAbs.log2<1920:=λt a x b=>by have:=(g t a).sg b;unfold SG ab at this;refine xa (Nat.log2_le_self _) ?_;split at this<;>lia
 have s1:∀t∈L,(dU<|t.map .int).showable=J:=λt a=>by rw[d8];exact Dg _ _ λx b=>by rw[d8];exact rJ<|f t a x b
 have s:∀t∈L,(dU<|t.map .int).hasDict=C:=λt _=>by rw[eK];exact DK _ _ λx _=>by rw[eK]
 have u:∀t∈L,(dU<|t.map .int).depth<=5:=λt _=>by rw[fA];have:=DU (k:=1) cf.int t (λx _=>by simp[fA]);lia
 have v:∀t∈L,(dU<|t.map .int).shown.length<=10000:=λt a=>by
  rw[fy,yJ];refine lC (Mf (B:=1921) _ λy c=>?_) ?_
  .obtain⟨x,b,rfl⟩:=ji c;rw[fy,PySem.ofString_length];exact int_text_length_le (k:=1920) (by decide)<|f t a x b
  rw[kd,(g t a).len];lia
 have sz:=kK
 have h:∀y∈L.map (λt=>(dU<|t.map .int).shown),y.length<=10000:=λy c=>by obtain⟨t,a,rfl⟩:=ji c;exact v t a
 have r:L.length*10002<=1000200:=Nat.mul_le_mul_right 10002 q
 have fin:∀(y:cf)(e:Jo d=Y y),y.showable=J->y.hasDict=C->y.depth<=20->y.shown.length<=sizeLine->∃z,BX d=Y (.str z,C):=λy e h1 m o p=>by
  refine⟨y.shown,?_⟩;rcases i with rfl|rfl
  all_goals
   show(Jo _).bind _=_;rw[e];exact jb ⟨h1,m,o,p⟩
 have j:=Dg _ L s1;have l:=DK _ L s;have A:=DU (k:=5) _ L u;rcases i with rfl|rfl
 .refine fin (.list<|L.map λt=>.tuple (t.map .int)) (by rw[Jo,GJ];rfl) (by rw[d8];exact j) (by rw[eK];exact l) (by rw[fA];lia) ?_;rw[fy,yJ];refine lC (U9 (B:=10000) _ h) ?_;rw[kd];lia
 refine fin (.tuple<|L.map λt=>.tuple (t.map .int)) (by rw[Jo,GJ];rfl) (by rw[d8];exact j) (by rw[eK];exact l) (by rw[fA];lia) ?_;rw[fy,yJ];refine lC (Mf (B:=10000) _ h) ?_;rw[kd];lia
def MA (n:Nat) (t:iZ):List Int:=Classical.epsilon<|BK n t
def OU{n:Nat}{t:iZ}(a:TT n t):BK n t (MA n t):=Classical.epsilon_spec (let⟨w,h,_⟩:=Jh a;⟨w,h⟩)
abbrev NN (n:Nat) (L:jI) (a:iZ):Bool:=L.all λt=>!LZ (MA n t) a
def lf (n:Nat) (ks L:jI):List (List Int):=(wy n ks).filter<|NN n L
abbrev f0:FO:=iX<|jf CK (iK 0) oG
abbrev Kg:FS:=iW (nC<|jc jQ [f0,iK 2]) jt
abbrev PK:XS:=vP lj [f0,iK 2]
section
variable {n:Nat}{ks:jI}{d:D}
def i0(δ:Dn):FJ f0 (rS n ks::δ) (.int n):=jE (b:=C)<|jO I (jV I).r (jE I).r
def OA(a:n<=5){t:iZ}(b:TT n t):Kg [rS n ks,Y (d,C),eN t]=Y (.nx [rS n ks,Y (d,C),eN t]):=
 (iO<|pd<|JR (Fi a b) (i0 _)<|jV I).trans rfl
def Yd(k:n<=5):∀(M:List D)(a:Sl),(∀x∈M,JD x)->M.all (tB n)=C->mB (iP 2) Kg M [rS n ks,Y (d,C),a]=U/\Bx (iP 2) Kg PK M [rS n ks,Y (d,C),a]=Y "NoTurning":=by
 intro M
 induction M with
 |nil=>intro _ _ h;cases h
 |cons x M o=>
  intro a e h;have f:=e x jW;have j:iP 2 x [rS n ks,Y (d,C),a]=Y [rS n ks,Y (d,C),Y (x,C)]:=rfl;have f1:yD [rS n ks,Y (d,C),Y (x,C)]=J:=rfl;unfold mB Bx;rw[j];simp only[jH];rw[jb f1]
  cases b:tB n x
  .obtain⟨g,i⟩:=YK f b;have c:PK [rS n ks,Y (d,C),Y (x,C)]=Y "NoTurning":=(zU2 (i0 _)<|jV I).trans i
   have p:Kg [rS n ks,Y (d,C),Y (x,C)]=U:=by show iW _ _ _=U;rw[GI,HV,uN2 (fa:=f0) (fb:=iK 2) g (i0 _)<|jV I];rfl
   rw[c,p];exact⟨rfl,rfl⟩
  rw[dR,b,fx]at h;obtain⟨t,rfl,l⟩:=Xz b;have c:PK [rS n ks,Y (d,C),eN t]=U:=(zU2 (i0 _)<|jV I).trans<|aaK f b;rw[c,OA k l];simp only[jH];rw[jb f1];exact o (eN t) (λy m=>e y<|jU _ m) h
variable {L:jI}
def Tj(p:List Int->Bool):(L.map cD).all (λd=>p<|JF d)=L.all p:=by rw[ez];congr 1;funext t;simp only[bj,nO]
def Rk(h:A7 n ks)(m:sq d L)(j:∀t∈L,TT n t)(s:(A2 L)<=1000):oK [(Hr n ks,C),(d,C)]=Y ((.lst<|(lf n ks L).map cD,J),[rS n ks,Y (d,C)]):=by
 have k:=h.1
 let δ:Sl->Dn:=λx=>[rS n ks,Y (d,C),x]
 obtain⟨_,⟨x,_,rfl⟩,e⟩:=nX (tg:=iP 2) (fb:=Kg) (λl g=>∃x,(∀y∈l,∃t∈L,y=cD t)/\g=δ x) (λy l g T=>by
  obtain⟨x,h1,h⟩:=T
  subst h;obtain⟨t,b,rfl⟩:=h1 y jW;exact⟨_,_,rfl,OA k<|j t b,_,λz r=>h1 z<|jU _ r,rfl⟩) (L.map cD) (δ U) ⟨U,λy c=>by obtain⟨t,b,rfl⟩:=ji c;exact⟨t,b,rfl⟩,rfl⟩
 have q:=AK (caps:=[1]) (fi:=kG<|jc nS [iK 0]) (f:=kI 1) (ti:=fT W7) (δ:=δ x) (l:=(wy n ks).map cD) (args:=[d]) (λd=>d) (λy=>NN n L<|JF y) (mn<|Mj (ac3 h)<|jV I) I I (λy c=>by obtain⟨a,p,rfl⟩:=ji c;rw[nO];refine⟨lY (o:=C)<|(wO (caps:=[1]) (args:=[cD a]) (l:=L.map cD) (λy=>!LZ (MA n<|JF y) a) (N2 (i:=0) m I) I I (λy c=>?_)<|by simp;lia).trans<|by rw[Tj λt=>!LZ (MA n t) a],λ_=>⟨C,rfl⟩⟩;obtain⟨t,b,rfl⟩:=ji c;rw[nO];exact⟨C,JR (Uj k (j t b) (OU<|j t b)<|DH p) (jV I)<|jV I⟩) (by have:=Ag k ks;simp;lia)
 rw[qC]at q;simp only[nO]at q;exact ko (δ:=δ x) ⟨rfl,by decide,rfl⟩<|(iO<|(kO<|N2 m I).trans e).trans<|jJ<|la q
def Rj(e:n<=5){M:List D}(c:∀x∈M,JD x)(h:M.all (tB n)=C):oK [(Hr n ks,C),(.lst M,C)]=U/\vQ [Hr n ks,.lst M]=Y "NoTurning":=by
 obtain⟨a,b⟩:=Yd (ks:=ks) (d:=.lst M) e M U c h;constructor
 .refine Fc ?_;show iW _ _ [rS n ks,Y (.lst M,C),U]=U;rw[GI,kO (ds:=M) (δ1:=[rS n ks,Y (.lst M,C),U]) I,a];rfl
 show LQ mX (iP 2) Kg PK [rS n ks,Y (.lst M,C),U]=_;unfold LQ;rw[show mX [rS n ks,Y (.lst M,C),U]=Y (M,[rS n ks,Y (.lst M,C),U])from I];simp only[jH];rw[jb (show yD [rS n ks,Y (.lst M,C),U]=J from I)];exact b
def ae2(h:A7 n ks)(g:∀t∈L,TT n t)(s:(A2 L)<=1000):pW [(Hr n ks,C),(.lst<|L.map cD,C)]=Y ((.lst<|(lf n ks L).map cD,J),[rS n ks,Y (.lst<|L.map cD,C)]):=by
 have m:=h.1;obtain⟨o,k⟩:=ace h
 have p:∀{a:iZ},Cu n a->mz [enc a,(.lst<|L.map cD,C)]=Y ((.bl<|NN n L a,C),[eN a,Y (.lst<|L.map cD,C)]):=λ{a} c=>by refine XI ⟨rfl,by decide,rfl⟩<|(wO (caps:=[0]) (args:=[cD a]) (l:=L.map cD) (λy=>!LZ (MA n<|JF y) a) (N2 (i:=1) (.inl I) I) I I (λy e=>?_)<|by simp;lia).trans (by rw[Tj λt=>!LZ (MA n t) a]);obtain⟨t,j,rfl⟩:=ji e;rw[nO];exact⟨C,jO (SY _ _) (jV I).r (jE (b:=C)<|JR (ae4 (g t j) c<|OU<|g t j) (jV I)<|jV I).r⟩
 have q:=AK (caps:=[1]) (fi:=kG<|jc mH [iK 0]) (f:=kI 1) (ti:=fT Wn) (δ:=[rS n ks,Y (.lst<|L.map cD,C)]) (l:=(wy n ks).map cD) (args:=[.lst<|L.map cD]) (λd=>d) (λy=>NN n L<|JF y) (mn<|Mj k<|jV I) I I (λy e=>by obtain⟨a,c,rfl⟩:=ji e;rw[nO];exact⟨lY (o:=C)<|JR (p<|DH c) (jV I)<|jV I,λ_=>⟨C,rfl⟩⟩) (by have:=Ag m ks;simp;lia)
 rw[qC]at q;simp only[nO]at q;exact ko ⟨rfl,by decide,rfl⟩<|jJ<|la q
end
section
variable {n:Nat}{ks:jI}(h:A7 n ks)
include h
abbrev J1(n:Nat)(ks:jI):List (List Int):=(wX n n).filter λt=>ks.all λc=>decide<|lc t c∈ks
theorem Ri:(J1 n ks).length<=3840:=lC (yW _ _)<|A0 n (by have:=h.1;lia) n (by have:=h.1;lia)
theorem Vb{t:iZ}(a:t∈J1 n ks):TT n t:=(AY (Fx.mp a).1).tt
theorem Rh:0<(J1 n ks).length:=by refine List.length_pos_of_mem (a:=st n)<|Fx.mpr ⟨T9 n (by have:=h.1;lia),mJ.mpr λc b=>?_⟩;rw[Yi<|h.2.1.2 c b,rJ b]
end
abbrev YD:FS:=zC1
section
variable {n:Nat}{ks:jI}(h:A7 n ks)
include h
abbrev Jy(n:Nat)(ks:jI)(a:Int)(b:Bool)(m:Int)(L:jI)(x y:Sl):Dn:=[B1 a b,rS n ks,Gv (J1 n ks) J,ii m,Dx L,x,y]
theorem RP(a:Int)(b:Bool)(m:Int){L:jI}(M:(A2 L)<=100)(x y:Sl):∃k t N,TT n t/\YD (Jy n ks a b m L x y)=Y (.nx<|Jy n ks k b m (L++[t]) x N):=by
 have B:=h.1;obtain⟨a1,t,f,p⟩:=vn a b n B;have f:=HK f;obtain⟨v,c,O,Q,q⟩:=lZ a1 b 2 (by lia) (by lia);have u:=Ri h;have A:=Rh h;obtain⟨w,e,T,E,s⟩:=lZ c b ((J1 n ks).length:Int) (by lia) (by lia)
 let δ:Int->Sl->Dn:=λa y=>Jy n ks a b m L x y
 have s1:kn 6 WU (δ a y)=Y (.nx<|δ a1<|eN t):=jK (i:=6) (δ1:=δ a1 y) (jY (δ1:=δ a y) (os:=[.slot 0,.val (.int n,C)]) (args:=[pS a b,pI n]) (mS I<|jd<|jO I (jV I).r (jE I).r) I (Jp 0) p) (show 6<7 by decide);have d:∀(a:Int)(t:iZ),iW (nC<|md 4<|kI 6) jt (δ a<|eN t)=Y (.nx<|Jy n ks a b m (L++[t]) x<|eN t):=λa t=>(iO<|pd (r:=(.Ar,C))<|(pB (i:=4) (l0:=L.map cD) (l:=L.map cD) (r:=enc t) (δ1:=δ a<|eN t) I I I<|by rw[kK];simp;lia).trans<|by simp only[Jy,Dx,oD];rfl).trans I;have j:fT W0 (δ a1<|eN t)=Y (decide<|v=0,δ c<|eN t):=lY (o:=C)<|jM (o1:=.val (.int v,C)) (o2:=.val (.int 0,C)) (δ1:=δ c<|eN t) (jd<|q _ _ (.val (.int 2,C)) rfl rfl) I I I<|(MI _ _).trans (by rw[rC]);by_cases hv:v=0
 .have g:w.toNat<(J1 n ks).length:=by lia
  refine⟨e,(J1 n ks)[w.toNat],_,Vb h<|za g,(iO s1).trans<|(iO (δ1:=δ e<|eN (J1 n ks)[w.toNat])<|(rM<|j.trans<|by rw[rJ hv]).trans<|(iO<|jK (i:=6) (δ1:=δ e<|eN t) (jM (o1:=.slot 2) (o2:=.val (.int w,C)) (δ1:=δ c<|eN t) I (jd<|s _ _ (.val (.int (J1 n ks).length,C)) (by simp) rfl) I I (z:=(cD (J1 n ks)[w.toNat],C)) ?_) (show 6<7 by decide)).trans I).trans<|d e _⟩;rw[ixl (L:=(J1 n ks).map cD) T<|by simpa using E];simp[lM,g]
 exact⟨c,t,_,f,(iO s1).trans<|(iO<|(pU<|j.trans<|by rw[nv hv]).trans I).trans<|d c t⟩
theorem OF(a:Int)(b:Bool)(m:Nat)(v:m<=39):∃(c:Int)(L:jI),(∀t∈L,TT n t)/\(A2 L)<=39/\lH [pS a b,(Hr n ks,C),(.lst<|(J1 n ks).map cD,J),pI m]=Y ((.lst<|L.map cD,J),[B1 c b,rS n ks,Gv (J1 n ks) J,ii m]):=by
 obtain⟨q,a1,w,A,g⟩:=lZ a b ((m:Int)+1) (by lia) (by lia);obtain⟨p,rfl⟩:∃p:Nat,q=p:=⟨q.toNat,by lia⟩
 obtain⟨_,⟨d,L,x,y,j,k,rfl⟩,e⟩:=nX (tg:=iP 5) (fb:=YD) (λf δ=>∃(a:Int)(L:jI)(x y:Sl),(∀t∈L,TT n t)/\(A2 L)+A2 f<=39/\δ=Jy n ks a b m L x y) (λz f δ T=>by
  obtain⟨a,L,x,y,h1,i,hd⟩:=T
  subst hd;simp only[kP]at i;obtain⟨c,t,s,l,e⟩:=RP h a b m (L:=L) (by lia) (Y (z,C)) y;refine⟨_,_,rfl,e,c,L++[t],_,s,λu r=>?_,by simp;lia,rfl⟩;rcases pQ.mp r with q|q
  .exact h1 u q
  cases Fw.mp q;exact l) (jA 0 p) (Jy n ks a1 b m [] U U) ⟨a1,[],U,U,by simp,by simp[jA];lia,rfl⟩
 refine⟨d,L,j,by simpa using k,ko (δ:=[B1 d b,rS n ks,Gv (J1 n ks) J,ii m,U,x,y]) ⟨rfl,by decide,rfl⟩ ?_⟩;refine(iO (δ1:=Jy n ks a b m [] U U) I).trans ?_;refine(iO<|(kO<|oJ (o:=.val (.int p,C)) (δ1:=Jy n ks a1 b m [] U U) (jd<|g _ _ (.val (.int<|(m:Int)+1,C)) (by simp) rfl) I<|by lia).trans e).trans ?_;exact jJ I
end
def ZC:BE 4 1 (mG CT yF) (.B4 (.exc 61) [] [])=Y (.int 2):=by kernel_rfl
def ZQ:(λz=>yF.lookup z) ("NoTurning":au)=Y 61:=by kernel_rfl
abbrev XJ:F:=Mw 11<|Kh [3,11] (jc oK [iK 0,iK 1]) (vP vQ [iK 0,iK 1]) 4 1 (mG CT yF) λz=>yF.lookup z
abbrev VE:FS:=zC2
abbrev fD5:F:=jc lH [iK 2,iK 3,iK 4,W6]
abbrev fA5:F:=jc jk [iK 2,TH]
abbrev fB5:F:=jf lL Xf WO
abbrev fR5:F:=jc ng [iK 2,oG,W2]
abbrev S9:FS:=iW WA<|iW (kn 3 fR5)<|iW Wm<|iW (kn 5 fD5)<|iW Wz<|iW (ny WK (iP 7) VE)<|iW (kn 10 fA5)<|iW (kn 11 fB5)<|iW (EJ (fT<|jf J9 (iX XJ) yd) Gs jt) jt
def acN{c:Bn}{fs:List FO}{δ δ1:Dn}{os:List Bq}{args:List (D×Bool)}{r:D×Bool}{b:Dn}(h1:kj fs δ=Y (os,δ1))(d:kf δ1 os=Y args)(e:c (args.map λa=>(a.1,C))=Y (r,b))(f:okR r=J):DQ c fs δ=Y (r,δ1):=by unfold DQ;rw[h1];simp only[jH];rw[d];simp only[jH];rw[e];simp only[jH];rw[jb f]
theorem H9:∀L:List (List Int),D.Jr (L.map cD)=J
 |[]=>rfl
 |t::L=>by rw[jP,D.Jr,H9 L,D.fz,Oi];rfl
section
variable {n:Nat}{ks L:jI}(h:A7 n ks)(c:∀t∈L,TT n t)(e:L.length<=39)
include h
theorem Vc(L:jI):(lf n ks L).length<=32:=lC (yW _ _)<|Ag h.1 ks
include c e
theorem RS{d:D}(v:sq d L)(j k m p q w s g f:Sl):∃A B,VE [j,k,m,rS n ks,p,q,Dx<|lf n ks L,Y (d,C),w,s,g,f]=Y (.nx [j,k,m,rS n ks,p,q,Dx<|lf n ks L,Y (d,C),A,B,g,f]):=by
 obtain⟨z,u⟩:=P8 h.1 v c (by lia);have T:=Vc h L;have same:=XE (lf n ks L) (by lia) (λt E=>by have:=(DH (Fx.mp E).1).1;have:=h.1;lia) J J
 let δ:Sl->Sl->Dn:=λx y=>[j,k,m,rS n ks,p,q,Dx<|lf n ks L,Y (d,C),x,y,g,f]
 refine⟨Y (.str z,C),Y (.lst<|(lf n ks L).map cD++[cD []],J),?_⟩;refine(iO<|jK (i:=8) (δ1:=δ w s) (jC u (jV I).r) (show 8<12 by decide)).trans ?_;refine(iO<|jK (i:=9) (δ1:=δ (Y (.str z,C)) s) (JR (Rk h v c<|by lia) (jV I)<|jV I) (show 9<12 by decide)).trans ?_;have Q:uI WB (δ (Y (.str z,C))<|Dx<|lf n ks L)=Y (C,δ (Y (.str z,C))<|Dx<|lf n ks L):=AA (b:=J)<|lY (o:=C)<|(jY (δ1:=δ (Y (.str z,C))<|Dx<|lf n ks L) (os:=[.slot 9,.slot 6]) (args:=[(.lst<|(lf n ks L).map cD,J),(.lst<|(lf n ks L).map cD,J)]) I I (show([9,6]:List Nat).Nodup by decide) same).trans I;refine(no (δ:=δ (Y (.str z,C))<|Dx<|lf n ks L) _ ((VF Q).trans<|aau (a:=.str z) I (by simp[D.dep]) (jE<|jC u (jV I).r).r (jV I).r)).trans ?_;exact(iO<|pd (r:=(.Ar,C))<|(pB (i:=9) (l0:=(lf n ks L).map cD) (l:=(lf n ks L).map cD) (r:=(cD [],C)) (δ1:=δ (Y (.str z,C))<|Dx<|lf n ks L) I (by simp) I<|by rw[kK];simp;lia).trans I).trans I
end
def Ox(ns:iZ)(k:Nat)(c2 J I q j C E H u c:Sl):∃d2 d3 d4 d5 d6 f g h df de,S9 [Y (.lst<|ns.map .int,AX),ii k,c2,J,I,q,j,C,E,H,u,c]=Y (.nx [Y (.lst<|ns.map .int,AX),ii k,d2,d3,d4,d5,d6,f,g,h,df,de]):=by
 let O:Sl:=Y (.lst<|ns.map .int,AX)
 obtain⟨a,b,e0⟩:=aeM ns k
 let G:Nat:=5-min k 1
 obtain⟨a1,n,ks,U,_,_,e1⟩:=adg a b 0 G (by lia) (by simp only[G];lia);have hn:=U.1;obtain⟨w,F,w0,w1,e2⟩:=Ei a1 b 2 (by lia) (by lia);obtain⟨m,hm⟩:∃m:Nat,(if w=0 then(3:Int)else 39)=m:=⟨(if w=0 then(3:Int)else 39).toNat,by split<;>rfl⟩
 obtain⟨A,L,S,hl,e3⟩:=OF U F b m (by split at hm<;>lia);have e4:=ae2 U S (by lia);obtain⟨v,T,v0,v1,e5⟩:=Ei A b (((A2 L):Int)+1) (by lia) (by lia);obtain⟨p,rfl⟩:∃p:Nat,v=p:=⟨v.toNat,by lia⟩
 obtain⟨B,x,ox,hx,e6⟩:=R6 T b n hn
 let M:List D:=(L.map cD).take p++[x]++(L.map cD).drop (p+1)
 have hM:∀y∈M,JD y:=λy N=>by
  have hc:∀y∈L.map cD,JD y:=λy N=>by obtain⟨t,ht,rfl⟩:=ji N;exact SR (by rw[(S t ht).len];lia)
  simp only[M,pQ,Fw]at N;rcases N with(z|rfl)|z
  .exact hc y (uU z)
  .exact ox
  exact hc y (zb z)
 have V:M.all (tB n)=AX:=by rw[List.all_eq_false];exact⟨x,by simp[M],by simp[hx]⟩
 obtain⟨f1,f2⟩:=Rj (ks:=ks) hn hM V
 let R:=rS n ks
 let K:=Gv (J1 n ks) Ap
 let Q:=Dx<|lf n ks L
 let δ:Int->Bool->Sl->Sl->Sl->Sl->Sl->Dn:=λa o x7 Y' x9 Z x11=>[O,ii k,B1 a b,R,K,Gv L o,Q,x7,Y',x9,Z,x11]
 obtain⟨_,⟨f,g,h,_,rfl⟩,ef⟩:=nX (tg:=iP 7) (fb:=VE) (λl δ'=>∃x7 Y' x9,(∀d∈l,sq d L)/\δ'=δ A AX x7 Y' x9 u c) (λd l δ' a'=>by
  obtain⟨x7,Y',x9,h1,hd⟩:=a'
  subst hd;obtain⟨g8,g9,e⟩:=RS U S hl (h1 d jW) O (ii k) (B1 A b) K (Gv L AX) Y' x9 u c
  exact⟨_,_,rfl,e,_,_,_,λy N=>h1 y<|jU _ N,rfl⟩) [.lst<|L.map cD,.tup<|L.map cD,.lst<|L.map cD] (δ A AX C E H u c) ⟨C,E,H,λd hd=>by
   simp only[kM,lN,mC]at hd;rcases hd with rfl|rfl|rfl
   .exact .inl AM
   .exact .inr AM
   exact .inl AM,rfl⟩
 refine⟨B1 B b,R,K,Gv L AX,Q,f,g,h,ii p,Y (.lst M,AX),?_⟩;refine(iO<|jK (i:=2) (δ1:=[O,ii k,c2,J,I,q,j,C,E,H,u,c]) (JR e0 (jV AM)<|jV AM) (show 2<12 by decide)).trans ?_
 let s:Int->Sl->Sl->Sl->Sl->Dn:=λa x3 x4 x5 x6=>[O,ii k,B1 a b,x3,x4,x5,x6,C,E,H,u,c]
 have em:jf PX.Fq (iX<|fC<|.int 5) WC (s a J I q j)=Y ((.int G,AX),s a J I q j):=by
  have:(G:Int)=5-(if(1:Int)<k then 1 else(k:Int)):=by simp only[G];split<;>lia
  rw[this];simp[O,s]
 refine(iO (δ1:=s a1 R I q j)<|jK (i:=3) (δ1:=s a1 J I q j) ((jY (δ1:=s a J I q j) (os:=[.slot 2,.val (.int 0,AX),.val (.int G,AX)]) (args:=[pS a b,pI 0,pI G]) (pA AM<|mS AM<|jd em) AM (Jp 2) e1).trans AM) (show 3<12 by decide)).trans ?_;refine(iO (δ1:=s a1 R K q j)<|jK (i:=4) (δ1:=s a1 R I q j) (Mj (ae1 U)<|jV AM) (show 4<12 by decide)).trans ?_
 have X:jf CK Wl WD (s a1 R K q j)=Y ((.int m,AX),s F R K q j):=by refine jM (o1:=.val (.lst [.int 3,.int 39],Ap)) (o2:=.val (.int w,AX)) (δ1:=s a1 R K q j) AM (jd<|e2 _ O (ii k) [R,K,q,j,C,E,H,u,c] (.val (.int 2,AX)) rfl rfl) AM AM (z:=(.int m,AX)) ?_;rw[<-hm];rcases(show w=0\/w=1 by lia)with rfl|rfl<;>rfl
 refine(iO (δ1:=s A R K (Gv L Ap) j)<|jK (i:=5) (δ1:=s A R K q j) ((jY (δ1:=s F R K q j) (os:=[.slot 2,.slot 3,.slot 4,.val (.int m,AX)]) (args:=[pS F b,(Hr n ks,AX),(.lst<|(J1 n ks).map cD,Ap),pI m]) (pA AM<|pA AM<|mS AM<|jd X) AM (show([2,4]:List Nat).Nodup by decide) e3).trans AM) (show 5<12 by decide)).trans ?_;refine(iO (δ1:=δ A Ap C E H u c)<|jK (i:=6) (δ1:=s A R K (Gv L Ap) j) (acN (os:=[.slot 3,.slot 5]) (args:=[(Hr n ks,AX),(.lst<|L.map cD,Ap)]) AM AM e4<|H9 _) (show 6<12 by decide)).trans ?_;refine(iO<|(kO (δ1:=δ A AX C E H u c)<|mn (o:=Ap) ?_).trans ef).trans ?_
 .exact IL (os:=[.val (.lst<|L.map cD,AX),.val (.tup<|L.map cD,AX),.val (.lst<|L.map cD,AX)]) (pA (δ1:=δ A AX C E H u c) AM<|mS (jd<|jC AM<|jR (i:=5) AM) AM) AM (yI (by show 3<=10000;decide))
 have P:TH (δ A AX f g h u c)=Y (.val (.int<|((A2 L):Int)+1,AX),δ A AX f g h u c):=by simp[δ,O]
 refine(iO (δ1:=δ T AX f g h (ii p) c)<|jK (i:=10) (δ1:=δ T AX f g h u c) (e5 _ O (ii k) [R,K,Gv L AX,Q,f,g,h,u,c] _ P rfl) (show 10<12 by decide)).trans ?_;have hb:jc lz [iK 2,Wo] (δ T AX f g h (ii p) c)=Y ((x,AX),δ B AX f g h (ii p) c):=(jY (δ1:=δ T AX f g h (ii p) c) (os:=[.slot 2,.val (.int n,AX)]) (args:=[pS T b,pI n]) (mS AM<|jd<|jO AM (jV AM).r (jE AM).r) AM (Jp 2) e6).trans AM;refine(iO (δ1:=δ B AX f g h (ii p)<|Y (.lst M,Ap))<|jK (i:=11) (δ1:=δ B AX f g h (ii p) c) ?_ (show 11<12 by decide)).trans ?_
 .refine jM (o1:=.val (.lst<|(L.map cD).take p++[x],Ap)) (o2:=.val (.lst<|(L.map cD).drop<|p+1,Ap)) (δ1:=δ B AX f g h (ii p) c) (jd<|jM (o1:=.val (.lst<|(L.map cD).take p,Ap)) (o2:=.val (.lst [x],Ap)) (δ1:=δ T AX f g h (ii p) c) (jd ?_) (jd<|IL (os:=[.val (x,AX)]) (qa<|jd hb) AM<|yI (by show 1<=10000;decide)) AM AM<|V1 (by simp;lia)<|by simp) (jd ?_) AM AM (V1 (by simp;lia)<|by simp;lia)
  .show Y ((D.lst<|PX.oA (L.map cD) AR<|Y (p:Int),Ap),_)=_;rw[VO]
  show Y ((D.lst<|PX.oA (L.map cD) (Y ((p+1:Nat):Int)) AR,Ap),_)=_;rw[VQ]
 have W:XJ (δ B AX f g h (ii p)<|Y (.lst M,Ap))=Y ((.int 2,AX),δ B AX f g h (ii p)<|Y (.lst M,AX)):=RT (δ:=δ B AX f g h (ii p)<|Y (.lst M,AX)) (args:=[(Hr n ks,AX),(.lst M,AX)]) AM AM (uN2 f1 (jV AM)<|jV AM) ((zU2 (jV AM)<|jV AM).trans f2) ZQ ZC;refine(iO<|(pU (δ1:=δ B AX f g h (ii p)<|Y (.lst M,AX))<|lY (o:=AX)<|jM (o1:=.val (.int 2,AX)) (o2:=.val (.int 2,AX)) (δ1:=δ B AX f g h (ii p)<|Y (.lst M,AX)) (jd W) AM AM AM<|EX<|by simp[D.dep]).trans AM).trans AM
abbrev δ51(a:Sl):Dn:=[a,U,U,U,U,U,U,U,U,U,U,U]
def V6(a:iZ)(O:(A2 a)<=63):∃o q,uJ [(.lst<|a.map .int,C)]=Y ((.bl J,o),q):=by
 let r:Sl:=Y (.lst<|a.map .int,C)
 let N:Nat:=if 1<min (A2 a) 6 then min (A2 a) 6 else 1
 obtain⟨_,⟨s,b,c,f,g,i,j,l,m,p,n,_,rfl⟩,e⟩:=nX (tg:=iP 1) (fb:=S9) (λds δ=>∃s b c f g i j l m p n,(∀d∈ds,∃k:Nat,d=.int k)/\δ=[r,s,b,c,f,g,i,j,l,m,p,n]) (λd ds δ M=>by
  obtain⟨s,b,c,f,g,i,j,l,m,p,n,h1,h⟩:=M
  subst h;obtain⟨k,rfl⟩:=h1 d jW;obtain⟨g2,y,z,A,B,T,E,Q,t,u,e⟩:=Ox a k b c f g i j l m p n
  exact⟨_,_,rfl,e,_,_,_,_,_,_,_,_,_,_,_,λx w=>h1 x<|jU _ w,rfl⟩) (jA 0 N) (δ51 r) ⟨U,U,U,U,U,U,U,U,U,U,U,λd hd=>by obtain⟨k,_,rfl⟩:=ji hd;exact⟨k,by simp⟩,rfl⟩
 let δ:Dn:=[r,s,b,c,f,g,i,j,l,m,p,n]
 refine⟨C,_,ko (δ:=δ) ⟨rfl,by decide,rfl⟩ ?_⟩;refine(iO<|(kO (ds:=jA 0 N) (δ1:=δ51 r) ?_).trans e).trans (jJ<|la ?_)
 .refine oJ (o:=.val (.int N,C)) (jd ?_) I (by simp only[N];split<;>lia)
  have v:(N:Int)=if(if(6:Int)<(A2 a)then 6 else((A2 a):Int))>1 then(if(6:Int)<(A2 a)then 6 else((A2 a):Int))else 1:=by simp only[N];split<;>split<;>split<;>lia
  rw[v];simp[r,δ51]
 kernel_rfl
end PV
def K51.main(b:iZ)(c:(A2 b)<=63):∃o a,PV.uJ [(.lst<|b.map .int,C)]=Y ((.bl J,o),a):=PV.V6 b c
structure PySem.W.Fast:Prop where(tw2787964621120552677 tw3552610656667629417 tw12009535733543332743 tw2559676976266969594 tw7495955349370806980 tw17310143112325908129 tw7294472214138054381 tw8518450705848269835 tw4211477920490644769 tw6233232278494701951 tw13461725988181675235 tw15063149464243363047 tw14879721894845090418 tw11300700808269401292 tw6351666114821586195 tw3266150812787995167 tw13430241490488199029 tw12592168589589464761 tw7292835551923531198 tw9586198095270690415 tw3079352149134928001 tw15069403468107452607 tw7744871787284402353 tw16147891952833207205 tw6213859232608549933 tw8449261539155498746 tw10977997792440552262 tw13011046975860002017 tw16149689315341653476 tw14422660568794530454 tw18399235175401176305 tw17738035776523106402 tw5165431304831929172 tw633346108935570660 tw13214927763277929070 tw10152365016608720922 tw12660891464209523557 tw6002247112940391433 tw3671648080682053677 tw18015817178364122572 tw15635864609801586304 tw14190974525256862906 tw3951764221248969716 tw11692279695192665856 tw12906154400909275696 tw1297919361121805786 tw17857320759803030157 tw7543241370767744194 tw16921055275398449932 tw568973433458206929 tw7037171908581399158 tw5717101385185958879 tw13371177155263268475 tw18082199625651605825 tw2973110638405047675 tw10535526734868944434 tw15020034142136935123 tw2385717283185829718 tw4433806528125305696 tw14268499496608341125 tw4149940285978816283 tw14864093194853723391 tw10886363841707925403 tw8561712760986206945 tw17330559562801192219 tw10946898952239029045 tw13733844114137384140 tw4604931061185912811 tw4793439026937467565 tw6925779097028991789 tw1111008010687631350 tw10987194845713313140 tw737566234332407047 tw2278065897894294208 tw3316709844195796415 tw8603854066121287420 tw2115348555713855941 tw7155902081433611035 tw12857058770229384598 tw3933026242543117533 tw8220854207573508329 tw11912157649458690874 tw8251294081252228822 tw10148669285135237562 tw16456997750827250918 tw5997674636966665066 tw11080256513307779415 tw704614427740296779 tw14982541253748491072 tw10183681454513549029 tw6644194386756373332 tw5653134125769371814 tw16007480556049185764 tw10523964246618487732 tw4992243152635679956 tw14079440776009994536 tw15359010774206135357 tw3180711819560928148 tw8334999392609169934 tw12171959241382232313 tw5824453215565474614 tw15987240482318543390 tw15114172044417369634 tw13616811228026388631 tw1744599539132289565 tw8026935560133604119 tw3261047552388215922 tw14522620984369706119 tw9825769656808169139 tw2262669667948787746 tw2046556642678684606 tw12477411023580223277 tw16713406330555808644 tw13581205553417339525 tw196910029459481471 tw5570140377848566215 tw17564947757681972796 tw17942367545570281516 tw14748707505299950489 tw11405526231562172309 tw16873766543072784526 tw15211140016106482702 tw9109600635361100549 tw3531391224977178314 tw2263668734450544854 tw6679657864359603636 tw6143861960625943974 tw3739520573414713087 tw1876124161496924625 tw11493214808661745271 tw17693224814238008735 tw17497540964830900172 tw2347739696463884371 tw5561333293941447138 tw84151453922024490 tw18115149678784052355 tw16937393344498155100 tw16615339833943765309 tw15994267675473767549 tw15123030648165910586 tw14487084109275454074 tw12186705860654718553 tw11866578538313919854 tw9835302014694155243 tw7813136085936165812 tw2543919150542251849 tw13093645472975986284 tw12542410852557410512 tw1057540893657304357 tw4506593785348485966 tw756404030919111994 tw13925271683929652831 tw887691769090127272 tw7838709034309355448 tw5687961433554646820 tw17404604738187721860 tw10969026178650826041 tw3801433753887812212 tw1242403925079531204 tw1953983970287542964 tw15702400130043720522 tw602001196175067370 tw9482057126519213577 tw1962330510205544743 tw10605133260829170128 tw12490770572979419773 tw16280856693484350693 tw5409701894877667299 tw12293706447880978628 tw2712053392188391040 tw8348082478053571352 tw8916558816748629931 tw12207169380488439048 tw9672516096004265300 tw13085937185646903707 tw12726141037977249027 tw16258853389554111421 tw12250780618697858730 tw739070666045841348 tw4373792643363864546 tw4345348129664180427 tw17887007170742317897 tw12990173672279151735 tw6660230915902331 tw4327590614059298139 tw15287311477387197738 tw5647633998643253949 tw13622701145890695431 tw13270830626030379373 tw13219446827292984768 tw13032402258158834554 tw10654770941749616366 tw10162279254367466963 tw12545871932423237056 tw16934797533447931014 tw13846242519331512356 tw12138635197926313265 tw6241042567600600619 tw4596057444770325995 tw2809172155054789175 tw1714444329650080506 tw7964168371524409639 tw16457822804584232102 tw12113066665655188494 tw9559003750421848762 tw7590061543832628505 tw5368454258337279476 tw2800010917033525473 tw1590871791330866916 tw14521348009182296633 tw8563899267779772743 tw14888232500983716687 tw2352832557741567766 tw14784390814619173177 tw12225693915385960329 tw10381662463268406749 tw10939253446228389450 tw3386599876788752937 tw1567481620148637113 tw15585707878122464511 tw14097189406426455937 tw12772813049698851606 tw1817775093631367007 tw1022254533023627993 tw12435972623788714246 tw13826102346624985324 tw18035454060979237996 tw10546091125110723043 tw16750572971404009594 tw6312627453005943096 tw16275105997047471866 tw11585350044875010316 tw13234877466897196250 tw15991333449803641235 tw162192763956005237 tw7638179243985983649 tw3473563792721146386 tw2121863791457546821 tw11996991881205437721 tw2443668598612562290 tw9167306725332409973 tw2768091935315816085 tw9172551557724200827 tw7803314549089944039 tw6350291889189702290 tw5340709616093823245 tw2614882805146802850 tw2566538666208097932 tw18305541406709754290 tw17239521762641057812 tw11627964239776247377 tw8328491117963429199 tw175528405640216258 tw4997553754598180527 tw3374400902191230672 tw18402269701898662197 tw1472087623101239252 tw10922096911471949524 tw1507175690513473833 tw9668076068326995878 tw16759917607390391657 tw4671551333008759795 tw8560330354980027219 tw15325729988893524185 tw7955184494615799573 tw5337594031088668187 tw4657393838965344271 tw4284429252993331183 tw2349679332522346077 tw18083650177316408482 tw16863824217948127150 tw16168843646398102692 tw15995528398095606261 tw1537633770439661703 tw13306159227729027038 tw1177035651218711143:True)
open PySem PySem.W PyProof.Rows PX
set_option maxRecDepth 100000 in
set_option maxHeartbeats 0 in
theorem PySem.Challenge.cw_twinriddles_k51_rows_that_answers_keep_holds : PySem.Challenge.rw_twinriddles_k51_rows_that_answers_keep.Holds := by
  w_on; o_law; k_head; (case hw => w_witness2)
  k_fill
  refine walkT (TB:=K51.TB51) (l:=Challenge.rw_twinriddles_k51_rows_that_answers_keep) (LV:=12) (x:="_law_script") ⟨rfl,by decide,by decide,rfl⟩ rfl rfl (fun w h Y=>km_in_of Y) (fun w h Y=>aC (km_tabs_of Y _ List.mem_cons_self) aN) (fun w=>aC ?K aN) (by decide) ?F K51.main
  case K=>show List.lookup 393 _ = none; kernel_rfl
  case F =>
   intro w mg fa h KX G hmg
   refine' K51.all_mk hmg (txK KX G ?_ ?_ ?_ ?_ ?_ ?_ ?_ ?_ ?_ ?_ ?_ ?_ ?_ ?_ ?_ ?_) ?_ ?_ ?_ ?_ ?_ ?_ ?_ ?_ ?_ ?_ ?_ ?_ ?_ ?_ ?_ ?_ ?_ ?_ ?_ ?_ ?_ ?_ ?_ ?_ ?_ ?_ ?_ ?_ ?_ ?_ ?_ ?_ ?_ ?_ ?_ ?_ ?_ ?_ ?_ ?_ (fzT KX G ?_ ?_ ?_ ?_ ?_) (mg_none_of KX G ?_) (mg_none_of KX G ?_) ⟨(aC (mg_of KX G ?_) (aC (mg_of KX G ?_) (aC (mg_of KX G ?_) (aC (mg_of KX G ?_) (aC (mg_of KX G ?_) (aC (mg_of KX G ?_) (aC (mg_of KX G ?_) (aC (mg_of KX G ?_) (aC (mg_of KX G ?_) (aC (mg_of KX G ?_) aN)))))))))),(aC (mg_of KX G ?_) aN),(aC (aC ?_ (aC ?_ (aC ?_ (aC ?_ (aC ?_ (aC ?_ (aC ?_ (aC ?_ (aC ?_ (aC ?_ aN)))))))))) aN),(aC ?_ aN),(aC (show ClK _ 61 24 from ⟨⟨?_,?_,?_,?_,?_,?_,?_,?_⟩,(aC ?_ (aC ?_ (aC ?_ (aC ?_ (aC ?_ (aC ?_ aN)))))),?_⟩) aN),(aC (show excIn _ 61 _ _ = true from ?_) aN),mg_none_of KX G ?_,mg_none_of KX G ?_,mg_of KX G ?_⟩ <;>try first|refine' fz KX G ?_ ?_ ?_ ?_<;>try k_is|k_is|kernel_rfl
