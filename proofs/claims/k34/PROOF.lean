import PyProof.Rows.All
import Wide.All
import OpenK.AllK
import Wide.FinOn
import PyProof.EqAt
import PyProof.EqKinds
import PyProof.TupleCall
import Lean
import PySem.Challenge.RW_twinriddles_k34_kinds_of_all_answers
set_option Elab.async false
set_option linter.all false
set_option maxRecDepth 100000
set_option maxHeartbeats 8000000
set_option compiler.extract_closed false
set_option backward.eqns.nonrecursive false
noncomputable section
open List renaming length->A7
namespace RfL
theorem r{a:α}:a=a:=rfl
end RfL
open RfL renaming r->H,r->AM
open Option renaming some->Y,some->XV,none->C,none->X0
open Bool renaming true->J,true->YP,false->U,false->ZB
open Array renaming length_toList->lh,getElem?_toList->mY,getElem?_eq_getElem->qu,getElem?_eq_some_iff->Kp,getD_eq_getD_getElem?->wg,getElem?_setIfInBounds->DC,getElem?_eq_none->DA,forIn_toList->Dy,append_assoc->HB,getElem?_replicate->Mh,mem_toList_iff->Wk,toList_eq_nil_iff->Wj,toList_append->LW,toList_push->fK,replicate->gg,getD->gx,size_zip->sa,size_map->sm,toList->t0,ext->A1
open Bool renaming false_eq_true->ke,false_ne_true->kR,and_eq_true->mP,not_true->qt,or_eq_true->yI,not_false->Ag,false_and->eS,and_false->eW,true_and->fF,not_eq_true'->fU,and_assoc->gA,or_false->gW,and_self->gX,noConfusion->oC,eq_iff_iff->r8,decide_and->r9,false_or->tz,true_or->vw
open False renaming elim->ba
open ForInStep renaming yield->bV
open Function renaming comp_def->yL,comp->bG
open Int renaming toNat_natCast->uw,mul_one->Hy,emod_lt_of_pos->G3,emod_nonneg->G2,neg_neg->AT
open LawfulBEq renaming eq_of_beq->vP
open LawfulMonad renaming bind_assoc->uq,pure_bind->xt
open List renaming map_cons->kc,getElem?_eq_getElem->kK,mem_cons_self->jW,mem_cons_of_mem->jZ,mem_cons->lz,size_toArray->kd,mem_map->nC,length_map->kn,map_map->kM,length_cons->lg,getElem?_map->ly,mem_append->tM,getElem?_eq_some_iff->xj,all_eq_true->mZ,not_mem_nil->lY,getD_eq_getElem?_getD->md,mem_of_getElem?->mB,getElem?_set_ne->mQ,length_append->nB,nodup_nil->nU,mem_append_right->ph,lookup_cons->pd,pairwise_append->vd,map_append->oX,getElem?_append_right->pN,map_nil->pL,getElem?_append_left->qw,map_congr_left->qr,pairwise_cons->Fq,length_nil->rk,mem_range->xi,length_take->tL,append_assoc->tJ,pairwise_map->ue,getElem?_cons_succ->tE,nil_append->tD,getElem?_set_self->ux,length_set->ur,getElem?_of_mem->um,mem_singleton->Je,filterMap_cons->sh,append_nil->sf,nodup_cons->yT,mem_map_of_mem->rQ,mem_filter->Fs,foldl_cons->uD,any_cons->uC,exists_cons_of_length_pos->uB,getElem?_cons_zero->uA,mem_flatMap->xm,map_id->uy,all_cons->wB,ext_getElem->wA,range'_succ->wu,take_append_drop->wt,mem_of_mem_take->wq,zip_cons_cons->wo,isEmpty_nil->we,take_sublist->yQ,length_singleton->yN,getElem?_set->yM,getElem?_zip_eq_some->Fo,pairwise_reverse->HD,find?_cons->yC,cons_append->yA,length_filter_le->yz,getElem_map->Am,drop_eq_getElem_cons->Al,drop_eq_nil_of_le->Ak,reverse_perm->Aj,eq_nil_of_length_eq_zero->Ai,length_pos_iff->SV,length_eq_zero_iff->SU,replicate_zero->Af,nodup_append->Ae,mem_append_left->Ed,getElem_inj->Eb,of_mem_zip->D8,getElem?_replicate->D6,any_map->DZ,ext_getElem?->DY,eq_nil_or_concat->DM,concat_eq_append->DL,pairwise_iff_getElem->PZ,getElem_of_mem->DK,extract_eq_take_drop->DJ,mem_of_mem_drop->DI,take_succ->DH,length_eraseIdx->Dw,getElem_mem->Dr,filter_cons_of_pos->Dp,filter_cons_of_neg->Dm,getElem?_take_of_lt->Hv,length_replicate->Hu,getElem?_zipIdx->Hh,foldl_append->Hg,perm_middle->P7,drop_sublist->G9,mem_erase_of_ne->G1,take_length->GU,filter_map->GL,flatMap_cons->GK,length_reverse->Ml,pairwise_singleton->Mk,length_eq_one_iff->Wm,perm_append_comm->SR,pairwise_lt_range->Wl,filterMap_append->Mj,perm_append_singleton->Mi,perm_cons_erase->LU,range'_eq_map_range->LR,dropLast_concat_getLast->LQ,filter_eq_self->Wi,replicate->am,range->au,range'->bw,map->cN,length->dq,getElem?_drop->d0,mem_reverse->ee,length_drop->ef,take_of_length_le->ew,range_succ_eq_map->ey,forIn_cons->eI,replicate_succ->fw,mem_filterMap->fH,take_take->gz,getLastD_eq_getLast?->gJ,all_map->g0,getElem?_eq_none->ij,zip_nil_right->kA,map_singleton->kS,filter_append->k6,filterMap_map->k7,Nodup->k8,length_range->nf,filter_congr->nt,any_eq_false->nw,zipIdx_cons->n6,map_fst_zip->n7,any_eq_true->on,set_append->rs,forIn_nil->sK,map_take->tv,map_set->vr,map_id'->vu,foldl->AC
open List.Pairwise renaming nil->du,sublist->xc,of_map->xf,map->xl,imp_of_mem->xn
open List.Perm renaming refl->wk,swap->iP,cons->iQ,trans->SS,eq_of_pairwise->Td,append_left->Tk
open List.cons renaming inj->rV,injEq->yD
open Nat renaming le_refl->kh,ne_of_lt->kf,zero_le->mf,le_trans->mC,lt_of_lt_of_le->oG,ne_of_gt->pk,lt_irrefl->rp,lt_succ_of_lt->vM,pow_succ->qI,lt_succ_self->se,mul_assoc->rR,le_of_lt->uH,zero_add->wx,mul_add->wj,le_succ->yO,add_assoc->yK,mul_comm->yH,mul_one->yG,mod_lt->yF,pow_le_pow_right->yE,not_lt->SW,lt_trans->D3,add_sub_cancel_left->DN,mul_left_comm->DD,lt_asymm->Hj,one_mul->G5,mul_zero->G4,lt_of_le_of_lt->GN,min_eq_left->eJ,add_mul->gj,add_zero->ib,sub_add_cancel->m6,lt_or_eq_of_le->na,add_sub_cancel->nb,le_succ_of_le->n5,le_of_not_lt->ro,two_pow_pos->ss,mul_add_mod->sx,div_add_mod->sB,lt_or_ge->w6,le_of_eq->w9,add_mod->At
open Ne renaming symm->qy
open Option renaming bind_some->jU,isSome_iff_exists->MF,isSome_map->GS,map_eq_some_iff->d6,getD_some->fO,isSome_some->iB,getD_none->kv,map_some->m4,bind->tp,map->vl
open Option.some renaming inj->lj
open Or renaming inl->bb,inr->bP
open Ordering renaming swap->gi
open Prod.mk renaming inj->uk
open PyProof.Rows renaming SortSt->uf,listUpdate_at->wm,slot_tuple_getitem->BH,get?_update_seq->yJ,callWith_type1->Ap,seqEpoch_at->Ah,boot_range->Ea,listItems_at->G8,entry_tuple_getitem->MB,subscriptTail_builtinR->MA,envOfC->aY,seqObj->bt,IntsAre->fe,AllBare->fg,Keyed->fq,arrOf->gb,failedOf->gw,subscriptTail->iJ,SortKind->rd,IsTup->re,args_tuple_getitem->te,wpAny_notIn_heap->wT,lt_int->y9,le_int->zn,gt_int->zx,ge_int->z0,entry_list_sort->z7,callWith_type0->z8,callWith_builtin1->z9,slot_list_sort->Do,slicePart_none->D0,oneType'->Ev,keyLt'->EQ,tupleItemsOf_->NR,reverseSlice'->Op,tuples'->R1,plain_sorted->Sc,entry_sorted->Sr,call_abs_int->SI,kind_sorted->W1
open PyProof.Rows.F renaming plain_set_update_loop->GW,entry_set_update_loop->L9
open PyProof.Rows.IsTup renaming new->D4
open PySem renaming Shared->iZ,Program->jw,Around->jn,World->jm,SetTable->mW,Value->jg,Comprehension->nS,FuncData->mV,Heap->jo,Addr->iW,wpAny_bind->iX,wpAny_pure->jd,sizeLine_eq->jY,wpAny_holding->mv,wpAny_mono->nX,wpAny_call_entry->nW,wpAny_newObj_type->nV,codeAny_builtin->oZ,wpAny_field->pM,codeAny_mono->qx,wpAny_of_eq->qv,mem_of_lookup->tK,wpAny_typeOf->uv,wpAny_rule->uo,plainId_quiet->uj,wpAny_setState_of->ui,wpAny_Call_Name_kw->vR,wpAny_callSpecial?_slot->vQ,wpAny_setField_rec->qJ,wpAny_seqItems->rX,wpAny_attempt->rW,wpAny_forIn_list->rT,wpAny_standAt->uG,wpAny_askSetting->uF,codeAny_of_tree->uE,wpAny_specialOf->uz,wpAny_truthy_bool->wD,wpAny_passesOwn->wC,wpAny_setField->wz,wpAny_isInstance->wy,wpAny_load->yS,wpAny_call->yR,tupleKind_room_in1->yB,wpAny_pyIter_list->Aq,call_meets->Ao,wpAny_alloc->An,concat_meets->D5,wpAny_comprehension_free->D2,wpAny_runValue->DX,wpAny_newTuple->DT,wpAny_letGo->DS,isSubtype_stop->DQ,codeAny_call_builtin->DP,wpAny_onRaise->DO,richCompare_meets_room->DF,wpAny_newList->DE,wpAny_isSame_ref_self->Dz,isSubtype_type->Dx,wpAny_updateSeq->Du,wpAny_typeNameOfWhole_keyiter->Dq,wpAny_pyHash_int->HC,wpAny_execs_nil->HA,wpAny_execs_cons->Hz,wpAny_pyIter_tuple->Hx,codeAny_call_function->Ht,codeAny_func->Hs,noFill_tuple_add->Hr,seq_tuple_add->Hq,seqIndex_of->Hl,seqIndex_neg->Hk,wpAny_handled->Hf,wpAny_throw->He,weight_type_call_type->Hb,wpAny_collect_seq->G6,typeLookup_type->G0,builtinLookup_eq_fast->GZ,wpAny_pyIter_slot->GY,wpAny_setEntries_of->GX,wpAny_dictEntries->GR,wpAny_dictEpoch->GQ,wpAny_newFunctionEnv_cells->MC,wpAny_Call_method_late->Mz,wpAny_updateSeq_pair->Mm,codeAny_extend_loopS->Ma,wpAny_notOrdered_dict->L4,wpAny_isOneOf_keyiter->LZ,starEach->ac,wpAny->ah,model->aj,mainGlobals->aq,foldedSetIterable->aA,bootBuiltins->aB,Str->aG,backTo->aH,compareOp->aM,cLine->aQ,eval->aT,Builtin->aV,assignEach->aZ,Stmt->bc,cellsFrom->bz,Arguments->bA,Pos->bO,keywordEach->bW,binaryOp->b3,wpAny_loadPart'->b9,ofAClassStatement->ca,sysModules->cj,pyNext->cn,clausesOf->cA,holding->cB,codeAny->cC,rawInt->cE,IsPair->cH,backToKw->cJ,Keyword->cM,assign->cW,tupleKind->c7,standAt->c9,firstArgMember->da,CmpOp->dz,swapsWith->dB,checkBuiltinCall->dE,behindInMarks->dH,attributeBase->dI,sliceBounds->dL,hashByValue->dP,NameKind->dU,pyIter->d5,Env->ek,getItem->el,Sem->eF,IsPart->eG,codeAmong->eK,GenState->eL,IsEnum->eZ,letOwnedTupleGo->fk,IsZip->fm,Obj->fy,bindArgs->fJ,PassesOwn->fL,swapsWithSole->f3,swappedStores->f4,comprehension->f5,valueAt->gl,collect->gm,callerA->gq,BindsTo->gr,pickOrder->gB,DictEntry->gD,atKey->gM,typeLookup->g7,setsByText->g9,newFunctionEnv->hC,entryFor->hD,builtinsNs->hG,argsOk->hH,Model->h9,Meets->ia,updateSeq->i5,scanBound->i7,list_append->jp,field->j0,compStart->j1,bindL->j2,bindC->j3,TriplesOk->j8,IsEnumOut->kl,spliced->lf,setItem->li,relabel->lm,newList->lw,newExc->lA,intKind->l8,Result->mu,ItemsOf->mL,wants->o6,unsupported->o7,subscripted->pc,slotArgs->pp,setField->pw,newTuple->px,compTurn->pC,compPost->p4,ZipApart->p5,Moved->p7,wpAny_Name->s8,setAdd->s9,getattributeRaised->ta,closureFor->tc,wpAny_storeSet_of->t9,wpAny_sequenceKey->ul,wpAny_pyIter_enum->ut,wpAny_Return_some->uu,table->u3,slot_list_getitem->u4,searchCouldBeSeen->u6,eqIsQuiet_byValue->u7,wpAny_pyIter_zip->v6,seqIndex?->v7,noteFrame->wf,eqIsQuiet->wl,call->wn,beq_builtin_none->wr,arm_eval_SetComp->wv,Tok->ww,wpAny_stack_any->xx,theWindowsPlace->xz,pushCells_keeps->x0,Fin->x6,wpAny_tryCatch->A2,wpAny_notIn_of->Bn,wpAny_fieldsOf->BB,typeOf->B0,raiseNew->B1,newSet->B2,entryFor_alias->B4,contains->Ch,cellOf->CL,callType_codes->Db,wpAny_notedAt->Fa,wpAny_in_heap->Fk,sub_enumerate->FM,setSearchFrom->F2,rangeSize_one->Gc,intBits_le_64->Go,evalPart_none->Is,checkTypeCall->Ix,call_list_seq->IN,unaryOp->OO,sub_set_self->O0,setAddHashed->O1,release->O2,name_of_addr->O3,dictSet->Ps,call_range_2->PP,callType_new->P1,callAny->Q1,IsRange->Q2,wpAny_in_of->Tl,setContains->TD,interactive->TW,IsRangeIter->WF
open PySem.Around renaming under_plainId->rm,under_plain->Hc,frames_deeper->MD
open PySem.AutoSeq1 renaming sub_tuple_tuple->DG,list_extend_list_list_0->WP
open PySem.Builtin.Dict renaming updateFrom->fZ,showsAll->gf,selfAndRest->x8,pairItems->y4,dictSlotNone->y6,addKeywords->y8
open PySem.Builtin.Frozenset renaming addrOf->ce,oneOther->cK,newClass->eP,withSetAsKey->p8,updateFrom->qs,slot0->q9,sizeOf->rc
open PySem.Builtin.List renaming listExtendWith->cc,listSameRef->cw,listTooLong->dA,listLengthHint->fD
open PySem.Builtin.Range renaming rangeSize->fM,small->wS
open PySem.Builtin.Slice renaming slicePlaces->cg,sliceAdjust->dc,sliceApplied->fB,slicePartIndex->wL,sliceFields->wP
open PySem.Builtin.SmallTypes renaming nextOf->aR,fitsIndex->bv,ownedTupleHandOut->bx,ownedTupleIsFree->bN
open PySem.Builtin.Tuple renaming tupleHashOf->bh,tupleExact->bo,tupleCompareSizes->bQ,tupleItemsOf->c8,tupleIsExact->fA
open PySem.Calls renaming spliced_cons->D9,spliced_nil->Hw,Name_function_global->ME,callWith_builtin->My,evalArgs_plain->Mx
open PySem.Code renaming quiet_builtin->Hd
open PySem.Data renaming cell->ga,fields->iz,seq->NL
open PySem.Expr renaming Name->f8
open PySem.F renaming called_set->Fn,slot_tuple_hash->Jf,slot_dict_keyiterator_next->Ck,slot_enumerate_next->DR,plain_list_iadd->Dv,plain_set_new->Ds,slot_tuple_add->Ho,entry_tuple_add->Hn,args_tuple_add_2->Hm,called_tuple->P8,slot_set_contains->LN,plainAttrs_list->GP,slot_list_getattribute->P6,slot_set_add->GO,entry_list_append->Mw,args_list_append_2->Mv,entry_object_init->Mu,args_object_init_2->Mt,slot_tuple_iterator_next->Mr,entry_enumerate_next->Mq,args_enumerate_next_1->Mp,entry_enumerate_new->Mn,slot_set_iter->Mf,entry_proto_collect->Me,plain_proto_collect->Md,entry_list_iadd->Mc,plain_extend_loop->Mb,entry_set_new->L8,entry_type_call->L7,entry_set_init->L6,slot_dict_iter->L5,entry_dict_keyiterator_next->L3,args_dict_keyiterator_next_1->L0,entry_set_add->LY,args_set_add_2->LX
open PySem.Heap renaming get?_push_of_some->kg,lt_size->kH,get?_push_size->kG,size_push->rn,get?_update_self->vO,get?_update_other->yP,get?_update_ne->G7,SameBut->aK,ExtBut->eR
open PySem.Heap.SameBut renaming update->tH,refl->D1
open PySem.Moved renaming trans->Dt,refl->wE
open PySem.NameKind renaming free->aO,cell->c4
open PySem.Obj renaming data_mapFields->qK,isFreed_of_fields->DV,cls_mapFields->DU,mapSeq->aL,mapFields->gY,putSet->mA
open PySem.Paired renaming length->Ar
open PySem.SeqAt.EqAt renaming str_int->gO,int_str->gV,same->gZ,str_str->aci,str_none->IR,str_bool->aco,none_str->ab8,none_int->ab9,none_bool->acD,int_none->KE,int_int->acG,int_bool->adE,bool_str->ad1,bool_none->M2,bool_int->No,bool_bool->NE
open PySem.SetTable renaming below->ap,insertAt->aE,runEnd->aI,bits->aP,turns->ci,leap->cX,Probe->dy,sizeAbove->eQ,grown->f7,layClean->hZ,tooFull->iw,fresh->ka,slot->mj,laid->mm,fits->mo,fill->ms,put->n3,sameMemory->T2,relaid->Uf,has->UF,gaveWay->UV,advance->Wp
open PySem.SetTable.layClean renaming free->bX
open PySem.SetTable.probe renaming go->eu
open PySem.Shared renaming TypeIs->eX
open PySem.Str renaming ofString->bn
open PySem.Value renaming none->ao,ref->bf,type->bi,notImplemented->db,bool->dQ,builtin->gC,str->me,int->mi,isStrOf->sn,isInt->u8
open PySem.W renaming Frag->ju,mg_none_of->oW,kia_one->rZ,kia_tup->rY,cellsFrom_some->D7,nsIn->aU,fnOf->cz,keepIn->cG,kitOne->dG,kitAny->ez,codeIn->eE,methodObj->fx,kitx_tuple->hJ,callWith_K->hU,kitx_none->ik,kitx_list->im,kitx_dict->io,kitx_bool->ir,kitx_str->iF,kitx_set->iG,kitx_int->iI
open StateT renaming run_pure->Ha
open Sum renaming inl->dn,inr->fV
open True renaming intro->be
open PySem PySem.Spec PyProof.Rows
section
abbrev jJ:=jg->iZ->Prop
abbrev jK:=List<|iW×fy
abbrev jS:=List<|List Int
abbrev jh:=List Int
abbrev ku:=List jg
abbrev mz:=aG->Option jg
abbrev kj:=List Nat
abbrev vI:=Array<|Int×jg
abbrev nv:=Array jg
abbrev jq:=List aG
abbrev kL:=List Expr
abbrev uh:=Bool->iZ->Prop
abbrev Cj:=Option jg->iZ->Prop
abbrev zp:=jg->jg->eF jg
abbrev xk:=Array<|Option Nat
abbrev ug:=Array<|Option jg
abbrev kF:=List<|aG×iW
abbrev oV:=List nS
abbrev Ci:=Array fq
abbrev kz:=Nat->Prop
abbrev kN:=List iW
abbrev jQ:=Scope
abbrev je:=Expr
end
section
open PySem.SeqAt
theorem jl:type_of% @if_pos:=@if_pos
theorem jv:type_of% @if_neg:=@if_neg
theorem kB:type_of% @if_false:=@if_false
theorem kO:type_of% @if_true:=@if_true
theorem mD:type_of% @decide_eq_false:=@decide_eq_false
theorem mX:type_of% @or_false:=@or_false
def nE:=@congrArg
theorem pe:type_of% @decide_eq_true:=@decide_eq_true
theorem oY:type_of% @not_or:=@not_or
theorem vN:type_of% @bne_self_eq_false:=@bne_self_eq_false
theorem sd:type_of% @decide_eq_true_eq:=@decide_eq_true_eq
theorem xo:type_of% @beq_eq_false_iff_ne:=@beq_eq_false_iff_ne
end
theorem uab(h:True:=by rfl):True:=h
def AQ:=uab._auto_1
theorem uad(h:True:=by decide):True:=h
def Bb:=uad._auto_1
theorem uaf(h:True:=by intro _;rfl):True:=h
def Kt:=uaf._auto_1
theorem uah(h:True:=by exact bb AM):True:=h
def M1:=uah._auto_1
theorem uaj(h:True:=by first|exact .inl rfl|exact .inr rfl|assumption):True:=h
def Na:=uaj._auto_1
theorem ual(h:True:=by decide+kernel):True:=h
def NZ:=ual._auto_1
theorem uan(h:True:=by with_unfolding_all rfl):True:=h
def uam:=uan._auto_1
theorem uap(h:True:=by first|exact bb rfl|exact bP (bb H)|exact bP<|bP H):True:=h
def uao:=uap._auto_1
theorem uar(h:True:=by first|exact Oc _|with_unfolding_all rfl):True:=h
def uaq:=uar._auto_1
theorem uat(h:True:=by first|exact .inl rfl|exact .inr (.inl H)|exact .inr (.inr<|.inl H)|exact .inr<|.inr<|.inr H):True:=h
def uas:=uat._auto_1
theorem uav(h:True:=by exact λ_ _=>rfl):True:=h
def uau:=uav._auto_1
theorem uax(h:True:=by first|exact bb rfl|exact bP H):True:=h
def uaw:=uax._auto_1
theorem uaz(h:True:=by intro t h;cases h;try rfl):True:=h
def uay:=uaz._auto_1
theorem uaB(h:True:=by exact PassesOwn.never):True:=h
def uaA:=uaB._auto_1
theorem uaD(h:True:=by first|exact bb rfl|exact bP AM):True:=h
def uaC:=uaD._auto_1
namespace TT
noncomputable def Lj(mask:Nat)(p:dy):SetTable.Probe:=
 if p.more>0 then {p with j:=p.j+1,more:=p.more-1} else
 {p with j:=(cX mask p.i p.perturb).1,more:=aI mask (cX mask p.i p.perturb).1-(cX mask p.i p.perturb).1,i:=(cX mask p.i p.perturb).1,perturb:=(cX mask p.i p.perturb).2}
noncomputable def AV(mask:Nat)(h:Int):SetTable.Probe:={j:=aP h%(mask+1),more:=aI mask (aP h%(mask+1))-aP h%(mask+1),i:=aP h%(mask+1),perturb:=aP h,dummy:=C}
noncomputable def pr(mask:Nat)(h:Int):Nat->dy
 |0=>AV mask h
 |n+1=>Lj mask<|pr mask h n
structure BX(hs:jh)(t:mW):Prop where
 pow: ∃k,3<=k/\k<=11/\t.mask+1=2^k
 dum:t.dummies= #[]
 len:t.place.size=A7 hs
 room:5*(A7 hs)<3*t.mask
 ris:t.place.toList.Pairwise (· < ·)
 bd: ∀j∈t.place.toList,j<=t.mask
 road: ∀(i:Nat) (h:Int) (j:Nat),hs[i]?=XV h->t.place[i]?=XV j-> ∃n,(pr t.mask h n).j=j/\ ∀m,m<n->(pr t.mask h m).j∈t.place.toList
end TT
namespace L2
abbrev Key:=Sum Int aG
noncomputable def AX:Key->jg->Bool
 | .inl k,v=>u8 k v
 | .inr x,v=>sn x v
noncomputable def aaa(w:jm):Key->Int
 | .inl k=>hashInt k
 | .inr x=>hashStr w x
def lL: ∀{k:Key} {v:jg},AX k v=J->(∃i t,k=dn i/\v=mi i t)\/(∃x t,k=fV x/\v=me x t)
 | .inl i,v,h=>by obtain⟨t,e⟩:=Value.isInt_shape (k:=i) (v:=v) h;exact .inl ⟨i,t,rfl,e⟩
 | .inr x,v,h=>by obtain⟨t,e⟩:=Value.isStrOf_shape (x:=x) (v:=v) h;exact .inr ⟨x,t,rfl,e⟩
def adp(i:Int)(t:ww):AX (.inl i) (.int i t)=J:=by simp[AX,u8]
def ado(x:aG)(t:ww):AX (.inr x) (.str x t)=J:=by simp[AX,sn]
def OG(a b:Int):decide ((dn a:Key)=dn b)=(a==b):=by
 by_cases e:a=b
 .subst e;simp
 .have h: ¬(dn a:Key)=dn b:=λq=>e<|Sum.inl.inj q;rw[mD h];exact(xo.mpr e).symm
def OD(a b:aG):decide ((fV a:Key)=fV b)=decide (a=b):=by
 by_cases e:a=b
 .subst e;simp
 .have h: ¬(fV a:Key)=fV b:=λq=>e<|Sum.inr.inj q;rw[mD h,mD e]
def OF(a:Int)(b:aG):decide ((dn a:Key)=fV b)=U:=mD (λq=>nomatch q)
def OE(a:aG)(b:Int):decide ((fV a:Key)=dn b)=U:=mD (λq=>nomatch q)
noncomputable def lJ(d:jw)(w:jm):PySem.KeyKind d w Key where
 is:=AX
 hash:=aaa w
 inj:=λv a b g f=>by
  rcases lL g with⟨i,t,rfl,rfl⟩|⟨x,t,rfl,rfl⟩
  .rcases lL f with⟨j,u,rfl,e⟩|⟨y,u,rfl,e⟩
   .injection e with c _;rw[c]
   .exact nomatch e
  .rcases lL f with⟨j,u,rfl,e⟩|⟨y,u,rfl,e⟩
   .exact nomatch e
   .injection e with c _;rw[c]
 byValue:=λk v h=>by rcases lL h with⟨i,t,rfl,rfl⟩|⟨x,t,rfl,rfl⟩<;>rfl
 pyHash:=λhv h=>by
  rcases lL hv with⟨i,t,rfl,rfl⟩|⟨x,t,rfl,rfl⟩
  .exact HC h
  .exact wpAny_pyHash_str h
 eqBool:=λl hv h=>by
  rcases lL l with⟨i,t,rfl,rfl⟩|⟨x,t,rfl,rfl⟩
  .rcases lL hv with⟨j,u,rfl,rfl⟩|⟨y,u,rfl,rfl⟩
   .rw[OG] at h;exact wpAny_eqBool_int h
   .rw[OF] at h;exact gV i t y u _ _ _ _ h
  .rcases lL hv with⟨j,u,rfl,rfl⟩|⟨y,u,rfl,rfl⟩
   .rw[OE] at h;exact gO x t j u _ _ _ _ h
   .rw[OD] at h;exact wpAny_eqBool_str h
 «strs»:=λk x t v h=>by
  rcases lL h with⟨i,u,rfl,e⟩|⟨y,u,rfl,e⟩
  .exact nomatch e
  .injection e with c _
   subst c;cases v<;>rfl
def abJ(a:jw)(w:jm)(i:Int)(t:ww):(lJ a w).is (.inl i) (.int i t)=J:=adp i t
def abH(a:jw)(w:jm)(x:aG)(t:ww):(lJ a w).is (.inr x) (.str x t)=J:=ado x t
inductive V where
 |Ax|bl(b:Bool)|int(i:Int)|str(x:aG)|byt(b:Array UInt8)|flt(b:UInt64)|ref(a:iW)|ty(n:String)
 deriving DecidableEq
def RelV:V->jg->Prop
 | .Ax,u=>u=ao
 | .bl b,u=>u=dQ b
 | .int i,u=> ∃t,u=mi i t
 | .str x,u=> ∃t,u=me x t
 | .byt b,u=> ∃t,u=Value.bytes b t
 | .flt b,u=> ∃t,u=Value.float b t
 | .ref a,u=>u=bf a
 | .ty n,u=>u=bi n
abbrev Vals:List V->List jg->Prop:=Paired RelV
def Vals.length{xs:List V}{a:ku}(r:Vals xs a):(A7 xs)=(A7 a):=Ar r
def Vals.get{xs:List V}{a:ku}{i:Nat}{x:V}(h:Vals xs a)(e:xs[i]?=Y x): ∃u,a[i]?=Y u/\RelV x u:=by
 induction h generalizing i with
 |nil=>simp at e
 |cons r t b=>
  cases i with
  |zero=>simp at e;subst e;exact⟨_,rfl,r⟩
  |succ i=>simpa using b (by simpa using e)
theorem Vals.set{x:V}{u:jg}(r:RelV x u): ∀{xs:List V} {a:ku} (i:Nat),Vals xs a->Vals (xs.set i x) (a.set i u)
 |_,_,_,.nil=> .nil
 |_,_,0,.cons _ t=> .cons r t
 |_,_,i+1,.cons q t=> .cons q (Vals.set r i t)
def Vals.append{c d:List V}{a b:ku}(h:Vals c a)(s:Vals d b):Vals (c++d) (a++b):=by
 induction h with
 |nil=>exact s
 |cons r t e=>exact .cons r e
theorem Vals.take: ∀{xs:List V} {a:ku} (n:Nat),Vals xs a->Vals (xs.take n) (a.take n)
 |_,_,0,_=> .nil
 |_,_,_+1,.nil=> .nil
 |_,_,n+1,.cons r t=> .cons r (Vals.take n t)
theorem Vals.drop: ∀{b:List V} {a:ku} (n:Nat),Vals b a->Vals (b.drop n) (a.drop n)
 |_,_,0,r=>r
 |_,_,_+1,.nil=> .nil
 |_,_,n+1,.cons _ t=>Vals.drop n t
def IX:Option V->Option jg->Prop
 |some v,Y u=>RelV v u
 |none,C=>True
 |_,_=>False
def KV{a:Type}:List (a×V)->List (a×jg)->Prop:=Paired λ(p:a×V) (q:a×jg)=>p.1=q.1/\RelV p.2 q.2
noncomputable def kV:Key->V
 | .inl i=> .int i
 | .inr x=> .str x
inductive HO where
 /-- a list -/
 |lst(xs:List V)
 /-- a tuple(never changes) -/
 |tup(xs:List V)
 /-- a dict whose keys are ints and texts;one whose keys are tuples of ints and texts(the empty one is both) -/
 |dK(kvs:List (Key×V))|dT(kvs:List (List Key×V))
 /-- a set of ints:its members,its size -/
 |set (S:Int->Bool) (n:Nat)
 |AV (zs:List (Int×V))
 /-- an instance of the class at C,its dict at dx,its attributes -/
 |ins (C dx:iW) (fs:List (aG×V))
 /-- the dict of the instance at x -/
 |own (x:iW)
 /-- the dict of an exception -/
 |xd (fs:List (aG×V))
 /-- a bound method,f of x -/
 |met (f x:iW)
 /-- a range object lo,lo+1,.. below hi -/
 |rng (lo hi:Int)
 /-- a thing that is known to the object (the script;a dict while a loop walks it):read,never written while it is so -/
 |EY (o:fy) (u:HO)
 /-- a code object's u3 -/
 |tbl (ps:nv)
 /-- any other thing,by what is YP of its one object (a def of one's own:SetO a S n:=HO.ext λh=> ..) -/
 |ext (φ:jo->Prop)
abbrev Hp:=iW->Option HO
noncomputable def upd(T:Hp)(a:iW)(o:HO):Hp:=λb=>if b=a then Y o else T b
def jr{T:Hp}{a:iW}{o:HO}:upd T a o a=Y o:=by unfold upd;rw[jl H]
def jA{T:Hp}{a b:iW}{o:HO}(h:b≠a):upd T a o b=T b:=by unfold upd;rw[jv h]
def Jl{T:Hp}{a:iW}{o u:HO}:upd (upd T a o) a u=upd T a u:=by funext b;unfold upd;split<;>rfl
def Tq{T:Hp}{a b:iW}{o u:HO}(h:T a=Y o)(c:T b=Y u)(d:o≠u):a≠b:=by intro e;subst e;rw[h] at c;exact d<|lj c
def ma{T:Hp}{a b:iW}{o:HO}(h:T a=Y o)(c:T b=C):a≠b:=by intro e;subst e;rw[h] at c;cases c
section
variable(P:jw)(w:jm)
def AR(T:Hp)(h:jo)(a:iW):HO->Prop
 | .lst g=>A7 g<=sizeLine/\ ∃(b:ku) (n:Nat),Vals g b/\h.get? a=Y {cls:= .type "list",data:= .seq b.toArray n}
 | .tup g=>A7 g<=sizeLine/\ ∃b:List jg,Vals g b/\re h a b.toArray
 | .dK d=>A7 d<=sizeLine/\(a==cj)=U/\ ∃k,KV d k/\h.DictOf (lJ P w) a k
 | .dT d=>A7 d<=sizeLine/\(a==cj)=U/\ ∃g:List (List Key×iW×jg),
   Paired (λ(p:List Key×V) (q:List Key×iW×jg)=>p.1=q.1/\T q.2.1=Y (.tup<|p.1.map kV)/\RelV p.2 q.2.2) d g/\
   ∃o j N,h.get? a=Y o/\o.ExactDict/\o.data= .dict j N/\j.toList=g.map (entryOfKey<|c7<|lJ P w)/\(g.map (·.1)).Nodup
 | .set S n=>h.SetOf (l8 P w) a S n
 | .AV E=> ∃(j:vI) (n:Nat) (t:mW),h.get? a=Y {cls:= .type "set",data:= .set j n t}/\Paired (λ(z:Int×V) (e:Int×jg)=>z.1=e.1/\RelV z.2 e.2) E j.toList/\
   TT.BX (E.map (·.1)) t/\t.plain=J/\t.led=!w.params.followText "set-order"
 | .ins Q l fs=>T l=Y (.own a)/\(A7 fs)<=1000/\l≠a/\h.get? a=Y (PySem.W.instObj Q l)/\
   ∃i,h.Ns1 l i/\(∀f,IX (fs.lookup f)<|i f)/\PySem.Within i (fs.map (·.1))
 | .own _=> ∃o,h.get? a=Y o
 | .xd fs=> ∃i,h.Ns1 a i/\ ∀f,IX (fs.lookup f)<|i f
 | .rng lo L=> ∃t u v,h.get? a=Y {cls:= .type "range",data:= .fields #[.int lo t,.int L u,.int 1 v]}
 | .EY o u=>h.get? a=Y o/\AR T h a u
 | .tbl O=> ∃q t r,O[0]?=Y (.str q t)/\h.get? a=Y {cls:= .none,data:= .fields r}/\j8 r.toList/\ ∀m y,eK m r.toList=Y y-> ∃c B u k t,y= .ref c/\T c=Y (.EY B u)/\B.data= .fields k/\k[1]?=Y (.str q t)
 | .met f x=>h.get? a=Y (fx (.ref f)<|.ref x)
 | .ext s=>s h/\(∃o,h.get? a=Y o)/\ ∀h1 A:jo,s h1->(∀o,h1.get? a=Y o->A.get? a=Y o)->s A
def Fd(T:Hp)(h:jo):Prop:= ∀a o,T a=Y o->AR P w T h a o
end
section
variable {P:jw}{w:jm}{H g:Hp}{h h':jo}{a:iW}{o:HO}
def AR.lt(x:AR P w H h a o):a<h.objs.size:=by
 cases o with
 |lst c=>obtain⟨_,_,_,_,e⟩:=x;exact kH e
 |tup c=>obtain⟨_,_,_,p⟩:=x;exact p.lt
 |dK b=>obtain⟨_,_,_,_,o,_,_,e,_⟩:=x;exact kH e
 |dT b=>obtain⟨_,_,_,_,o,_,_,e,_⟩:=x;exact kH e
 |set S n=>obtain⟨o,_,_,_,e,_⟩:=x;exact kH e
 |AV l=>obtain⟨_,_,_,e,_⟩:=x;exact kH e
 |ins T d fs=>obtain⟨_,_,_,e,_⟩:=x;exact kH e
 |own y=>obtain⟨_,e⟩:=x;exact kH e
 |xd fs=>obtain⟨_,⟨_,_,_,e,_⟩,_⟩:=x;exact kH e
 |rng lo i=>obtain⟨_,_,_,e⟩:=x;exact kH e
 |EY j u=>obtain⟨e,_⟩:=x;exact kH e
 |tbl k=>obtain⟨_,_,_,_,e,_⟩:=x;exact kH e
 |met f y=>exact kH (show h.get? a=Y _ from x)
 |ext m=>obtain⟨_,⟨_,e⟩,_⟩:=x;exact kH e
def Paired.NG{e i:Type}{F G:e->i->Prop}{c:List e}{d:List i}(h:Paired F c d)(f: ∀a b,F a b->G a b):Paired G c d:=by
 induction h with
 |nil=>exact .nil
 |cons r t j=>exact .cons (f _ _ r) j
def AR.BQ(x:AR P w H h a o)(k: ∀b u,(b=a\/H b=XV (.own a))->h.get? b=XV u->h'.get? b=XV u)
  (N: ∀b,H b=XV (.own a)->g b=XV (.own a))(U: ∀b A,H b=XV (.tup A)->g b=XV (.tup A))(Y: ∀b i u,H b=XV (.EY i u)->g b=XV (.EY i u):=by exact λ_ _ _ q=>q):AR P w g h' a o:=by
 induction o with
 |lst A=>obtain⟨z,s,n,r,e⟩:=x;exact⟨z,s,n,r,k _ _ (.inl AM) e⟩
 |tup A=>obtain⟨z,s,r,i,e,c⟩:=x;exact⟨z,s,r,i,k _ _ (.inl AM) e,c⟩
 |dK B=>obtain⟨z,y,O,r,i,j,l,e,c⟩:=x;exact⟨z,y,O,r,i,j,l,k _ _ (.inl AM) e,c⟩
 |dT B=>obtain⟨z,y,A,r,i,j,l,e,c⟩:=x;exact⟨z,y,A,Paired.NG r λp q z=>⟨z.1,U _ _ z.2.1,z.2.2⟩,i,j,l,k _ _ (.inl AM) e,c⟩
 |set S n=>obtain⟨i,j,l,t,e,c⟩:=x;exact⟨i,j,l,t,k _ _ (.inl AM) e,c⟩
 |AV zs=>obtain⟨j,n,t,e,c⟩:=x;exact⟨j,n,t,k _ _ (.inl AM) e,c⟩
 |ins C' dx fs=>obtain⟨d,z,ne,e,E,⟨I,j,l,G,c⟩,r⟩:=x;exact⟨N _ d,z,ne,k _ _ (.inl AM) e,E,⟨I,j,l,k _ _ (.inr d) G,c⟩,r⟩
 |own y=>obtain⟨i,e⟩:=x;exact⟨i,k _ _ (.inl AM) e⟩
 |xd fs=>obtain⟨E,⟨I,j,l,e,c⟩,r⟩:=x;exact⟨E,⟨I,j,l,k _ _ (.inl AM) e,c⟩,r⟩
 |rng lo hi=>obtain⟨t,u,v,e⟩:=x;exact⟨t,u,v,k _ _ (.inl AM) e⟩
 |EY i u ih=>obtain⟨e,q⟩:=x;exact⟨k _ _ (.inl AM) e,ih q⟩
 |tbl ps=>obtain⟨q,t,D,T,e,F,m⟩:=x;exact⟨q,t,D,T,k _ _ (.inl AM) e,F,λL Q z=>let⟨c,i,u,O,t,h1,J',M⟩:=m L Q z;⟨c,i,u,O,t,h1,Y _ _ _ J',M⟩⟩
 |met f y=>have e:h.get? a=XV (fx (.ref f)<|.ref y):=x;show h'.get? a=XV (fx (.ref f)<|.ref y);exact k a _ (.inl AM) e
 |ext φ=>obtain⟨p,⟨o,e⟩,st⟩:=x;exact⟨st _ _ p λo q=>k _ _ (.inl AM) q,⟨o,k _ _ (.inl AM) e⟩,st⟩
def Fd.lt(x:Fd P w H h)(e:H a=Y o):a<h.objs.size:=(x a o e).lt
def Fd.fresh(x:Fd P w H h)(e:h.objs.size<=a):H a=C:=by
 cases q:H a with
 |none=>rfl
 |some u=>exact absurd (oG (x.lt q) e)<|rp _
def Fd.kept(x:Fd P w H h)(k: ∀b u,h.get? b=Y u->h'.get? b=Y u):Fd P w H h':=λa o e=>(x a o e).BQ (λb u _ q=>k b u q) (λ_ q=>q) λ_ _ q=>q
def Fd.laid(x:Fd P w H h)(k: ∀b u,h.get? b=Y u->h'.get? b=Y u)(i:h.objs.size<=a)(new:AR P w (upd H a o) h' a o):Fd P w (upd H a o) h':=λb u e=>by
 have d:=x.fresh i;by_cases f:b=a
 .subst f;rw[jr] at e;cases e;exact new
 .rw[jA f] at e;exact(x b u e).BQ (λc v _ q=>k c v q) (λc q=>by rw[jA<|ma q d];exact q) (λc xs q=>by rw[jA<|ma q d];exact q) λc _ _ q=>by rw[jA<|ma q d];exact q
end
def Rd(T:Hp)(a:iW)(u:HO):Prop:=T a=Y u\/ ∃o,T a=Y (.EY o u)
def Rd.ok{P:jw}{w:jm}{T:Hp}{h:jo}{a:iW}{u:HO}(r:Rd T a u)(x:Fd P w T h):AR P w T h a u:=by
 rcases r with r|⟨o,r⟩
 .exact x a u r
 .obtain⟨_,q⟩:=x a _ r;exact q
def NS:Option HO->Prop
 |some (.lst _)=>True
 |some (.dK _)=>True
 |some (.dT _)=>True
 |some (.set _ _)=>True
 |some (.AV _)=>True
 |some (.ins _ _ _)=>True
 |some (.ext _)=>True
 |_=>False
section
variable {P:jw}{w:jm}{H:Hp}{h a:jo}{x e:iW}{d:HO}
def Fd.write(ok:Fd P w H h)(g:NS (H x))(o:e=x\/H e=Y (.own x))(k: ∀b u,b≠e->h.get? b=Y u->a.get? b=Y u)(s: ∃u,a.get? e=Y u)
  (new:AR P w (upd H x d) a x d):Fd P w (upd H x d) a:=λb u q=>by
 have f: ∀c y,H c=Y (.own y)->c≠x:=λc y r z=>by subst z;rw[r] at g;exact g
 have i: ∀c n,H c=Y (.tup n)->c≠x:=λc n r z=>by subst z;rw[r] at g;exact g
 by_cases l:b=x
 .subst l;rw[jr] at q;cases q;exact new
 .rw[jA l] at q;by_cases j:b=e
  .have p:H b=Y (.own x):=by
    rcases o with z|z
    .exact absurd (j.trans z) l
    .rw[j];exact z
   rw[q] at p;cases p;obtain⟨v,hv⟩:=s;exact⟨v,by rw[j];exact hv⟩
  .refine(ok b u q).BQ (λc v m r=>k c v ?_ r) (λc r=>by rw[jA<|f c b r];exact r) (λc n r=>by rw[jA<|i c n r];exact r) λc _ _ r=>by rw[jA λz=>by subst z;rw[r] at g;exact g];exact r
   rcases m with rfl|m
   .exact j
   .rintro rfl;rcases o with z|z
    .exact f c b m z
    .rw[m] at z;cases z;exact l AM
end
structure Un(fs ex:kN)(H H':Hp)(h h':jo):Prop where
 keep: ∀b o,h.get? b=XV o->H b=X0->b∉fs->b∉ex->h'.get? b=XV o
 slot: ∀b o,h.get? b=XV o->H b=X0->b∈fs->b∉ex-> ∃sl,h'.get? b=XV {o with slots:=sl}
 free: ∀b o,h.get? b=XV o->H b=X0->b∉ex->H' b=X0
 there: ∀b o,h.get? b=XV o->b∉ex-> ∃o',h'.get? b=XV o'
 tups: ∀b xs,H b=XV (.tup xs)->H' b=XV (.tup xs)
 frzs: ∀b o u,H b=XV (.EY o u)->H' b=XV (.EY o u)
 tbls: ∀b ps,H b=XV (.tbl ps)-> ∃more,H' b=XV (.tbl<|ps++more)
section
variable {fs f ex c:kN}{H d i:Hp}{h h1 g h':jo}{a x e:iW}{o:HO}
def Un.any(u:Un fs ex H d h h1){b:iW}{j:fy}(q:h.get? b=Y j)(n:H b=C)(l:b∉ex): ∃m,h1.get? b=Y {j with slots:=m}:=by
 by_cases k:b∈fs
 .exact u.slot b j q n k l
 .exact⟨j.slots,u.keep b j q n k l⟩
def Un.kept(k: ∀b u,h.get? b=Y u->h'.get? b=Y u):Un fs ex H H h h':=
 ⟨λb j q _ _ _=>k b j q,λb j q _ _ _=>⟨j.slots,k b j q⟩,λ_ _ _ n _=>n,λb j q _=>⟨j,k b j q⟩,λ_ _ q=>q,λ_ _ _ q=>q,λ_ l q=>⟨#[],by rw[q];simp⟩⟩
def Un.refl:Un fs ex H H h h:=Un.kept λ_ _ q=>q
def Un.laid(k: ∀b u,h.get? b=Y u->h'.get? b=Y u)(r:h.objs.size<=a)(j:H a=C):Un fs ex H (upd H a o) h h' where
 keep:=λb u q _ _ _=>k b u q
 slot:=λb u q _ _ _=>⟨u.slots,k b u q⟩
 free:=λb u q n _=>by rw[jA<|kf<|oG (kH q) r];exact n
 there:=λb u q _=>⟨u,k b u q⟩
 tups:=λb xs q=>by rw[jA<|ma q j];exact q
 frzs:=λb u xs q=>by rw[jA<|ma q j];exact q
 tbls:=λb s q=>⟨#[],by rw[jA<|ma q j,q];simp⟩
def Un.write(j:NS (H x))(v:e=x\/H e=Y (.own x))(k: ∀b u,b≠e->h.get? b=Y u->h'.get? b=Y u)(t: ∃u,h'.get? e=Y u):Un fs ex H (upd H x o) h h':=by
 have s: ∀b,H b=C->b≠x:=λb n z=>by subst z;rw[n] at j;exact j
 have p: ∀b,H b=C->b≠e:=λb n z=>by
  subst z;rcases v with r|r
  .exact s b n r
  .rw[n] at r;cases r
 have l: ∀b u,H b=Y u-> ¬NS (Y u)->b≠x:=λb u q w z=>by subst z;rw[q] at j;exact w j
 refine⟨λb u q n _ _=>k b u (p b n) q,λb u q n _ _=>⟨u.slots,k b u (p b n) q⟩,λb u q n _=>by rw[jA<|s b n];exact n,λb u q _=>?_,
  λb y q=>by rw[jA<|l b _ q λz=>z];exact q,λb u y q=>by rw[jA<|l b _ q λz=>z];exact q,λb A q=>⟨#[],by rw[jA<|l b _ q λz=>z,q];simp⟩⟩
 by_cases m:b=e
 .subst m;exact t
 .exact⟨u,k b u m q⟩
end
noncomputable def Nf(h:jo)(T:Hp):List Addr:=(au h.objs.size).filter λa=>(T a).isSome
noncomputable def BZ(h:jo)(T:Hp):Heap:=PySem.W.hideAll h<|Nf h T
def adx(h:jo)(T:Hp):(BZ h T).objs.size=h.objs.size:=PySem.W.hideAll_size _ _
def OT{h:jo}{T:Hp}{b:iW}{o:fy}(e:h.get? b=Y o)(n:T b=C):(BZ h T).get? b=Y o:=
 PySem.W.hideAll_get _ e λa=>by have q:(T b).isSome=J:=(Fs.mp a).2;rw[n] at q;simp at q
def RE{h:jo}{T:Hp}{b:iW}{o:fy}(e:(BZ h T).get? b=Y o):h.get? b=Y o/\T b=C:=by
 have a:h.get? b=Y o:=PySem.W.of_hideAll (Nf h T) e;refine⟨a,?_⟩
 cases q:T b with
 |none=>rfl
 |some x=>have c:b∈Nf h T:=Fs.mpr ⟨xi.mpr<|kH a,by simp[q]⟩;have z:(BZ h T).get? b=C:=PySem.W.hideAll_none (Nf h T) c;rw[z] at e;cases e
noncomputable def SH(g h:jo)(L:iW):List (iW×fy):=(au h.objs.size).filterMap λa=>if a=L\/(g.get? a).isSome=J then C else(h.get? a).map λo=>(a,o)
noncomputable def jF(g h:jo)(L d:iW):List (iW×fy):=(SH g h L).filter λp=>decide<|p.1≠d
structure Mod(K:ju)(mg:mz)(base:jo):Prop where
 kin:K.In base
 glob:base.Ns aq mg
 blt: ∃mb,base.Ns hG mb/\ ∀x:aG,x≠"__name__"->mb x=aB x
 nolimit:base.NoLimit
structure Cx where
 prog:jw
 w:jm
 K:ju
 mg:aG->Option jg
 base:jo
 A:jn
 N:List aG
 s₀:iZ
 H₀:Hp
 env:ek
 outer:List ek
 stack:List ek
 ex:List iW
 fn:aG->Bool
 calm:Bool
 pn:List (iW×fy)
 xe:jg->iZ->Prop
noncomputable def K2(l:List ek):List Addr:=l.filterMap (·.frame)
abbrev Cx.fs(X:Cx):List Addr:=K2 X.outer
def Ij(a:jQ)(x:aG):Prop:=a.names.lookup x=Y .local\/a.names.lookup x=Y .cell\/a.names.lookup x=Y .free
def Loc(a:jQ)(x:aG):Prop:=a.names.lookup x=Y .local\/a.names.lookup x=Y .cell
def aaq(a:ek)(h:jo)(m:mz)(x:aG)(u:jg):Prop:=
 (a.kindOf x=Y .local/\m x=Y u)\/((a.kindOf x=Y .cell\/a.kindOf x=Y .free)/\ ∃c,a.cells.lookup x=Y c/\h.IsCell c (Y u))
structure Cx.Ok(X:Cx):Prop where
 mod:Mod X.K X.mg X.base
 kind:X.env.scope.kind= .function
 glob:X.env.globals=aq
 blt:X.env.builtins=hG
 above:X.s₀.heap.objs.size<=X.env.locals
 inj: ∀x y c,X.env.cells.lookup x=XV c->X.env.cells.lookup y=XV c->x=y
 has: ∀x,(X.env.kindOf x=XV .cell\/X.env.kindOf x=XV .free)-> ∃c,X.env.cells.lookup x=XV c
 cab: ∀x c,X.fn x=YP->X.env.cells.lookup x=XV c->X.s₀.heap.objs.size<=c
 hd:X.calm=YP->X.A.handled=X0
 frames:X.A.frames=XV X.stack
 stk:X.stack=X.outer\/(X.stack=X.env::X.outer/\X.env.frame=XV X.env.locals)
 exf: ∀b∈X.ex,b≠X.env.locals/\ ∀x c,X.env.cells.lookup x=XV c->c≠b
 bs: ∀b o,X.base.get? b=XV o->X.s₀.heap.get? b=XV o/\X.H₀ b=X0
 bsz:X.base.objs.size<=X.s₀.heap.objs.size
 noex: ∀b o,X.base.get? b=XV o->b∉X.ex
 exfs: ∀b∈X.ex,b∉X.fs
 GH:X.s₀.heap.FunFrames X.base X.outer
 frf: ∀b∈X.fs,X.H₀ b=X0
structure Inv(X:Cx)(pins:jK)(σ:List (Option V))(H:Hp)(s:iZ):Prop where
 ok:X.Ok
 os:s.os=X.s₀.os
 bare:fg s.gens
 base:Un X.fs X.ex X.H₀ H X.s₀.heap s.heap
 loc: ∃m,s.heap.Ns X.env.locals m/\ ∀(i:Nat) (x:aG) (v:V),X.N[i]?=XV x->σ[i]?=XV (XV v)->Ij X.env.scope x-> ∃u,RelV v u/\aaq X.env s.heap m x u
 cell: ∀x c,X.env.cells.lookup x=XV c-> ∃v,s.heap.IsCell c v
 free:H X.env.locals=X0
 freeC: ∀x c,X.env.cells.lookup x=XV c->H c=X0
 pin: ∀p∈X.pn++pins,s.heap.get? p.1=XV p.2/\H p.1=X0/\p.1≠X.env.locals/\p.1∉X.fs/\ ∀v,p.2.data≠ .cell v
 hok:Fd X.prog X.w H s.heap
 len:(A7 σ)=X.N.length
section
variable {X:Cx}{f:jK}{g:List (Option V)}{H H':Hp}{s:iZ}{h':jo}
def Cx.Ok.nofr(ok:X.Ok){b:iW}{o:fy}(e:X.base.get? b=Y o):b∉X.fs:=λa=>by have:=(ok.GH.mem a).1;rw[e] at this;cases this
def Inv.bs(T:Inv X f g H s): ∀b o,X.base.get? b=Y o->s.heap.get? b=Y o/\H b=C:=λb o e=>⟨T.base.keep b o (T.ok.bs b o e).1 (T.ok.bs b o e).2 (T.ok.nofr e)<|T.ok.noex b o e,T.base.free b o (T.ok.bs b o e).1 (T.ok.bs b o e).2<|T.ok.noex b o e⟩
def Inv.bk(T:Inv X f g H s): ∀b o,X.base.get? b=Y o->s.heap.get? b=Y o:=λb o e=>(T.bs b o e).1
def Inv.mod(T:Inv X f g H s):Mod X.K X.mg X.base:=T.ok.mod
def Inv.HI(T:Inv X f g H s):X.K.In s.heap:=T.ok.mod.kin.keeps T.bk
def Inv.lt(T:Inv X f g H s):X.env.locals<s.heap.objs.size:=let⟨_,a,_⟩:=T.loc;a.lt
def Inv.sz(T:Inv X f g H s):X.s₀.heap.objs.size<=s.heap.objs.size:=mC T.ok.above<|uH T.lt
def Inv.N9(T:Inv X f g H s){a:iW}(h:s.heap.objs.size<=a):a∉X.fs:=λb=>by obtain⟨_,o,c,_⟩:=T.ok.GH.mem b;exact absurd (oG (kH c)<|mC T.sz h)<|rp _
def Inv.Ls(T:Inv X f g H s): ∀x c,X.env.cells.lookup x=Y c->c≠X.env.locals:=λx c e z=>by obtain⟨v,o,a,hd⟩:=T.cell x c e;obtain⟨m,⟨j,i,h,b,d,_⟩,_⟩:=T.loc;rw[z,b] at a;cases a;rw[d] at hd;cases hd
def Inv.GH(T:Inv X f g H s):s.heap.FunFrames X.base X.outer:=by
 have all: ∀(l:List ek),(∀b∈K2 l,b∈X.fs)->X.s₀.heap.FunFrames X.base l->s.heap.FunFrames X.base l:=by
  intro l
  induction l with
  |nil=>intro _ _;trivial
  |cons i r p=>intro h j;obtain⟨hk,⟨L,o,d,k,m,hd⟩,n⟩:=j;have a:L∈X.fs:=h L (by unfold K2;rw[sh,d];exact jW);obtain⟨q,e⟩:=T.base.slot L o m (T.ok.frf L a) a λz=>T.ok.exfs L z a;exact⟨hk,⟨L,_,d,k,e,hd⟩,p (λb c=>h b<|by unfold K2;rw[sh,d];exact jZ _ c) n⟩
 exact all X.outer (λ_ c=>c) T.ok.GH
def Inv.stack(T:Inv X f g H s):s.heap.FunFrames X.base X.stack:=by
 rcases T.ok.stk with e|⟨e,hf⟩
 .rw[e];exact T.GH
 .rw[e];obtain⟨m,a,_⟩:=T.loc;refine .cons (by rw[T.ok.kind];decide) hf a ?_ T.GH;exact Heap.get?_none_of_le<|mC T.ok.bsz T.ok.above
def Inv.I8(T:Inv X f g H s): ∀b∈K2 X.stack,b∈X.env.locals::X.fs:=λb a=>by
 rcases T.ok.stk with e|⟨e,hf⟩
 .rw[e] at a;exact jZ _ a
 .rw[e] at a;unfold K2 at a;rw[sh,hf] at a;exact a
def Inv.KG(T:Inv X f g H s): ∀b∈K2 X.stack,H b=C:=λb a=>by
 rcases lz.mp (T.I8 b a) with e|a
 .rw[e];exact T.free
 .obtain⟨_,o,c,_⟩:=T.ok.GH.mem a;exact T.base.free b o c (T.ok.frf b a) λz=>T.ok.exfs b z a
def Inv.step{g':Array eL}{t':Nat}{d':Drawn}{ch:kN}(I:Inv X f g H s)
  (E: ∀b∈ch,(b∈X.ex\/X.s₀.heap.objs.size<=b)/\b≠X.env.locals/\(∀x c,X.env.cells.lookup x=Y c->c≠b)/\ ∀p∈X.pn++f,p.1≠b)
  (keep: ∀b o,b≠X.env.locals->b∉X.fs->b∉ch->s.heap.get? b=Y o->H b=X0->h'.get? b=Y o)
  (slot: ∀b o,b≠X.env.locals->b∈X.fs->b∉ch->s.heap.get? b=Y o->H b=X0-> ∃Y',h'.get? b=Y {o with slots:=Y'})(free: ∀b o,b∉ch->s.heap.get? b=Y o->H b=X0->H' b=X0)
  (A: ∀b o,b∉ch->s.heap.get? b=Y o-> ∃T,h'.get? b=Y T)
  (J: ∀b t,H b=Y (.tup t)->H' b=Y (.tup t))(O: ∀b o u,H b=Y (.EY o u)->H' b=Y (.EY o u))(G: ∀b N,H b=Y (.tbl N)-> ∃more,H' b=Y (.tbl<|N++more))
  (ns: ∀m,s.heap.Ns X.env.locals m->h'.Ns X.env.locals m)(U:Fd X.prog X.w H' h')(hg:fg g'):
  Inv X f g H' {s with heap:=h',gens:=g',drawn:=d',toks:=t'}:=by
 have Q: ∀b o,X.s₀.heap.get? b=Y o->b≠X.env.locals:=λb o e=>kf<|oG (kH e) I.ok.above
 have M: ∀b o,X.s₀.heap.get? b=Y o->b∉X.ex->b∉ch:=λb o e a y=>by
  rcases(E b y).1 with z|z
  .exact a z
  .exact absurd (oG (kH e) z) (rp _)
 have h: ∀x c,X.env.cells.lookup x=Y c-> ∀v,s.heap.IsCell c v->h'.IsCell c v:=λx c e v a'=>by
  obtain⟨o,B,hd⟩:=a'
  have C:c∉ch:=λz=>(E c z).2.2.1 x c e AM;by_cases F:c∈X.fs
  .obtain⟨Y',q⟩:=slot c o (I.Ls x c e) F C B<|I.freeC x c e;exact⟨_,q,hd⟩
  .exact⟨o,keep c o (I.Ls x c e) F C B<|I.freeC x c e,hd⟩
 refine⟨I.ok,I.os,hg,⟨λb o e n y a=>?_,λb o e n y a=>?_,λb o e n a=>?_,λb o e a=>?_,λb t e=>J b t<|I.base.tups b t e,λb o t e=>O b o t<|I.base.frzs b o t e,λb N e=>?_⟩,?_,λx c e=>?_,?_,λx c e=>?_,λp K=>?_,U,I.len⟩
 .exact keep b o (Q b o e) y (M b o e a) (I.base.keep b o e n y a) (I.base.free b o e n a)
 .obtain⟨Y',j⟩:=I.base.slot b o e n y a;obtain⟨D,L⟩:=slot b _ (Q b o e) y (M b o e a) j (I.base.free b o e n a);exact⟨D,L⟩
 .obtain⟨T,j⟩:=I.base.there b o e a;exact free b T (M b o e a) j<|I.base.free b o e n a
 .obtain⟨T,j⟩:=I.base.there b o e a;exact A b T (M b o e a) j
 .obtain⟨W,j⟩:=I.base.tbls b N e;obtain⟨Z,L⟩:=G b _ j;exact⟨W++Z,by rw[L,HB]⟩
 .obtain⟨m,V,S⟩:=I.loc;refine⟨m,ns m V,λi x v j L R=>?_⟩;obtain⟨u,r,l⟩:=S i x v j L R;refine⟨u,r,?_⟩;rcases l with l|⟨k,c,e,z⟩
  .exact .inl l
  .exact .inr ⟨k,c,e,h x c e _ z⟩
 .obtain⟨v,z⟩:=I.cell x c e;exact⟨v,h x c e v z⟩
 .obtain⟨m,⟨o,_,_,B,_⟩,_⟩:=I.loc;exact free _ o (λz=>(E _ z).2.1 AM) B I.free
 .obtain⟨v,o,B,hd⟩:=I.cell x c e;exact free c o (λz=>(E c z).2.2.1 x c e AM) B<|I.freeC x c e
 .obtain⟨e,n,ne,P,d⟩:=I.pin p K;have C:p.1∉ch:=λz=>(E p.1 z).2.2.2 p K AM;exact⟨keep p.1 p.2 ne P C e n,free p.1 p.2 C e n,ne,P,d⟩
def Inv.un{t':Nat}(T:Inv X f g H s)(u:Un X.fs [] H H' s.heap h')(d:Fd X.prog X.w H' h'):Inv X f g H' {s with heap:=h',toks:=t'}:=by
 obtain⟨m,⟨o,t,q,i,r⟩,_⟩:=id T.loc;obtain⟨y,k⟩:=u.any i T.free (by simp)
 exact T.step (g':=s.gens) (d':=s.drawn) (ch:=[]) (λ_ z=>nomatch z) (λb o _ c _ e n=>u.keep b o e n c<|by simp) (λb o _ c _ e n=>u.slot b o e n c<|by simp) (λb o _ e n=>u.free b o e n<|by simp) (λb o _ e=>u.there b o e<|by simp) u.tups u.frzs u.tbls (λv l=>by obtain⟨x,a,j,h,p⟩:=l;rw[i] at h;cases h;exact⟨_,a,j,k,p⟩) d T.bare
def Inv.call{g':Array eL}{t':Nat}{d':Drawn}{ch:kN}(Q:Inv X f g H s)(u:Un (K2 X.stack) ch H H' s.heap h')(i:Fd X.prog X.w H' h')(v:fg g')
  (k: ∀b∈ch,(b∈X.ex\/X.s₀.heap.objs.size<=b)/\b≠X.env.locals/\(∀x c,X.env.cells.lookup x=Y c->c≠b)/\ ∀p∈X.pn++f,p.1≠b):
  Inv X f g H' {s with heap:=h',gens:=g',drawn:=d',toks:=t'}:=by
 obtain⟨m,⟨o,T,B,l,r⟩,_⟩:=id Q.loc;obtain⟨O,h⟩:=u.any l Q.free λz=>(k _ z).2.1 AM
 exact Q.step (ch:=ch) k (λb o h t a e n=>u.keep b o e n (λz=>(lz.mp<|Q.I8 b z).elim h t) a) (λb o _ _ a e n=>u.any e n a) (λb o a e n=>u.free b o e n a) (λb o a e=>u.there b o e a) u.tups u.frzs u.tbls (λE y=>by obtain⟨L,d,q,j,A⟩:=y;rw[l] at j;cases j;exact⟨_,d,q,h,A⟩) i v
def Inv.turned{t':Nat}{it:iW}(Q:Inv X f g H s)(k: ∀b o,b≠it->s.heap.get? b=Y o->h'.get? b=Y o)(A:H it=C)(h:it≠X.env.locals)
  (h1:it∈X.ex\/X.s₀.heap.objs.size<=it)(l: ∀x c,X.env.cells.lookup x=Y c->c≠it)(t: ∀p∈X.pn++f,p.1≠it):Inv X f g H {s with heap:=h',toks:=t'}:=by
 have d: ∀b u,H b=Y u->b≠it:=λb u e z=>by rw[z,A] at e;cases e
 refine Q.step (g':=s.gens) (d':=s.drawn) (ch:=[it]) (λb w=>?_) (λb o _ _ a e _=>k b o (λz=>a<|by simp[z]) e) (λb o _ _ a e _=>⟨o.slots,k b o (λz=>a<|by simp[z]) e⟩) (λ_ _ _ _ n=>n)
  (λb o a e=>⟨o,k b o (λz=>a<|by simp[z]) e⟩) (λ_ _ e=>e) (λ_ _ _ e=>e) (λb T e=>⟨#[],by rw[e];simp⟩) (λm y=>?_) (λb u e=>?_) Q.bare
 .have e:b=it:=by simpa using w
  subst e;exact⟨h1,h,l,t⟩
 .obtain⟨o,j,i,B,r⟩:=y;exact⟨o,j,i,k _ o (qy h) B,r⟩
 .refine(Q.hok b u e).BQ (λc v a q=>k c v ?_ q) (λ_ q=>q) λ_ _ q=>q;rcases a with z|z
  .rw[z];exact d b u e
  .exact d c _ z
def Inv.tok(T:Inv X f g H s)(t:Nat):Inv X f g H {s with toks:=t}:=T.un (h':=s.heap) (t':=t) Un.refl T.hok
def Inv.kept{t':Nat}(T:Inv X f g H s)(k: ∀b u,s.heap.get? b=Y u->h'.get? b=Y u):Inv X f g H {s with heap:=h',toks:=t'}:=T.un (Un.kept k)<|T.hok.kept k
def Inv.laid{a:iW}{o:HO}{t':Nat}(T:Inv X f g H s)(k: ∀b u,s.heap.get? b=Y u->h'.get? b=Y u)(c:s.heap.objs.size<=a)(new:AR X.prog X.w (upd H a o) h' a o):
  Inv X f g (upd H a o) {s with heap:=h',toks:=t'}:=T.un (Un.laid k c<|T.hok.fresh c)<|T.hok.laid k c new
def Inv.write{x e:iW}{o:HO}{h:Nat}(T:Inv X f g H s)(d:NS (H x))(c:e=x\/H e=Y (.own x))(k: ∀b u,b≠e->s.heap.get? b=Y u->h'.get? b=Y u)(a: ∃u,h'.get? e=Y u)
  (new:AR X.prog X.w (upd H x o) h' x o):Inv X f g (upd H x o) {s with heap:=h',toks:=h}:=T.un (Un.write d c k a)<|T.hok.write d c k a new
def Inv.HX{a:jK}(T:Inv X f g H s)(h: ∀p∈a,s.heap.get? p.1=Y p.2/\H p.1=C/\p.1≠X.env.locals/\p.1∉X.fs/\ ∀v,p.2.data≠ .cell v):Inv X a g H s:=
 ⟨T.ok,T.os,T.bare,T.base,T.loc,T.cell,T.free,T.freeC,λp b=>(tM.mp b).elim (λz=>T.pin p<|Ed _ z)<|h p,T.hok,T.len⟩
def F4{N:jq}(e:N.Nodup){i j:Nat}{x:aG}(a:N[i]?=Y x)(b:N[j]?=Y x):i=j:=by obtain⟨h1,c⟩:=xj.mp a;obtain⟨h,d⟩:=xj.mp b;exact(Eb e).mp (c.trans d.symm)
def Cq{M:h9}{A:jn}{E:jJ}{i:Nat}{x:aG}{v:V}{u:jg}{Q:Unit->iZ->Prop}(I:Inv X f g H s)(hN:X.N.Nodup)(hi:X.N[i]?=XV x)(L:Loc X.env.scope x)(r:RelV v u)
  (h: ∀s',Inv X f (g.set i<|XV v) H s'->(∃a,aK a s.heap s'.heap/\(a=X.env.locals\/X.env.cells.lookup x=XV a))->Q () s')(hf:autoParam (X.fn x=YP\/X.env.scope.names.lookup x=XV .local) Na):ah M A (storeName X.env x u) Q E s:=by
 obtain⟨m,S,hl⟩:=id I.loc;have Y:(X.env.scope.kind== .class||(X.env.scope.kind== .module&&X.env.locals !=X.env.globals))=ZB:=by rw[I.ok.kind];rfl
 have T:i<(A7 g):=by rw[I.len];exact(xj.mp hi).1
 have Ls:=I.Ls
 have B: ∀{a:iW} {h':jo},(∃o,s.heap.get? a=XV o/\H a=X0)->aK a s.heap h'->Fd X.prog X.w H h':=λ{a h'} ha l b ob e=>by
  obtain⟨_,_,j9⟩:=ha;refine(I.hok b ob e).BQ (λc K C q=>(l.2 c ?_).trans q) (λ_ q=>q) λ_ _ q=>q;rintro rfl;rcases C with rfl|C
  .rw[j9] at e;cases e
  .rw[j9] at C;cases C
 rcases L with hk|hk
 .refine wpAny_storeName_local hk S (λh' en l=>?_) Y;obtain⟨oL,_,_,fN,_⟩:=id S;refine h _ ⟨I.ok,I.os,I.bare,⟨λb o e n G L=>?_,λb o e n G L=>?_,I.base.free,λb o e L=>?_,I.base.tups,I.base.frzs,I.base.tbls⟩,⟨_,en,λj y v' t O R=>?_⟩,λy c e=>?_,I.free,I.freeC,λp W=>?_,B ⟨oL,fN,I.free⟩ l,by simpa using I.len⟩ ⟨_,l,.inl AM⟩
  .exact(l.2 b<|kf<|oG (kH e) I.ok.above).trans (I.base.keep b o e n G L)
  .obtain⟨sl,t⟩:=I.base.slot b o e n G L;exact⟨sl,(l.2 b<|kf<|oG (kH e) I.ok.above).trans t⟩
  .obtain⟨o',t⟩:=I.base.there b o e L;exact⟨o',(l.2 b<|kf<|oG (kH e) I.ok.above).trans t⟩
  .by_cases J:j=i
   .subst J;rw[hi] at t;cases t;rw[ux T] at O;cases O;exact⟨u,r,.inl ⟨hk,by simp⟩⟩
   .rw[mQ<|qy J] at O;obtain⟨u',r',q⟩:=hl j y v' t O R;refine⟨u',r',?_⟩;rcases q with⟨k,e⟩|⟨k,c,e,z⟩
    .refine .inl ⟨k,?_⟩;have:y≠x:=λe=>J<|F4 hN t<|e▸hi;simp[this,e]
    .exact .inr ⟨k,c,e,z.sameBut l<|Ls y c e⟩
  .obtain⟨K,z⟩:=I.cell y c e;exact⟨K,z.sameBut l<|Ls y c e⟩
  .obtain⟨e,n,ne,Z,d⟩:=I.pin p W;exact⟨(l.2 p.1 ne).trans e,n,ne,Z,d⟩
 .have P:X.fn x=YP:=by
   rcases hf with z|z
   .exact z
   .rw[z] at hk;cases hk
  obtain⟨c,C⟩:=I.ok.has x<|.inl hk;obtain⟨K,z⟩:=I.cell x c C;refine wpAny_storeName_cell I.ok.kind hk C z λh' bg l=>?_;obtain⟨oc,eh,D⟩:=id z;refine h {s with heap:=h'} ⟨I.ok,I.os,I.bare,⟨λb o e n G L=>?_,λb o e n G L=>?_,I.base.free,λb o e L=>?_,I.base.tups,I.base.frzs,I.base.tbls⟩,⟨m,S.sameBut l<|qy<|Ls x c C,λj y v' t O R=>?_⟩,λy F e=>?_,I.free,I.freeC,λp W=>?_,B ⟨oc,eh,I.freeC x c C⟩ l,by simpa using I.len⟩ ⟨c,l,.inr C⟩
  .exact(l.2 b<|kf<|oG (kH e)<|I.ok.cab x c P C).trans (I.base.keep b o e n G L)
  .obtain⟨sl,t⟩:=I.base.slot b o e n G L;exact⟨sl,(l.2 b<|kf<|oG (kH e)<|I.ok.cab x c P C).trans t⟩
  .obtain⟨o',t⟩:=I.base.there b o e L;exact⟨o',(l.2 b<|kf<|oG (kH e)<|I.ok.cab x c P C).trans t⟩
  .by_cases J:j=i
   .subst J;rw[hi] at t;cases t;rw[ux T] at O;cases O;exact⟨u,r,.inr ⟨.inl hk,c,C,bg⟩⟩
   .rw[mQ<|qy J] at O;obtain⟨u',r',q⟩:=hl j y v' t O R;refine⟨u',r',?_⟩;rcases q with q|⟨k,F,e,z'⟩
    .exact .inl q
    .refine .inr ⟨k,F,e,z'.sameBut l ?_⟩;rintro rfl;exact J<|F4 hN t<|I.ok.inj _ _ _ e C▸hi
  .by_cases U:F=c
   .subst U;exact⟨_,bg⟩
   .obtain⟨w2,z2⟩:=I.cell y F e;exact⟨w2,z2.sameBut l U⟩
  .obtain⟨e,n,ne,Z,d⟩:=I.pin p W;refine⟨(l.2 p.1 ?_).trans e,n,ne,Z,d⟩;intro q;rw[q,eh] at e;have q':oc=p.2:=lj e;exact d K (by rw[<-q'];exact D)
def FD{M:h9}{A:jn}{E:jJ}{i:Nat}{x:aG}{v:V}{u:jg}{Q:Unit->iZ->Prop}(T:Inv X f g H s)(c:X.N.Nodup)(e:X.N[i]?=Y x)(j:Loc X.env.scope x)(r:RelV v u)
  (h: ∀a,Inv X f (g.set i<|Y v) H a->Q () a)(d:autoParam (X.fn x=J\/X.env.scope.names.lookup x=Y .local) Na):ah M A (storeName X.env x u) Q E s:=
 Cq T c e j r (λa b _=>h a b) d
def Inv.NM{s':iZ}{ch:kN}(T:Inv X f g H s)(i:s'.os=s.os)(u:Un (K2 X.stack) ch H H' s.heap s'.heap)(a:Fd X.prog X.w H' s'.heap)(h:fg s'.gens)
  (d: ∀b∈ch,(b∈X.ex\/X.s₀.heap.objs.size<=b)/\b≠X.env.locals/\(∀x c,X.env.cells.lookup x=Y c->c≠b)/\ ∀p∈X.pn++f,p.1≠b):Inv X f g H' s':=by
 obtain⟨h',g',d',t',j⟩:=s';have e:j=s.os:=i;subst e;exact T.call (g':=g') (t':=t') (d':=d') u a h d
end
abbrev XK:=jg->Option iW->Hp->Prop
abbrev St:=List<|Option V
abbrev VK:=V->Hp->Prop
abbrev TE:=St->Hp->VK->Prop
abbrev TT:=St->Hp->(Bool->Hp->Prop)->Prop
abbrev TA:=St->Hp->(List V->Hp->Prop)->Prop
structure Ends where
 nx:St->Hp->Prop
 rt:VK
 bk:St->Hp->Prop:=λ_ _=>False
 ct:St->Hp->Prop:=λ_ _=>False
abbrev TS:=Ends->St->Hp->Prop
def EP(X:Cx)(a:jK)(d:St)(Q:VK)(u:jg)(c:iZ):Prop:= ∃v b,Inv X a d b c/\RelV v u/\Q v b
def TP(X:Cx)(a:jK)(e:St)(Q:Bool->Hp->Prop)(b:Bool)(d:iZ):Prop:= ∃c,Inv X a e c d/\Q b c
def AP(X:Cx)(a:jK)(f:St)(Q:List V->Hp->Prop)(e:ku)(d:iZ):Prop:= ∃c b,Inv X a f b d/\Vals c e/\Q c b
def SP(X:Cx)(b:jK)(D:Ends)(f:Flow)(d:iZ):Prop:=
 match f with
 | .next=> ∃a c,Inv X b a c d/\D.nx a c
 | .brk=> ∃a c,Inv X b a c d/\D.bk a c
 | .cont=> ∃a c,Inv X b a c d/\D.ct a c
 | .ret u=> ∃v a c,Inv X b a c d/\RelV v u/\D.rt v c
def PE(X:Cx)(e:je)(t:TE):Prop:=
 ∀(a:jK) (s:iZ) (b:St) (T:Hp) (Q:VK),Inv X a b T s->t b T Q->ah (aj X.prog X.w) X.A (aT e X.env) (EP X a b Q) X.xe s
def PT(X:Cx)(e:je)(t:TT):Prop:=
 ∀(a:jK) (s:iZ) (b:St) (T:Hp) (Q:Bool->Hp->Prop),Inv X a b T s->t b T Q->ah (aj X.prog X.w) X.A (isTrue e X.env<|aT e X.env) (TP X a b Q) X.xe s
def PW(X:Cx)(e:je)(t:TT):Prop:=
 ∀(b:eF jg) (a:jK) (s:iZ) (c:St) (T:Hp) (Q:Bool->Hp->Prop),Inv X a c T s->t c T Q->ah (aj X.prog X.w) X.A (isTrue e X.env b) (TP X a c Q) X.xe s
def PW.pt{X:Cx}{e:je}{t:TT}(h:PW X e t):PT X e t:=h _
def PA(X:Cx)(d:kL)(t:TA):Prop:=
 ∀(b:bO) (a:jK) (s:iZ) (c:St) (T:Hp) (Q:List V->Hp->Prop),Inv X a c T s->t c T Q->ah (aj X.prog X.w) X.A (lf<|aH b<|ac d X.env) (AP X a c Q) X.xe s
def PS(X:Cx)(st:bc)(t:TS):Prop:=
 ∀(a:jK) (s:iZ) (b:St) (T:Hp) (D:Ends),Inv X a b T s->t D b T->ah (aj X.prog X.w) X.A (exec st X.env) (SP X a D) X.xe s
def IJ(X:Cx)(st:List bc)(t:TS):Prop:=
 ∀(a:jK) (s:iZ) (b:St) (T:Hp) (D:Ends),Inv X a b T s->t D b T->ah (aj X.prog X.w) X.A (execs st X.env) (SP X a D) X.xe s
def BI{c:Type}{t:eF c}{Q b:c->iZ->Prop}{M:h9}{A:jn}{E:jJ}{s:iZ}(h:ah M A t Q E s)(d: ∀a s,Q a s->b a s):ah M A t b E s:=nX h d λ_ _ x=>x
section
variable {X:Cx}
def Ze(i:Nat):TE:=λa T Q=> ∃v,a[i]?=Y (Y v)/\Q v T
noncomputable def tC(v:V):TE:=λ_ T Q=>Q v T
def wN{i:Nat}{x:aG}{f:bO}(g:X.N[i]?=Y x)(hv:Ij X.env.scope x)(hd:autoParam ((x==("__debug__":aG))=U) Bb)(n:autoParam ((x==("__classdict__":aG))=U) Bb):PE X (.Name x f) (Ze i):=by
 intro a s o T Q O h;obtain⟨v,e,h⟩:=h;obtain⟨m,k,j⟩:=O.loc;obtain⟨u,r,l⟩:=j i x v g e hv;have fin:EP X a o Q u s:=⟨v,T,O,r,h⟩
 rcases l with⟨hk,hm⟩|⟨hk,c,b,d⟩
 .exact s8 (wpAny_loadName_local O.ok.kind hk k hm fin) hd
 .rcases hk with hk|hk
  .exact s8 (wpAny_loadName_cell O.ok.kind hk b d fin) hd
  .exact s8 (wpAny_loadName_free O.ok.kind hk b d fin n) hd
def NV{i j f}:PE X (.Constant (.int i) j f) (tC<|.int i):=λ_ _ _ T _ Q h=>wpAny_Constant_int ⟨.int i,T,Q.tok _,⟨_,rfl⟩,h⟩
def XR{b j f}:PE X (.Constant (.bool b) j f) (tC<|.bl b):=λ_ _ _ T _ Q h=>Constant_bool ⟨.bl b,T,Q,rfl,h⟩
def Va{j f}:PE X (.Constant .none j f) (tC .Ax):=λ_ _ _ T _ Q h=>Constant_none ⟨.Ax,T,Q,rfl,h⟩
def U7{x j f}:PE X (.Constant (.str x) j f) (tC<|.str x):=λ_ _ _ T _ Q h=>Calls.Constant_str ⟨.str x,T,Q.tok _,⟨_,rfl⟩,h⟩
def Gl(X:Cx)(x:aG):Prop:=X.env.kindOf x=Y .globalImplicit
def zZ{E:jJ}{a:jK}{s:iZ}{d:St}{T:Hp}{x:aG}{u:jg}{f:bO}{Q:jJ}(O:Inv X a d T s)(b:Gl X x)(c:X.mg x=Y u)(h:Q u s)
  (hd:autoParam ((x==("__debug__":aG))=U) Bb):ah (aj X.prog X.w) X.A (aT (.Name x f) X.env) Q E s:=
 ME O.ok.kind b (Calls.loadGlobal_global (by rw[O.ok.glob];exact O.mod.glob.keeps O.bk) c h) hd
def qd{E:jJ}{a:jK}{s:iZ}{g:St}{T:Hp}{x:aG}{u:jg}{f:bO}{Q:jJ}(O:Inv X a g T s)(c:Gl X x)(d:X.mg x=C)(hv:aB x=Y u)(h:Q u s)
  (e:autoParam (x≠"__name__") Bb)(hd:autoParam ((x==("__debug__":aG))=U) Bb):ah (aj X.prog X.w) X.A (aT (.Name x f) X.env) Q E s:=by
 obtain⟨i,h1,b⟩:=O.mod.blt;exact ME O.ok.kind c (Calls.loadGlobal_builtin (by rw[O.ok.glob];exact O.mod.glob.keeps O.bk) d (by rw[O.ok.blt];exact h1.keeps O.bk) ((b x e).trans hv) h) hd
def Rm{x:aG}{v:V}{u:jg}{f:bO}(a:Gl X x)(b:X.mg x=Y u)(r:RelV v u)(hd:autoParam ((x==("__debug__":aG))=U) Bb):PE X (.Name x f) (tC v):=
 λ_ _ _ T _ Q h=>zZ Q a b ⟨v,T,Q,r,h⟩ hd
def Ey{x:aG}{v:V}{u:jg}{f:bO}(a:Gl X x)(b:X.mg x=C)(hv:aB x=Y u)(r:RelV v u)(c:autoParam (x≠"__name__") Bb)(hd:autoParam ((x==("__debug__":aG))=U) Bb):PE X (.Name x f) (tC v):=
 λ_ _ _ T _ Q h=>qd Q a b hv ⟨v,T,Q,r,h⟩ c hd
def t2I(g tb:TE)(k:Int->Int->Hp->Prop):St->Hp->Prop:=λa T=>g a T λx b=>tb a b λy c=> ∃i j,x= .int i/\y= .int j/\k i j c
variable {a b:je}{g tb:TE}{f:bO}
noncomputable def Br(p:Int->Int->Bool)(g tb:TE):TE:=λd T Q=>t2I g tb (λi j c=>Q (.bl<|p i j) c) d T
noncomputable def tB(t:TE):TT:=λe T Q=>t e T λx d=> ∃c,x= .bl c/\Q c d
def UZ{e:je}{t:TE}(h:PE X e t)(l:autoParam (∀c,isTrue e X.env c=(do let v <-c;c9 e.pos;cB [v] (truthy v))) Kt):PT X e (tB t):=by intro i s p T Q O m;refine isTrue_plain (BI (h i s p T _ O m) λv s1 N=>?_)<|l _;obtain⟨x,j,k,o,n⟩:=N;obtain⟨d,rfl,q⟩:=n;cases o;exact wD ⟨j,k,q⟩
variable {tA n:TT}{jF:kL}
noncomputable def Zn(t u:TT):TT:=λe T Q=>t e T λc d=>if c=J then u e d Q else Q U d
noncomputable def tOr(t u:TT):TT:=λe T Q=>t e T λc d=>if c=J then Q J d else u e d Q
noncomputable def KO(t:TT):TT:=λe T Q=>t e T λc d=>Q (!c) d
def Q5(i:PT X a tA):PW X (.BoolOp .And [a] f) tA:=by
 intro wh d s j T Q O h;refine isTrue_and<|BI (i d s j T Q O h) λc s1 e=>?_
 cases c with
 |true=>exact isTrue_and_nil e
 |false=>exact e
def UU(i:PT X a tA):PW X (.BoolOp .Or [a] f) tA:=by
 intro wh d s j T Q O h;refine isTrue_or<|BI (i d s j T Q O h) λc s1 e=>?_
 cases c with
 |false=>exact isTrue_or_nil e
 |true=>exact e
def UW(l:PT X a tA)(m:PW X (.BoolOp .And (b::jF) f) n):PW X (.BoolOp .And (a::b::jF) f) (Zn tA n):=by
 intro wh d s k T Q O h;refine isTrue_and<|BI (l d s k T _ O h) λc s1 N=>?_;obtain⟨e,i,j⟩:=N
 cases c with
 |true=>exact m wh d s1 k e Q i j
 |false=>exact⟨e,i,j⟩
def XM(l:PT X a tA)(m:PW X (.BoolOp .Or (b::jF) f) n):PW X (.BoolOp .Or (a::b::jF) f) (tOr tA n):=by
 intro wh d s k T Q O h;refine isTrue_or<|BI (l d s k T _ O h) λc s1 N=>?_;obtain⟨e,i,j⟩:=N
 cases c with
 |true=>exact⟨e,i,j⟩
 |false=>exact m wh d s1 k e Q i j
def U0(i:PT X a tA):PT X (.UnaryOp .Not a f) (KO tA):=by intro d s j T Q O h;exact isTrue_not<|i d s j T (λc e=>Q (!c) e) O h
def Xs(g tb:TE):TE:=λe T Q=>g e T λx d=> ∃c,x= .bl c/\if c=J then tb e d Q else Q (.bl U) d
def Xl(g:TE):TE:=λe T Q=>g e T λx d=> ∃c,x= .bl c/\Q (.bl (!c)) d
def U8{op}{t:TE}(h:PE X a t):PE X (.BoolOp op [a] f) t:=λc s e T Q O d=>BoolOp_one<|h c s e T Q O d
def Vd(l:PE X a g)(m:PE X (.BoolOp .And (b::jF) f) tb):PE X (.BoolOp .And (a::b::jF) f) (Xs g tb):=by
 intro d s k T Q O h;refine BoolOp_and<|BI (l d s k T _ O h) λv s1 N=>?_;obtain⟨x,i,j,o,e⟩:=N;obtain⟨c,rfl,e⟩:=e;cases o;refine wD ?_
 cases c with
 |true=>exact m d s1 k i Q j e
 |false=>exact⟨.bl U,i,j,rfl,e⟩
def U9(k:PE X a g):PE X (.UnaryOp .Not a f) (Xl g):=by intro d s m T Q O h;refine UnaryOp_<|BI (k d s m T _ O h) λv s1 N=>?_;obtain⟨x,i,j,l,e⟩:=N;obtain⟨c,rfl,e⟩:=e;cases l;exact not_of<|wD ⟨.bl (!c),i,j,rfl,e⟩
noncomputable def tIf(t:TT)(g tb:TE):TE:=λd T Q=>t d T λc e=>if c=J then g d e Q else tb d e Q
def aen{c:je}(p:PT X c tA)(m:PE X a g)(o:PE X b tb):PE X (.IfExp c a b f) (tIf tA g tb):=by
 intro e s i T Q O h;refine wpAny_IfExp<|BI (p e s i T _ O h) λd s1 N=>?_;obtain⟨j,k,l⟩:=N
 cases d with
 |true=>exact m e s1 i j Q k l
 |false=>exact o e s1 i j Q k l
end
def Gm(K:ju)(T:Hp)(a:iW)(xs:List V):Prop:=
 Rd T a (.lst xs)\/
  ∃(o:fy) (b:nv) (n:Nat),K.lookup a=Y o/\o.cls= .type "list"/\o.dict=C/\o.data= .seq b n/\b.size<=sizeLine/\Vals xs b.toList
def IU(K:ju)(T:Hp)(a:iW)(c:List V):Prop:=
 Rd T a (.tup c)\/
  ∃(o:fy) (b:nv) (n:Nat),K.lookup a=Y o/\o.cls= .type "tuple"/\o.data= .seq b n/\b.size<=sizeLine/\Vals c b.toList
noncomputable def aan:jg->Option V
 | .none=>Y .Ax
 | .bool b=>Y<|.bl b
 | .int i _=>Y<|.int i
 | .str x _=>Y<|.str x
 | .bytes b _=>Y<|.byt b
 | .float b _=>Y<|.flt b
 | .ref a=>Y<|.ref a
 | .type n=>Y<|.ty n
 |_=>C
def RelV.abs{x:V}{u:jg}(r:RelV x u):aan u=Y x:=by
 cases x with
 |Ax=>cases r;rfl
 |bl _=>cases r;rfl
 |int _=>obtain⟨t,rfl⟩:=r;rfl
 |str _=>obtain⟨t,rfl⟩:=r;rfl
 |byt _=>obtain⟨t,rfl⟩:=r;rfl
 |flt _=>obtain⟨t,rfl⟩:=r;rfl
 |ref _=>cases r;rfl
 |ty _=>cases r;rfl
def RelV.inj{x y:V}{u:jg}(r:RelV x u)(q:RelV y u):x=y:=lj<|r.abs.symm.trans q.abs
def Vals.inj{c a:List V}{b:ku}(h:Vals c b)(q:Vals a b):c=a:=by
 induction h generalizing a with
 |nil=>cases q;rfl
 |cons r t d=>obtain _|⟨e,f⟩:=q;rw[r.inj e,d f]
section
variable {X:Cx}{b:jK}{c:St}{H:Hp}{s:iZ}{a:iW}{xs f:List V}
def Gm.of{K:ju}(h:H a=Y (.lst xs)):Gm K H a xs:= .inl (.inl h)
def Inv.list(T:Inv X b c H s)(h:Gm X.K H a xs): ∃d:List jg,Vals xs d/\PlainL s.heap a d.toArray/\xs.length<=sizeLine:=by
 rcases h with h|⟨o,d,n,hk,g,hd,i,j,r⟩
 .obtain⟨z,d,n,r,e⟩:=h.ok T.hok;exact⟨d,r,⟨_,n,e,rfl,rfl,rfl⟩,z⟩
 .refine⟨d.toList,r,⟨o,n,T.HI a o hk,g,hd,by simpa using i⟩,?_⟩;have e:=r.length;simp only[lh] at e
  lia
def Inv.tuple(T:Inv X b c H s)(h:IU X.K H a xs): ∃d:List jg,Vals xs d/\re s.heap a d.toArray/\xs.length<=sizeLine:=by
 rcases h with h|⟨o,d,n,hk,g,i,j,r⟩
 .obtain⟨z,d,r,p⟩:=h.ok T.hok;exact⟨d,r,p,z⟩
 .refine⟨d.toList,r,⟨o,T.HI a o hk,g,n,by simpa using i⟩,?_⟩;have e:=r.length;simp only[lh] at e
  lia
def Inv.Ff(T:Inv X b c H s)(h:Gm X.K H a xs)(m:Gm X.K H a f):xs=f:=by
 obtain⟨i,r,⟨o,n,e,_,_,d⟩,_⟩:=T.list h;obtain⟨g,p,⟨t,q,k,_,_,j⟩,_⟩:=T.list m;rw[e] at k;cases k;rw[d] at j;injection j with l _
 have:i=g:=by simpa using nE t0 l
 subst this;exact r.inj p
def Inv.F1(T:Inv X b c H s)(h:IU X.K H a xs)(m:IU X.K H a f):xs=f:=by
 obtain⟨i,r,⟨o,e,_,n,d⟩,_⟩:=T.tuple h;obtain⟨g,p,⟨t,k,_,q,j⟩,_⟩:=T.tuple m;rw[e] at k;cases k;rw[d] at j;injection j with l _
 have:i=g:=by simpa using nE t0 l
 subst this;exact r.inj p
end
noncomputable abbrev Cx.IV(X:Cx)(E:jJ):Cx:={X with xe:=E}
noncomputable abbrev Cx.Ig(X:Cx):Cx:=X.IV λ_ _=>False
def Cx.Ok.IV{X:Cx}(ok:X.Ok)(E:jJ):(X.IV E).Ok:=
 ⟨ok.mod,ok.kind,ok.glob,ok.blt,ok.above,ok.inj,ok.has,ok.cab,ok.hd,ok.frames,ok.stk,ok.exf,ok.bs,ok.bsz,ok.noex,ok.exfs,ok.GH,ok.frf⟩
def Cx.Ok.Ex{X:Cx}{E:jJ}(ok:(X.IV E).Ok):X.Ok:=
 ⟨ok.mod,ok.kind,ok.glob,ok.blt,ok.above,ok.inj,ok.has,ok.cab,ok.hd,ok.frames,ok.stk,ok.exf,ok.bs,ok.bsz,ok.noex,ok.exfs,ok.GH,ok.frf⟩
section
variable {X:Cx}{a:jK}{b:St}{H:Hp}{s:iZ}{E:jJ}
def Inv.IV(T:Inv X a b H s)(E:jJ):Inv (X.IV E) a b H s:=⟨T.ok.IV E,T.os,T.bare,T.base,T.loc,T.cell,T.free,T.freeC,T.pin,T.hok,T.len⟩
def Inv.Ex(T:Inv (X.IV E) a b H s):Inv X a b H s:=⟨T.ok.Ex,T.os,T.bare,T.base,T.loc,T.cell,T.free,T.freeC,T.pin,T.hok,T.len⟩
def SP.Ex{D:Ends}{f:Flow}{e:iZ}(h:SP (X.IV E) a D f e):SP X a D f e:=by
 cases f with
 |next=>obtain⟨c,d,T,q⟩:=h;exact⟨c,d,T.Ex,q⟩
 |brk=>obtain⟨c,d,T,q⟩:=h;exact⟨c,d,T.Ex,q⟩
 |cont=>obtain⟨c,d,T,q⟩:=h;exact⟨c,d,T.Ex,q⟩
 |ret u=>obtain⟨v,c,d,T,r,q⟩:=h;exact⟨v,c,d,T.Ex,r,q⟩
def IJ.Ig{st:List bc}{t:TS}(h:IJ X.Ig st t):IJ X st t:=λa s b H D T c=>nX (h a s b H D (T.IV _) c) (λ_ _ q=>q.Ex) λ_ _ z=>ba z
end
section
variable {X:Cx}{st:bc}{jF:List bc}{t u:TS}{e:je}{i:TE}{g:bO}
noncomputable def Xm:TS:=λD a T=>D.nx a T
noncomputable def Zg(t u:TS):TS:=λD a T=>t {D with nx:=u D} a T
def Ra:IJ X [] Xm:=λ_ _ a T _ Q h=>HA ⟨a,T,Q,h⟩
def aeB(h1:PS X st t)(j:IJ X jF u):IJ X (st::jF) (Zg t u):=by
 intro a s k T D Q h;refine Hz<|BI (h1 a s k T {D with nx:=u D} Q h) λf s1 q=>?_
 cases f with
 |next=>obtain⟨b,c,d,q⟩:=q;exact j a s1 b c D d q
 |ret v=>exact q
 |brk=>exact q
 |cont=>exact q
def Inv.quiet{a:jK}{b:St}{T:Hp}{s:iZ}(Q:Inv X a b T s):TW X.env=U:=by simp[TW,Q.ok.kind]
noncomputable def Xo(i:TE):TS:=λD a T=>i a T λ_ b=>D.nx a b
def Rb(f:PE X e i)(j:autoParam (dB e C g.line X.env=pure U) AQ):PS X (.Expr e g) (Xo i):=by intro a s b T D Q h;exact wpAny_Expr_any (BI (f a s b T _ Q h) λv s1 O=>by obtain⟨x,c,d,l,k⟩:=O;exact ⟨b,c,d,k⟩) Q.quiet j
noncomputable def Zh(i:TE):TS:=λD a T=>i a T D.rt
def Nz(f:PE X e i):PS X (.Return (Y e) g) (Zh i):=by intro a s b T D Q h;exact uu (BI (f a s b T _ Q h) λv s1 O=>by obtain⟨x,c,d,k,j⟩:=O;exact ⟨x,b,c,d,k,j⟩)
noncomputable def Zk(c:TT)(t u:TS):TS:=λD a T=>c a T λb d=>if b=J then t D a d else u D a d
def XN{c:je}{a b:List bc}{n:TT}(q:PT X c n)(o:IJ X a t)(p:IJ X b u):PS X (.If c a b g) (Zk n t u):=by
 intro f s j T D Q h;refine wpAny_If<|BI (q f s j T _ Q h) λd s1 O=>?_;obtain⟨k,l,m⟩:=O
 cases d with
 |true=>exact o f s1 j k D l m
 |false=>exact p f s1 j k D l m
end
abbrev TG:=V->St->Hp->(St->Hp->Prop)->Prop
abbrev Lk:=List V->St->Hp->(St->Hp->Prop)->Prop
def PG(X:Cx)(a:je)(t:TG):Prop:=
 ∀(b:jK) (s:iZ) (e:St) (T:Hp) (v:V) (u:jg) (Q:St->Hp->Prop),Inv X b e T s->RelV v u->t v e T Q->
  ah (aj X.prog X.w) X.A (cW a X.env u) (λ_ f=> ∃c d,Inv X b c d f/\Q c d) X.xe s
def KZ(X:Cx)(h:kL)(t:Lk):Prop:=
 ∀(a:jK) (s:iZ) (f:St) (T:Hp) (e:List V) (d:ku) (Q:St->Hp->Prop),Inv X a f T s->Vals e d->t e f T Q->
  ah (aj X.prog X.w) X.A (assignInOrder ((aZ h X.env).map (·.2)) d) (λ_ g=> ∃b c,Inv X a b c g/\Q b c) X.xe s
abbrev SO:=V->V->V->Hp->(Hp->Prop)->Prop
def We(X:Cx)(t:SO):Prop:=
 ∀(a:jK) (s:iZ) (e:St) (T:Hp) (o i v:V) (d c u:jg) (Q:Hp->Prop),Inv X a e T s->RelV o d->RelV i c->RelV v u->t o i v T Q->
  ah (aj X.prog X.w) X.A (li d c u) (λ_ f=> ∃b,Inv X a e b f/\Q b) X.xe s
section
variable {X:Cx}{d:bO}
noncomputable def Gk(i:Nat):TG:=λv a T Q=>Q (a.set i<|Y v) T
def Jy{i:Nat}{x:aG}(c:X.N.Nodup)(f:X.N[i]?=Y x)(g:Loc X.env.scope x)(e:autoParam (X.fn x=J\/X.env.scope.names.lookup x=Y .local) Na):PG X (.Name x d) (Gk i):=by intro a s k T v u Q O r h;exact wpAny_assign_Name<|FD O c f g r (λj b=>⟨_,T,b,h⟩) e
noncomputable def aaj:Lk:=λa b T Q=>a=[]/\Q b T
def Yj(t:TG)(u:Lk):Lk:=λc e T Q=> ∃v r,c=v::r/\t v e T λa b=>u r a b Q
def Rk:KZ X [] aaj:=by intro a s b T f c Q O r h;obtain⟨e,h⟩:=h;subst e;cases r;exact assignInOrder_nil ⟨b,T,O,h⟩
def aei{e:je}{b:kL}{t:TG}{u:Lk}(h1:PG X e t)(j:KZ X b u)
  (k:autoParam ((aZ (e::b) X.env).map (·.2)=cW e X.env::(aZ b X.env).map (·.2)) AQ):KZ X (e::b) (Yj t u):=by
 intro a s n T q o Q O r h;obtain⟨v,p,i,h⟩:=h;subst i
 cases r with
 |cons r m=>rw[k];refine assignInOrder_cons<|BI (h1 a s n T _ _ _ O r h) λ_ s1 N=>?_;obtain⟨c,f,g,l⟩:=N;exact j a s1 c f _ _ Q g m l
def aai(K:ju)(n:Nat)(t:Lk):TG:=λv c T Q=> ∃a b,v= .ref a/\IU K T a b/\(A7 b)=n/\t b c T Q
def U6{f:kL}{k:Nat}{t:Lk}{n:Nat}(q:X.calm=J)(h:KZ X f t)
  (x:autoParam ((aZ f X.env).length=n) AQ)(O:autoParam ((aZ f X.env).findIdx? (·.1)=C) AQ):PG X (.Tuple f k d) (aai X.K n t):=by
 intro c s j T v u Q N r g;obtain⟨a,E,m,y,w,g⟩:=g;subst m;cases r;obtain⟨B,i,z,L⟩:=N.tuple y;refine assign_Tuple_tuple (N.ok.hd q) z (by simp[x,<-w,i.length]) O λp A=>?_;have l:Inv X c j T {s with heap:=p}:=N.kept (t':=s.toks) λb o e=>A b o (kf<|kH e) e;exact h c _ j T E _ Q l (by simpa using i) g
noncomputable def FZ(g f:TE)(t:SO):TG:=λv a T Q=>g a T λo b=>f a b λi c=>t o i v c λe=>Q a e
def NO{o i:je}{g f:TE}{t:SO}(z:PE X o g)(w:PE X i f)(A:We X t)
  (q:autoParam (∀v,cW (.Subscript o i d) X.env v=(do
   let b <-cB [v] (aT o X.env)
   let c <-cB [v,b] (aT i X.env)
   c9 d
   cB [v,b,c] (li b c v)
   O2 [v,b,c] [])) Kt):PG X (.Subscript o i d) (FZ g f t):=by
 intro a s e N v u Q I r h;rw[q];refine iX<|mv<|BI (z a s e N _ I h) λb s1 a'=>?_;obtain⟨x,j,m,L,B⟩:=a';refine iX<|mv<|BI (w a s1 e j _ m B) λc T a'=>?_;obtain⟨y,k,n,O,M⟩:=a';refine iX<|uG<|iX<|mv<|BI (A a T e k x y v b c u _ n L O r M) λ_ G a'=>?_;obtain⟨l,p,E⟩:=a';exact wpAny_release ⟨e,l,p,E⟩
noncomputable def Uu(c:TE)(g:TG):TS:=λD a T=>c a T λx b=>g x a b D.nx
def HZ{b e:je}{c:TE}{g:TG}(k:PE X e c)(l:PG X b g)(m:autoParam (f3 [b] e d.line X.env=pure U) AQ)(n:autoParam (f4 [b] e X.env=pure C) AQ)
  (h1:autoParam ((aZ [b] X.env).map (·.2)=[cW b X.env]) AQ):PS X (.Assign [b] e d) (Uu c g):=by
 intro a s f T D Q h;refine wpAny_Assign_stores (BI (k a s f T _ Q h) λv s1 O=>?_) m n;obtain⟨x,i,j,p,o⟩:=O;rw[h1];exact BI (l a s1 f i x v _ j p o) λ_ r q=>q
def Ny{i:Nat}{x:aG}{e:je}{c:TE}{a:bO}(k:X.N.Nodup)(n:X.N[i]?=Y x)(p:Loc X.env.scope x)(l:PE X e c)(o:autoParam (dB e (Y<|.Name x a) d.line X.env=pure U) AQ)(m:autoParam (X.fn x=J\/X.env.scope.names.lookup x=Y .local) Na):
  PS X (.Assign [.Name x a] e d) (Uu c<|Gk i):=by
 intro b s t T D Q h;refine wpAny_Assign_Name (BI (l b s t T _ Q h) λv s1 O=>?_) o;obtain⟨y,f,g,r,q⟩:=O;exact FD g k n p r (λu j=>⟨_,f,j,q⟩) m
def Ur(c:TT)(tb:TS):TS:=λD a T=> ∃W:Nat->St->Hp->Prop,(∃m,W m a T)/\ ∀m a T,W m a T->
 c a T λb g=>if b=J then ∃N:St->Hp->Prop,(∀e f,N e f-> ∃h,h<m/\W h e f)/\tb {D with nx:=N,ct:=N,bk:=D.nx} a g else D.nx a g
def aeC{c:je}{i:List bc}{E:TT}{tb:TS}(C:fL (aj X.prog X.w) X.A X.env X.xe)(Q:PT X c E)(O:IJ X i tb):PS X (.While c i [] d) (Ur E tb):=by
 intro a s Y H D I h;obtain⟨W,⟨T,M⟩,k⟩:=h;refine wpAny_While<|codeAny_whileLoop (λn G=> ∃l x,Inv X a l x G/\W n l x) ?_ T ⟨Y,H,I,M⟩;rintro n s1 ⟨g,H1,L,U'⟩;refine wC C<|BI (Q a s1 g H1 _ L (k n g H1 U')) λb J' a'=>?_;obtain⟨y,z,m⟩:=a'
 cases b with
 |true=>
  obtain⟨N,B,m⟩:=m;rw[jl AM];refine wC C<|BI (O a J' g y _ z m) λf F o=>?_
  cases f with
  |next=>obtain⟨e,j,p,t⟩:=o;obtain⟨r,q,u⟩:=B e j t;exact⟨r,q,e,j,p,u⟩
  |cont=>obtain⟨e,j,p,t⟩:=o;obtain⟨r,q,u⟩:=B e j t;exact⟨r,q,e,j,p,u⟩
  |brk=>exact o
  |ret v=>exact o
 |false=>rw[jv kR];exact HA ⟨g,y,z,m⟩
end
structure It where
 go:Nat->Hp->Prop
 yld:Nat->Hp->V->Hp->Prop
 stop:Nat->Hp->Prop
def vc(X:Cx)(a:jK)(T:Hp)(b:iW):Prop:=
 T b=C/\b≠X.env.locals/\b∉X.fs/\(b∈X.ex\/X.s₀.heap.objs.size<=b)/\(∀x c,X.env.cells.lookup x=Y c->c≠b)/\ ∀p∈X.pn++a,p.1≠b
def Inv.KS{X:Cx}{a:jK}{i:St}{T f:Hp}{s:iZ}{b:iW}(Q:Inv X a i T s)(d:s.heap.objs.size<=b)(g:f b=C):vc X a f b:=by
 refine⟨g,pk<|oG Q.lt d,Q.N9 d,.inr<|mC Q.sz d,λx c e z=>?_,λp h z=>?_⟩
 .obtain⟨v,q⟩:=Q.cell x c e;exact absurd (oG q.lt<|by rw[z];exact d)<|rp _
 .exact absurd (oG (kH (Q.pin p h).1)<|by rw[z];exact d) (rp _)
structure Turn(P:jw)(w:jm)(K:ju)(tg:je)(J:It)(fp:kN)(it:iW)(tn:Nat->jo->Prop):Prop where
 mem:it∈fp
 obj: ∀i h,tn i h-> ∀b∈fp,∃o,h.get? b=XV o/\ ∀v,o.data≠ .cell v
 keep: ∀i h h',tn i h->(∀b∈fp,∀o,h.get? b=XV o->h'.get? b=XV o)->tn i h'
 item: ∀(X:Cx),X.prog=P->X.w=w->X.K=K->X.calm=YP-> ∀(i:Nat) (pins:jK) (s:iZ) (σ:St) (H:Hp) (E:jJ),Inv X pins σ H s->(∀b∈fp,vc X pins H b)->tn i s.heap->J.go i H->
  ah (aj P w) X.A (cn<|.ref it) (λr s1=> ∃u,r=XV u/\
   ah (aj P w) X.A (fk tg (.ref it) u) (λ_ s2=> ∃x H',Inv X pins σ H' s2/\RelV x u/\J.yld i H x H'/\tn (i+1) s2.heap/\ ∀b∈fp,H' b=X0) E s1) E s
 done: ∀(X:Cx),X.prog=P->X.w=w->X.K=K->X.calm=YP-> ∀(i:Nat) (pins:jK) (s:iZ) (σ:St) (H:Hp) (E:jJ),Inv X pins σ H s->(∀b∈fp,vc X pins H b)->tn i s.heap->J.stop i H->
  ah (aj P w) X.A (cn<|.ref it) (λr s1=>r=X0/\Inv X pins σ H s1) E s
 self: ∀(A:jn) (i:Nat) (s:iZ) (Q:jJ) (E:jJ),tn i s.heap->Q (.ref it) s->ah (aj P w) A (d5<|.ref it) Q E s
abbrev TI:=St->Hp->(It->Hp->Prop)->Prop
def PIE(X:Cx)(a:jK)(j:St)(i:je)(R:It->Hp->Prop)(h:jg)(f:iZ):Prop:=
 ∃(e:iW) (d:kN) (g:Nat->jo->Prop) (T:It) (c:Hp),h= .ref e/\Inv X a j c f/\Turn X.prog X.w X.K i T d e g/\g 0 f.heap/\(∀b∈d,vc X a c b)/\R T c
def PI(X:Cx)(tg iter:je)(c:TI):Prop:=
 ∀(a:jK) (s:iZ) (b:St) (T:Hp) (R:It->Hp->Prop),Inv X a b T s->c b T R->
  ah (aj X.prog X.w) X.A (aT iter X.env) (λv s1=>ah (aj X.prog X.w) X.A (d5 v) (PIE X a b tg R) X.xe s1) X.xe s
def OV{M:h9}{A:jn}{E:jJ}{s:iZ}{c:je}{b:iW}{u:jg}{o:fy}{n:String}{d:nv}{Q:Unit->iZ->Prop}(g:s.heap.get? b=Y o)(e:o.cls= .type n)(hd:o.data= .fields d)
  (f:["enumerate","zip","dict_itemiterator","dict_reverseitemiterator","odict_iterator","itertools.zip_longest","itertools.pairwise"].contains n=U)(a:Q () s):ah M A (fk c (.ref b) u) Q E s:=by
 unfold fk
 cases c<;>first
  |exact jd a
  |(cases u<;>first
    |exact jd a
    |(
      refine iX<|yS g ?_;rw[e,hd];show ah M A (if(["enumerate","zip","dict_itemiterator","dict_reverseitemiterator","odict_iterator","itertools.zip_longest","itertools.pairwise"].contains n&&d[0]?==Y (cE _))=J then _ else _) Q E s;rw[jv (by intro h;rw[f,eS] at h;cases h)];exact jd a))
noncomputable def Itl(K:ju)(a:iW):It:=
 ⟨λi T=> ∃b x,Gm K T a b/\b[i]?=Y x,λi T x c=>c=T/\ ∀b,Gm K T a b->b[i]?=Y x,λi T=> ∃b,Gm K T a b/\(A7 b)<=i⟩
noncomputable def Itt(K:ju)(a:iW):It:=
 ⟨λi T=> ∃b x,IU K T a b/\b[i]?=Y x,λi T x c=>c=T/\ ∀b,IU K T a b->b[i]?=Y x,λi T=> ∃b,IU K T a b/\(A7 b)<=i⟩
noncomputable def NW(lo:Int)(n:Nat):It:=⟨λi _=>i<n,λi T x a=>a=T/\x= .int (lo+i),λi _=>n<=i⟩
def ac6{P:jw}{w:jm}{K:ju}{tg:je}(a j:iW):Turn P w K tg (Itl K a) [j] j (λi h=>h.IsListIter j a i) where
 mem:=by simp
 obj:=λi h st b g=>by
  have e:b=j:=by simpa using g
  subst e;obtain⟨o,e,c,d⟩:=st;exact⟨o,e,λv z=>by rw[d] at z;cases z⟩
 keep:=λi h l st k=>st.at λo e=>k j (by simp) o e
 item:=by intro X A C y G i f s J H E I m st B;subst A C y;obtain⟨S,x,n,L⟩:=B;obtain⟨O,Q,p,D⟩:=I.list n;obtain⟨u,U,F⟩:=Q.get L;obtain⟨f0,f1,f2,q,r,t⟩:=m j (by simp);refine wpAny_pyNext_list_item st p.isList (x:=u) (by simpa using U) λl T R=>?_;have M:Inv X f J H {s with heap:=l}:=I.turned (t':=s.toks) (λb o g e=>(R.2 b g).trans e) f0 f1 q r t;obtain⟨o,e,c,d⟩:=id T;exact⟨u,rfl,OV (s:={s with heap:=l}) e c d (by decide) ⟨x,H,M,F,⟨rfl,λW Y=>by rw[I.Ff Y n];exact L⟩,T,λb g=>(m b g).1⟩⟩
 done:=by intro X A C y G i f s J H E I m st B;subst A C y;obtain⟨S,n,L⟩:=B;obtain⟨O,Q,p,D⟩:=I.list n;obtain⟨f0,f1,f2,q,r,t⟩:=m j (by simp);have V:=Q.length;exact wpAny_pyNext_list_end (I.ok.hd G) st p.isList (by simp;lia) λl N=>⟨rfl,I.turned (t':=s.toks) (λb o g e=>N b o g e) f0 f1 q r t⟩
 self:=λ_ _ _ _ _ st h=>wpAny_pyIter_listiter st h
def ab0{P:jw}{w:jm}{K:ju}{tg:je}(a j:iW):Turn P w K tg (Itt K a) [j] j (λi h=>h.IsTupleIter j a i) where
 mem:=by simp
 obj:=λi h st b g=>by
  have e:b=j:=by simpa using g
  subst e;obtain⟨o,e,c,d⟩:=st;exact⟨o,e,λv z=>by rw[d] at z;cases z⟩
 keep:=λi h m st k=>st.at λo e=>k j (by simp) o e
 item:=by intro X B L A G i f s J H E I n st C;subst B L A;obtain⟨S,x,q,O⟩:=C;obtain⟨l,Q,p,D⟩:=I.tuple q;obtain⟨u,U,F⟩:=Q.get O;obtain⟨f0,f1,f2,r,t,y⟩:=n j (by simp);refine wpAny_pyNext_tuple_item st (show s.heap.IsTuple a l.toArray from p) (x:=u) (by simpa using U) λm T R=>?_;have M:Inv X f J H {s with heap:=m}:=I.turned (t':=s.toks) (λb o g e=>(R.2 b g).trans e) f0 f1 r t y;obtain⟨o,e,c,d⟩:=id T;exact⟨u,rfl,OV (s:={s with heap:=m}) e c d (by decide) ⟨x,H,M,F,⟨rfl,λW Y=>by rw[I.F1 Y q];exact O⟩,T,λb g=>(n b g).1⟩⟩
 done:=by intro X B L A G i f s J H E I n st C;subst B L A;obtain⟨S,q,O⟩:=C;obtain⟨l,Q,p,D⟩:=I.tuple q;obtain⟨f0,f1,f2,r,t,y⟩:=n j (by simp);have V:=Q.length;exact wpAny_pyNext_tuple_end (I.ok.hd G) st (show s.heap.IsTuple a l.toArray from p) (by simp;lia) λm N=>⟨rfl,I.turned (t':=s.toks) (λb o g e=>N b o g e) f0 f1 r t y⟩
 self:=λ_ _ _ _ _ st h=>wpAny_pyIter_tupleiter st h
def ab1{P:jw}{w:jm}{K:ju}{Q:je}(a:iW)(lo:Int)(n:Nat):Turn P w K Q (NW lo n) [a] a (λi h=>WF h a (lo+(i:Nat)*1) ((n:Int)-(i:Nat)) 1) where
 mem:=by simp
 obj:=λi h st b d=>by
  have e:b=a:=by simpa using d
  subst e
  exact⟨_,st,λv z=>by have T:iz _=ga v:=z;cases T⟩
 keep:=λi h f st k=>k a (by simp) _ st
 item:=by intro X q x p r i c s B N E G g st u;subst q x p;obtain⟨f0,f1,f2,j,l,m⟩:=g a (by simp);have W:=Walks.range (prog:=X.prog) (w:=X.w) (G.ok.hd r) a lo 1 n;refine W.item i s _ _ u st λv f A hv y O=>?_;obtain⟨t,rfl⟩:=hv;have M:Inv X c B N {s with heap:=f,toks:=A}:=G.turned (λb o d e=>O b o (by simpa using d) e) f0 f1 j l m;refine⟨_,rfl,OV (s:={s with heap:=f,toks:=A}) (n:="range_iterator") y H H (by decide) ⟨.int<|lo+i,N,M,⟨t,?_⟩,⟨rfl,rfl⟩,y,λb d=>(g b d).1⟩⟩;rw[Hy]
 done:=by intro X q x p r i c s B N E G g st u;subst q x p;obtain⟨f0,f1,f2,j,l,m⟩:=g a (by simp);exact wpAny_pyNext_range_end (G.ok.hd r) st (by have:n<=i:=u;lia) λf L=>⟨rfl,G.turned (t':=s.toks) (λb o d e=>L b o d e) f0 f1 j l m⟩
 self:=λ_ _ _ _ _ st h=>wpAny_pyIter_rangeiter st h
section
variable {X:Cx}{tg:je}
def Yg(K:ju)(c:TE):TI:=λe T R=>c e T λx b=> ∃a,x= .ref a/\(∃d,Gm K b a d)/\R (Itl K a) b
def aag(K:ju)(c:TE):TI:=λe T R=>c e T λx b=> ∃a,x= .ref a/\(∃d,IU K b a d)/\R (Itt K a) b
def Ri{l:je}{f:TE}(j:PE X l f):PI X tg l (Yg X.K f):=by
 intro c s t T R Q h;refine BI (j c s t T _ Q h) λv s1 O=>?_;obtain⟨x,g,d,r,n⟩:=O;obtain⟨a,e,⟨y,k⟩,q⟩:=n;subst e;cases r;obtain⟨m,w,p,u⟩:=d.list k;refine Aq p.isList ?_;refine⟨s1.heap.objs.size,[s1.heap.objs.size],_,_,g,rfl,d.kept (t':=s1.toks) λb o e=>kg _ e,ac6 a _,⟨_,kG _ rfl,rfl,rfl⟩,λb i=>?_,q⟩;have e:b=s1.heap.objs.size:=by simpa using i
 subst e;exact d.KS (kh _)<|d.hok.fresh<|kh _
def U5{l:je}{g:TE}(k:PE X l g):PI X tg l (aag X.K g):=by
 intro c s t T R Q h;refine BI (k c s t T _ Q h) λv s1 O=>?_;obtain⟨x,i,d,r,n⟩:=O;obtain⟨a,e,⟨y,m⟩,q⟩:=n;subst e;cases r;obtain⟨f,w,p,u⟩:=d.tuple m;refine Hx (show s1.heap.IsTuple a f.toArray from p) ?_;refine⟨s1.heap.objs.size,[s1.heap.objs.size],_,_,i,rfl,d.kept (t':=s1.toks) λb o e=>kg _ e,ab0 a _,⟨_,kG _ rfl,rfl,rfl⟩,λb j=>?_,q⟩;have e:b=s1.heap.objs.size:=by simpa using j
 subst e;exact d.KS (kh _)<|d.hok.fresh<|kh _
def FU{c:jK}{g:St}{T:Hp}{s:iZ}{R:It->Hp->Prop}{E:jJ}{lo a:Int}{t u v:ww}{f:Nat}(Q:Inv X c g T s)(h1: -(2^62)<=lo)(j:lo<2^62)(k: -(2^62)<=a)(l:a<2^62)
  (q:R (NW lo (a-lo).toNat) T):ah (aj X.prog X.w) X.A (d5<|.ref s.heap.objs.size) (PIE X c g tg R) E {s with heap:=s.heap.push {cls:= .type "range",data:= .fields #[.int lo t,.int a u,.int 1 v]},toks:=f}:=by
 refine wpAny_pyIter_range (IsRange.new ..) (small_one h1 j k l) ?_;have d:Inv X c g T {s with heap:=s.heap.push {cls:= .type "range",data:= .fields #[.int lo t,.int a u,.int 1 v]},toks:=f}:=Q.kept λb o e=>kg _ e
 refine⟨(s.heap.push {cls:= .type "range",data:= .fields #[.int lo t,.int a u,.int 1 v]}).objs.size,[(s.heap.push {cls:= .type "range",data:= .fields #[.int lo t,.int a u,.int 1 v]}).objs.size],_,_,T,rfl,
  d.kept (t':=f) λb o e=>kg _ e,ab1 _ lo (a-lo).toNat,?_,λb m=>?_,q⟩
 .have h:lo+((0:Nat):Int)*1=lo:=by simp
  have i:(((a-lo).toNat:Nat):Int)-((0:Nat):Int)=fM lo a 1:=by rw[Gc];split<;>lia
  show WF _ _ (lo+((0:Nat):Int)*1) ((((a-lo).toNat:Nat):Int)-((0:Nat):Int)) 1;rw[h,i];exact kG _ rfl
 .have e:b=(s.heap.push {cls:= .type "range",data:= .fields #[.int lo t,.int a u,.int 1 v]}).objs.size:=by simpa using m
  subst e;exact d.KS (kh _)<|d.hok.fresh<|kh _
def Yf(b:TA):TI:=λd T R=>b d T λc a=> ∃j:Int,c=[.int j]/\ -(2^62)<=j/\j<2^62/\R (NW 0 j.toNat) a
def Ye(b:TA):TI:=λd T R=>b d T λc a=> ∃i j:Int,c=[.int i,.int j]/\(-(2^62)<=i/\i<2^62/\ -(2^62)<=j/\j<2^62)/\R (NW i (j-i).toNat) a
def acY{a:je}{f:TA}{p c:bO}(k:Gl X "range")(l:X.mg "range"=C)(i:PA X [a] f)(m:autoParam (ac [a] X.env=[(U,aT a X.env)]) AQ):PI X tg (.Call (.Name "range" p) [a] [] c) (Yf f):=by
 intro b s v T R Q h;refine Call_<|qd Q k l Ea<|Ap (BI (i c b s v T _ Q h) λx s1 O=>?_) m H;obtain⟨y,w,g,o,d⟩:=O;obtain⟨j,e,d,n,q⟩:=d;subst e
 cases o with
 |cons r u=>
  cases u;obtain⟨t,rfl⟩:=r;exact call_range_1<|FU g (by lia) (by lia) d n (by simpa using q)
def acX{a b:je}{l:TA}{p d:bO}(o:Gl X "range")(u:X.mg "range"=C)(n:PA X [a,b] l)(v:autoParam (ac [a,b] X.env=[(U,aT a X.env),(U,aT b X.env)]) AQ)(k:autoParam (ac [b] X.env=[(U,aT b X.env)]) AQ):
  PI X tg (.Call (.Name "range" p) [a,b] [] d) (Ye l):=by
 intro c s B T R N h;refine Call_<|qd N o u Ea<|Ap (BI (n d c s B T _ N h) λL s1 M=>?_) (by rw[v,k]) (by rw[k];rfl);obtain⟨O,Q,m,A,f⟩:=M;obtain⟨i,j,e,⟨f,w,x,y⟩,q⟩:=f;subst e
 cases A with
 |cons r g=>
  cases g with
  |cons z g=>
   cases g;obtain⟨t,rfl⟩:=r;obtain⟨E,rfl⟩:=z;exact PP<|FU m f w x y q
def Zl(j:TI)(g:TG)(tb:TS):TS:=λD a Q=>j a Q λT f=> ∃W:Nat->Nat->St->Hp->Prop,(∃m,W 0 m a f)/\ ∀i m a Q,W i m a Q->
 (T.stop i Q/\D.nx a Q)\/(T.go i Q/\ ∃N:St->Hp->Prop,(∀c b,N c b-> ∃e,e<m/\W (i+1) e c b)/\ ∀x b,T.yld i Q x b->g x a b λd h=>tb {D with nx:=N,ct:=N,bk:=D.nx} d h)
noncomputable def AI(a:kN)(h:jo):List (iW×fy):=a.filterMap λb=>(h.get? b).map λo=>(b,o)
def sM{a:kN}{h:jo}{b:iW}{o:fy}(c:b∈a)(e:h.get? b=Y o):(b,o)∈AI a h:=fH.mpr ⟨b,c,by rw[e];rfl⟩
def ac3{a:kN}{h:jo}{p:iW×fy}(f:p∈AI a h):p.1∈a/\h.get? p.1=Y p.2:=by
 obtain⟨b,d,e⟩:=fH.mp f
 cases q:h.get? b with
 |none=>rw[q] at e;cases e
 |some o=>rw[q] at e;have c:(b,o)=p:=lj e;subst c;exact⟨d,q⟩
def Inv.pinned{a:jK}{h:St}{T:Hp}{s:iZ}{c:kN}(Q:Inv X a h T s)(i: ∀b∈c,vc X a T b)(j: ∀b∈c,∃o,s.heap.get? b=Y o/\ ∀v,o.data≠ .cell v):Inv X (a++AI c s.heap) h T s:=
 Q.HX λp k=>(tM.mp k).elim (λz=>Q.pin p<|ph _ z) λz=>by obtain⟨g,e⟩:=ac3 z;obtain⟨f0,f1,f2,_⟩:=i p.1 g;obtain⟨o,f,d⟩:=j p.1 g;rw[e] at f;cases f;exact⟨e,f0,f1,f2,d⟩
def Inv.EF{a d:jK}{b:St}{T:Hp}{s:iZ}(Q:Inv X (a++d) b T s):Inv X a b T s:=Q.HX λp c=>Q.pin p<|ph _ (Ed _ c)
def U2{iter:je}{y:List bc}{wi:TI}{g:TG}{tb:TS}{M:bO}(C:fL (aj X.prog X.w) X.A X.env X.xe)(hc:X.calm=YP)(hi:PI X tg iter wi)(hg:PG X tg g)(l:IJ X y tb)
  (hs:autoParam (∀x,aA iter X.env x=pure x) Kt):PS X (.For tg iter y [] M) (Zl wi g tb):=by
 intro a s P H D I h;refine wpAny_For (BI (hi a s P H _ I h) λv s1 h1=>BI h1 λck s2 V=>?_) hs;obtain⟨it,B,K,J,R,e,S,T,u5,f2,W,⟨m0,w0⟩,L⟩:=V;subst e;have Y: ∀{t:Hp},(∀b∈B,t b=X0)-> ∀b∈B,vc X a t b:=λhn b l=>⟨hn b l,(f2 b l).2⟩
 refine codeAny_forLoop_any (λn F=> ∃i p t,Inv X a p t F/\K i F.heap/\(∀b∈B,t b=X0)/\W i n p t) ?_ m0 ⟨0,P,R,S,u5,λb l=>(f2 b l).1,w0⟩;rintro n s3 ⟨i,q,O,I3,dR,dJ,w3⟩;rcases L i n q O w3 with⟨stop,qn⟩|⟨go,N,hN,step⟩
 .refine wC C (BI (T.done X AM AM AM hc i a s3 q O X.xe I3 (Y dJ) dR stop) λr s4 a'=>?_);obtain⟨G,I4⟩:=a';subst G;exact HA ⟨q,O,I4,qn⟩
 .refine wC C (BI (T.item X AM AM AM hc i a s3 q O X.xe I3 (Y dJ) dR go) λr s4 a'=>?_);obtain⟨u,G,h4⟩:=a';subst G;refine wC C<|BI h4 λ_ s5 a'=>?_;obtain⟨x,H5,I5,r5,y5,Q,iK⟩:=a';have iT:=I5.pinned (Y iK)<|T.obj _ _ Q;refine wC C<|BI (hg _ s5 q H5 x u _ iT r5 (step x H5 y5)) λ_ s6 a'=>?_;obtain⟨σ6,H6,I6,q6⟩:=a';refine wC C (BI (l _ s6 σ6 H6 _ I6 q6) λf U z=>?_)
  have again: ∀{c:St} {j:Hp},Inv X (a++AI B s5.heap) c j U->N c j-> ∃m,m<n/\ ∃i p t,Inv X a p t U/\K i U.heap/\(∀b∈B,t b=X0)/\W i m p t:=λ{c j} k E=>by obtain⟨m',Z,w7⟩:=hN c j E;refine⟨m',Z,i+1,c,j,k.EF,T.keep _ _ _ Q λb l o e=>(k.pin (b,o)<|ph _ (ph _ (sM l e))).1,λb l=>?_,w7⟩;obtain⟨o,e,d⟩:=T.obj _ _ Q b l;exact(k.pin (b,o)<|ph _ (ph _ (sM l e))).2.1
  cases f with
  |next=>obtain⟨c,j,k,E⟩:=z;exact again k E
  |cont=>obtain⟨c,j,k,E⟩:=z;exact again k E
  |brk=>obtain⟨c,j,k,z⟩:=z;exact⟨c,j,k.EF,z⟩
  |ret v=>obtain⟨x7,c,j,k,r7,z⟩:=z;exact⟨x7,c,j,k.EF,r7,z⟩
end
abbrev R2:=V->V->Hp->VK->Prop
def EC(X:Cx)(f:zp)(r:R2):Prop:=
 ∀(a:jK) (s:iZ) (b:St) (T:Hp) (x y:V) (v u:jg) (Q:VK),Inv X a b T s->RelV x v->RelV y u->r x y T Q->
  ah (aj X.prog X.w) X.A (f v u) (EP X a b Q) X.xe s
def Nw(X:Cx)(f:jg->eF jg)(r:V->Hp->VK->Prop):Prop:=
 ∀(a:jK) (s:iZ) (b:St) (T:Hp) (x:V) (v:jg) (Q:VK),Inv X a b T s->RelV x v->r x T Q->
  ah (aj X.prog X.w) X.A (f v) (EP X a b Q) X.xe s
def lr(X:Cx)(f:jg)(r:List V->Hp->VK->Prop):Prop:=
 ∀(a:jK) (s:iZ) (c:St) (T:Hp) (xs:List V) (b:ku) (Q:VK),Inv X a c T s->Vals xs b->r xs T Q->
  ah (aj X.prog X.w) X.A (call f b) (EP X a c Q) X.xe s
noncomputable def M5(r:R2)(d tb:TE):TE:=λa T Q=>d a T λx b=>tb a b λy c=>r x y c Q
def tUn(r:V->Hp->VK->Prop)(b:TE):TE:=λc T Q=>b c T λx a=>r x a Q
def rI(O:Int->Int->Prop)(g:Int->Int->V):R2:=λx y T Q=> ∃i j,x= .int i/\y= .int j/\O i j/\Q (g i j) T
def Kv(g:Int->Int->V):R2:=λx y T Q=> ∃i j,x= .int i/\y= .int j/\Q (g i j) T
def rU(g:Int->V):V->Hp->VK->Prop:=λx T Q=> ∃i,x= .int i/\Q (g i) T
section
variable {X:Cx}{a b c:je}{l tb n:TE}{m:bO}
def V9(r:PE X a l)(t:PE X b tb){d:jK}{s:iZ}{g:St}{T:Hp}{R:V->V->Hp->Prop}(N:Inv X d g T s)
  (h:l g T λx o=>tb g o λy e=>R x y e){Q:jJ}{f:zp}
  (z: ∀v u k x y e,Inv X d g e k->RelV x v->RelV y u->R x y e->ah (aj X.prog X.w) X.A (f v u) Q X.xe k):
  ah (aj X.prog X.w) X.A (aT a X.env) (λv i=>ah (aj X.prog X.w) X.A (aT b X.env) (λu j=>ah (aj X.prog X.w) X.A (f v u) Q X.xe j) X.xe i) X.xe s:=by
 refine BI (r d s g T _ N h) λv s1 M=>?_;obtain⟨x,o,p,E,B⟩:=M;refine BI (t d s1 g o _ p B) λu k M=>?_;obtain⟨y,e,q,L,O⟩:=M;exact z v u k x y e q E L O
def XQ{e:Operator}{r:R2}(k:EC X (b3 e) r)(i:PE X a l)(j:PE X b tb):PE X (.BinOp a e b m) (M5 r l tb):=by intro d s w T Q O h;exact wpAny_BinOp<|V9 i j O h λv u t x y f g o p q=>k d t w f x y v u Q g o p q
def XO{e:UnaryOp}{r:V->Hp->VK->Prop}(k:Nw X (OO e) r)(j:PE X a l):PE X (.UnaryOp e a m) (tUn r l):=by intro d s f T Q O h;exact UnaryOp_ (BI (j d s f T _ O h) λv s1 N=>by obtain⟨x,g,i,p,o⟩:=N;exact k d s1 f g x v Q i p o)
def Nm{f:zp}{O:Int->Int->Prop}{g:Int->Int->Int}
  (rule: ∀(i j:Int) (t u:ww) (s:iZ) (Q:jJ) (E:jJ),O i j->Q (.int (g i j) s.toks) {s with toks:=s.toks+1}->ah (aj X.prog X.w) X.A (f (.int i t)<|.int j u) Q E s):
  EC X f (rI O λi j=> .int (g i j)):=by
 intro d s r T x y v u Q N k o h;obtain⟨i,j,rfl,rfl,e,q⟩:=h;obtain⟨t,rfl⟩:=k;obtain⟨p,rfl⟩:=o;exact rule i j t p s _ _ e ⟨.int<|g i j,T,N.tok _,⟨_,rfl⟩,q⟩
def XZ{f:zp}{g:Int->Int->Int}
  (rule: ∀(i j:Int) (t u:ww) (s:iZ) (Q:jJ) (E:jJ),Q (.int (g i j) s.toks) {s with toks:=s.toks+1}->ah (aj X.prog X.w) X.A (f (.int i t)<|.int j u) Q E s):
  EC X f (Kv λi j=> .int (g i j)):=by
 intro d s p T x y v u Q O e k h;obtain⟨i,j,rfl,rfl,q⟩:=h;obtain⟨t,rfl⟩:=e;obtain⟨o,rfl⟩:=k;exact rule i j t o s _ _ ⟨.int<|g i j,T,O.tok _,⟨_,rfl⟩,q⟩
def Rz{f:zp}{g:Int->Int->Bool}
  (rule: ∀(i j:Int) (t u:ww) (s:iZ) (Q:jJ) (E:jJ),Q (.bool<|g i j) s->ah (aj X.prog X.w) X.A (f (.int i t)<|.int j u) Q E s):
  EC X f (Kv λi j=> .bl (g i j)):=by
 intro d s p T x y v u Q O e k h;obtain⟨i,j,rfl,rfl,q⟩:=h;obtain⟨t,rfl⟩:=e;obtain⟨o,rfl⟩:=k;exact rule i j t o s _ _ ⟨.bl<|g i j,T,O,rfl,q⟩
def LM(i j:Int):Prop:=0<j/\j<1073741824
def Fm(i j:Int):Prop:=0<=j/\j<=1000000/\i.natAbs<2^64
def Es(i j:Int):Prop:=(-(2^64)<i/\i<2^64)\/(-(2^64)<j/\j<2^64)
def Es.ok{i j:Int}(h:Es i j):IntMulOk i j:=by
 rcases h with⟨h1,d⟩|⟨h1,d⟩
 .exact .of_left (Go h1 d)
 .exact .of_right (Go h1 d)
def Vn:EC X (b3 .Add) (Kv λi j=> .int (i+j)):=XZ λ_ _ _ _ _ _ _ q=>add_int q
def Vg:EC X (b3 .Sub) (Kv λi j=> .int (i-j)):=XZ λ_ _ _ _ _ _ _ q=>sub_int q
def Vj:EC X (b3 .Mult) (rI Es λi j=> .int (i*j)):=Nm λ_ _ _ _ _ _ _ d q=>mul_int q d.ok
def Rx:EC X (b3 .FloorDiv) (rI LM λi j=> .int (i / j)):=Nm λi j _ _ _ _ _ d q=>by have h1:(0:Int)<j:=d.1;have e:j<1073741824:=d.2;exact floordiv_int (by lia) (by rw[Int.fdiv_eq_ediv_of_nonneg i<|by lia];exact q)<|.inl<|PyProof.noPylong_small (by lia)
def Vk:EC X (b3 .Mod) (rI (λ_ j=>0<j) λi j=> .int (i%j)):=Nm λi j _ _ _ _ _ d q=>by have h1:(0:Int)<j:=d;exact mod_int' (by lia) (by rw[Int.fmod_eq_emod_of_nonneg i<|by lia];exact q)
def Vh:EC X (b3 .Pow) (rI Fm λi j=> .int (i^j.toNat)):=Nm λ_ _ _ _ _ _ _ d q=>pow_int_small d.1 d.2.1 d.2.2 q
def unI{f:jg->eF jg}{g:Int->Int}
  (rule: ∀(i:Int) (t:ww) (s:iZ) (Q:jJ) (E:jJ),Q (.int (g i) s.toks) {s with toks:=s.toks+1}->ah (aj X.prog X.w) X.A (f<|.int i t) Q E s):
  Nw X f (rU λi=> .int (g i)):=by
 intro d s j T x v Q O e h;obtain⟨i,rfl,q⟩:=h;obtain⟨t,rfl⟩:=e;exact rule i t s _ _ ⟨.int<|g i,T,O.tok _,⟨_,rfl⟩,q⟩
def Uo:Nw X (OO .USub) (rU λi=> .int (-i)):=unI λ_ _ _ _ _ q=>neg_int q
def XU:EC X (aM .Lt) (Kv λi j=> .bl (decide<|i<j)):=Rz λ_ _ _ _ _ _ _ q=>lt_int q
def XW:EC X (aM .LtE) (Kv λi j=> .bl (decide<|i<=j)):=Rz λ_ _ _ _ _ _ _ q=>le_int q
def XX:EC X (aM .Gt) (Kv λi j=> .bl (decide<|j<i)):=Rz λ_ _ _ _ _ _ _ q=>gt_int q
def XY:EC X (aM .GtE) (Kv λi j=> .bl (decide<|j<=i)):=Rz λ_ _ _ _ _ _ _ q=>ge_int q
def Oc(b:je){d:dz}(h:autoParam (d≠ .In) Bb)(g:autoParam (d≠ .NotIn) Bb):dH d b=U:=by
 have e:(d==dz.In)=U:=by cases d<;>first|rfl|exact absurd H h
 have f:(d==CmpOp.NotIn)=U:=by cases d<;>first|rfl|exact absurd H g
 cases b<;>simp[dH,e,f]
def Ro{e:dz}{r:R2}(o:EC X (aM e) r)(i:PE X a l)(j:PE X b tb)(k:dH e b=U):PE X (.Compare a [e] [b] m) (M5 r l tb):=by intro d s z T Q O h;exact wpAny_Compare1 (V9 i j O h λv u w x y f g p t q=>o d w z f x y v u Q g p t q) k
def Xj(t:TE):TT:=λe T Q=>t e T λx d=> ∃k,x= .bl k/\Q k d
def Q7{g:dz}{r:R2}(E:EC X (aM g) r)(A:PE X a l)(B:PE X b tb)(C:dH g b=ZB):PT X (.Compare a [g] [b] m) (Xj<|M5 r l tb):=by intro d s i H Q I h;refine wpAny_isTrue_Compare1 (BI (A d s i H _ I h) λv s1 f=>?_) C;obtain⟨x,j,q,G,L⟩:=f;refine BI (B d s1 i j _ q L) λu N f=>?_;obtain⟨y,o,t,J,O⟩:=f;refine BI (E d N i o x y v u _ t G J O) λc U f=>?_;obtain⟨z,p,w,M,k,e,T⟩:=f;subst e;cases M;exact wD ⟨p,w,T⟩
def M0(r i:R2)(l tb n:TE):TE:=λd T Q=>l d T λx f=>tb d f λy g=>r x y g λz e=> ∃k,z= .bl k/\
 (if k=J then n d e λj h=>i y j h Q else Q (.bl U) e)
def aep{j o:dz}{r w:R2}(Y:EC X (aM j) r)(G:EC X (aM o) w)(J:PE X a l)(M:PE X b tb)(N:PE X c n)
  (U:autoParam (lastMarks [j,o] [b,c]=ZB) uam):PE X (.Compare a [j,o] [b,c] m) (M0 r w l tb n):=by
 intro f s i H Q I h;refine Compare_chain (BI (J f s i H _ I h) λv s1 g=>?_) U;obtain⟨x,B,L,K,D⟩:=g;refine chain_link<|BI (M f s1 i B _ L D) λu R g=>?_;obtain⟨y,C,O,A,F⟩:=g;refine BI (Y f R i C x y v u _ O K A F) λd S g=>?_;obtain⟨z,p,q,P,k,e,t⟩:=g;subst e;cases P;refine wD ?_
 cases k with
 |false=>exact ite_ff ⟨.bl ZB,p,q,rfl,t⟩
 |true=>exact ite_tt<|chain_last (BI (N f S i p _ q t) λw' s4 a'=>by obtain⟨z',E,T,r4,q4⟩:=a';exact G f s4 i E y z' u w' Q T A r4 q4)
def EH:(sizeLine:Nat)<2^63:=by rw[jY];decide
def acv:EC X (b3 .Add) (λx y T Q=> ∃i j,x= .str i/\y= .str j/\i.length+j.length<=sizeLine/\Q (.str<|i++j) T):=by intro d s o T x y v u Q O f g h;obtain⟨i,j,rfl,rfl,e,q⟩:=h;obtain⟨t,rfl⟩:=f;obtain⟨t',rfl⟩:=g;exact add_str (λt' k=>⟨.str<|i++j,T,O.tok _,⟨_,rfl⟩,q⟩) e
def qz{x:V}{d:ku}(r:Vals [x] d): ∃u,d=[u]/\RelV x u:=by
 cases r with
 |cons e f=>cases f;exact⟨_,rfl,e⟩
def zq{x y:V}{d:ku}(r:Vals [x,y] d): ∃u e,d=[u,e]/\RelV x u/\RelV y e:=by
 cases r with
 |cons f g=>
  cases g with
  |cons h i=>cases i;exact⟨_,_,rfl,f,h⟩
def Pz:lr X (.builtin "abs") (λe T Q=> ∃i,e=[.int i]/\Q (.int (if i<0 then -i else i)) T):=by intro d s j T e g Q O r h;obtain⟨i,rfl,q⟩:=h;obtain⟨u,rfl,t,rfl⟩:=qz r;exact SI λu f=>⟨.int (if i<0 then -i else i),T,O.tok _,⟨_,rfl⟩,q⟩
def adg(g:X.calm=J):lr X (.builtin "max") (λf T Q=> ∃i j,f=[.int i,.int j]/\Q (.int (if j>i then j else i)) T):=by
 intro e s y T f w Q O r h;obtain⟨i,j,rfl,q⟩:=h;obtain⟨u,x,rfl,⟨t,rfl⟩,⟨p,rfl⟩⟩:=zq r;refine max_two_ints (O.ok.hd g) λo v k=>⟨_,T,O.kept k,?_,q⟩
 by_cases d:j>i
 .rw[jl d,jl d];exact⟨_,rfl⟩
 .rw[jv d,jv d];exact⟨_,rfl⟩
def adf(g:X.calm=J):lr X (.builtin "min") (λf T Q=> ∃i j,f=[.int i,.int j]/\Q (.int (if j<i then j else i)) T):=by
 intro e s y T f w Q O r h;obtain⟨i,j,rfl,q⟩:=h;obtain⟨u,x,rfl,⟨t,rfl⟩,⟨p,rfl⟩⟩:=zq r;refine min_two_ints (O.ok.hd g) λo v k=>⟨_,T,O.kept k,?_,q⟩
 by_cases d:j<i
 .rw[jl d,jl d];exact⟨_,rfl⟩
 .rw[jv d,jv d];exact⟨_,rfl⟩
def Dd:lr X (.type "int") (λd T Q=>(∃i,d=[.int i]/\Q (.int i) T)\/ ∃k,d=[.bl k]/\Q (.int (if k then 1 else 0)) T):=by
 intro e s j T d g Q O r h;rcases h with⟨i,rfl,q⟩|⟨k,rfl,q⟩
 .obtain⟨u,rfl,t,rfl⟩:=qz r;exact call_int_int ⟨.int i,T,O,⟨_,rfl⟩,q⟩
 .obtain⟨u,rfl,f⟩:=qz r;cases f;exact call_int_bool ⟨.int (if k then 1 else 0),T,O.tok _,⟨_,rfl⟩,q⟩
end
section
variable {a:jw}{w:jm}{A:jn}{E:jJ}{s:iZ}{K:ju}{x d C f:iW}{c:mz}{b:aG}{v:jg}
end
def IX.some_of{v:V}{o:Option jg}(r:IX (Y v) o): ∃u,o=Y u/\RelV v u:=by
 cases o with
 |none=>exact(show False from r).elim
 |some u=>exact⟨u,rfl,r⟩
section
variable {P:jw}{w:jm}{H e:Hp}{h c:jo}{a C d:iW}{fs b:List (aG×V)}
end
section
variable {X:Cx}{b:jK}{c:St}{H:Hp}{s:iZ}{a C d:iW}{fs:List (aG×V)}{f:aG}{v:V}{A:jn}{E:jJ}
end
section
variable {X:Cx}{o e a:je}{f:aG}{c b h:bO}{g d:TE}
end
section
variable {X:Cx}{a:jK}{d:St}{H:Hp}{s:iZ}{A:jn}{E:jJ}{Q:jJ}{c:jg}{b:Bool}
end
structure BN(k:Nat)(A:jn):Prop where
 hd:A.handled=X0
 dp:A.depth+3*k+5<recursionLimit
 un:A.units+16*k+200<aQ
 gd:A.guards=XV []:=by rfl
def BN.mono{j k:Nat}{A:jn}(r:BN k A)(h:j<=k):BN j A:=⟨r.hd,by have:=r.dp;lia,by have:=r.un;lia,r.gd⟩
def BN.deeper{k:Nat}{A:jn}(r:BN (k+1) A)(a:ek):BN k (A.deeper a):=
 ⟨r.hd,by have:=r.dp;show A.depth+1+3*k+5<_;lia,by have:=r.un;show A.units+3+16*k+200<_;lia,r.gd⟩
def BN.depth{k:Nat}{A:jn}(r:BN k A):A.depth<recursionLimit:=by have:=r.dp;lia
noncomputable def Zi:TA:=λ_ T Q=>Q [] T
noncomputable def Xp(d:TE)(e:TA):TA:=λa T Q=>d a T λx b=>e a b λf c=>Q (x::f) c
section
variable {X:Cx}{e:je}{c:kL}{d:TE}{t:TA}{a:bO}
def pZ:PA X [] Zi:=λ_ _ _ _ T Q O h=>Hw ⟨[],T,O,.nil,h⟩
def mw(l:PE X e d)(m:PA X c t)(n:autoParam (ac (e::c) X.env=(U,aT e X.env)::ac c X.env) AQ):PA X (e::c) (Xp d t):=by intro a b s f T Q O h;rw[n];show ah _ _ (lf ((U,aT e X.env)::aH a (ac c X.env))) _ _ s;refine D9<|BI (l b s f T _ O h) λu s1 N=>?_;obtain⟨x,g,j,q,o⟩:=N;exact BI (m a b s1 f g _ j o) λy w ⟨v,i,k,r,p⟩=>⟨x::v,i,k,.cons q r,p⟩
noncomputable def Zf(t:TA):TE:=λg T Q=>t g T λf b=>A7 f<=sizeLine/\ ∀p,b p=C->Q (.ref p) (upd b p<|.tup f)
noncomputable def Zj(t:TA):TE:=λg T Q=>t g T λf b=>A7 f<=sizeLine/\ ∀p,b p=C->Q (.ref p) (upd b p<|.lst f)
def NP{x1}(h:PA X c t):PE X (.Tuple c x1 a) (Zf t):=by intro f s n T Q O k;refine wpAny_Tuple_spliced<|BI (h a f s n T _ O k) λl s1 ⟨m,g,i,r,z,q⟩=>⟨by rw[<-r.length];exact z,?_⟩;have j:g s1.heap.objs.size=C:=i.hok.fresh<|kh _;refine⟨.ref s1.heap.objs.size,upd g s1.heap.objs.size<|.tup m,i.laid (t':=s1.toks) (λb u e=>kg _ e) (kh _) ?_,rfl,q _ j⟩;exact⟨z,l,r,⟨_,kG _ rfl,rfl,_,rfl⟩⟩
def Vb(h:PA X c t):PE X (.List c a) (Zj t):=by intro f s n T Q O k;refine wpAny_List_spliced<|BI (h a f s n T _ O k) λl s1 ⟨m,g,i,r,z,q⟩=>⟨by rw[<-r.length];exact z,?_⟩;have j:g s1.heap.objs.size=C:=i.hok.fresh<|kh _;refine⟨.ref s1.heap.objs.size,upd g s1.heap.objs.size<|.lst m,i.laid (t':=s1.toks) (λb u e=>kg _ e) (kh _) ?_,rfl,q _ j⟩;exact⟨z,l,0,r,kG _ rfl⟩
end
abbrev Sp:=List V->Hp->VK->XK->Prop
abbrev KD:=List ek->Hp->iZ->XK->jg->iZ->Prop
structure KC(P:jw)(w:jm)(K:ju)(mg:mz)(base:jo)(A:jn)(outer:List ek)(s:iZ)(H:Hp):Prop where
 frames:A.frames=XV outer
 mod:Mod K mg base
 bs: ∀b o,base.get? b=XV o->s.heap.get? b=XV o/\H b=X0
 bsz:base.objs.size<=s.heap.objs.size
 GH:s.heap.FunFrames base outer
 frf: ∀b∈K2 outer,H b=X0
 hok:Fd P w H s.heap
 bare:fg s.gens
def CE(a:List ek)(P:jw)(w:jm)(T:Hp)(s:iZ)(Q:VK)(u:jg)(b:iZ):Prop:=
 ∃v c,b.os=s.os/\fg b.gens/\Un (K2 a) [] T c s.heap b.heap/\Fd P w c b.heap/\RelV v u/\Q v c
def CR(CX:KD)(a:List ek)(P:jw)(w:jm)(T:Hp)(s:iZ)(Q:VK)(E:XK)(r:mu)(b:iZ):Prop:=
 match r with
 | .ok (.ret u)=>CE a P w T s Q u b
 | .ok _=>False
 | .error e=>CX a T s E e b
structure EZ(P:jw)(w:jm)(K:ju)(mg:mz)(base:jo)(CX:KD)(k:Nat)(f:iW)(fd:mV)(ps:jq)(sp:Sp):Prop where
 len: ∀vs H Q E,sp vs H Q E->A7 vs=A7 ps
 run: ∀(A:jn) (outer:List ek) (s:iZ) (H:Hp) (args:Args) (us:ku) (vs:List V) (Q:VK) (E:XK),BN k A->KC P w K mg base A outer s H->gr s fd args (ps.zip us)->Vals vs us->sp vs H Q E->
  cC (aj P w) A (.call (.ref f) args) (CR CX outer P w H s Q E) s
def EZ.mono{P:jw}{w:jm}{K:ju}{e:mz}{base:jo}{c:KD}{j k:Nat}{f:iW}{d:mV}{g:jq}{i:Sp}(F:EZ P w K e base c j f d g i)(h:j<=k):
  EZ P w K e base c k f d g i:=⟨F.len,λA a s T b m n Q E l=>F.run A a s T b m n Q E<|l.mono h⟩
section
variable {X:Cx}{a:jK}{c:St}{H:Hp}{s e:iZ}
def Inv.MS(T:Inv X a c H s):KC X.prog X.w X.K X.mg X.base X.A X.stack s H:=
 ⟨T.ok.frames,T.ok.mod,T.bs,mC T.ok.bsz T.sz,T.stack,T.KG,T.hok,T.bare⟩
def Inv.after{Q:VK}{u:jg}(T:Inv X a c H s)(h:CE X.stack X.prog X.w H s Q u e):EP X a c Q u e:=by obtain⟨v,j,os,f,un,i,r,q⟩:=h;obtain⟨l,g,d,t,k⟩:=e;obtain rfl:k=s.os:=os;exact⟨v,j,T.call (h':=l) (g':=g) (d':=d) (t':=t) (ch:=[]) un i f λb z=>absurd z<|by simp,r,q⟩
end
noncomputable def S9(c:Sp)(b:List V)(E:XK)(t:TA):TE:=λe T Q=>t e T λd a=>c (d++b) a Q E
def Binds(K:ju)(d:mV)(c:jq)(b:ku):Prop:=
 ∀(s:iZ) (a:ku),K.In s.heap->(a++b).length=A7 c->gr s d ⟨a,[]⟩ (c.zip<|a++b)
def Binds.all{K:ju}{c:mV}{b:jq}(h: ∀a:List jg,A7 a=A7 b->fJ c ⟨a,[]⟩=pure (b.zip a)):Binds K c b []:=λs a _ d=>by rw[sf] at d ⊢;exact .of_eq<|h a d
def Jd(c:KD)(X:Cx)(E:XK):Prop:= ∀(a:jK) (d:St) (T:Hp) (s:iZ) (e:jg) (b:iZ),Inv X a d T s->c X.stack T s E e b->X.xe e b
section
variable {X:Cx}{l:KD}{k:Nat}{f C:iW}{j:mV}{d:jq}{i:Sp}{c:List V}{b:ku}{E:XK}{x m:aG}{p a n:bO}{e o:je}{g:kL}{v:TE}{t:TA}
def Nc{q:jK}{L:St}{H:Hp}{s:iZ}{Q:VK}{y:ku}{B:List V}(F:EZ X.prog X.w X.K X.mg X.base l k f j d i)(M:BN k X.A)(G:Binds X.K j d b)(hd:Vals c b)(N:Jd l X E)
  (I:Inv X q L H s)(r:Vals B y)(h:i (B++c) H Q E):ah (aj X.prog X.w) X.A (call (.ref f) y) (EP X q L Q) X.xe s:=by
 have O:Vals (B++c) (y++b):=r.append hd;have J:(y++b).length=d.length:=by rw[<-O.length];exact F.len _ _ _ _ h
 refine yR<|qx (F.run X.A X.stack s H ⟨y,[]⟩ (y++b) (B++c) Q E M I.MS (G s y I.HI J) O h) λr U z=>?_
 cases r with
 |error e=>exact N q L H s e U I z
 |ok T=>
  cases T with
  |ret u=>exact I.after z
  |next=>exact ba z
  |brk=>exact ba z
  |cont=>exact ba z
def Rq(F:EZ X.prog X.w X.K X.mg X.base l k f j d i)(J:BN k X.A)(T:Gl X x)(G:X.mg x=Y (.ref f))(hk:cG X.K (.ref f)=YP)(L:Binds X.K j d b)(hd:Vals c b)(M:Jd l X E)
  (B:PA X (e::g) t)(N:autoParam ((x==("__debug__":aG))=ZB) Bb)(O:autoParam (ac (e::g) X.env=(ZB,aT e X.env)::ac g X.env) AQ)(z:autoParam ((aH a<|ac g X.env).any (·.1)=ZB) AQ):
  PE X (.Call (.Name x p) (e::g) [] a) (S9 i c E t):=by
 intro u s U H Q I h;refine vR<|zZ I T G ?_ N;refine hU (h₀:=X.base) I.ok.mod.kin hk (BI (B a u s U H _ I h) λus s1 ⟨vs,Y',y,r,q⟩=>⟨y.HI,?_⟩) O z;exact Nc F J L hd M y r q
end
section
variable {X:Cx}{w:KD}{k:Nat}{f C:iW}{s:mV}{l q:jq}{j:Sp}{E:XK}{x m:aG}{p c b a:bO}{e o:je}{u:kL}{v:List cM}{h i:TE}{t d:TA}{n:Option aG}
variable {g:List jg->List jg->List jg}{r:List V->List V->List V}
end
structure AN(N P:jq)(sc:jQ):Prop where
 kind:sc.kind= .function
 co:sc.isCoroutine=ZB
 gen:sc.isGenerator=ZB
 nd:N.Nodup
 pre:N.take P.length=P
 par: ∀x∈P,sc.names.lookup x=XV .local\/sc.names.lookup x=XV .cell
 nofree: ∀y∈sc.names,y.2≠ .free
theorem De{kindOf:aG->Option dU}{x:aG}: ∀{binds:List (aG×jg)} {m:mz},(∀v,(x,v)∉binds)->j2 kindOf binds m x=m x
 |[],_,_=>rfl
 |(n,v)::r,m,h=>by
  unfold j2;rw[De λw a=>h w<|jZ _ a];split
  .have:x≠n:=by rintro rfl;exact h v jW
   simp[this]
  .rfl
theorem Dg{kindOf:aG->Option dU}{x:aG}: ∀{binds:List (aG×jg)} {m:mz},(∀v,(x,v)∉binds)->j3 kindOf binds m x=m x
 |[],_,_=>rfl
 |(n,v)::r,m,h=>by
  unfold j3;rw[Dg λw a=>h w<|jZ _ a];split
  .rfl
  .have:x≠n:=by rintro rfl;exact h v jW
   simp[this]
theorem Df{kindOf:aG->Option dU}{x:aG}{v:jg}: ∀{P:jq} {a:ku} {i:Nat} {m:mz},P.Nodup->P[i]?=Y x->a[i]?=Y v->kindOf x=Y .local->
  j2 kindOf (P.zip a) m x=Y v
 |[],_,_,_,_,h,_,_=>by simp at h
 |_::_,[],_,_,_,_,h,_=>by simp at h
 |p::P,w::a,0,m,c,h1,b,hk=>by simp at h1 b;subst h1;subst b;show j2 kindOf ((p,w)::P.zip a) m p=_;unfold j2;rw[De λv hv=>(yT.mp c).1 (D8 hv).1,jl hk];simp
 |p::P,w::a,i+1,m,c,h1,b,hk=>by show j2 kindOf ((p,w)::P.zip a) m x=_;unfold j2;exact Df (i:=i) (yT.mp c).2 (by simpa using h1) (by simpa using b) hk
theorem Dh{kindOf:aG->Option dU}{x:aG}{v:jg}: ∀{P:jq} {a:ku} {i:Nat} {m:mz},P.Nodup->P[i]?=Y x->a[i]?=Y v->kindOf x≠Y .local->
  j3 kindOf (P.zip a) m x=Y v
 |[],_,_,_,_,h,_,_=>by simp at h
 |_::_,[],_,_,_,_,h,_=>by simp at h
 |p::P,w::a,0,m,c,h1,b,hk=>by simp at h1 b;subst h1;subst b;show j3 kindOf ((p,w)::P.zip a) m p=_;unfold j3;rw[Dg λv hv=>(yT.mp c).1 (D8 hv).1,jv hk];simp
 |p::P,w::a,i+1,m,c,h1,b,hk=>by show j3 kindOf ((p,w)::P.zip a) m x=_;unfold j3;exact Dh (i:=i) (yT.mp c).2 (by simpa using h1) (by simpa using b) hk
noncomputable def nY(N:jq)(vs:List V):St:=vs.map Y++am (A7 N-A7 vs) C
noncomputable def qp(CX:KD)(P:jw)(w:jm)(K:ju)(c:mz)(base:jo)(N:jq)(qual:aG)(scope:jQ)(f:iW)(cd:jg)(A:jn)(a:List ek)(s:iZ)(T:Hp)(E:XK):Cx where
 prog:=P
 w:=w
 K:=K
 mg:=c
 base:=base
 A:=A.deeper<|aY qual scope s.heap.objs.size f cd
 N:=N
 s₀:=s
 H₀:=T
 env:=aY qual scope s.heap.objs.size f cd
 outer:=a
 stack:=aY qual scope s.heap.objs.size f cd::a
 ex:=[]
 calm:=J
 fn:=λ_=>J
 pn:=[]
 xe:=λe h=>ah (aj P w) (A.deeper<|aY qual scope s.heap.objs.size f cd) (leaving (aY qual scope s.heap.objs.size f cd) e) (λ_ b=>CX a T s E e b) (λg b=>CX a T s E g b) h
def GB{a:jQ}{n:Nat}{x:aG}(h:a.names.lookup x=Y .cell): ∃c,(bz n a.names []).lookup x=Y c:=by have q:=D7 a.names n []<|.inl h;exact MF.mp q
def CT{Q:KD}{P:jw}{w:jm}{K:ju}{L:mz}{base:jo}{N m:jq}{qual:aG}{scope:jQ}{f:iW}{cd:jg}{A:jn}{d:List ek}{s s1:iZ}{H:Hp}{E:XK}{O:ku}{o:List V}
  (S:AN N m scope)(hd:A.handled=X0)(j:KC P w K L base A d s H)(Y:(A7 o)=A7 m)(r:Vals o O)
  (x:InCallC s s.heap.objs.size (j2 (aY qual scope s.heap.objs.size f cd).kindOf (m.zip O) λ_=>X0) (bz (s.heap.objs.size+1) scope.names []) (j3 (aY qual scope s.heap.objs.size f cd).kindOf (m.zip O) λ_=>X0) s1):
  Inv (qp Q P w K L base N qual scope f cd A d s H E) [] (nY N o) H s1:=by
 have M:(A7 m)<=(A7 N):=by have:=nE dq S.pre;rw[tL] at this;lia
 obtain⟨h1,D,rfl,hk⟩:=x.done;have I: ∀b:iW,b∉(qp Q P w K L base N qual scope f cd A d s H E).ex:=λb z=>absurd (show b∈([]:List iW) from z) (by simp)
 refine⟨⟨j.mod,S.kind,rfl,rfl,kh _,λy z c h1 g=>?_,λy l=>?_,λy c _ h=>?_,λ_=>hd,MD j.frames,.inr ⟨rfl,rfl⟩,λb z=>absurd z<|I b,j.bs,j.bsz,λb _ _=>I b,λb z=>absurd z<|I b,j.GH,j.frf⟩,
  rfl,j.bare,Un.kept hk,⟨_,x.toInCall.ns,λi y v h1 g U=>?_⟩,λy c h=>⟨_,x.cell y c h⟩,j.hok.fresh<|kh _,λy c h=>?_,λp t=>absurd (show p∈([]:List (iW×fy)) from t)<|by simp,j.hok.kept hk,?_⟩
 .exact O3 x.apart (tK h1) (tK g)
 .have l:scope.names.lookup y=XV .cell\/scope.names.lookup y=XV .free:=l;rcases l with l|l
  .exact GB l
  .exact absurd AM (S.nofree _ (tK l))
 .exact uH (x.above y c<|tK h)
 .have C:i<(A7 o):=by
   unfold nY at g;by_cases C:i<A7 o
   .exact C
   .rw[pN<|by simpa using C] at g;rw[D6] at g;split at g<;>cases g
  have G:o[i]?=XV v:=by
   unfold nY at g;rw[qw<|by simpa using C,ly] at g
   cases e:o[i]? with
   |none=>rw[e] at g;cases g
   |some a=>rw[e] at g;cases g;rfl
  obtain⟨u,T,J⟩:=r.get G
  have t:m[i]?=XV y:=by rw[<-S.pre,Hv<|by lia];exact h1
  have B:m.Nodup:=by rw[<-S.pre];exact S.nd.sublist<|yQ _ _
  refine⟨u,J,?_⟩;rcases S.par y (mB t) with k|k
  .exact .inl ⟨k,Df B t T k⟩
  .obtain⟨c,e⟩:=GB (n:=s.heap.objs.size+1) k;refine .inr ⟨.inl k,c,e,?_⟩;have q:=x.cell y c e;rw[Dh B t T (by show scope.names.lookup y≠_;rw[k];decide)] at q;exact q
 .exact j.hok.fresh (uH<|x.above y c<|tK h)
 .unfold nY;show _=A7 N;rw[nB,kn,Hu]
  lia
def TC{B:KD}{P:jw}{w:jm}{K:ju}{C:mz}{base:jo}{k:Nat}{f:iW}{j qual:aG}{c:bA}{d:List bc}{scope:jQ}{dV kV p pm l ct oc:jg}{an od:Option iW}
  {t6:ug}{N L:jq}{U:Sp}(lk:K.lookup f=XV ⟨oc,od,.func<|cz j qual c d scope dV kV p pm an l ct,t6⟩)(l7:eE K l qual=YP)(S:AN N L scope)
  (len: ∀g H Q E,U g H Q E->A7 g=A7 L)
  (m9: ∀(A:jn) (a:List ek) (s:iZ) (H:Hp) (g:List V) (Q:VK) (E:XK),BN k (A.deeper<|aY qual scope s.heap.objs.size f l)->U g H Q E->
   ∃t,IJ (qp B P w K C base N qual scope f l A a s H E) d t/\t {nx:=λ_ i=>Q .Ax i,rt:=Q} (nY N g) H):
  EZ P w K C base B (k+1) f (cz j qual c d scope dV kV p pm an l ct) L U:=by
 refine⟨len,λA a s H F us g Q E O z hb r D=>?_⟩;have hl:=len _ _ _ _ D;have Y:K.In s.heap:=z.mod.kin.keeps λb o e=>(z.bs b o e).1;have T:s.heap.NoLimit:=z.mod.nolimit.keeps λb o e=>(z.bs b o e).1
 have R: ∀y∈L.zip us,scope.names.lookup y.1=XV .local\/(scope.names.lookup y.1=XV .cell/\((bz (s.heap.objs.size+1) scope.names []).lookup y.1).isSome=YP):=λ⟨n,v⟩ hy=>by
  rcases S.par n (D8 hy).1 with q|q
  .exact .inl q
  .exact .inr ⟨q,D7 _ _ _ (.inl q)⟩
 refine Ht O.depth (Y _ _ lk) AM S.co S.gen AM (PySem.W.codeRec_of Y l7)<|hb _ _ _ _ ?_;refine MC S.kind R λX he s1 x=>?_;subst he;refine⟨T.keeps x.toInCall.keep,Hs ?_⟩;obtain⟨t,ht,hq⟩:=m9 A a s H g Q E (O.deeper _) D;have I:Inv (qp B P w K C base N qual scope f l A a s H E) [] (nY N g) H s1:=CT S O.hd z hl r x;refine nX (ht [] s1 (nY N g) H _ I hq) (λZ M m=>?_) λe M m=>m
 have fin: ∀{h:St} {i:Hp} {v:V} {u:jg},Inv (qp B P w K C base N qual scope f l A a s H E) [] h i M->RelV v u->Q v i->CE a P w H s Q u M:=
  λ{h i v u} J G q=>⟨v,i,J.os,J.bare,J.base,J.hok,G,q⟩
 cases Z with
 |ret u=>obtain⟨v,h,i,J,G,q⟩:=m;exact fin J G q
 |next=>obtain⟨h,i,J,q⟩:=m;exact fin (v:=V.Ax) (u:=ao) J AM q
 |brk=>obtain⟨_,_,_,q⟩:=m;exact ba q
 |cont=>obtain⟨_,_,_,q⟩:=m;exact ba q
section
variable {X:Cx}{x:aG}{p a:bO}{e:je}{b:kL}{t:TA}{id T:String}{r:List V->Hp->VK->Prop}
def N7(r:List V->Hp->VK->Prop)(t:TA):TE:=λf O Q=>t f O λd c=>r d c Q
def xG(k:lr X (.builtin id) r)(m:Gl X x)(n:X.mg x=C)(hv:aB x=Y (.builtin id))(j:PA X (e::b) t)(o:autoParam (x≠"__name__") Bb)(q:autoParam ((x==("__debug__":aG))=U) Bb)
  (l:autoParam (ac (e::b) X.env=(U,aT e X.env)::ac b X.env) AQ)(i:autoParam ((aH a<|ac b X.env).any (·.1)=U) AQ):PE X (.Call (.Name x p) (e::b) [] a) (N7 r t):=by
 intro c s d O Q N h;refine vR<|qd N m n hv ?_ o q;exact z9 (BI (j a c s d O _ N h) λw s1 M=>by obtain⟨y,f,g,v,u⟩:=M;exact k c s1 d f y w Q g v u) l i
def rG(k:lr X (.type T) r)(m:Gl X x)(n:X.mg x=C)(hv:aB x=Y (.type T))(j:PA X (e::b) t)(o:autoParam (x≠"__name__") Bb)(q:autoParam ((x==("__debug__":aG))=U) Bb)
  (l:autoParam (ac (e::b) X.env=(U,aT e X.env)::ac b X.env) AQ)(i:autoParam ((aH a<|ac b X.env).any (·.1)=U) AQ):PE X (.Call (.Name x p) (e::b) [] a) (N7 r t):=by
 intro c s d O Q N h;refine vR<|qd N m n hv ?_ o q;exact Ap (BI (j a c s d O _ N h) λw s1 M=>by obtain⟨y,f,g,v,u⟩:=M;exact k c s1 d f y w Q g v u) l i
end
end L2
namespace HT
section
open PySem.SeqAt
open PySem.AutoSeq1 (wpAny_loadPart')
open PySem.MeetsSeq PySem.MeetsSeq2 PySem.MeetsSeq3
end
section
variable {a:jw}{w:jm}{A:jn}{E:jJ}{s:iZ}
def YE{t b:iW}{d c:ku}{Q:jJ}(y:re s.heap t d.toArray)(x:re s.heap b c.toArray)(hv:d≠[])
  (h1:c=[]->Q (.ref t) s)(v:c≠[]->Q (.ref s.heap.objs.size) {s with heap:=s.heap.push {cls:= .type "tuple",data:= .seq (d++c).toArray}})
  (l:(A7 d)+A7 c<=sizeLine):ah (aj a w) A (b3 .Add (.ref t)<|.ref b) Q E s:=by
 obtain⟨⟨k,dd,f,u⟩,h,o,n,hd⟩:=id y;obtain⟨⟨z,r,data2,q⟩,j,m,p,g⟩:=id x;simp only at o hd m g;subst o hd m g;have e:d.toArray++c.toArray=(d++c).toArray:=by simp
 by_cases i:c=[]
 .exact D5 ⟨_,h,rfl⟩ ⟨_,j,rfl⟩ Hr Hq Ho Hn (Hm _ _)
   (tuple_addW1 t b d.toArray c.toArray n p dd r u q (by simpa using hv)<|by simp[i]) ⟨h,j,h1 i⟩
 .refine D5 ⟨_,h,rfl⟩ ⟨_,j,rfl⟩ Hr Hq Ho Hn (Hm _ _)
   (tuple_addW2 t b d.toArray c.toArray n p dd r u q (by simpa using hv) (by simpa using i)<|by rw[kd,kd];exact l) ⟨h,j,?_⟩
  rw[e];exact v i
noncomputable def BR(n d:Nat):Option Int->Nat
 |none=>d
 |some v=>if v<0 then(v+(n:Int)).toNat else min v.toNat n
theorem Wf(n d:Nat):BR n d C=d:=rfl
def XA(n d k:Nat):BR n d (Y (k:Int))=min k n:=by show(if(k:Int)<0 then((k:Int)+(n:Int)).toNat else min (k:Int).toNat n)=min k n;rw[jv<|by lia,uw]
def UB(n d:Nat)(hd:d<=n)(o:Option Int):BR n d o<=n:=by
 cases o with
 |none=>exact hd
 |some v=>
  show(if v<0 then(v+(n:Int)).toNat else min v.toNat n)<=n;by_cases hv:v<0
  .rw[jl hv];lia
  .rw[jv hv];exact Nat.min_le_right _ _
def Kc(v:Int)(n d:Nat):(if v<0 then max (v+(n:Int)) 0 else min v (n:Int))=((BR n d (Y v):Nat):Int):=by
 show(if v<0 then max (v+(n:Int)) 0 else min v (n:Int))=(((if v<0 then(v+(n:Int)).toNat else min v.toNat n):Nat):Int)
 by_cases hv:v<0
 .simp only[jl hv];lia
 .simp only[jv hv];lia
def acE(lo b:Option Int)(n:Nat):dc lo b 1 (n:Int)=(((BR n 0 lo:Nat):Int),((BR n n b:Nat):Int)):=by
 have h1: ¬((1:Int)<0):=by lia
 unfold dc;simp only[h1,kB];refine Prod.ext ?_ ?_
 .cases lo with
  |none=>rfl
  |some v=>exact Kc v n 0
 .cases b with
  |none=>rfl
  |some v=>exact Kc v n n
def abY(i j:Nat):cg (i:Int) (j:Int) 1=j-i:=by
 unfold cg;have h1:(1:Int)>0:=by lia
 simp only[h1,kO,Int.ediv_one];split<;>lia
def Az{v:jg}{o:Option Int}{Q:Option Int->iZ->Prop}(p:eG v o)(h:Q o s):ah (aj a w) A (wL v) Q E s:=by
 cases p with
 |none=>exact D0 h
 |int i t=>exact slicePart_int h
def rC{g:iW}{d e:jg}{lo b:Option Int}{n:Nat}{Q:Int×Int×Nat->iZ->Prop}(i:s.heap.IsSliceOf g d e .none)(j:eG d lo)(k:eG e b)
  (h:Q (((BR n 0 lo:Nat):Int),1,BR n n b-BR n 0 lo) s):ah (aj a w) A (fB (.ref g)<|pure (n:Int)) Q E s:=by
 obtain⟨os,f,l,c⟩:=id i;unfold fB wP;refine iX<|iX<|pM f c (x:=d) H<|iX<|pM f c (x:=e) H<|iX<|pM f c (x:= .none) H<|jd ?_;refine iX<|D0 ?_;show ah _ _ (if((1:Int)==0)=J then _ else _) _ _ s;rw[jv<|by decide];refine iX<|Az j<|iX<|Az k<|iX<|jd ?_;show ah _ _ (match dc lo b 1 (n:Int) with|(lo,b)=>pure (lo,(1:Int),cg lo b 1)) _ _ s;rw[acE lo b n];show ah _ _ (pure (((BR n 0 lo:Nat):Int),(1:Int),cg ((BR n 0 lo:Nat):Int) ((BR n n b:Nat):Int) 1)) _ _ s;rw[abY];exact jd h
def aee(b:nv)(i k:Nat):((au k).filterMap λ(m:Nat)=>b[((i:Int)+(m:Int)*1).toNat]?).toArray=((b.toList.drop i).take k).toArray:=by
 have e:(λ(m:Nat)=>b[((i:Int)+(m:Int)*1).toNat]?)=λm=>b[i+m]?:=by
  funext m;have:((i:Int)+(m:Int)*1).toNat=i+m:=by lia
  rw[this]
 rw[e];have:=pick_run b i k;rw[k7] at this;have c:((λx=>b[x]?)∘λx=>i+x)=λm=>b[i+m]?:=rfl;rw[c] at this;rw[this]
def acb{t f:iW}{b:nv}{i j:jg}{lo c:Option Int}{Q:jJ}(d:re s.heap t b)(g:s.heap.IsSliceOf f i j .none)(r:eG i lo)(u:eG j c)
  (o: ¬(BR b.size 0 lo=0/\BR b.size b.size c=b.size))
  (h:Q (.ref s.heap.objs.size) {s with heap:=s.heap.push {cls:= .type "tuple",data:= .seq ((b.toList.drop<|BR b.size 0 lo).take<|BR b.size b.size c-BR b.size 0 lo).toArray}})
  (n:b.size<=sizeLine):ah (aj a w) A (el (.ref t)<|.ref f) Q E s:=by
 have e:sizeOk (.seq ((b.toList.drop<|BR b.size 0 lo).take<|BR b.size b.size c-BR b.size 0 lo).toArray):=by show((b.toList.drop<|BR b.size 0 lo).take<|BR b.size b.size c-BR b.size 0 lo).toArray.size<=sizeLine;rw[kd,tL,ef,lh];omega
 have y:BR b.size b.size c<=b.size:=UB _ _ (kh _) c;obtain⟨os,v,l,x⟩:=id g;have p:s.TypeIs (.ref f) "slice":=⟨os,v,l⟩
 unfold el
 try with_reducible refine mv ?_
 first|refine iX (jd ?_)|skip
 refine iX<|ul d.typeIs (by decide) ?_
 refine iX (vQ (name:=bn "__getitem__") d.typeIs BH
  (nW BH d.typeIs MB ?_<|te _ _))
 show ah _ _ (c8 (.ref t)>>=_) _ _ s;refine iX<|NR d ?_;refine iX<|uv p ?_;rw[jl<|by decide];refine iX<|rC g r u ?_
 have k: ¬((((BR b.size 0 lo:Nat):Int)==0&&(1:Int)==1&&(BR b.size b.size c-BR b.size 0 lo)==b.size)=J):=by intro q;rw[mP,mP] at q;have z:((BR b.size 0 lo:Nat):Int)=0:=vP q.1.1;have B:BR b.size b.size c-BR b.size 0 lo=b.size:=vP q.2;exact o ⟨by omega,by omega⟩
 show ah _ _ (if(((BR b.size 0 lo:Nat):Int)==0&&(1:Int)==1&&(BR b.size b.size c-BR b.size 0 lo)==b.size)=J then _ else _) _ _ s;rw[jv k,aee]
 first
  |exact iX (m:=bo _)<|nV (jd ⟨_,rfl,jd h⟩) e
  |exact iX (m:=bo _)<|nV (iX<|jd<|jd ⟨_,rfl,jd h⟩) e
  |exact iX<|iX (m:=bo _)<|nV (jd<|jd ⟨_,rfl,jd h⟩) e
  |exact iX<|iX (m:=bo _)<|nV (jd ⟨_,rfl,jd h⟩) e
end
end HT
namespace L2
abbrev TO:=St->Hp->(Option Int->Hp->Prop)->Prop
def PO(X:Cx)(e:Option Expr)(t:TO):Prop:=
 ∀(a:jK) (s:iZ) (b:St) (T:Hp) (Q:Option Int->Hp->Prop),Inv X a b T s->t b T Q->
  ah (aj X.prog X.w) X.A (evalPart e X.env) (λu c=> ∃o H',Inv X a b H' c/\eG u o/\Q o H') X.xe s
noncomputable def Qr:TO:=λ_ T Q=>Q C T
def Xk(t:TE):TO:=λb T Q=>t b T λx a=> ∃i,x= .int i/\Q (Y i) a
section
variable {X:Cx}{e:je}{d:TE}{lo c:Option Expr}{f g:TO}{k j:bO}
def Rf:PO X C Qr:=by intro a s b T Q O h;rw[Is];exact jd ⟨C,T,O,.none,h⟩
def Rc(h:PE X e d):PO X (Y e) (Xk d):=by intro a s p T Q O m;rw[evalPart_some];refine BI (h a s p T _ O m) λu s1 N=>?_;obtain⟨x,b,l,o,n⟩:=N;obtain⟨i,rfl,q⟩:=n;obtain⟨t,rfl⟩:=o;exact⟨Y i,b,l,.int i t,q⟩
def Nx(X:Cx)(r:V->Option Int->Option Int->Hp->VK->Prop):Prop:=
 ∀(a:jK) (s:iZ) (l:St) (O:Hp) (x:V) (v h i:jg) (lo c:Option Int) (b:iW) (Q:VK),Inv X a l O s->RelV x v->s.heap.IsSliceOf b h i .none->eG h lo->eG i c->r x lo c O Q->
  ∃T id,g7 (.type T) "__getitem__"=pure (Y<|.builtin id)/\s.TypeIs v T/\ah (aj X.prog X.w) X.A (el v<|.ref b) (EP X a l Q) X.xe s
def tSl(r:V->Option Int->Option Int->Hp->VK->Prop)(d:TE)(f g:TO):TE:=λa T Q=>d a T λx b=>f a b λl h=>g a h λu i=>r x l u i Q
def aek{r:V->Option Int->Option Int->Hp->VK->Prop}(M:Nx X r)(O:PE X e d)(J:PO X lo f)(U:PO X c g):PE X (.Subscript e (.Slice lo c C j) k) (tSl r d f g):=by intro a s m H Q I h;refine Subscript_<|BI (O a s m H _ I h) λv s1 a'=>?_;obtain⟨x,t,z,r1,q1⟩:=a';refine wpAny_Slice<|BI (J a s1 m t _ z q1) λn s2 ⟨l,y,B,Y',q2⟩=>BI (U a s2 m y _ B q2) λo i a'=>?_;obtain⟨u,p,C',pu,q3⟩:=a';rw[Is];refine jd ?_;have E:Inv X a m p {i with heap:=i.heap.push {cls:= .type "slice",data:= .fields #[n,o,.none]}}:=C'.kept (t':=i.toks) λb D q=>kg _ q;obtain⟨T,id,L,N,G⟩:=M a {i with heap:=i.heap.push {cls:= .type "slice",data:= .fields #[n,o,.none]}} m p x v n o l u i.heap.objs.size Q E r1 (Heap.IsSliceOf.new ..) Y' pu q3;show ah (aj X.prog X.w) X.A (iJ e (.Slice lo c C j) v<|.ref i.heap.objs.size) (EP X a m Q) X.xe {i with heap:=i.heap.push {cls:= .type "slice",data:= .fields #[n,o,.none]}};exact tail_any (ops:=[.ref i.heap.objs.size,v]) N L G (by with_unfolding_all rfl)
noncomputable def Gz(a:List V)(lo c:Option Int):List V:=(a.drop<|HT.BR (A7 a) 0 lo).take<|HT.BR (A7 a) (A7 a) c-HT.BR (A7 a) 0 lo
def zH(a:List V)(lo c:Option Int):(Gz a lo c).length<=(A7 a):=by
 unfold Gz;rw[tL,ef]
 lia
def Z2(K:ju):V->Option Int->Option Int->Hp->VK->Prop:=λx lo c T Q=> ∃a b,x= .ref a/\IU K T a b/\
 ¬(HT.BR (A7 b) 0 lo=0/\HT.BR (A7 b) (A7 b) c=A7 b)/\ ∀p,T p=C->Q (.ref p) (upd T p<|.tup<|Gz b lo c)
def Ux:Nx X (Z2 X.K):=by
 intro t s T N x v L O lo c E Q G B u z A h;obtain⟨a,l,rfl,y,w,q⟩:=h;cases B;obtain⟨m,r,n,p⟩:=G.tuple y;have i:m.toArray.size=(A7 l):=by rw[kd];exact r.length.symm
 refine⟨"tuple",_,BH.lookup,n.typeIs,?_⟩;refine HT.acb n u z A (by rw[i];exact w) ?_ (by rw[i];exact p);rw[i];refine⟨.ref s.heap.objs.size,_,G.laid (t':=s.toks) (o:= .tup (Gz l lo c)) (λb M q=>kg _ q) (kh _) ?_,rfl,q _ (G.hok.fresh<|kh _)⟩;exact⟨mC (zH l lo c) p,_,(r.drop<|HT.BR (A7 l) 0 lo).take<|HT.BR (A7 l) (A7 l) c-HT.BR (A7 l) 0 lo,D4 _ _⟩
def XI(K:ju):R2:=λx y T Q=> ∃a b i h,x= .ref a/\y= .ref b/\IU K T a i/\IU K T b h/\i≠[]/\(A7 i)+A7 h<=sizeLine/\
 (h=[]->Q (.ref a) T)/\(h≠[]-> ∀p,T p=C->Q (.ref p) (upd T p<|.tup<|i++h))
def Vals.Ih{b:List V}{a:ku}(r:Vals b a):a=[]↔b=[]:=by
 cases r with
 |nil=>simp
 |cons _ _=>simp
def Ry:EC X (b3 .Add) (XI X.K):=by intro n s N H x y v u Q I L O h;obtain⟨a,b,T,G,rfl,rfl,p,r,t,m,C,E⟩:=h;cases L;cases O;obtain⟨A,l,B,_⟩:=I.tuple p;obtain⟨J,i,j,_⟩:=I.tuple r;refine HT.YE B j (λz=>t<|l.Ih.mp z) (λz=>⟨.ref a,H,I,rfl,C<|i.Ih.mp z⟩) (λz=>?_) (by rw[<-l.length,<-i.length];exact m);refine⟨.ref s.heap.objs.size,_,I.laid (t':=s.toks) (o:= .tup (T++G)) (λb M q=>kg _ q) (kh _) ?_,rfl,E (λw=>z<|i.Ih.mpr w) _ (I.hok.fresh<|kh _)⟩;exact⟨by rw[nB];exact m,_,l.append i,D4 _ _⟩
end
noncomputable def HY(n:Nat)(i:Int):Option Nat:=if 0<=i then(if i<n then Y i.toNat else C) else if -(n:Int)<=i then Y (i+n).toNat else C
noncomputable def J4{b:Type}(a:List b)(i:Int):Option b:=(HY (A7 a) i).bind λj=>a[j]?
def EM{n:Nat}{i:Int}{j:Nat}(h:HY n i=Y j):v7 i n=Y j/\j<n/\ -(n:Int)<=i/\i<n:=by
 unfold HY at h;by_cases a:0<=i
 .rw[jl a] at h;by_cases h1:i<n
  .rw[jl h1] at h;have e:i.toNat=j:=lj h;exact⟨by rw[Hl a h1,e],by lia,by lia,h1⟩
  .rw[jv h1] at h;cases h
 .rw[jv a] at h;by_cases h1: -(n:Int)<=i
  .rw[jl h1] at h;have e:(i+n).toNat=j:=lj h;exact⟨by rw[Hk (by lia) h1,e],by lia,h1,by lia⟩
  .rw[jv h1] at h;cases h
def Kk{b:Type}{a:List b}{i:Int}{v:b}(h:J4 a i=Y v): ∃j,v7 i (A7 a)=Y j/\a[j]?=Y v/\j<A7 a/\ -((A7 a):Int)<=i/\i<(A7 a):=by
 unfold J4 at h
 cases e:HY (A7 a) i with
 |none=>rw[e] at h;cases h
 |some j=>rw[e] at h;obtain⟨h1,c,d,f⟩:=EM e;exact⟨j,h1,h,c,d,f⟩
def Fj(b:je):Prop:= ∀o i,pc b U o i=operate [o,i] (el o i)
def NT(X:Cx)(r:R2):Prop:=
 ∀(b slice:je) (a:jK) (s:iZ) (c:St) (T:Hp) (x y:V) (v u:jg) (Q:VK),Inv X a c T s->RelV x v->RelV y u->r x y T Q->
  pc slice U v u=operate [v,u] (el v u)->ah (aj X.prog X.w) X.A (iJ b slice v u) (EP X a c Q) X.xe s
def MtR(X:Cx)(id:String)(r:V->List V->Hp->VK->Prop):Prop:=
 ∀(a:jK) (s:iZ) (d:St) (T:Hp) (x:V) (c:List V) (v:jg) (b:ku) (Q:VK),Inv X a d T s->RelV x v->Vals c b->r x c T Q->
  ah (aj X.prog X.w) X.A (call (.builtin id) (v::b)) (EP X a d Q) X.xe s
section
variable {X:Cx}{a b:je}{L tb:TE}{E:bO}
def Tn{r:R2}(i:NT X r)(f:PE X a L)(g:PE X b tb)(j:Fj b):PE X (.Subscript a b E) (M5 r L tb):=by intro c s n T Q O h;exact Subscript_<|V9 f g O h λv u m x y d e k l q=>i a b c m n d x y v u Q e k l q<|j _ _
def Z6(K:ju):R2:=λx y T Q=> ∃p c i v,x= .ref p/\y= .int i/\Gm K T p c/\J4 c i=Y v/\Q v T
def Z5(K:ju):R2:=λx y T Q=> ∃p c i v,x= .ref p/\y= .int i/\IU K T p c/\J4 c i=Y v/\Q v T
def RZ:NT X (Z6 X.K):=by
 intro g slice c s n H x y v u Q I G J h m;obtain⟨p,F,i,z,rfl,rfl,T,C,q⟩:=h;cases G;obtain⟨t,rfl⟩:=J;obtain⟨e,r,f,D⟩:=I.list T;obtain⟨j,h1,o,U,A,B⟩:=Kk C;obtain⟨w,k,N⟩:=r.get o;have O:=r.length;have Y:=EH;have fin:EP X c n Q w s:=⟨z,H,I,N,q⟩
 by_cases l:0<=i
 .have d:i.toNat=j:=by rw[Hl l B] at h1;exact lj h1
  exact item_listR f.isList l (by lia) (by rw[d];simpa using k) fin m
 .have d:(i+(e.toArray.size:Int)).toNat=j:=by rw[Hk (by lia) A] at h1;rw[kd,<-O];exact lj h1
  exact MA (x:=w) f.isList.typeIs u4.lookup
   (wpAny_getItem_list_neg (Q:=λr M=>r=w/\EP X c n Q r M) f.isList (by lia) (by rw[kd]<;>lia) (by lia) (by rw[d];simpa using k) ⟨rfl,fin⟩) m
def VC:NT X (Z5 X.K):=by
 intro d slice c s f H x y v u Q I B C h o;obtain⟨p,Y,i,z,rfl,rfl,n,l,q⟩:=h;cases B;obtain⟨t,rfl⟩:=C;obtain⟨A,r,e,U⟩:=I.tuple n;obtain⟨j,h1,k,G,J,M⟩:=Kk l;obtain⟨w,g,T⟩:=r.get k;have m:=r.length;have N:=EH;have fin:EP X c f Q w s:=⟨z,H,I,T,q⟩
 exact MA (x:=w) e.typeIs BH.lookup
  (getItem_tuple (j:=j) (Q:=λr O=>r=w/\EP X c f Q r O) e (by lia) (by lia) (by rw[kd,<-m];exact h1) (by simpa using g) ⟨rfl,fin⟩) o
def acA(c:ku)(n j:Nat)(u:jg):aL (·.setIfInBounds j u) {cls:= .type "list",data:= .seq c.toArray n}={cls:= .type "list",data:= .seq (c.set j u).toArray n}:=by simp[aL]
def Inv.lst{d:jK}{f:St}{T:Hp}{s:iZ}{p:iW}{xs:List V}(Q:Inv X d f T s)(h:T p=Y (.lst xs)):
  ∃(c:ku) (n:Nat),Vals xs c/\s.heap.get? p=Y {cls:= .type "list",data:= .seq c.toArray n}/\(A7 xs)<=sizeLine:=by
 obtain⟨z,c,n,r,e⟩:=Q.hok p _ h;exact⟨c,n,r,e,z⟩
def Inv.M9{d:jK}{l:St}{T:Hp}{s:iZ}{p:iW}{w j:List V}{g c:ku}{n i:Nat}{f:fy->fy}(Q:Inv X d l T s)(h:T p=Y (.lst w))
  (o:s.heap.get? p=Y {cls:= .type "list",data:= .seq g.toArray n})(k:f {cls:= .type "list",data:= .seq g.toArray n}={cls:= .type "list",data:= .seq c.toArray i})(r:Vals j c)(v:(A7 j)<=sizeLine)(t:Nat):
  Inv X d l (upd T p<|.lst j) {s with heap:=s.heap.update p f,toks:=t}:=by
 have e:(s.heap.update p f).get? p=Y {cls:= .type "list",data:= .seq c.toArray i}:=by rw[vO f o<|by rw[k]<;>rfl,k]
 refine Q.write (x:=p) (e:=p) (by rw[h];trivial) (.inl H) (λb u m q=>(yP _ _ (qy m)).trans q) ⟨_,e⟩ ?_;exact⟨v,c,i,r,e⟩
def XF:V->V->V->Hp->(Hp->Prop)->Prop:=λo i v T Q=> ∃p c k j,o= .ref p/\i= .int k/\T p=Y (.lst c)/\HY (A7 c) k=Y j/\Q (upd T p<|.lst<|c.set j v)
def adP:We X XF:=by
 intro d s T H o i v N M u Q I B A C h;obtain⟨p,O,k,j,rfl,rfl,x,y,q⟩:=h;cases B;obtain⟨t,rfl⟩:=A;obtain⟨c,n,r,f,z⟩:=I.lst x;obtain⟨h1,G,m,w⟩:=EM y;have e:=r.length;have J:=EH
 have g:Inv X d T (upd H p<|.lst<|O.set j v) {s with heap:=s.heap.update p (aL (·.setIfInBounds j u))}:=
  I.M9 x f (acA c n j u) (r.set C j) (by rw[ur];exact z) s.toks
 by_cases l:0<=k
 .have hk:k.toNat=j:=by rw[Hl l w] at h1;exact lj h1
  exact PySem.W.ki_setAt f l (by lia) (by rw[kd,<-e];exact w) (by rw[hk];exact⟨_,g,q⟩)
 .have hk:(k+(c.toArray.size:Int)).toNat=j:=by rw[Hk (by lia) m] at h1;rw[kd,<-e];exact lj h1
  exact PySem.W.ki_setBack f (by lia) (by rw[kd,<-e];exact m) (by lia) (by rw[hk];exact⟨_,g,q⟩)
def abC(lo c:Option Int)(n:Nat):(dL lo c C n).1=((HT.BR n 0 lo:Nat):Int)/\(dL lo c C n).2.1=((HT.BR n n c:Nat):Int)/\(dL lo c C n).2.2=1:=by
 refine⟨?_,?_,rfl⟩
 .cases lo with
  |none=>simp[dL,HT.BR]
  |some i=>
   simp only[dL,HT.BR,kv,show(1:Int)>0 by decide,kO];by_cases h:i<0
   .simp only[h,kO]<;>lia
   .simp only[h,kB]<;>lia
 .cases c with
  |none=>simp[dL,HT.BR]
  |some i=>
   simp only[dL,HT.BR,kv,show(1:Int)>0 by decide,kO];by_cases h:i<0
   .simp only[h,kO]<;>lia
   .simp only[h,kB]<;>lia
def aa0(c:ku)(lo d:Option Int):slicePick c.toArray lo d C=((c.drop<|HT.BR (A7 c) 0 lo).take<|HT.BR (A7 c) (A7 c) d-HT.BR (A7 c) 0 lo).toArray:=by obtain⟨h1,e,f⟩:=abC lo d c.toArray.size;unfold slicePick;rw[h1,e,f];simp only[sliceRange_one,pick_run,kd]<;>rfl
def Z3(K:ju):V->Option Int->Option Int->Hp->VK->Prop:=λx lo d T Q=> ∃a c,x= .ref a/\Gm K T a c/\ ∀p,T p=C->Q (.ref p) (upd T p<|.lst<|Gz c lo d)
def Qs:Nx X (Z3 X.K):=by intro g s z T x v w y lo e u Q O p i m n h;obtain⟨a,c,rfl,j,q⟩:=h;cases p;obtain⟨l,r,f,k⟩:=O.list j;have d:=r.length;refine⟨"list",_,u4.lookup,f.isList.typeIs,?_⟩;refine wpAny_getItem_list_slice f.isList i m n .none (by simp) ?_ (by rw[kd]<;>lia);rw[aa0,<-d];refine⟨.ref s.heap.objs.size,_,O.laid (t':=s.toks) (o:= .lst (Gz c lo e)) (λb t q=>kg _ q) (kh _) ?_,rfl,q _ (O.hok.fresh<|kh _)⟩;exact⟨mC (zH c lo e) k,_,0,(r.drop<|HT.BR c.length 0 lo).take<|HT.BR c.length c.length e-HT.BR c.length 0 lo,kG _ rfl⟩
noncomputable def TF:V->Bool
 | .Ax=>J
 | .bl _=>J
 | .int _=>J
 | .str _=>J
 |_=>U
noncomputable def eqV:V->V->Bool
 | .Ax,.Ax=>J
 | .bl a,.bl b=>a==b
 | .bl a,.int b=>(if a then 1 else 0)==b
 | .int a,.bl b=>a==(if b then 1 else 0)
 | .int a,.int b=>a==b
 | .str a,.str b=>a==b
 |_,_=>U
def mU{A:jn}{s:iZ}{y x:V}{u v:jg}(f:RelV y u)(c:RelV x v)(g:TF y=J)(e:TF x=J):SeqAt.EqAt A s u v (eqV y x):=by
 cases y with
 |Ax=>
  cases f
  cases x with
  |Ax=>cases c;exact gZ _
  |bl b=>cases c;exact acD b
  |int b=>obtain⟨t,rfl⟩:=c;exact ab9 b t
  |str b=>obtain⟨t,rfl⟩:=c;exact ab8 b t
  |_=>exact absurd (show U=J from e) kR
 |bl a=>
  cases f
  cases x with
  |Ax=>cases c;exact M2 a
  |bl b=>cases c;exact NE a b
  |int b=>obtain⟨t,rfl⟩:=c;exact No a b t
  |str b=>obtain⟨t,rfl⟩:=c;exact ad1 a b t
  |_=>exact absurd (show U=J from e) kR
 |int a=>
  obtain⟨d,rfl⟩:=f
  cases x with
  |Ax=>cases c;exact KE a d
  |bl b=>cases c;exact adE a d b
  |int b=>obtain⟨t,rfl⟩:=c;exact acG a d b t
  |str b=>obtain⟨t,rfl⟩:=c;exact gV a d b t
  |_=>exact absurd (show U=J from e) kR
 |str a=>
  obtain⟨d,rfl⟩:=f
  cases x with
  |Ax=>cases c;exact IR a d
  |bl b=>cases c;exact aco a d b
  |int b=>obtain⟨t,rfl⟩:=c;exact gO a d b t
  |str b=>obtain⟨t,rfl⟩:=c;exact aci a d b t
  |_=>exact absurd (show U=J from e) kR
 |_=>exact absurd (show U=J from g) kR
def yq:lr X (.builtin "len") (λk T Q=> ∃p d,k=[.ref p]/\(Gm X.K T p d\/IU X.K T p d)/\Q (.int d.length) T):=by
 intro j s t T k o Q O r h;obtain⟨p,d,rfl,e,q⟩:=h;obtain⟨u,rfl,m⟩:=qz r;cases m;have n:=EH;rcases e with e|e
 .obtain⟨f,i,g,l⟩:=O.list e;have c:=i.length;exact Calls.call_len_list g.isList (by simp only[kd]<;>lia) ⟨.int d.length,T,O.tok _,⟨s.toks+1,by rw[kd,c]⟩,q⟩
 .obtain⟨f,i,g,l⟩:=O.tuple e;have c:=i.length;exact len_tuple g (by simp only[kd]<;>lia) ⟨.int d.length,T,O.tok _,⟨s.toks+1,by rw[kd,c]⟩,q⟩
def yp:lr X (.type "list") (λB N Q=> ∃p i,B=[.ref p]/\(Gm X.K N p i\/IU X.K N p i)/\ ∀l,N l=C->Q (.ref l) (upd N l<|.lst i)):=by
 intro v s O N B T Q G r h;obtain⟨p,i,rfl,k,q⟩:=h;obtain⟨u,rfl,M⟩:=qz r;cases M
 have fin: ∀(c:ku),Vals i c->i.length<=sizeLine-> ∀(d:jo) (f:Nat),(∀b A,s.heap.get? b=Y A->d.get? b=Y A)->
   d.get? s.heap.objs.size=Y {cls:= .type "list",dict:=C,data:= .seq c.toArray f,slots:= #[]}->EP X v O Q (.ref s.heap.objs.size) {s with heap:=d}:=λc g m d f t e=>
  ⟨.ref s.heap.objs.size,_,G.laid (t':=s.toks) t (kh _) (show AR X.prog X.w _ d _ (.lst i) from⟨m,c,f,g,e⟩),rfl,q _ (G.hok.fresh<|kh _)⟩
 rcases k with k|k
 .obtain⟨c,g,z,m⟩:=G.list k;have j:=g.length;obtain⟨o,y,x,n,hd⟩:=z.isList;exact IN p (.inl H) y x hd (λd f t e=>fin c g m d f t e) (by simp only[kd]<;>omega)
 .obtain⟨c,g,z,m⟩:=G.tuple k;have j:=g.length;obtain⟨o,y,x,n,hd⟩:=z;exact IN p (.inr H) y x hd (λd f t e=>fin c g m d f t e) (by simp only[kd]<;>omega)
def wc:lr X (.type "tuple") (λv T Q=> ∃p f,v=[.ref p]/\((Gm X.K T p f/\ ∀l,T l=C->Q (.ref l) (upd T l<|.tup f))\/(IU X.K T p f/\Q (.ref p) T))):=by
 intro c s x T v B Q O r h;obtain⟨p,f,rfl,h⟩:=h;obtain⟨u,rfl,A⟩:=qz r;cases A;rcases h with⟨i,q⟩|⟨i,q⟩
 .obtain⟨d,k,j,t⟩:=O.list i;have n:=k.length;refine call_tuple_list j.isList (λg z=>?_) (by simp only[kd]<;>lia);have m:Inv X c x T {s with heap:=g}:=O.kept (t':=s.toks) z
  have y:Inv X c x (upd T g.objs.size<|.tup f) {s with heap:=g.push {cls:= .type "tuple",data:= .seq d.toArray}}:=
   m.laid (t':=s.toks) (λb o e=>kg _ e) (kh _) (show AR X.prog X.w _ _ _ (.tup f) from⟨t,d,k,D4 _ _⟩)
  exact⟨.ref g.objs.size,_,y,rfl,q _ (m.hok.fresh<|kh _)⟩
 .obtain⟨d,k,j,t⟩:=O.tuple i;exact call_tuple_same j ⟨.ref p,T,O,rfl,q⟩
def tyV(K:ju)(T:String)(x:V)(Q:Hp):Prop:=match x with
 | .str _=>T="str"
 | .int _=>T="int"
 | .ref p=>(T="list"/\ ∃d,Gm K Q p d)\/(T="tuple"/\ ∃o,K.lookup p=Y o/\o.cls= .type "tuple"/\o.dict=C)\/
   (T="dict"/\((∃c,Q p=Y (.dK c))\/ ∃c,Q p=Y (.dT c)))\/(T="set"/\ ∃S n,Q p=Y (.set S n))
 |_=>False
def Up{d:jK}{q:St}{Q:Hp}{s:iZ}{T:String}{x:V}{v:jg}(O:Inv X d q Q s)(r:RelV x v)(ty:tyV X.K T x Q):
  s.TypeIs v T/\ ∀a,v= .ref a-> ∃h,s.heap.get? a=Y h/\h.dict=C:=by
 cases x with
 |str z=>obtain⟨t,rfl⟩:=r;cases(show T="str" from ty);exact⟨typeIs_str s z t,λ_ e=>nomatch e⟩
 |int i=>obtain⟨t,rfl⟩:=r;cases(show T="int" from ty);exact⟨typeIs_int s i t,λ_ e=>nomatch e⟩
 |ref p=>
  cases r;rcases ty with⟨rfl,u,l⟩|⟨rfl,o,hk,k,hd⟩|⟨rfl,hk⟩|⟨rfl,S,n,hk⟩
  .obtain⟨m,_,j,_⟩:=O.list l;refine⟨j.isList.typeIs,λa e=>?_⟩;cases e;obtain⟨o,n,e,c,hd,_⟩:=j;exact⟨o,e,hd⟩
  .refine⟨⟨o,O.HI p o hk,k⟩,λa e=>?_⟩;cases e;exact⟨o,O.HI _ o hk,hd⟩
  .have z: ∃o,s.heap.get? p=Y o/\o.ExactDict:=by
    rcases hk with⟨g,hk⟩|⟨g,hk⟩
    .obtain⟨_,_,_,_,o,_,_,e,ex,_⟩:=O.hok p _ hk;exact⟨o,e,ex⟩
    .obtain⟨_,_,_,_,o,_,_,e,ex,_⟩:=O.hok p _ hk;exact⟨o,e,ex⟩
   obtain⟨o,e,ex⟩:=z;refine⟨⟨o,e,ex.1⟩,λa f=>?_⟩;cases f;exact⟨o,e,ex.2.1⟩
  .obtain⟨o,_,_,_,e,ex,_⟩:=O.hok p _ hk;refine⟨⟨o,e,ex.1⟩,λa f=>?_⟩;cases f;exact⟨o,e,ex.2.1⟩
 |_=>exact ba ty
def tBM(K:ju)(T:String)(r:V->List V->Hp->VK->Prop)(N:TE)(t:TA):TE:=λd O Q=>N d O λx c=>tyV K T x c/\t d c λf e=>r x f e Q
variable {o e:je}{g:kL}{C:TE}{t:TA}{d:aG}{m B:bO}{T id:String}{r:V->List V->Hp->VK->Prop}
def N0(N:PlainAttrs T)(slot:Slot T d id)(f:B0 (.builtin id)=pure (.type "method_descriptor"))(z:MtR X id r)(A:PE X o C)(y:PA X (e::g) t)
  (J:autoParam (dI o d X.env (aT o X.env)=aT o X.env) AQ)
  (M:autoParam (((aH B<|ac (e::g) X.env).all (λx=>!x.1)&&(cJ B<|bW [] X.env).all (λx=>x.1.isSome)
   &&decide ((e::g).length+([]:List cM).length+(if([]:List cM).isEmpty then 0 else 1)<30))=YP) AQ)
  (G:autoParam ((m.endLine==B.line)=YP) AQ)(O:autoParam (ac (e::g) X.env=(U,aT e X.env)::ac g X.env) AQ)(u:autoParam ((aH B<|ac g X.env).any (·.1)=U) AQ):
  PE X (.Call (.Attribute o d m) (e::g) [] B) (tBM X.K T r C t):=by
 intro c s i H Q I h;refine Mz J M G AM<|BI (A c s i H _ I h) λv s1 a'=>?_;obtain⟨x,n,j,l,ty,U'⟩:=a';obtain⟨h1,w⟩:=Up j l ty;refine⟨T,id,N,slot,f,h1,w,?_⟩;have k:=y B c s1 i n _ j U';rw[O] at k ⊢;refine My (by show(U||(aH B<|ac g X.env).any (·.1))=U;rw[u]<;>rfl)<|Mx ?_;exact BI k λus s2 ⟨vs,p,q,r2,Y'⟩=>z c s2 i p x vs v us Q q l r2 Y'
end
def MtM(X:Cx)(id:String)(r:V->List V->Hp->VK->Prop):Prop:=
 ∀(a:jK) (s:iZ) (d:St) (T:Hp) (x:V) (c:List V) (v:jg) (b:ku) (Q:VK),Inv X a d T s->RelV x v->Vals c b->r x c T Q->
  ah (aj X.prog X.w) X.A (call (.builtin id) (v::b)) (EP X a d Q) X.xe s
def Vals.one{x:V}{a:ku}:Vals [x] a-> ∃u,a=[u]/\RelV x u:=qz
theorem Vals.eraseIdx: ∀{b:List V} {a:ku} (i:Nat),Vals b a->Vals (b.eraseIdx i) (a.eraseIdx i)
 |_,_,_,.nil=> .nil
 |_,_,0,.cons _ t=>t
 |_,_,i+1,.cons r t=> .cons r (Vals.eraseIdx i t)
theorem CN{a:Type}: ∀(l:List a) (i:Nat),(l.eraseIdx i).length<=A7 l
 |[],_=>kh _
 |_::_,0=>yO _
 |_::r,i+1=>Nat.succ_le_succ<|CN r i
section
variable {X:Cx}{a:jK}{c:St}{H:Hp}{s:iZ}{l b:iW}{xs d g:List V}
def Inv.Lg{h its':ku}{n:Nat}{f:Array jg->Array jg}{p:Nat}(T:Inv X a c H s)(i:H l=Y (.lst xs))
  (e:s.heap.get? l=Y {cls:= .type "list",data:= .seq h.toArray n})(k:f h.toArray=its'.toArray)(hv:Vals d its')(o:(A7 d)<=sizeLine):
  Inv X a c (upd H l<|.lst d) {s with heap:=s.heap.update l<|aL f,toks:=p}:=by
 have q:=PySem.IsL.update e f;rw[k] at q;refine T.write (x:=l) (e:=l) (by rw[i];exact trivial) (.inl AM) (λr u j m=>(yP s.heap (aL f)<|qy j).trans m) ⟨_,q⟩ ?_;exact⟨o,its',_,hv,q⟩
def Inv.MN{e:ku}{t':Nat}(T:Inv X a c H s)(hv:Vals d e)(f:(A7 d)<=sizeLine):
  Inv X a c (upd H s.heap.objs.size<|.lst d) {s with heap:=s.heap.push {cls:= .type "list",data:= .seq e.toArray},toks:=t'}:=
 T.laid (λ_ _ q=>kg _ q) (kh _) ⟨f,e,0,hv,kG _ rfl⟩
def Inv.fresh(T:Inv X a c H s):H s.heap.objs.size=C:=T.hok.fresh<|kh _
def Inv.Kz(T:Inv X a c H s)(h:H l=Y (.lst xs)):xs.length<=sizeLine/\ ∃(f:ku) (n:Nat),Vals xs f/\xs.length=f.length/\s.heap.get? l=Y {cls:= .type "list",data:= .seq f.toArray n}:=by obtain⟨z,f,n,r,e⟩:=T.hok l _ h;exact⟨z,f,n,r,r.length,e⟩
def Ob{n:Nat}(h:n<=sizeLine):dA n=U:=by unfold dA;exact mD (by lia)
end
section
variable {X:Cx}
def QM:V->List V->Hp->VK->Prop:=λx b T Q=> ∃l a y,x= .ref l/\b=[y]/\T l=Y (.lst a)/\(A7 a)<sizeLine/\Q .Ax (upd T l<|.lst<|a++[y])
def acJ:MtM X "list.append" QM:=by
 intro c s p T x m v k Q O g f h;obtain⟨l,o,y,rfl,rfl,b,j,q⟩:=h;cases g;obtain⟨u,rfl,d⟩:=f.one;obtain⟨z,a,n,r,i,e⟩:=O.Kz b;refine Ao F.slot_list_append ⟨_,e,rfl⟩ Mw (Mv _ _) (jp l a.toArray n u<|by rw[kd];lia) ⟨e,?_⟩;refine⟨.Ax,_,O.Lg (its':=a++[u]) b e (by simp) (r.append<|.cons d .nil) ?_,rfl,q⟩;rw[nB,yN]
 lia
def QK:V->List V->Hp->VK->Prop:=λx d T Q=> ∃l b a c,x= .ref l/\d=[.ref b]/\T l=Y (.lst a)/\T b=Y (.lst c)/\(A7 a)+A7 c<=sizeLine/\Q .Ax (upd T l<|.lst<|a++c)
def acI:MtM X "list.extend" QK:=by
 intro i s G N x E v M Q I w t h;obtain⟨l,b,L,T,rfl,rfl,g,k,B,q⟩:=h;cases w;obtain⟨u,rfl,p⟩:=t.one;cases p;obtain⟨z,a,n,r,A,e⟩:=I.Kz g;obtain⟨O,d,m,o,y,j⟩:=I.Kz k;have f:a.toArray.size+d.toArray.size<=sizeLine:=by rw[kd,kd];lia
 have c: ¬(!a.toArray.isEmpty&&dA (a.toArray.size+d.toArray.size))=J:=by rw[Ob f,eW];exact kR
 refine Ao F.slot_list_extend ⟨_,e,rfl⟩ F.entry_list_extend (F.args_list_extend_2 _ _)
  (WP l a.toArray n b d.toArray m c (by rw[kd];lia)<|by lia) ⟨e,j,?_⟩
 refine⟨.Ax,_,I.Lg (its':=a++d) g e (by simp) (r.append o) ?_,rfl,q⟩;rw[nB]
 lia
def UM:V->List V->Hp->VK->Prop:=λx b T Q=> ∃l a i k y,x= .ref l/\b=[.int i]/\T l=Y (.lst a)/\ -(2^63)<=i/\i<2^63/\v7 i (A7 a)=Y k/\a[k]?=Y y/\Q y (upd T l<|.lst<|a.eraseIdx k)
def Of:MtM X "list.pop" UM:=by
 intro c s L T x E v O Q N p o h;obtain⟨l,B,i,k,y,rfl,rfl,b,h1,d,hk,j,q⟩:=h;cases p;obtain⟨u,rfl,m⟩:=o.one;obtain⟨t,rfl⟩:=m;obtain⟨z,a,n,r,f,e⟩:=N.Kz b;obtain⟨w,g,A⟩:=r.get j
 refine Ao F.slot_list_pop ⟨_,e,rfl⟩ F.entry_list_pop (F.args_list_pop_2 _ _)
  (MeetsSeq.list_pop_at l a.toArray n i t k w (fitsIndex_both h1 d) (by rw[kd,<-f];exact hk) (by rw[<-mY];exact g)<|by rw[kd];lia) ⟨e,?_⟩
 refine⟨y,_,N.Lg (its':=a.eraseIdx k) b e ?_ (r.eraseIdx k) ?_,A,q⟩
 .show a.toArray.eraseIdxIfInBounds k=(a.eraseIdx k).toArray;rw[List.eraseIdxIfInBounds_toArray]
 .have:=CN B k
  lia
end
section
variable {a:jw}{w:jm}{A:jn}{E:jJ}{s:iZ}
end
section
variable {X:Cx}
end
end L2
namespace Att
open PySem.W PySem.Calls
def zQ{P:Params}{h:jo}: ∀(c:jh) (d:ku),WellAll P h d (c.map WData.int)->fe d c:=by
 intro c
 induction c with
 |nil=>intro d w;rw[pL] at w;cases w;exact .nil
 |cons n c e=>
  intro d w;rw[kc] at w
  cases w with
  |cons a b=>
   cases a;exact .cons _ _ (e _ b)
def acM{l:OpenLaw}{n:Nat}(v:l.most=Y n){P:Params}{h:jo}{b:List WData}{e:ku}
  (m:l.row.toRowW.claim.pre b=J)(s:WellAll P h e b):
  ∃a k c,e=[bf a]/\b=[WData.list<|c.map WData.int]/\h.get? a=Y {cls:= .type "list",data:= .seq k.toArray}/\fe k c/\(A7 c)<=n:=by
 have p:WShape.hasAll [] b [.list .int]=J:=(pre_splitW m).1;have j:l.pre.holds [] {args:=b}=J:=(pre_splitW m).2;obtain⟨d,r,rfl,h1,t⟩:=hasAllW_cons p;obtain rfl:=hasAllW_nil t;obtain⟨A,rfl,u⟩:=hasW_list h1;obtain⟨c,rfl⟩:=items_int u
 have f:(A7 c)<=n:=by
  unfold OpenLaw.pre at j
  have g:(WTm.not<|.lt (.lit<|.int (n:Int))<|.len<|.arg 0).holds [] {args:=[.list<|c.map .int]}=J:=by have g:=(holds_andW j).1;rw[v] at g;exact g
  have i:=condW_of g<|w_not<|w_lt w_lit<|w_len_list<|w_arg H;rw[kn] at i;refine ro λq=>?_;have x:(n:Int)<(((A7 c):Nat):Int):=by omega
  first
   |(rw[pe x] at i;exact absurd i<|by decide)
   |(simp at i;omega)
 cases s with
 |cons y z=>
  cases z
  cases y with
  |list w o=>exact⟨_,_,c,rfl,rfl,w,zQ c _ o,f⟩
def acV(l:OpenLaw)(a:List WData):l.row.toRowW.claim.post a (.bool J) a=J:=
 postW_of (r:=l.row.toRowW) (X:=J==J)
  (show WShape.has [] (.bool J) .bool=J by first|rfl|decide|simp[WShape.has,WShape.arms,WShape.armsAll])
  (show(WTm.eq .res<|.lit<|.bool J).value [] {args:=a,res:=Y<|.bool J,after:=a}=Y (.bool<|J==J) from w_eq_bool (w_res H) w_lit) rfl
def SF{l:OpenLaw}{n:Nat}{q:jw}{c:jq}{x:(aG->Option jg)->jo->Prop}{y:jm->jo->Prop}{d:DefRec}
  (U:l.most=XV n)(H:d.params.defaults=[])
  (call: ∀(w:jm) (e b:iZ) (m u:mz) (j:iW) (o:fy) (v cd g:jg) (a:iW) (i:ku) (p:jh),
   Ground q c [] x w e m u b.heap->y w b.heap->
   b.heap.get? j=XV o->o.data= .func (docDef d.name d.params d.body d.scope v cd g)->b.heap.CodeRec cd d.name->m d.name=XV (.ref j)->
   b.heap.get? a=XV {cls:= .type "list",data:= .seq i.toArray}->fe i p->A7 p<=n->b.gens= #[]->
   cC (aj l.prog w) gq (.call (.ref j) ⟨[.ref a],[]⟩) (λr s=>r= .ok (.ret<|.bool YP)/\OldK b.heap s.heap/\s.os=b.os/\fg s.gens) b):
  WalkO q c x y l.row.toRowW d [] (λf i=>wn f i):=by
 intro w e b m u G Y j o v cd g I kV D hd P A t J z C S R B K L M;obtain rfl:I= .none:=Dflts.none A H;obtain rfl:kV= .none:=Dflts.noKw A;obtain⟨a,i,p,rfl,rfl,E,h,k⟩:=acM U R L;refine enter_call<|qx (call w e b m u j o v cd g a i p G Y D (fd_plain hd) P t E h k J) λr s F=>?_;obtain⟨rfl,O,Q,T⟩:=F;exact⟨.inl ⟨.bool YP,.bool YP,[],rfl,λ_=>rfl,.bool YP,acV l _,λ_=>⟨du,λ_ N=>(nomatch N)⟩⟩,O,Q,T⟩
section
variable {a:jw}{w:jm}{A:jn}{E:jJ}{s:iZ}{K:Frag}
end
end Att
namespace L2
def ac5{b:ku}{a:jh}(h:fe b a):Vals (a.map V.int) b:=by
 induction h with
 |nil=>exact .nil
 |cons n t h c=>exact .cons ⟨t,rfl⟩ c
noncomputable def tu(s:bc):Arguments:=match s with
 | .FunctionDef _ a _ _ _ _ _ _ _ _=>a
 |_=>{posonlyargs:=[],args:=[],vararg:=C,kwonlyargs:=[],kw_defaults:=[],kwarg:=C,defaults:=[]}
noncomputable def lW(s:bc):List Stmt:=match s with
 | .FunctionDef _ _ b _ _ _ _ _ _ _=>b
 |_=>[]
noncomputable def iY(s:bc):Scope:=match s with
 | .FunctionDef _ _ _ _ _ _ a _ _ _=>a
 |_=>{kind:= .function,names:=[],isGenerator:=U,isCoroutine:=U}
abbrev FH:KD:=λ_ _ _ _ _ _=>False
abbrev E0:XK:=λ_ _ _=>False
def To{X:Cx}:Jd FH X E0:=λ_ _ _ _ _ _ _ h=>h.elim
structure KA(K:ju)(x qual:aG)(st:bc)(f:iW)(fd:mV):Prop where
 ex: ∃(oc:jg) (od:Option iW) (kV doc pm:jg) (an:Option iW) (b7 ct:jg) (t6:ug),
  fd=cz x qual (tu st) (lW st) (iY st) .none kV doc pm an b7 ct/\K.lookup f=XV ⟨oc,od,.func fd,t6⟩/\eE K b7 qual=YP
 kp:cG K (.ref f)=YP
section
variable {P:jw}{w:jm}{K:ju}{a:mz}{base:jo}
def KA.ok{x qual:aG}{st:bc}{f:iW}{g:mV}{N d:jq}{k:Nat}{e:Sp}(F:KA K x qual st f g)(S:AN N d (iY st))(len: ∀vs T Q E,e vs T Q E->A7 vs=A7 d)
  (o: ∀(c:jg) (A:jn) (b:List ek) (s:iZ) (T:Hp) (vs:List V) (Q:VK) (E:XK),BN k (A.deeper<|aY qual (iY st) s.heap.objs.size f c)->e vs T Q E->
   ∃t,IJ (qp FH P w K a base N qual (iY st) f c A b s T E).Ig (lW st) t/\t {nx:=λ_ i=>Q .Ax i,rt:=Q} (nY N vs) T):EZ P w K a base FH (k+1) f g d e:=by
 obtain⟨r,u,kV,l,v,p,c,ct,y,rfl,lk,n⟩:=F.ex;refine TC lk n S len λA b s T vs Q E m j=>?_;obtain⟨t,h,q⟩:=o c A b s T vs Q E m j;exact⟨t,h.Ig,q⟩
def KA.binds{x qual:aG}{st:bc}{f:iW}{j:mV}{g:jq}(F:KA K x qual st f j)
  (h: ∀(kV b e:jg) (c:Option iW) (d ct:jg) (i:ku),A7 i=A7 g->fJ (cz x qual (tu st) (lW st) (iY st) .none kV b e c d ct) ⟨i,[]⟩=pure (g.zip i)):Binds K j g []:=by
 obtain⟨l,m,kV,b,e,c,d,ct,n,rfl,lk,k⟩:=F.ex;exact .all<|h kV b e c d ct
def Pc{x qual:aG}{st:bc}{f:iW}{h:jg}{i e:Option iW}{j:ug}{kV b g d ct:jg}(l:K.lookup f=Y ⟨h,i,.func<|cz x qual (tu st) (lW st) (iY st) .none kV b g e d ct,j⟩)
  (c:eE K d qual=J)(k:cG K (.ref f)=J):KA K x qual st f (cz x qual (tu st) (lW st) (iY st) .none kV b g e d ct):=⟨⟨h,i,kV,b,g,e,d,ct,j,rfl,l,c⟩,k⟩
end
section
variable {X:Cx}
end
def Yc{A B:Prop}(h:B):if U=J then A else B:=by rw[jv kR];exact h
def Yb{A B:Prop}(h:A):if J=J then A else B:=by rw[jl H];exact h
theorem xb(b:ek): ∀(l:List (aG×dU)) (i:kF),(∀x∈l,x.2= .free-> ∃c,b.cells.lookup x.1=Y c)->(∀x c,i.lookup x=Y c->b.cells.lookup x=Y c)->
  ∃g,(forIn l i λx r=>if x.2==aO then do let a <-CL b x.1;pure (bV ((x.1,a)::r)) else pure (bV r))=(pure g:eF (List<|aG×iW))/\
   (∀x c,g.lookup x=Y c->b.cells.lookup x=Y c)/\(∀x,(x,aO)∈l-> ∃c,g.lookup x=Y c)/\ ∀x c,i.lookup x=Y c-> ∃c,g.lookup x=Y c
 |[],i,_,o=>⟨i,rfl,o,λx h=>by simp at h,λx c h=>⟨c,h⟩⟩
 |(n,k)::l,i,h,o=>by
  by_cases hk:k= .free
  .subst hk;obtain⟨c,e⟩:=h (n,.free) jW H;have s:b.cells.lookup n=Y c:=e
   obtain⟨g,h1,p,q,m⟩:=xb b l ((n,c)::i) (λx f=>h x<|jZ _ f) (λx d f=>by
    rw[pd] at f
    cases j:x==n with
    |true=>rw[j] at f;have:=vP j;subst this;cases f;exact s
    |false=>rw[j] at f;exact o x d f)
   refine⟨g,?_,p,λx f=>?_,λx d f=>?_⟩
   .rw[eI];have:CL b n=pure c:=by unfold CL;rw[s]
    simp -iota only[this,xt,beq_self_eq_true,kO];exact h1
   .rcases lz.mp f with z|z
    .cases z;exact m n c (by simp[pd])
    .exact q x z
   .cases j:x==n with
    |true=>have:=vP j;subst this;exact m x c (by simp[pd])
    |false=>exact m x d (by rw[pd,j];exact f)
  .obtain⟨g,h1,p,q,m⟩:=xb b l i (λx f=>h x<|jZ _ f) o;have j:(k==aO)=U:=by simpa using hk
   refine⟨g,?_,p,λx f=>?_,m⟩
   .rw[eI];simp -iota only[j,ke,kB,xt];exact h1
   .rcases lz.mp f with z|z
    .cases z;exact absurd H hk
    .exact q x z
def qk(b:ek)(scope:jQ)(h: ∀x∈scope.names,x.2= .free-> ∃c,b.cells.lookup x.1=Y c):
  ∃d,tc scope b=pure d/\(∀x c,d.lookup x=Y c->b.cells.lookup x=Y c)/\ ∀x,(x,aO)∈scope.names-> ∃c,d.lookup x=Y c:=by
 obtain⟨d,h1,e,f,_⟩:=xb b scope.names [] h (λx c g=>by simp at g);refine⟨d,?_,e,f⟩;unfold tc;have:(forIn scope.names ([]:List (aG×iW)) λx r=>if x.2==aO then do let a <-CL b x.1;pure (bV ((x.1,a)::r)) else pure (bV r))=(pure d:eF (List<|aG×iW)):=h1
 first
  |exact(nE (· >>=λr=>pure r) this).trans (xt _ _)
  |(simp -iota only[bind_pure];exact this)
  |exact this
theorem nq: ∀(b:List (aG×dU)) (n:Nat) (a:kF),bz n b a=bz n b []++a
 |[],_,_=>rfl
 |(x,k)::r,n,a=>by
  unfold bz;split
  .rw[nq r (n+1) ((x,n)::a),nq r (n+1) [(x,n)],tJ];rfl
  .exact nq r n a
theorem rh{x:aG}{c:iW}: ∀(a:List (aG×dU)) (n:Nat),(x,c)∈bz n a []->(x,c4)∈a
 |[],_,h=>by simp[bz] at h
 |(y,k)::r,n,h=>by
  unfold bz at h;split at h
  .rename_i hk;rw[nq] at h;rcases tM.mp h with z|z
   .exact jZ _ (rh r _ z)
   .cases Je.mp z;rw[vP hk];exact jW
  .exact jZ _ (rh r _ h)
structure NY(cells:kF)(scope:jQ)(C:iW)(h:jo)(cl:kF):Prop where
 one: ∀x c,cl.lookup x=XV c->(cells.lookup x=XV c/\scope.names.lookup x≠XV .cell)\/(C<c/\scope.names.lookup x=XV .cell/\h.IsCell c X0)
 all: ∀x,(x,aO)∈scope.names\/(x,c4)∈scope.names-> ∃c,cl.lookup x=XV c
 inj: ∀x y c,C<c->cl.lookup x=XV c->cl.lookup y=XV c->(∀z d,cells.lookup z=XV d->d<C)->x=y
 ex: ∀x c,cl.lookup x=XV c->cells.lookup x=XV c\/C<c
def RH{M:h9}{A:jn}{E:jJ}{s:iZ}{scope:jQ}{globals:iW}{a:ek}{g:kF}{qual:aG}{Q:ek->iZ->Prop}(v: ∀y∈scope.names,y.2= .cell->scope.names.lookup y.1=Y .cell)
  (n: ∀x c,g.lookup x=Y c->a.cells.lookup x=Y c)(L: ∀x,(x,aO)∈scope.names-> ∃c,g.lookup x=Y c)
  (O: ∀l t,l.Ns s.heap.objs.size (λ_=>C)->(∀b o,s.heap.get? b=Y o->l.get? b=Y o)->NY a.cells scope s.heap.objs.size l t->
   Q {scope,locals:=s.heap.objs.size,globals,cells:=t,qual,func:=C,code:=a.code,frame:=a.frame,builtins:=a.builtins} {s with heap:=l}):
  ah M A (hC scope globals g [] qual C .none<|Y a) Q E s:=by
 simp -iota only[hC,iB,kO];refine iX<|An ?_;refine iX<|wpAny_layCells _ (λw k j=>by cases p:k==c4<;>simp[p]) _ _ _ _ ?_;have ok:=cellsFrom_ok scope.names (s.heap.push {cls:= .type "dict",data:= .dict #[]}) (s.heap.objs.size+1) [] ⟨λ_ _ T=>(nomatch T),du⟩ (by rw[rn];exact kh _);rw[rn] at ok;rw[show({s with heap:=s.heap.push {cls:= .type "dict",data:= .dict #[]}}:iZ).heap.objs.size=s.heap.objs.size+1 from rn ..];simp -iota only[sK];have i: ∀x,(bz (s.heap.objs.size+1) scope.names g).lookup x=((bz (s.heap.objs.size+1) scope.names []).lookup x).or (g.lookup x):=λx=>by rw[nq,List.lookup_append]
 have f: ∀x c,(bz (s.heap.objs.size+1) scope.names g).lookup x=Y c->(g.lookup x=Y c/\(bz (s.heap.objs.size+1) scope.names []).lookup x=C)\/(x,c)∈bz (s.heap.objs.size+1) scope.names []:=λx c h=>by
  rw[i] at h
  cases q:(bz (s.heap.objs.size+1) scope.names []).lookup x with
  |none=>rw[q] at h;exact .inl ⟨h,rfl⟩
  |some d=>rw[q] at h;cases h;exact .inr<|tK q
 have lo: ∀{x:aG} {c:iW},(x,c)∈bz (s.heap.objs.size+1) scope.names []->s.heap.objs.size<c:=λ{x c} h=>(ok.empty x c h).2;refine iX<|jd<|jd<|O _ _ ((Heap.Ns.new s.heap<|.type "dict").keeps<|x0 _ _) (λb o e=>x0 _ _ b o (kg _ e)) ⟨λx c h=>?_,λx h=>?_,λx y c m h1 B u=>?_,λx c h=>?_⟩
 .rcases f x c h with⟨z,N⟩|z
  .refine .inl ⟨n x c z,λe=>?_⟩;have:=D7 scope.names (s.heap.objs.size+1) []<|.inl e;rw[N] at this;cases this
  .exact .inr ⟨lo z,v _ (rh _ _ z) rfl,(ok.empty x c z).1⟩
 .rcases h with h|h
  .obtain⟨c,m⟩:=L x h;rw[i,m];cases(bz (s.heap.objs.size+1) scope.names []).lookup x<;>exact⟨_,rfl⟩
  .have:=D7 scope.names (s.heap.objs.size+1) g<|.inl<|v _ h rfl;exact MF.mp this
 .rcases f x c h1 with⟨z,_⟩|z
  .exact absurd (u x c<|n x c z) (Hj m)
  .rcases f y c B with⟨r,_⟩|r
   .exact absurd (u y c<|n y c r) (Hj m)
   .exact O3 ok.apart z r
 .rcases f x c h with⟨z,_⟩|z
  .exact .inl (n x c z)
  .exact .inr (lo z)
noncomputable def Cx.comp(X:Cx)(d:jq)(scope:jQ)(e:kF)(T:iW)(g:iZ)(c:Hp)(f:kN)(a:jK):Cx:=
 {X with N:=d,s₀:=g,H₀:=c,env:=compEnvC scope e T X.env,outer:=X.stack,stack:=X.stack,ex:=f,fn:=λx=>scope.names.lookup x==Y .cell,pn:=X.pn++a,xe:=λ_ _=>False}
abbrev TB:=St->Hp->(St->Hp->Prop)->Prop
def PB(X:Cx)(code:eF Unit)(t:TB):Prop:=
 ∀(a:jK) (s:iZ) (c:St) (T:Hp) (N:St->Hp->Prop),Inv X a c T s->t c T N->
  ah (aj X.prog X.w) X.A code (λ_ d=> ∃b H',Inv X a b H' d/\N b H') X.xe s
def K8(X:Cx)(b:kL)(t:TT):Prop:=
 ∀(a:jK) (s:iZ) (d:St) (T:Hp) (Q:Bool->Hp->Prop),Inv X a d T s->t d T Q->
  ah (aj X.prog X.w) X.A (forIn b J λc r=>if r=J then do let ok <-isTrue c X.env (aT c X.env);pure (bV ok) else pure (bV r)) (TP X a d Q) X.xe s
noncomputable def Xi:TT:=λ_ T Q=>Q J T
section
variable {X:Cx}
def Rh:K8 X [] Xi:=λa s b T Q O h=>wpAny_tests_nil ⟨T,O,h⟩
def Rg{c:je}{t:TT}(h:PT X c t):K8 X [c] t:=λa s d T Q O b=>wpAny_tests_one<|h a s d T Q O b
noncomputable def jT(e:je)(depth:Nat)(acc:jg)(a:ek):eF Unit:=
 match(cA e)[depth+1]? with
 |some c=>do
  let x <-aT c.iter a
  c9 c.iter.pos
  let x <-aA c.iter a x
  let _ <-runOwn (.compStart e (depth+1) (<-cB [x] (d5 x)) acc a) a
 |none=>match e with
  | .ListComp b _ _ _=>do let _ <-call (.builtin "list.append") [acc,<-aT b a]
  | .SetComp b _ _ _=>do let v <-aT b a;c9 b.pos;let _ <-call (.builtin "set.add") [acc,v]
  |_=>o7 "no"
def Jn(T:It)(g:TG)(l:TT)(tb:TB):TB:=λd Q N=> ∃W:Nat->Nat->St->Hp->Prop,(∃m,W 0 m d Q)/\ ∀i m d Q,W i m d Q->
 (T.stop i Q/\N d Q)\/(T.go i Q/\ ∀x f,T.yld i Q x f->g x d f λa j=>l a j λb h=>if b=J then tb a h λe k=> ∃c,c<m/\W (i+1) c e k else ∃c,c<m/\W (i+1) c a h)
def abo(e:je)(depth:Nat)(l f:jg)(b:ek)(g:nS)(q:(∃d a i p,e= .ListComp d a i p)\/(∃d a i p,e= .SetComp d a i p))
  (j:(cA e)[depth]?=Y g)(o:g.is_async=0)(k: ∀h,(cA e)[depth+1]?=Y h->h.is_async=0):
  pC e depth l f b=(do
   c9 g.iter.pos
   match <-cn l with
   |none=>pure<|.done .next
   |some v=>
    fk g.target l v
    cW g.target b v
    let ok <-forIn g.ifs J λc r=>if r=J then do let ok <-isTrue c b (aT c b);pure (bV ok) else pure (bV r)
    if ok=J then jT e depth f b
    again (.compLoop e depth l f b)):=by
 rcases q with⟨d,a,i,p,rfl⟩|⟨d,a,i,p,rfl⟩
 .have m:a[depth]?=Y g:=j;unfold pC jT;simp only[clausesOf.eq_def] at j k ⊢;rw[m];simp only[o]
  cases n:a[depth+1]? with
  |none=>rfl
  |some h=>
   have:=k h n;simp only[this,vN,ke,kB]
   congr 1;funext _;congr 1;funext r
   cases r with
   |none=>rfl
   |some v=>
    dsimp only
    congr 1;funext _;congr 1;funext _;congr 1;funext ok
    cases ok with
    |false=>rfl
    |true=>simp only[kO,uq];rfl
 .have m:a[depth]?=Y g:=j;unfold pC jT;simp only[clausesOf.eq_def] at j k ⊢;rw[m];simp only[o]
  cases n:a[depth+1]? with
  |none=>rfl
  |some h=>
   have:=k h n;simp only[this,vN,ke,kB]
   congr 1;funext _;congr 1;funext r
   cases r with
   |none=>rfl
   |some v=>
    dsimp only
    congr 1;funext _;congr 1;funext _;congr 1;funext ok
    cases ok with
    |false=>rfl
    |true=>simp only[kO,uq];rfl
def Pp 
  (d:(∃b a c p,e= .ListComp b a c p)\/(∃b a c p,e= .SetComp b a c p))
  (h:ah (aj prog w) A ((pC e depth it acc env).onRaise (λx=>do wf x env;theTreesLotGoes x)) Q E s):
  ah (aj prog w) (A.under<|.compLoop e depth it acc env) ((aj prog w).den<|.compLoop e depth it acc env) Q E s:=by
 rcases d with⟨b,a,c,p,rfl⟩|⟨b,a,c,p,rfl⟩
 .exact h
 .exact h
def JK{e:je}{depth:Nat}{acc:jg}{c:nS}{g:TG}{ti:TT}{tb:TB}{J:It}{y:kN}{it:iW}{tn:Nat->jo->Prop}(cx:X.xe=λ_ _=>False)(hc:X.calm=YP)
  (hl:(∃B k sc p,e= .ListComp B k sc p)\/(∃B k sc p,e= .SetComp B k sc p))(hg:(cA e)[depth]?=Y c)(ha:c.is_async=0)(i9: ∀g',(cA e)[depth+1]?=Y g'->g'.is_async=0)
  (T:Turn X.prog X.w X.K c.target J y it tn)(pg:PG X c.target g)(bp:K8 X c.ifs ti)(pb:PB X (jT e depth acc X.env) tb)
  {a:jK}{s:iZ}{σ:St}{H:Hp}{N:St->Hp->Prop}(I:Inv X a σ H s)(f2: ∀b∈y,vc X a H b)(st:tn 0 s.heap)(h:Jn J g ti tb σ H N):
  cC (aj X.prog X.w) X.A (.compLoop e depth (.ref it) acc X.env) (λr s'=>r= .ok .next/\ ∃f j,Inv X a f j s'/\(∀b∈y,j b=C)/\N f j) s:=by
 obtain⟨W,⟨m0,w0⟩,G⟩:=h;have P: ∀{j:Hp},(∀b∈y,j b=C)-> ∀b∈y,vc X a j b:=λhn b v=>⟨hn b v,(f2 b v).2⟩
 have D: ∀{Z:Type} {t:eF Z} {Q:Z->iZ->Prop} {E:jJ} {s:iZ},ah (aj X.prog X.w) X.A t Q X.xe s->ah (aj X.prog X.w) X.A t Q E s:=λh=>nX h (λ_ _ x=>x) λ_ _ z=>by rw[cx] at z;exact z.elim
 refine codeAny_loop AM (λn s'=> ∃i f j,Inv X a f j s'/\tn i s'.heap/\(∀b∈y,j b=C)/\W i n f j) (λn V hI=>?_) m0 ⟨0,σ,H,I,st,λb v=>(f2 b v).1,w0⟩;refine Pp hl ?_;refine wpAny_noted ?_;rw[abo e depth (.ref it) acc X.env c hl hg ha i9];obtain⟨i,l,U,R,S,F,w3⟩:=hI;refine iX<|uG ?_;rcases G i n l U w3 with⟨stop,qn⟩|⟨go,step⟩
 .refine iX (BI (T.done X AM AM AM hc i a V l U _ R (P F) S stop) λr s4 a'=>?_);obtain⟨hr,I4⟩:=a';subst hr;exact jd ⟨rfl,l,U,I4,F,qn⟩
 .refine iX (BI (T.item X AM AM AM hc i a V l U _ R (P F) S go) λr s4 a'=>?_);obtain⟨u,hr,h4⟩:=a';subst hr;refine iX<|BI h4 λ_ s5 a'=>?_;obtain⟨x,H5,I5,r5,y5,bY,iK⟩:=a';have iT:=I5.pinned (P iK)<|T.obj _ _ bY;refine iX<|BI (D<|pg _ s5 l H5 x u _ iT r5 (step x H5 y5)) λ_ s6 a'=>?_;obtain⟨M,H6,I6,q6⟩:=a';refine iX<|BI (D<|bp _ s6 M H6 _ I6 q6) λok s7 a'=>?_;obtain⟨H7,I7,q7⟩:=a'
  have again: ∀{O:iZ} {q:St} {C':Hp},Inv X (a++AI y s5.heap) q C' O->(∃Y',Y'<n/\W (i+1) Y' q C')-> ∃m,m<n/\ ∃i f j,Inv X a f j O/\tn i O.heap/\(∀b∈y,j b=C)/\W i m f j:=λ{O q C'} L a'=>by
   obtain⟨Y',hm,w8⟩:=a'
   refine⟨Y',hm,i+1,q,C',L.EF,T.keep _ _ _ bY λb v o e=>(L.pin (b,o)<|ph _ (ph _ (sM v e))).1,λb v=>?_,w8⟩;obtain⟨o,e,d⟩:=T.obj _ _ bY b v;exact(L.pin (b,o)<|ph _ (ph _ (sM v e))).2.1
  cases ok with
  |false=>rw[jv kR] at q7;exact jd ⟨rfl,again I7 q7⟩
  |true=>rw[jl AM] at q7;simp -iota only[kO];refine iX<|BI (D<|pb _ s7 M H7 _ I7 q7) λ_ O a'=>?_;obtain⟨q,C',L,q8⟩:=a';exact jd ⟨rfl,again L q8⟩
def Xn(d:iW)(e:TE):TB:=λc T N=>e c T λy b=> ∃a,b d=Y (.lst a)/\(A7 a)<sizeLine/\N c (upd b d<|.lst<|a++[y])
def Rt{b:je}{a:oV}{i:jQ}{p:bO}{depth:Nat}{d:iW}{j:TE}(o:a[depth+1]?=C)(m:PE X b j):PB X (jT (.ListComp b a i p) depth (.ref d) X.env) (Xn d j):=by
 intro f s k T N Q h
 have l:jT (.ListComp b a i p) depth (.ref d) X.env=(do let _ <-call (.builtin "list.append") [.ref d,<-aT b X.env]):=by unfold jT;simp -iota only[clausesOf.eq_def];rw[o]
 rw[l];refine iX<|BI (m f s k T _ Q h) λu s1 O=>?_;obtain⟨y,v,g,t,A,hd,x,q⟩:=O;obtain⟨z,c,n,r,w,e⟩:=g.Kz hd;refine iX<|Ao F.slot_list_append ⟨_,e,rfl⟩ Mw (Mv _ _) (jp d c.toArray n u<|by rw[kd];lia) ⟨e,?_⟩;refine jd ⟨k,_,g.Lg (its':=c++[u]) hd e (by simp) (r.append<|.cons t .nil) ?_,q⟩;rw[nB,yN]
 lia
def FF{b:jw}{w:jm}{A:jn}{e:je}{depth:Nat}{i acc:jg}{d:ek}{R:mu->iZ->Prop}{s:iZ}{c:nS}
  (r:(∃g a j p,e= .ListComp g a j p)\/(∃g a j p,e= .SetComp g a j p))(q:(cA e)[depth]?=Y c)(o:c.is_async=0)
  (m:cC (aj b w) A (.compLoop e depth i acc d) R s)
  (k: ∀(Q:jJ) (E:jJ),Q i s->ah (aj b w) A (d5 i) Q E s):
  cC (aj b w) A (.compStart e depth i acc d) R s:=by
 have h:ah (aj b w) A (j1 e depth i acc d) (λfin l=>match fin with| .done f=>R (.ok f) l| .again n=>n.quiet=J/\cC (aj b w) A n R l) (notedBy (aj b w) A d λx l=>R (.error x) l) s:=by
  unfold j1;rw[q];simp only[Option.elim,o,vN,ke,kB];refine iX<|uF<|wpAny_ite ?_;split
  .first
    |exact iX<|jd<|jd<|And.intro H m
    |exact jd<|And.intro H m
  .exact iX (uo<|iX<|uG<|iX<|k _ _ (jd<|And.intro H m))
 rcases r with⟨g,a,j,p,rfl⟩|⟨g,a,j,p,rfl⟩
 .refine uE ?_;show ah _ A ((j1 (.ListComp g a j p) depth i acc d).onRaise (λx=>do wf x d;c9 xz)) _ _ s;exact Fa h
 .refine uE ?_;show ah _ A ((j1 (.SetComp g a j p) depth i acc d).onRaise (λx=>do wf x d;c9 xz)) _ _ s;exact Fa h
noncomputable def ad0(d:TI)(g:TG)(c:TT)(tb:TB):TB:=λa Q N=>d a Q λT b=>Jn T g c tb a b N
def Ve{e:je}{depth:Nat}{b:jg}{c:nS}{u:TI}{g:TG}{o:TT}{tb:TB}(C:X.xe=λ_ _=>False)(G:X.calm=YP)
  (n:(∃d a j p,e= .ListComp d a j p)\/(∃d a j p,e= .SetComp d a j p))(i:(cA e)[depth+1]?=XV c)(m:c.is_async=0)(i9: ∀l,(cA e)[depth+1+1]?=XV l->l.is_async=0)
  (Y: ∀x,aA c.iter X.env x=pure x)(pi:PI X c.target c.iter u)(pg:PG X c.target g)(B:K8 X c.ifs o)(pb:PB X (jT e (depth+1) b X.env) tb):
  PB X (jT e depth b X.env) (ad0 u g o tb):=by
 intro f s K H N I h
 have L:jT e depth b X.env=(do
  let x <-aT c.iter X.env
  c9 c.iter.pos
  let x <-aA c.iter X.env x
  let _ <-runOwn (.compStart e (depth+1) (<-cB [x] (d5 x)) b X.env) X.env):=by
  unfold jT;rw[i]
 rw[L];refine iX<|BI (pi f s K H _ I h) λv s1 h1=>iX<|uG<|iX<|qv (Y v)<|iX<|mv<|BI h1 λR F O=>?_;obtain⟨V,S,Z,J,P,rfl,y,T,t,f2,D⟩:=O;refine iX<|wpAny_runOwn ?_;refine FF n i m ?_ λQ E M=>T.self X.A 0 F Q E t M;refine qx (JK C G n i m i9 T pg B pb y f2 t D) λr W U=>?_;obtain⟨rfl,k,w,z,_,q⟩:=U;exact jd ⟨k,w,z,q⟩
end
theorem pz{a:ek}: ∀{b:List (aG×dU)} {x:aG},b.lookup x=Y .free->
  (b.map λ(n,k)=>if(k==aO&&a.scope.kind== .function&&a.kindOf n==Y .cell) then(n,c4) else(n,k)).lookup x=Y .cell\/
  (b.map λ(n,k)=>if(k==aO&&a.scope.kind== .function&&a.kindOf n==Y .cell) then(n,c4) else(n,k)).lookup x=Y .free
 |[],_,h=>by simp at h
 |(n,k)::r,x,h=>by
  have e:= @pz a r x;rw[kc]
  cases c:x==n with
  |true=>
   simp only[pd,c] at h;cases h;by_cases d:(aO==aO&&a.scope.kind== .function&&a.kindOf n==Y .cell)=J
   .left;simp only[d,kO,pd,c]
   .right;simp only[d,kB,pd,c,ke]
  |false=>
   simp only[pd,c] at h;by_cases d:(k==aO&&a.scope.kind== .function&&a.kindOf n==Y .cell)=J
   .simp only[d,kO,pd,c];exact e h
   .simp only[d,kB,pd,c,ke];exact e h
theorem lV{a:ek}: ∀{b:List (aG×dU)} {x:aG} {g:dU},
  (b.map λ(n,k)=>if(k==aO&&a.scope.kind== .function&&a.kindOf n==Y .cell) then(n,c4) else(n,k)).lookup x=Y g-> ∃k,(x,k)∈b/\(k=g\/k= .free)
 |[],_,_,h=>by simp at h
 |(n,k)::r,x,g,h=>by
  rw[kc] at h
  cases d:x==n with
  |true=>
   have e:=vP d;subst e;by_cases c:(k==aO&&a.scope.kind== .function&&a.kindOf x==Y .cell)=J
   .refine⟨k,jW,.inr ?_⟩
    have h1:(k==aO)=J:=by
     cases hk:(k==aO) with
     |true=>rfl
     |false=>rw[hk] at c;simp at c
    exact vP h1
   .simp only[c,kB,pd,d,ke] at h;exact⟨k,jW,.inl<|by simpa using h⟩
  |false=>
   by_cases c:(k==aO&&a.scope.kind== .function&&a.kindOf n==Y .cell)=J
   .simp only[c,kO,pd,d] at h;obtain⟨i,h1,f⟩:=lV h;exact⟨i,jZ _ h1,f⟩
   .simp only[c,kB,pd,d,ke] at h;obtain⟨i,h1,f⟩:=lV h;exact⟨i,jZ _ h1,f⟩
structure Bw(X:Cx)(N':jq)(scope:jQ)(pre:St->St):Prop where
 cell: ∀y∈scope.names,y.2= .cell->scope.names.lookup y.1=XV .cell
 kind:scope.kind= .function
 names: ∀y∈scope.names,y.2= .local->scope.names.lookup y.1=XV .local
 free: ∀y∈scope.names,y.2= .free->X.env.scope.names.lookup y.1=XV .cell\/X.env.scope.names.lookup y.1=XV .free
 len: ∀σ:St,(pre σ).length=A7 N'
 pre: ∀(σ:St) (i:Nat) (v:V) (x:aG),(pre σ)[i]?=XV (XV v)->N'[i]?=XV x->scope.names.lookup x=XV .free/\ ∃j:Nat,X.N[j]?=XV x/\σ[j]?=XV (XV v)
section
variable {X:Cx}
def Su{L:jq}{scope:jQ}{pre:St->St}(S:Bw X L scope pre){d:jK}{f:iZ}{H:St}{t:Hp}{C:kN}{Q:kF}{E:jo}{t':Nat}(I:Inv X d H t f)
  (B:NY X.env.cells scope f.heap.objs.size E Q)
  (A: ∀b∈C,vc X d t b)(T: ∀b∈C,b<f.heap.objs.size)
  (U:E.Ns f.heap.objs.size (λ_=>X0))(hk: ∀b o,f.heap.get? b=XV o->E.get? b=XV o):
  Inv (X.comp L scope Q f.heap.objs.size f t C d) [] (pre H) t {f with heap:=E,toks:=t'}:=by
 have K: ∀b∈K2 X.stack,t b=X0:=I.KG;have G: ∀b,b≠X.env.locals->b∉X.fs->b∉K2 X.stack:=λb h1 a z=>(lz.mp<|I.I8 b z).elim h1 a;have w: ∀x c,X.env.cells.lookup x=XV c->c<f.heap.objs.size:=λx c e=>(I.cell x c e).elim λ_ z=>z.lt
 refine⟨⟨I.ok.mod,?_,I.ok.glob,I.ok.blt,kh _,λx y c h1 a=>?_,λx h=>?_,λx c q e=>?_,I.ok.hd,I.ok.frames,.inl AM,λb g=>?_,
  I.bs,mC I.ok.bsz I.sz,λb o e g=>?_,λb g=>G b (A b g).2.1 (A b g).2.2.1,I.stack,K⟩,rfl,I.bare,Un.kept hk,⟨_,U,λi x v h1 a J=>?_⟩,λx c h=>?_,I.hok.fresh<|kh _,λx c h=>?_,λp W=>?_,I.hok.kept hk,S.len H⟩
 .show(lm scope X.env).kind= .function;simp[lm,S.kind]
 .rcases B.ex x c h1 with z|z
  .rcases B.ex y c a with s|s
   .exact I.ok.inj x y c z s
   .exact absurd (w x c z) (Hj s)
  .exact B.inj x y c z h1 a w
 ·
  have N:(lm scope X.env).names.lookup x=XV .cell\/(lm scope X.env).names.lookup x=XV .free:=h;refine B.all x ?_;rcases N with z|z
  .obtain⟨k,h1,a⟩:=lV z;rcases a with a|a<;>subst a
   .exact .inr h1
   .exact .inl h1
  .obtain⟨k,h1,a⟩:=lV z;rcases a with a|a<;>(subst a;exact .inl h1)
 .rcases B.one x c e with⟨_,z⟩|⟨z,_⟩
  .exact absurd (vP q) z
  .exact uH z
 .refine⟨kf<|T b g,λx c h=>?_⟩;rcases B.ex x c h with z|z
  .exact(A b g).2.2.2.2.1 x c z
  .exact pk (D3 (T b g) z)
 ·
  have l6:b∈C:=g;rcases(A b l6).2.2.2.1 with z|z
  .exact I.ok.noex b o e z
  .exact absurd (oG (kH e)<|mC I.ok.bsz z) (rp _)
 .obtain⟨q,j,R,hv⟩:=S.pre H i v x a h1;obtain⟨m,hn,V⟩:=I.loc;have M:=S.free (x,.free) (tK q) AM;obtain⟨u,r,l⟩:=V j x v R hv (by rcases M with z|z;exact .inr<|.inl z;exact .inr<|.inr z);refine⟨u,r,.inr ⟨pz q,?_⟩⟩;rcases l with⟨eC,_⟩|⟨_,c,P,Z⟩
  .have Y:X.env.scope.names.lookup x=XV .local:=eC;rcases M with z|z<;>(have s:X.env.scope.names.lookup x=_:=z;rw[Y] at s;cases s)
  .obtain⟨D,O⟩:=B.all x<|.inl<|tK q;rcases B.one x D O with⟨this,_⟩|⟨_,z,_⟩
   .rw[P] at this;cases this;exact⟨c,O,Z.keeps hk⟩
   .rw[q] at z;cases z
 .rcases B.one x c h with⟨z,_⟩|⟨_,_,z⟩
  .obtain⟨v,hv⟩:=I.cell x c z;exact⟨v,hv.keeps hk⟩
  .exact⟨_,z⟩
 .rcases B.ex x c h with z|z
  .exact I.freeC x c z
  .exact I.hok.fresh (uH z)
 .have F:p∈X.pn++d:=by simpa[Cx.comp] using W
  obtain⟨e,n,h1,a,J⟩:=I.pin p F;exact⟨hk _ _ e,n,kf<|kH e,G _ h1 a,J⟩
def yo{q:jq}{scope:jQ}{a:jK}{f g:iZ}{n k:St}{i l:Hp}{j:kN}{r:kF}{m:jo}(Q:Inv X a n i f)(h: ∀b∈j,vc X a i b)
  (T:Inv (X.comp q scope r f.heap.objs.size f i j a) [] k l g)(t:aK f.heap.objs.size g.heap m):Inv X a n l {g with heap:=m}:=by
 have K:=Q.NM (s':=g) (ch:=j) T.os T.base T.hok T.bare λb d=>⟨(h b d).2.2.2.1,(h b d).2.1,(h b d).2.2.2.2.1,(h b d).2.2.2.2.2⟩
 have Ik:X.env.locals<f.heap.objs.size:=Q.lt;refine K.turned (it:=f.heap.objs.size) (t':=g.toks) (λb o d e=>by rw[t.2 b d];exact e) T.free (pk Ik) (.inr Q.sz) (λx c u z=>?_) λp s z=>?_
 .obtain⟨v,o,e,_⟩:=Q.cell x c u;exact absurd (kH e) (by rw[z];exact rp _)
 .obtain⟨e,_⟩:=Q.pin p s;exact absurd (kH e) (by rw[z];exact rp _)
def FC(o:HO)(T:It)(g:TG)(b:TT)(tb:iW->TB)(pre:St->St)(c:St)(O:Hp)(Q:VK):Prop:=
 ∀d,O d=C->Jn T g b (tb d) (pre c) (upd O d o) λ_ a=>Q (.ref d) a
def Zm(T:It)(g:TG)(a:TT)(tb:iW->TB)(pre:St->St)(b:St)(O:Hp)(Q:VK):Prop:=FC (.lst []) T g a tb pre b O Q
def vH{e:je}{o:HO}{l:fy}{c:nS}{jF:oV}{scope:jQ}{v:jq}{pre:St->St}{g:TG}{ti:TT}{tb:iW->TB}{N:kF}{J:It}{i:kN}{it:iW}{tn:Nat->jo->Prop}
  (hl:(∃U' k sc p,e= .ListComp U' k sc p)\/ ∃U' k sc p,e= .SetComp U' k sc p)(hg:cA e=c::jF)
  (S:Bw X v scope pre)(hc:X.calm=YP)(ha:c.is_async=0)(i9: ∀L,jF[0]?=XV L->L.is_async=0)
  (l9: ∀(s:kF) (C:iW) (t:iZ) (u:Hp) (i:kN) (a:jK),let I':=X.comp v scope s C t u i a
   PG I' c.target g/\K8 I' c.ifs ti/\ ∀d,PB I' (jT e 0 (.ref d) I'.env)<|tb d)
  (i4: ∀x c,N.lookup x=XV c->X.env.cells.lookup x=XV c)(i6: ∀x,(x,aO)∈scope.names-> ∃c,N.lookup x=XV c)
  {a:jK}{f:iZ}{O:St}{m:Hp}{Q:VK}{E:jJ}{RR:jg->iW->mu->iZ->Prop}(I2:Inv X a O m f)(T:Turn X.prog X.w X.K c.target J i it tn)(u5:tn 0 f.heap)(f2: ∀b∈i,vc X a m b)
  (M:Inv X a O (upd m f.heap.objs.size o) {f with heap:=f.heap.push l})
  (h:FC o J g ti tb pre O m Q)
  (hRR: ∀(d:iW) (s:kF) (t:iZ) (u G:Hp) (σ':St) (s4:iZ),Inv X a O u t->(∀b∈i,vc X a u b)->Inv (X.comp v scope s t.heap.objs.size t u i a) [] σ' G s4->Q (.ref d) G->RR (.ref d) t.heap.objs.size (.ok .next) s4):
  ah (aj X.prog X.w) X.A (hC scope X.env.globals N [] X.env.qual X0 .none<|XV X.env) (λn H'=>
   cC (aj X.prog X.w) X.A (.compStart e 0 (.ref it) (.ref f.heap.objs.size) {n with scope:=lm scope X.env}) (RR (.ref f.heap.objs.size) n.locals) H') E {f with heap:=f.heap.push l}:=by
 have P: ∀b∈i,b<f.heap.objs.size:=λb j=>by obtain⟨o,e,_⟩:=T.obj _ _ u5 b j;exact kH e
 have Y: ∀b∈i,vc X a (upd m f.heap.objs.size o) b:=λb j=>⟨by rw[jA<|kf<|P b j];exact(f2 b j).1,(f2 b j).2⟩
 refine RH S.cell i4 i6 λh1 s ax eA B=>?_;have hk: ∀b o,(f.heap.push l).get? b=XV o->h1.get? b=XV o:=eA;have F: ∀b∈i,b<(f.heap.push l).objs.size:=λb j=>by rw[rn];exact vM<|P b j
 have J0:=Su (t':=f.toks) S M B Y F ax hk;obtain⟨pg,bp,pb⟩:=l9 s (f.heap.push l).objs.size {f with heap:=f.heap.push l} (upd m f.heap.objs.size o) i a;have y:tn 0 h1:=T.keep _ _ _ u5 λb j o e=>hk b o<|kg _ e;have hw:=h f.heap.objs.size<|I2.hok.fresh<|kh _
 have D: ∀b∈i,vc (X.comp v scope s (f.heap.push l).objs.size {f with heap:=f.heap.push l} (upd m f.heap.objs.size o) i a) []
   (upd m f.heap.objs.size o) b:=λb j=>by
  obtain⟨z1,z2,z3,z4,z5,z6⟩:=Y b j;refine⟨z1,kf<|F b j,λz=>(lz.mp<|M.I8 b z).elim z2 z3,.inl j,λx c hx=>(B.ex x c hx).elim (z5 x c) λz=>pk<|D3 (F b j) z,λp hp=>z6 p<|by simpa[Cx.comp] using hp⟩
 have R:(cA e)[0]?=XV c:=by rw[hg];rfl
 refine FF hl R ha ?_ λQ' W hq=>T.self X.A 0 _ Q' W y hq
 refine qx (JK (X:=X.comp v scope s (f.heap.push l).objs.size {f with heap:=f.heap.push l} (upd m f.heap.objs.size o) i a)
  (depth:=0) (acc:= .ref f.heap.objs.size) rfl hc hl R ha (λL V=>i9 L<|by rw[hg] at V;exact V) T pg bp (pb _) J0 D y hw) λr s4 hr=>?_
 obtain⟨rfl,σ4,G,Z,_,q⟩:=hr;exact hRR _ _ _ _ _ _ _ M Y Z q
noncomputable def MZ(d:TI)(g:TG)(c:TT)(tb:iW->TB)(pre:St->St):TE:=λa O Q=>d a O λT b=>Zm T g c tb pre a b Q
def aem{b:je}{c:nS}{jF:oV}{scope:jQ}{e:bO}{o:jq}{pre:St->St}{z:TI}{g:TG}{ti:TT}{tb:iW->TB}
  (S:Bw X o scope pre)(U:X.calm=YP)(N:c.is_async=0)(i9: ∀u,jF[0]?=XV u->u.is_async=0)
  (hs: ∀x,aA c.iter X.env x=pure x)(pi:PI X c.target c.iter z)
  (l9: ∀(r:kF) (C:iW) (y:iZ) (k:Hp) (t:kN) (a:jK),let f:=X.comp o scope r C y k t a
   PG f c.target g/\K8 f c.ifs ti/\ ∀d,PB f (jT (.ListComp b (c::jF) scope e) 0 (.ref d) f.env)<|tb d):
  PE X (.ListComp b (c::jF) scope e) (MZ z g ti tb pre):=by
 intro a s B H Q I h;obtain⟨tg,p,j,O⟩:=c;obtain rfl:O=0:=N;obtain⟨r,V,P,R⟩:=qk X.env scope λx K Y=>I.ok.has x.1<|S.free x K Y;rw[eval_ListComp];show ah _ X.A (f5 _ scope X.env _ (lw []) ZB (aT p X.env)) _ _ s;refine D2 (use:=X0) (g:=⟨tg,p,j,0⟩) (gs:=jF) AM hs V S.kind S.names<|BI (pi a s B H _ I h) λv s1 h1=>BI h1 λck Z M=>?_;obtain⟨it,t,tn,J,H2,rfl,l,T,u5,f2,F⟩:=M;refine nV<|vH (RR:=λi C=>p4 (aj X.prog X.w) X.A X.xe X0 (EP X a B Q) i C) (.inl ⟨_,_,_,_,rfl⟩) AM S U AM i9 l9 P R l T u5 f2 (l.MN (t':=Z.toks) .nil<|by simp) F λd iM y k E σ' s4 L G n q=>?_;obtain⟨m,D,_⟩:=id n.loc;exact⟨m,D,λh' W=>⟨.ref d,E,yo L G n W,rfl,q⟩⟩
def ad9{f:je}{c:nS}{jF:oV}{scope:jQ}{j f9 k:bO}{N':jq}{pre:St->St}{wi:TI}{g:TG}{ti:TT}{tb:iW->TB}{y:aG}{i:Nat}
  (dZ:dB (.ListComp f (c::jF) scope j) (XV<|.Name y k) f9.line X.env=pure YP)
  (S:Bw X N' scope pre)(hc:X.calm=YP)(ha:c.is_async=0)(i9: ∀g',jF[0]?=XV g'->g'.is_async=0)
  (hs: ∀x,aA c.iter X.env x=pure x)(pi:PI X c.target c.iter wi)(gn:PG X (.Name y k) (Gk i))
  (l9: ∀(cl:kF) (C:iW) (l:iZ) (H3:Hp) (fp:kN) (a:jK),let u:=X.comp N' scope cl C l H3 fp a
   PG u c.target g/\K8 u c.ifs ti/\ ∀d,PB u (jT (.ListComp f (c::jF) scope j) 0 (.ref d) u.env)<|tb d):
  PS X (.Assign [.Name y k] (.ListComp f (c::jF) scope j) f9) (Uu (MZ wi g ti tb pre)<|Gk i):=by
 intro a s E H D I h;obtain⟨W,M,t,az⟩:=c;obtain rfl:az=0:=ha;obtain⟨cl,l5,i4,i6⟩:=qk X.env scope λx Y hf=>I.ok.has x.1<|S.free x Y hf;rw[exec_Assign_Name_used _ _ _ _ dZ];refine iX<|uG<|iX ?_;show ah _ X.A (do let _ <-f5 (.ListComp f (⟨W,M,t,0⟩::jF) scope j) scope X.env _ (lw []) ZB (aT M X.env) (XV<|cW (.Name y k) X.env)) _ _ s
 refine iX (nX (D2 (use:=XV<|cW (.Name y k) X.env) (g:=⟨W,M,t,0⟩) (gs:=jF) (Q:=λ_ B=>SP X a D .next B) AM hs l5 S.kind S.names
  (BI (pi a s E H _ I h) λv s1 h1=>BI h1 λck s2 h2=>?_)) (λ_ B hq=>jd<|jd hq) λ_ _ e=>e)
 obtain⟨it,fp,tn,J,H2,rfl,P,T,u5,f2,hw⟩:=h2;refine nV<|vH (RR:=λG C=>p4 (aj X.prog X.w) X.A X.xe (XV<|cW (.Name y k) X.env) (λ_ B=>SP X a D .next B) G C) (.inl ⟨_,_,_,_,rfl⟩) AM S hc AM i9 l9 i4 i6 P T u5 f2 (P.MN (t':=s2.toks) .nil<|by simp) hw λd iM l H3 L σ' K n ff O q=>?_;obtain⟨m,hn,_⟩:=id O.loc;obtain⟨F,es,ep,ho,hd,hr⟩:=id hn;have R:Inv X a E L K:=yo n ff O (D1 ..);have r:l.heap.objs.size≠X.env.locals:=pk n.lt;have N:l.heap.objs.size∉X.fs:=λz=>n.N9 (kh _) z
 have Z:Inv X (a++[(l.heap.objs.size,F)]) E L K:=R.HX λp U=>by
  rcases tM.mp U with z|z
  .exact R.pin p (ph _ z)
  .rcases Je.mp z with rfl
   exact⟨ho,O.free,r,N,λv z=>by rw[hd] at z;cases z⟩
 show ah _ X.A (cW (.Name y k) X.env<|.ref d) _ _ _;refine BI (gn _ K E L (.ref d) (.ref d) _ Z rfl q) λ_ s5 a'=>?_;obtain⟨σ5,H5,I5,q5⟩:=a';have V:=I5.pin (l.heap.objs.size,F) (by simp);refine⟨m,⟨F,es,ep,V.1,hd,hr⟩,λh' m5=>⟨σ5,H5,?_,q5⟩⟩;refine I5.EF.turned (it:=l.heap.objs.size) (t':=s5.toks) (λb o hb e=>by rw[m5.2 b hb];exact e) V.2.1 r (.inr n.sz) (λx c Y z=>?_) λp U z=>?_
 .obtain⟨v,o,e,_⟩:=n.cell x c Y;exact absurd (kH e) (by rw[z];exact rp _)
 .obtain⟨e,_⟩:=n.pin p U;exact absurd (kH e) (by rw[z];exact rp _)
end
end L2
namespace PX
open L2
inductive OK where
 |dct|set|fn(i:Nat)|exc(c:Nat)
 deriving DecidableEq
inductive D where
 |Ax|bl(b:Bool)|int(i:Int)|str(x:aG)|tup(l:List D)|lst(l:List D)|B8(k:OK)(ks vs:List D)
mutual
/-- the hash of ints and of tuples of such -/
noncomputable def D.hash:D->Int
 | .int i=>hashInt i
 | .tup l=>reduceHash<|bh<|D.GG l
 |_=>0
noncomputable def D.GG:List D->List Int
 |[]=>[]
 |d::l=>D.hash d::D.GG l
end
noncomputable def kI:Key->D
 | .inl i=> .int i
 | .inr x=> .str x
def aar(K:ju)(o:fy)(T:Nat):Prop:=o.cls= .ref T/\(∀a:iW,PySem.W.KitX K (.ref a) (.ref T) λh=>h.get? a=Y o)/\ ∀n∈["int","bool","str","tuple","list","dict"],dG K (.ref T) (.type n)=Y U
def E6(K:ju)(h:Option HO)(k:OK)(a c:List D)(b:List V):Prop:=
 match k with
 | .dct=>(∃kvs:List (Key×V),h=Y (.dK kvs)/\a=kvs.map (λp=>kI p.1)/\b=kvs.map (·.2))\/
   (∃kvs:List (List Key×V),h=Y (.dT kvs)/\a=kvs.map (λp=> .tup (p.1.map kI))/\b=kvs.map (·.2))
 | .set=>a=[]/\ ∃d:List (Int×V),h=Y (.AV d)/\d.Perm ((D.GG c).zip b)
 | .exc T=>(a=[]/\c=[]/\b=[])/\ ∃o,h=Y (.EY o<|.own 0)/\aar K o T
 |_=>False
def E6.ex{K h k a vs us}(x:E6 K h k a vs us): ∃o,h=Y o:=by
 cases k with
 |dct=>rcases x with⟨_,e,_⟩|⟨_,e,_⟩<;>exact⟨_,e⟩
 |set=>obtain⟨_,_,e,_⟩:=x;exact⟨_,e⟩
 |exc T=>obtain⟨_,_,e,_⟩:=x;exact⟨_,e⟩
 |_=>exact x.elim
def E6.keep{K k a b us}(x:E6 K h k a b us)(c: ∀o,h=Y o->h'=Y o):E6 K h' k a b us:=by obtain⟨o,e⟩:=x.ex;rw[c o e,<-e];exact x
abbrev B7:=iW->Prop
def KT(K:ju)(a:iW)(xs:List V):Prop:= ∃(o:fy) (b:nv) (n:Nat),K.lookup a=Y o/\o.cls= .type "tuple"/\o.data= .seq b n/\b.size<=sizeLine/\Vals xs b.toList
def acT(K:ju)(a:iW)(c:List V):Prop:= ∃(o:fy) (b:nv) (n:Nat),K.lookup a=Y o/\o.cls= .type "list"/\o.dict=C/\o.data= .seq b n/\b.size<=sizeLine/\Vals c b.toList
def IB(K:ju)(T:Hp)(O:B7)(a:iW)(b:List V):Prop:=T a=Y (.tup b)/\ ¬O a
def IF(K:ju)(T:Hp)(O:B7)(a:iW)(b:List V):Prop:=(Rd T a (.lst b)/\ ¬O a)\/acT K a b
def IB.sq{K T O a xs}(h:IB K T O a xs):IU K T a xs:= .inl (.inl h.1)
def IF.sq{K T O a xs}(h:IF K T O a xs):Gm K T a xs:=h.elim (λz=> .inl z.1) .inr
def Rd.mono{a u}(h:Rd T a u)(k: ∀o,T a=Y o->H' a=Y o):Rd H' a u:=by
 rcases h with h|⟨o,h⟩
 .exact .inl (k _ h)
 .exact .inr ⟨o,k _ h⟩
def IB.mono{K T H'}{a xs}(h:IB K T O a xs)(k: ∀b o,T b=Y o-> ¬O b->H' b=Y o)(c: ∀b,T b≠C->O' b->O b):IB K H' O' a xs:=
 ⟨k a _ h.1 h.2,λz=>h.2<|c a (by rw[h.1];simp) z⟩
def IF.mono{K T H'}{a xs}(h:IF K T O a xs)(k: ∀b o,T b=Y o-> ¬O b->H' b=Y o)(c: ∀b,T b≠C->O' b->O b):IF K H' O' a xs:=by
 rcases h with⟨r,n⟩|h
 .refine .inl ⟨Rd.mono r λo e=>k a o e n,λz=>n<|c a ?_ z⟩;rcases r with r|⟨_,r⟩<;>(rw[r];simp)
 .exact .inr h
mutual
/-- v is the datum,in H;nothing of it stands at an address of O -/
def Rep(K:ju)(T:Hp)(O:B7):D->V->Prop
 | .Ax,v=>v= .Ax
 | .bl b,v=>v= .bl b
 | .int i,v=>v= .int i
 | .str x,v=>v= .str x
 | .tup l,v=> ∃a xs,v= .ref a/\IB K T O a xs/\AJ K T O l xs
 | .lst l,v=> ∃a xs,v= .ref a/\IF K T O a xs/\AJ K T O l xs
 | .B8 k e d,v=> ∃a c,v= .ref a/\(¬O a/\E6 K (T a) k e d c)/\AJ K T O d c
def AJ(K:ju)(T:Hp)(O:B7):List D->List V->Prop
 |[],a=>a=[]
 |d::l,a=> ∃v r,a=v::r/\Rep K T O d v/\AJ K T O l r
end
mutual
theorem Rep.mono{K T H'}{O O':B7}(k: ∀b o,T b=Y o-> ¬O b->H' b=Y o)(c: ∀b,T b≠C->O' b->O b): ∀{d:D} {v:V},Rep K T O d v->Rep K H' O' d v
 | .Ax,_,h=>h
 | .bl _,_,h=>h
 | .int _,_,h=>h
 | .str _,_,h=>h
 | .tup l,_,h=>by rw[Rep] at h ⊢;obtain⟨a,f,e,s,r⟩:=h;exact⟨a,f,e,s.mono k c,AJ.mono k c r⟩
 | .lst l,_,h=>by rw[Rep] at h ⊢;obtain⟨a,f,e,s,r⟩:=h;exact⟨a,f,e,s.mono k c,AJ.mono k c r⟩
 | .B8 i j m,_,h=>by rw[Rep] at h ⊢;obtain⟨a,g,e,s,r⟩:=h;exact⟨a,g,e,⟨λz=>s.1<|c a (by obtain⟨o,q⟩:=s.2.ex;rw[q];simp) z,s.2.keep λo q=>k a o q s.1⟩,AJ.mono k c r⟩
theorem AJ.mono{K T H'}{O O':B7}(k: ∀b o,T b=Y o-> ¬O b->H' b=Y o)(a: ∀b,T b≠C->O' b->O b): ∀{l:List D} {c:List V},AJ K T O l c->AJ K H' O' l c
 |[],_,h=>h
 |d::l,_,h=>by rw[AJ] at h ⊢;obtain⟨v,r,e,h1,f⟩:=h;exact⟨v,r,e,Rep.mono k a h1,AJ.mono k a f⟩
end
def Rep.mkInt{K T O i}:Rep K T O (.int i) (.int i):=by rw[Rep]
def Rep.Ii{K T O i}:Rep K T O (.bl i) (.bl i):=by rw[Rep]
def Rep.HM{K T O}:Rep K T O .Ax .Ax:=by rw[Rep]
def Rep.mkStr{K T O i}:Rep K T O (.str i) (.str i):=by rw[Rep]
def Rep.int{K T O i v}(h:Rep K T O (.int i) v):v= .int i:=by rwa [Rep] at h
def Rep.bl{K T O i v}(h:Rep K T O (.bl i) v):v= .bl i:=by rwa [Rep] at h
def Rep.Ax{K T O v}(h:Rep K T O .Ax v):v= .Ax:=by rwa [Rep] at h
def Rep.str{K T O i v}(h:Rep K T O (.str i) v):v= .str i:=by rwa [Rep] at h
def Rep.tup{K T O l v}(h:Rep K T O (.tup l) v): ∃a xs,v= .ref a/\IB K T O a xs/\AJ K T O l xs:=by rwa [Rep] at h
def Rep.lst{K T O l v}(h:Rep K T O (.lst l) v): ∃a xs,v= .ref a/\IF K T O a xs/\AJ K T O l xs:=by rwa [Rep] at h
def Rep.B8{K T O k ks vs v}(h:Rep K T O (.B8 k ks vs) v): ∃a b,v= .ref a/\(¬O a/\E6 K (T a) k ks vs b)/\AJ K T O vs b:=by rwa [Rep] at h
def Rep.NB{K T O k c b a us}(n: ¬O a)(h:E6 K (T a) k c b us)(r:AJ K T O b us):Rep K T O (.B8 k c b) (.ref a):=by rw[Rep];exact⟨a,us,rfl,⟨n,h⟩,r⟩
def Rep.KJ{K T O l a xs}(h:IB K T O a xs)(r:AJ K T O l xs):Rep K T O (.tup l) (.ref a):=by rw[Rep];exact⟨a,xs,rfl,h,r⟩
def Rep.NF{K T O l a xs}(h:IF K T O a xs)(r:AJ K T O l xs):Rep K T O (.lst l) (.ref a):=by rw[Rep];exact⟨a,xs,rfl,h,r⟩
theorem AJ.length{K T O}: ∀{l:List D} {vs:List V},AJ K T O l vs->A7 vs=A7 l
 |[],vs,h=>by rw[AJ] at h;rw[h];rfl
 |d::l,vs,h=>by rw[AJ] at h;obtain⟨v,r,rfl,_,a⟩:=h;simp[AJ.length a]
theorem AJ.get{K T O}: ∀{l:List D} {a:List V} {i:Nat} {d:D},AJ K T O l a->l[i]?=Y d-> ∃v,a[i]?=Y v/\Rep K T O d v
 |[],_,_,_,_,e=>by simp at e
 |d::l,a,0,b,h,e=>by rw[AJ] at h;obtain⟨v,r,rfl,h1,_⟩:=h;simp at e;subst e;exact⟨v,rfl,h1⟩
 |d::l,a,i+1,b,h,e=>by rw[AJ] at h;obtain⟨v,r,rfl,_,c⟩:=h;obtain⟨w,f,g⟩:=AJ.get (i:=i) c (by simpa using e);exact⟨w,by simpa using f,g⟩
def AJ.append{K T O}: ∀{l m:List D} {a c:List V},AJ K T O l a->AJ K T O m c->AJ K T O (l++m) (a++c):=by
 intro g
 induction g with
 |nil=>intro _ a _ h b;rw[AJ] at h;subst h;exact b
 |cons d l f=>intro _ a _ h b;rw[AJ] at h;obtain⟨v,r,rfl,h1,e⟩:=h;show AJ K T O (d::(l++_)) _;rw[AJ];exact⟨v,_,rfl,h1,f e b⟩
def AJ.one{K T O}{d:D}{v:V}(h:Rep K T O d v):AJ K T O [d] [v]:=by rw[AJ];exact⟨v,[],rfl,h,by rw[AJ]⟩
def AJ.nil{K T O}:AJ K T O [] []:=by rw[AJ]
def AJ.cons{K T O}{l vs}(h:Rep K T O d v)(h':AJ K T O l vs):AJ K T O (d::l) (v::vs):=by rw[AJ];exact⟨v,vs,rfl,h,h'⟩
theorem AJ.take{K T O}: ∀{l:List D} {vs:List V} (n:Nat),AJ K T O l vs->AJ K T O (l.take n) (vs.take n)
 |_,_,0,_=>by simp[AJ]
 |[],vs,n+1,h=>by rw[AJ] at h;subst h;simp[AJ]
 |d::l,vs,n+1,h=>by rw[AJ] at h;obtain⟨v,r,rfl,h1,a⟩:=h;exact AJ.cons h1<|AJ.take n a
theorem AJ.drop{K T O}: ∀{l:List D} {a:List V} (n:Nat),AJ K T O l a->AJ K T O (l.drop n) (a.drop n)
 |_,_,0,h=>h
 |[],a,n+1,h=>by rw[AJ] at h;subst h;simp[AJ]
 |d::l,a,n+1,h=>by rw[AJ] at h;obtain⟨v,r,rfl,h1,b⟩:=h;exact AJ.drop n b
theorem AJ.set{K T O}{d:D}{v:V}(hv:Rep K T O d v): ∀{l:List D} {vs:List V} (i:Nat),AJ K T O l vs->AJ K T O (l.set i d) (vs.set i v)
 |[],vs,i,h=>by rw[AJ] at h;subst h;simp[AJ]
 |e::l,vs,0,h=>by rw[AJ] at h;obtain⟨w,r,rfl,h1,a⟩:=h;exact AJ.cons hv a
 |e::l,vs,i+1,h=>by rw[AJ] at h;obtain⟨w,r,rfl,h1,a⟩:=h;exact AJ.cons h1<|AJ.set hv i a
abbrev Sl:=Option<|D×Bool
abbrev Dn:=List Sl
def AO(b:L2.St)(δ:Dn)(a:iW):Prop:= ∃(i:Nat) (d:D),δ[i]?=Y (Y (d,J))/\b[i]?=Y (Y<|V.ref a)
def Cg(K:ju)(T:Hp)(O:B7):D->iW->Prop
 | .lst l,a=> ∃d,T a=Y (.lst d)/\AJ K T O l d
 | .B8 k e c,a=> ∃b,E6 K (T a) k e c b/\AJ K T O c b
 |_,_=>False
def Cg.mono{K T H'}(h:Cg K T O d a)(k: ∀b o,T b=Y o-> ¬O b->H' b=Y o)(c: ∀b,T b≠C->O' b->O b)(f: ∀o,T a=Y o->H' a=Y o):Cg K H' O' d a:=by
 cases d with
 |lst l=>obtain⟨i,e,r⟩:=h;exact⟨i,f _ e,AJ.mono k c r⟩
 |B8 j m n=>obtain⟨g,e,r⟩:=h;exact⟨g,e.keep f,AJ.mono k c r⟩
 |_=>exact h
def Cg.rep{K T}(h:Cg K T O d a)(f: ¬O' a)(c: ∀b,T b≠C->O' b->O b):Rep K T O' d (.ref a):=by
 cases d with
 |lst l=>obtain⟨g,e,r⟩:=h;rw[Rep];exact⟨a,g,rfl,.inl ⟨.inl e,f⟩,AJ.mono (λb o e _=>e) c r⟩
 |B8 i j m=>obtain⟨k,e,r⟩:=h;exact Rep.NB f e<|AJ.mono (λb o e _=>e) c r
 |_=>exact h.elim
def Ow:Option HO->Prop
 |none=>False
 |some (.tup _)=>False
 |_=>True
def Ow.ne{o:Option HO}(h:Ow o):o≠C:=λe=>by rw[e] at h;exact h
def Ow.up{o a:Option HO}(h:Ow o)(k: ∀x,o=Y x->a=Y x):Ow a:=by
 cases o with
 |none=>exact h.elim
 |some x=>rw[k x H];exact h
def NA{o:Option HO}(h:o=C): ¬Ow o:=λz=>z.ne h
def Cg.ow{K T}{O:B7}{d:D}{a:iW}(h:Cg K T O d a):Ow (T a):=by
 cases d with
 |lst l=>obtain⟨g,e,_⟩:=h;rw[e];trivial
 |B8 k b f=>
  obtain⟨c,e,_⟩:=h
  cases k with
  |dct=>rcases e with⟨_,e,_⟩|⟨_,e,_⟩<;>(rw[e];trivial)
  |set=>obtain⟨_,_,e,_⟩:=e;rw[e];trivial
  |exc Q=>obtain⟨_,_,e,_⟩:=e;rw[e];trivial
  |_=>exact e.elim
 |_=>exact h.elim
structure ER(K:ju)(H:Hp)(T:B7)(σ:L2.St)(δ:Dn):Prop where
 len:(A7 σ)=A7 δ
 val: ∀(i:Nat) (d:D),δ[i]?=XV (XV (d,ZB))-> ∃v,σ[i]?=XV (XV v)/\Rep K H (λa=>AO σ δ a\/T a) d v
 own: ∀(i:Nat) (d:D),δ[i]?=XV (XV (d,YP))-> ∃a,σ[i]?=XV (XV<|V.ref a)/\Cg K H (λa=>AO σ δ a\/T a) d a
 inj: ∀(i j:Nat) (d e:D) (a:iW),δ[i]?=XV (XV (d,YP))->δ[j]?=XV (XV (e,YP))->σ[i]?=XV (XV<|V.ref a)->σ[j]?=XV (XV<|V.ref a)->i=j
 nT: ∀a,AO σ δ a-> ¬T a
 dom: ∀a,T a->Ow (H a)
def ER.KH{K Q T σ e}(E:ER K Q T σ e)(h:AO σ e a):Ow (Q a):=by obtain⟨i,d,h1,f⟩:=h;obtain⟨b,c,g⟩:=E.own i d h1;rw[f] at c;cases c;exact g.ow
def ER.Ie{K Q T σ δ}(E:ER K Q T σ δ)(h:AO σ δ a):Q a≠C:=(E.KH h).ne
def ER.mono{K Q H' σ δ}(E:ER K Q T σ δ)(k: ∀b o,Q b=Y o-> ¬T b->H' b=Y o)(f: ∀b,Q b≠C->T' b->T b)(hd: ∀a,T' a->Ow (H' a)):ER K H' T' σ δ where
 len:=E.len
 val:=λi d h=>by obtain⟨v,h1,c⟩:=E.val i d h;exact⟨v,h1,Rep.mono (λb o e n=>k b o e λz=>n<|.inr z) (λb g z=>z.elim .inl λz=> .inr (f b g z)) c⟩
 own:=λi d h=>by obtain⟨a,h1,c⟩:=E.own i d h;exact⟨a,h1,c.mono (λb o e n=>k b o e λz=>n<|.inr z) (λb g z=>z.elim .inl λz=> .inr (f b g z)) λo e=>k a o e<|E.nT a ⟨i,d,h,h1⟩⟩
 inj:=E.inj
 nT:=λa h z=>E.nT a h<|f a (E.Ie h) z
 dom:=hd
def AO.set(h:AO σ (δ.set i<|Y (d,U)) a):AO σ δ a:=by
 obtain⟨j,e,h1,b⟩:=h;rw[yM] at h1;split at h1
 .split at h1<;>simp at h1
 .exact⟨j,e,h1,b⟩
def ER.freeze{K Q T σ m}(E:ER K Q T σ m){i:Nat}{d:D}{b:Bool}(h:m[i]?=Y (Y (d,b))):ER K Q T σ (m.set i<|Y (d,U))/\ ∃v,σ[i]?=Y (Y v)/\Rep K Q (λa=>AO σ (m.set i<|Y (d,U)) a\/T a) d v:=by
 have o:i<(A7 m):=(xj.mp h).1
 have p: ∃v,σ[i]?=Y (Y v)/\Rep K Q (λa=>AO σ (m.set i<|Y (d,U)) a\/T a) d v:=by
  cases b with
  |false=>obtain⟨v,h1,l⟩:=E.val i d h;exact⟨v,h1,Rep.mono (λ_ _ e _=>e) (λb _ z=>z.elim (λz=> .inl z.set) .inr) l⟩
  |true=>
   obtain⟨a,h1,l⟩:=E.own i d h;refine⟨.ref a,h1,l.rep (λz=>?_) λb _ z=>z.elim (λz=> .inl z.set) .inr⟩;rcases z with⟨j,e,n,r⟩|z
   .rw[yM] at n;split at n
    .first
      |(split at n<;>simp at n)
      |simp at n
    .rename_i q;exact q<|E.inj i j d e a h n h1 r
   .exact E.nT a ⟨i,d,h,h1⟩ z
 refine⟨⟨by rw[ur];exact E.len,λj e c=>?_,λj e c=>?_,λj k e f a c hk h1 l=>?_,λa z=>E.nT a z.set,E.dom⟩,p⟩
 .by_cases g:i=j
  .subst g;rw[ux o] at c;cases c;exact p
  .rw[mQ g] at c;obtain⟨v,h1,l⟩:=E.val j e c;exact⟨v,h1,Rep.mono (λ_ _ e _=>e) (λb _ z=>z.elim (λz=> .inl z.set) .inr) l⟩
 .by_cases g:i=j
  .subst g;rw[ux o] at c;cases c
  .rw[mQ g] at c;obtain⟨a,h1,l⟩:=E.own j e c;exact⟨a,h1,l.mono (λ_ _ e _=>e) (λb _ z=>z.elim (λz=> .inl z.set) .inr) λ_ e=>e⟩
 .have g1:m[j]?=Y (Y (e,J)):=by
   by_cases g:i=j
   .subst g;rw[ux o] at c;cases c
   .rwa [mQ g] at c
  have g2:m[k]?=Y (Y (f,J)):=by
   by_cases g:i=k
   .subst g;rw[ux o] at hk;cases hk
   .rwa [mQ g] at hk
  exact E.inj j k e f a g1 g2 h1 l
def B9(b:L2.St)(δ:Dn)(i:Nat)(a:iW):Prop:= ∃d:D,δ[i]?=Y (Y (d,J))/\b[i]?=Y (Y<|V.ref a)
structure BU(σ:L2.St)(δ:Dn)(H:Hp)(δ':Dn)(H':Hp):Prop where
 kp: ∀a o,H a=XV o-> ¬AO σ δ a->H' a=XV o
 owi: ∀i a,B9 σ δ' i a->B9 σ δ i a
 dm: ∀a,H a≠X0->H' a≠X0
def BU.ow{σ c T b f}(k:BU σ c T b f)(a:iW)(h:AO σ b a):AO σ c a:=by obtain⟨i,d,h1,g⟩:=h;obtain⟨e,j,l⟩:=k.owi i a ⟨d,h1,g⟩;exact⟨i,e,j,l⟩
def BU.refl{σ a T}:BU σ a T a T:=⟨λ_ _ e _=>e,λ_ _ z=>z,λ_ z=>z⟩
def BU.trans{σ δ δ1 δ2 T H1 b}(x:BU σ δ T δ1 H1)(y:BU σ δ1 H1 δ2 b):BU σ δ T δ2 b:=
 ⟨λa o e n=>y.kp a o (x.kp a o e n) λz=>n<|x.ow a z,λi a z=>x.owi i a<|y.owi i a z,λa z=>y.dm a<|x.dm a z⟩
def BU.ext{σ δ T H1}(k: ∀a o,T a=Y o->H1 a=Y o):BU σ δ T δ H1:=⟨λa o e _=>k a o e,λ_ _ z=>z,λa z=>by
 cases h:T a with
 |none=>exact absurd h z
 |some o=>rw[k a o h];simp⟩
def B9.set(h:B9 σ (δ.set i<|Y (d,U)) j a):B9 σ δ j a:=by
 obtain⟨e,h1,b⟩:=h;rw[yM] at h1;split at h1
 .split at h1<;>simp at h1
 .exact⟨e,h1,b⟩
def BU.set{σ δ T i d}:BU σ δ T (δ.set i<|Y (d,U)) T:=⟨λ_ _ e _=>e,λ_ _ z=>z.set,λ_ z=>z⟩
def BO(K:ju)(T:B7)(c:L2.St)(e:Dn)(Q:Hp)(r:D×Bool)(b:Dn)(v:V)(H':Hp):Prop:=
 BU c e Q b H'/\
 match r with
 |(d,U)=>ER K H' T c b/\Rep K H' (λa=>AO c b a\/T a) d v
 |(d,J)=> ∃p,v= .ref p/\Q p=C/\ER K H' (λa=>T a\/a=p) c b/\Cg K H' (λa=>AO c b a\/T a\/a=p) d p
abbrev F:=Dn->Option ((D×Bool)×Dn)
def tF(K:ju)(f:F):TE:=λd O Q=> ∃b T r a,ER K O T d b/\f b=Y (r,a)/\ ∀v c,BO K T d b O r a v c->Q v c
def PX(X:Cx)(e:je)(f:F):Prop:=PE X e<|tF X.K f
noncomputable def Lv(T:B7)(r:D×Bool)(v:V):B7:=λa=>T a\/(r.2=J/\v= .ref a)
section
variable {K:ju}{T:B7}{c:L2.St}{δ δ1 δ2:Dn}{H f g:Hp}{x y:D×Bool}{v u:V}
def BO.er(E:ER K H T c δ)(P:BO K T c δ H x δ1 v f):ER K f (Lv T x v) c δ1:=by
 obtain⟨d,b⟩:=x
 cases b with
 |false=>
  refine P.2.1.mono (λ_ _ e _=>e) (λb _ z=>z.elim id λz=>absurd z.1<|by simp) λa z=>?_;rcases z with z|z
  .exact P.2.1.dom a z
  .exact absurd z.1 (by simp)
 |true=>
  obtain⟨p,rfl,i,h,j⟩:=P.2;refine h.mono (λ_ _ e _=>e) (λb _ z=>z.elim .inl λz=> .inr (by have:=z.2;cases this;rfl)) λa z=>?_;rcases z with z|z
  .exact h.dom a (.inl z)
  .have:=z.2;cases this;exact h.dom _ (.inr AM)
def BO.rep(E:ER K H T c δ)(P:BO K T c δ H x δ1 v f):ER K f T c δ1/\Rep K f (λa=>AO c δ1 a\/T a) x.1 v:=by
 obtain⟨d,b⟩:=x
 cases b with
 |false=>exact P.2
 |true=>
  obtain⟨p,rfl,i,h,j⟩:=P.2;refine⟨h.mono (λ_ _ e _=>e) (λb _ z=> .inl z) λa z=>h.dom a<|.inl z,j.rep (λz=>?_) λb _ z=>z.elim .inl λz=> .inr (.inl z)⟩;rcases z with z|z
  .exact h.nT p z (.inr AM)
  .exact(E.dom p z).ne i
def BO.val(k:BU c δ H δ2 g)(E:ER K g T c δ2)(r:Rep K g (λa=>AO c δ2 a\/T a) d w):BO K T c δ H (d,U) δ2 w g:=⟨k,E,r⟩
end
def jz{e f:Type}{a c:e}{b d:f}(h:Y (a,b)=Y (c,d)):a=c/\b=d:=by cases h;exact⟨rfl,rfl⟩
noncomputable def fC(d:D):F:=λδ=>Y ((d,U),δ)
noncomputable def lu(i:Nat):F:=λδ=>match δ[i]? with
 |some (Y (d,_))=>Y ((d,U),δ.set i<|Y (d,U))
 |_=>C
section
variable {X:Cx}{a b c:je}{d:bO}{m l g:F}
def PX.imp(h:PE X e t)(k: ∀j T Q,tF X.K f j T Q->t j T Q):PX X e f:=λi s j T Q O n=>h i s j T Q O<|k j T Q n
def XJ{i j}:PX X (.Constant (.bool i) j d) (fC<|.bl i):=PX.imp XR λo O Q h=>by obtain⟨n,T,r,f,E,e,k⟩:=h;cases e;exact k _ _ (BO.val .refl E (by first|exact Rep.mkInt|exact Rep.Ii|exact Rep.HM|exact Rep.mkStr))
end
inductive Bl where
 |val(r:D×Bool)|slot(i:Nat)
noncomputable def res(δ:Dn):Bl->Option D
 | .val r=>Y r.1
 | .slot i=>match δ[i]? with
  |some (Y (d,_))=>Y d
  |_=>C
def kQ(K:ju)(T:Hp)(O:B7)(d:D)(v:V):Prop:=Rep K T O d v\/ ∃a,v= .ref a/\Cg K T O d a
abbrev FO:=Dn->Option (Bl×Dn)
def FA(K:ju)(T:B7)(b:L2.St)(c:Dn)(Q:Hp)(o:Bl)(a:Dn)(v:V)(H':Hp):Prop:=
 match o with
 | .val r=>BO K T b c Q r a v H'
 | .slot i=>BU b c Q a H'/\ER K H' T b a/\b[i]?=Y (Y v)
noncomputable def Fi(T:B7)(o:Bl)(v:V):B7:=match o with
 | .val r=>Lv T r v
 | .slot _=>T
def tO(K:ju)(f:FO):TE:=λd O Q=> ∃b T o a,ER K O T d b/\f b=Y (o,a)/\ ∀v c,FA K T d b O o a v c->Q v c
def PO(X:Cx)(e:je)(f:FO):Prop:=PE X e<|tO X.K f
noncomputable def jk(f:F):FO:=λδ=>(f δ).bind λp=>Y (.val p.1,p.2)
noncomputable def jb(i:Nat):FO:=λδ=>match δ[i]? with
 |some (Y _)=>Y (.slot i,δ)
 |_=>C
def PE.imp'(h:PE X e t)(k: ∀b T Q,d b T Q->t b T Q):PE X e d:=λa s b T Q O c=>h a s b T Q O<|k b T Q c
section
variable {X:Cx}{a:bO}
def PX.po(h:PX X e f):PO X e (jk f):=PE.imp' h λj O Q g=>by
 obtain⟨c,T,o,i,E,e,k⟩:=g;unfold jk at e
 cases h1:f c with
 |none=>rw[h1] at e;cases e
 |some p=>obtain⟨r,b⟩:=p;rw[h1] at e;obtain⟨rfl,rfl⟩:=jz e;exact⟨c,T,r,b,E,h1,λv d P=>k v d P⟩
end
structure Ops(K:ju)(T:B7)(σ:L2.St)(δ:Dn)(H:Hp)(os:List Bl)(vs:List V)(δ':Dn)(H':Hp)(T':B7):Prop where
 len:os.length=A7 vs
 keep:BU σ δ H δ' H'
 er:ER K H' T' σ δ'
 tt: ∀a,T a->T' a
 val: ∀(j:Nat) (d:D) (v:V),os[j]?=XV (.val (d,ZB))->vs[j]?=XV v->Rep K H' (λa=>AO σ δ' a\/T a) d v
 tmp: ∀(j:Nat) (d:D) (v:V),os[j]?=XV (.val (d,YP))->vs[j]?=XV v-> ∃p,v= .ref p/\T' p/\H p=X0/\Cg K H' (λa=>AO σ δ' a\/T a) d p
 slt: ∀(j i:Nat) (v:V),os[j]?=XV (.slot i)->vs[j]?=XV v->σ[i]?=XV (XV v)
section
variable {K:ju}{T T':B7}{b:L2.St}{δ a c:Dn}{H H' e:Hp}{os:List Bl}{vs:List V}{o:Bl}{v:V}
def Ops.nil(E:ER K H T b δ):Ops K T b δ H [] [] δ H T:=⟨rfl,.refl,E,λ_ z=>z,λj d v h=>by simp at h,λj d v h=>by simp at h,λj i v h=>by simp at h⟩
def FA.keep(P:FA K T b δ H o a v H'):BU b δ H a H':=by
 cases o with
 |val r=>exact P.1
 |slot i=>exact P.1
def FA.er(E:ER K H T b δ)(P:FA K T b δ H o a v H'):ER K H' (Fi T o v) b a:=by
 cases o with
 |val r=>exact BO.er E P
 |slot i=>exact P.2.1
end
def Gen(K:ju)(T:Hp)(O:B7)(z:D×Bool)(Q:VK):Prop:=
 match z with
 |(d,U)=> ∀w b,(∀a o,T a=Y o->b a=Y o)->Rep K b O d w->Q w b
 |(d,J)=> ∀p b,T p=C->(∀a o,T a=Y o->b a=Y o)->Cg K b (λa=>O a\/a=p) d p->Q (.ref p) b
section
variable {K:ju}{T m:B7}{f:L2.St}{δ δ1 c δ2:Dn}{H s H' h:Hp}{os:List Bl}{vs:List V}{o:Bl}{v:V}{z:D×Bool}{Q:VK}
def Ops.cons(E:ER K H T f δ)(P:FA K T f δ H o δ1 v s)(B:Ops K (Fi T o v) f δ1 s os vs δ2 h m):Ops K T f δ H (o::os) (v::vs) δ2 h m:=by
 have A:=P.er E;have x:=B.keep.kp;have y:=B.keep.ow
 have t: ∀a,T a->Fi T o v a:=λa z=>by
  cases o with
  |val r=>exact .inl z
  |slot i=>exact z
 refine⟨by simp[B.len],P.keep.trans B.keep,B.er,λa z=>B.tt a<|t a z,λj d w h1 g=>?_,λj d w h1 g=>?_,λj i w h1 g=>?_⟩
 .cases j with
  |zero=>simp at h1 g;subst h1;subst g;have q:BO K T f δ H (d,U) δ1 v s:=P;exact Rep.mono (λb k e n=>x b k e λz=>n<|.inl z) (λb _ z=>z.elim (λz=>bb<|y b z) bP) (q.rep E).2
  |succ j=>exact Rep.mono (λ_ _ e _=>e) (λb _ z=>z.elim bb λz=>bP<|t b z)<|B.val j d w (by simpa using h1) (by simpa using g)
 .cases j with
  |zero=>simp at h1 g;subst h1;subst g;have q:BO K T f δ H (d,J) δ1 v s:=P;obtain⟨p,rfl,u,N,ok⟩:=q.2;have l:Fi T (.val (d,J)) (V.ref p) p:= .inr ⟨rfl,rfl⟩;refine⟨p,rfl,B.tt p l,u,ok.mono (λb k e n=>x b k e λz=>n<|.inl z) (λb _ z=>z.elim (λz=>bb<|y b z) λz=>bP<|bb z) λk e=>x p k e λz=>A.nT p z l⟩
  |succ j=>
   obtain⟨p,rfl,l,u,ok⟩:=B.tmp j d w (by simpa using h1) (by simpa using g);refine⟨p,rfl,l,?_,ok.mono (λ_ _ e _=>e) (λb _ z=>z.elim bb λz=>bP<|t b z) λ_ e=>e⟩
   cases O:H p with
   |none=>rfl
   |some k=>exact absurd u<|P.keep.dm p (by rw[O];simp)
 .cases j with
  |zero=>simp at h1 g;subst h1;subst g;exact P.2.2
  |succ j=>exact B.slt j i w (by simpa using h1) (by simpa using g)
def Ops.view(B:Ops K T f δ H os vs c H' m){j:Nat}{d:D}(h1:os[j]?=Y o)(n:vs[j]?=Y v)(g:res c o=Y d):kQ K H' (λa=>AO f c a\/T a) d v:=by
 cases o with
 |val r=>
  obtain⟨e,b⟩:=r;have hd:e=d:=lj g;subst hd
  cases b with
  |false=>exact .inl<|B.val j e v h1 n
  |true=>obtain⟨p,rfl,_,_,ok⟩:=B.tmp j e v h1 n;exact .inr ⟨p,rfl,ok⟩
 |slot i=>
  have u:=B.slt j i v h1 n;unfold res at g;dsimp only at g
  cases l:c[i]? with
  |none=>rw[l] at g;cases g
  |some q=>
   cases q with
   |none=>rw[l] at g;cases g
   |some p=>
    obtain⟨e,b⟩:=p;rw[l] at g;have hd:e=d:=lj g;subst hd
    cases b with
    |false=>obtain⟨w,k,t⟩:=B.er.val i e l;rw[u] at k;cases k;exact .inl<|Rep.mono (λ_ _ e _=>e) (λb _ z=>z.elim bb λz=>bP<|B.tt b z) t
    |true=>obtain⟨a,k,t⟩:=B.er.own i e l;rw[u] at k;cases k;exact .inr ⟨a,rfl,t.mono (λ_ _ e _=>e) (λb _ z=>z.elim bb λz=>bP<|B.tt b z) λ_ e=>e⟩
def Ops.done(B:Ops K T f δ H os vs c H' m)(k: ∀v h,BO K T f δ H z c v h->Q v h):Gen K H' (λa=>AO f c a\/T a) z Q:=by
 obtain⟨d,b⟩:=z;have i: ∀{h:Hp},(∀a o,H' a=Y o->h a=Y o)-> ∀a,T a->Ow (h a):=λ{h} g a z=>(B.er.dom a<|B.tt a z).up<|g a
 cases b with
 |false=>intro w h g r;exact k w h ⟨B.keep.trans<|.ext g,B.er.mono (λb o e _=>g b o e) (λb _ z=>B.tt b z)<|i g,r⟩
 |true=>
  intro p h l g ok
  have j:H p=C:=by
   cases n:H p with
   |none=>rfl
   |some t=>exact absurd l<|B.keep.dm p (by rw[n];simp)
  refine k (.ref p) h ⟨B.keep.trans<|.ext g,p,rfl,j,B.er.mono (λb o e _=>g b o e) (λb q z=>z.elim (B.tt b) λz=>absurd (z▸l) q) λa z=>?_,ok.mono (λ_ _ e _=>e) (λb _ z=>?_) λ_ e=>e⟩
  .rcases z with z|z
   .exact i g a z
   .subst z;exact ok.ow
  .rcases z with z|z|z
   .exact bb (bb z)
   .exact bb (bP z)
   .exact bP z
def Gen.int(g:Gen K H O (.int i,U) Q):Q (.int i) H:=g _ H (λ_ _ e=>e) Rep.mkInt
def Gen.bl(g:Gen K H O (.bl i,U) Q):Q (.bl i) H:=g _ H (λ_ _ e=>e) Rep.Ii
def lG{H:Hp}{p:iW}{o:HO}(b:H p=C): ∀a u,H a=Y u->upd H p o a=Y u:=λa u e=>by rw[jA (by intro z;subst z;rw[e] at b;cases b)];exact e
def Gen.lst{O:B7}{l:List D}{xs:List V}{p:iW}(g:Gen K H O (.lst l,J) Q)(a:H p=C)(r:AJ K H O l xs):Q (.ref p) (upd H p<|.lst xs):=
 g p _ a (lG a) ⟨xs,jr,AJ.mono (λb o e _=>lG a b o e) (λb d z=>z.elim id λz=>absurd (z▸a) d) r⟩
def Gen.tup(g:Gen K H O (.tup l,U) Q)(a:H p=C)(np: ¬O p)(r:AJ K H O l xs):Q (.ref p) (upd H p<|.tup xs):=
 g _ _ (lG a) (Rep.KJ ⟨jr,np⟩<|AJ.mono (λb o e _=>lG a b o e) (λb d z=>z) r)
def Ops.np(B:Ops K T f δ H os vs c H' m)(a: ¬Ow (H' p)): ¬(AO f c p\/T p):=λz=>a<|z.elim (λz=>B.er.KH z) λz=>B.er.dom p<|B.tt p z
end
noncomputable def ou(g:D->Option (D×Bool))(a:FO):F:=λb=>(a b).bind λp=>(res p.2 p.1).bind λx=>(g x).bind λz=>Y (z,p.2)
noncomputable def jx(g:D->D->Option (D×Bool))(a fb:FO):F:=λδ=>(a δ).bind λp=>(fb p.2).bind λq=>(res q.2 p.1).bind λx=>(res q.2 q.1).bind λy=>(g x y).bind λz=>Y (z,q.2)
noncomputable def kT:List FO->Dn->Option (List Bl×Dn)
 |[],δ=>Y ([],δ)
 |f::fs,δ=>(f δ).bind λp=>(kT fs p.2).bind λq=>Y (p.1::q.1,q.2)
noncomputable def vJ(a:Dn):List Bl->Option (List D)
 |[]=>Y []
 |o::os=>(res a o).bind λd=>(vJ a os).bind λl=>Y (d::l)
noncomputable def jy(g:List D->Option (D×Bool))(fs:List FO):F:=λδ=>(kT fs δ).bind λp=>(vJ p.2 p.1).bind λds=>(g ds).bind λz=>Y (z,p.2)
def tA(K:ju)(fs:List FO):TA:=λe O Q=> ∃b T os a,ER K O T e b/\kT fs b=Y (os,a)/\ ∀d c f,Ops K T e b O os d a c f->Q d c
section
variable {X:Cx}{e a b:je}{m:kL}{i n:FO}{fs:List FO}{c:bO}
def iU{d g:Type}{x:Option d}{f:d->Option g}{b:g}(h:x.bind f=Y b): ∃a,x=Y a/\f a=Y b:=by
 cases x with
 |none=>cases h
 |some a=>exact⟨a,rfl,h⟩
def aap(K:ju)(r:V->Hp->VK->Prop)(g:D->Option (D×Bool)):Prop:=
 ∀x z v T (O:B7) (Q:VK),(∀p,¬Ow (T p)-> ¬O p)->kQ K T O x v->g x=Y z->Gen K T O z Q->r v T Q
def Wd(K:ju)(r:R2)(g:D->D->Option (D×Bool)):Prop:=
 ∀x y z v u T (O:B7) (Q:VK),(∀p,¬Ow (T p)-> ¬O p)->kQ K T O x v->kQ K T O y u->g x y=Y z->Gen K T O z Q->r v u T Q
def aao(K:ju)(r:List V->Hp->VK->Prop)(g:List D->Option (D×Bool)):Prop:=
 ∀ds z f T (O:B7) (Q:VK),(∀p,¬Ow (T p)-> ¬O p)->A7 ds=A7 f->(∀(j:Nat) d v,ds[j]?=Y d->f[j]?=Y v->kQ K T O d v)->g ds=Y z->Gen K T O z Q->r f T Q
def UR{r:V->Hp->VK->Prop}{g:D->Option (D×Bool)}(h:PE X e (tUn r<|tO X.K i))(u:aap X.K r g):PX X e (ou g i):=PX.imp h λM O Q w=>by obtain⟨y,T,N,A,E,e,k⟩:=w;obtain⟨⟨o,d⟩,h1,e⟩:=iU e;obtain⟨x,q,e⟩:=iU e;obtain⟨z,s,e⟩:=iU e;obtain⟨rfl,rfl⟩:=jz e;refine⟨y,T,o,d,E,h1,λv l f=>?_⟩;have B:=Ops.cons E f<|Ops.nil<|f.er E;exact u x z v l _ Q (λp t=>B.np t) (B.view (j:=0) H H q) s (B.done k)
def UQ{r:R2}{g:D->D->Option (D×Bool)}(h:PE X e (M5 r (tO X.K i)<|tO X.K n))(L:Wd X.K r g):PX X e (jx g i n):=PX.imp h λY H Q O=>by obtain⟨J,T,U,M,E,e,k⟩:=O;obtain⟨⟨o,d⟩,h1,e⟩:=iU e;obtain⟨⟨G,l⟩,t,e⟩:=iU e;obtain⟨x,w,e⟩:=iU e;obtain⟨y,A,e⟩:=iU e;obtain⟨z,C,e⟩:=iU e;obtain⟨rfl,rfl⟩:=jz e;refine⟨J,T,o,d,E,h1,λv N f=>⟨d,Fi T o v,G,l,f.er E,t,λu s q=>?_⟩⟩;have B:=Ops.cons E f<|Ops.cons (f.er E) q<|Ops.nil<|q.er<|f.er E;exact L x y z v u s _ Q (λp I=>B.np I) (B.view (j:=0) AM AM w) (B.view (j:=1) AM AM A) C (B.done k)
def xH:PA X [] (tA X.K []):=λc d s g O Q N h=>by obtain⟨j,T,os,f,E,e,k⟩:=h;obtain⟨rfl,rfl⟩:=jz e;exact pZ c d s g O Q N<|k [] O T<|Ops.nil E
def rH(t:PO X e i)(u:PA X m (tA X.K fs))(w:ac (e::m) X.env=(U,aT e X.env)::ac m X.env):PA X (e::m) (tA X.K (i::fs)):=λc d s z O Q M h=>by obtain⟨x,T,os,y,E,e,k⟩:=h;unfold kT at e;obtain⟨⟨o,f⟩,h1,e⟩:=iU e;obtain⟨⟨g,j⟩,r,e⟩:=iU e;obtain⟨rfl,rfl⟩:=jz e;exact mw t u w c d s z O Q M ⟨x,T,o,f,E,h1,λv A l=>⟨f,Fi T o v,g,j,l.er E,r,λN p q B=>k _ p q (Ops.cons E l B)⟩⟩
def pY{k:Dn}: ∀{os:List Bl} {f:List D},vJ k os=Y f->A7 f=os.length/\ ∀(j:Nat) d,f[j]?=Y d-> ∃o,os[j]?=Y o/\res k o=Y d:=by
 intro t
 induction t with
 |nil=>intro f h;cases h;exact⟨rfl,λj d h=>by simp at h⟩
 |cons o os s=>
  intro f h;unfold vJ at h;obtain⟨d,h1,h⟩:=iU h;obtain⟨l,p,h⟩:=iU h;cases h;obtain⟨q,r⟩:=s p;refine⟨by simp[q],λj e g=>?_⟩
  cases j with
  |zero=>simp at g;subst g;exact⟨o,rfl,h1⟩
  |succ j=>obtain⟨u,v,w⟩:=r j e (by simpa using g);exact⟨u,by simpa using v,w⟩
def Q3{r:List V->Hp->VK->Prop}{g:List D->Option (D×Bool)}(h:PE X e (N7 r<|tA X.K fs))(C:aao X.K r g):PX X e (jy g fs):=PX.imp h λN H Q I=>by obtain⟨O,T,M,G,E,e,k⟩:=I;obtain⟨⟨os,l⟩,h1,e⟩:=iU e;obtain⟨s,t,e⟩:=iU e;obtain⟨z,u,e⟩:=iU e;obtain⟨rfl,rfl⟩:=jz e;obtain⟨w,x⟩:=pY t;refine⟨O,T,os,l,E,h1,λL q J B=>?_⟩;refine C s z L q _ Q (λp A=>B.np A) (w.trans B.len) (λj d v hd hv=>?_) u (B.done k);obtain⟨o,y,f⟩:=x j d hd;exact B.view y hv f
end
open PySem.SeqAt
mutual
/-- ==of data -/
noncomputable def D.BC:D->D->Bool
 | .Ax,.Ax=>J
 | .bl a,.bl b=>a==b
 | .bl a,.int b=>(if a then 1 else 0)==b
 | .int a,.bl b=>a==(if b then 1 else 0)
 | .int a,.int b=>a==b
 | .str a,.str b=>a==b
 | .tup l,.tup m=>D.Cf l m
 | .lst l,.lst m=>D.Cf l m
 | .B8 _ _ _,.B8 _ _ _=>J
 |_,_=>U
noncomputable def D.Cf:List D->List D->Bool
 |[],[]=>J
 |a::l,b::m=>D.BC a b&&D.Cf l m
 |_,_=>U
end
mutual
noncomputable def D.dep:D->Nat
 | .tup l=>D.BJ l+1
 | .lst l=>D.BJ l+1
 | .B8 _ _ _=>20000
 |_=>0
noncomputable def D.BJ:List D->Nat
 |[]=>0
 |d::l=>max (D.dep d)<|D.BJ l
end
mutual
theorem D.Gd: ∀d:D,D.BC d d=J
 | .Ax=>rfl
 | .bl a=>by simp[D.BC]
 | .int a=>by simp[D.BC]
 | .str a=>by simp[D.BC]
 | .tup l=>by rw[D.BC];exact D.HJ l
 | .lst l=>by rw[D.BC];exact D.HJ l
 | .B8 _ _ _=>by rw[D.BC]
theorem D.HJ: ∀l:List D,D.Cf l l=J
 |[]=>rfl
 |d::l=>by rw[D.Cf,D.Gd d,D.HJ l];rfl
end
theorem D.EA{d:D}: ∀{l:List D} {j:Nat},l[j]?=Y d->d.dep<=D.BJ l
 |[],j,h=>by simp at h
 |e::l,0,h=>by simp at h;subst h;rw[D.BJ];exact Nat.le_max_left _ _
 |e::l,j+1,h=>by rw[D.BJ];exact mC (D.EA<|by simpa using h)<|Nat.le_max_right _ _
noncomputable def uZ(l m:List D)(j:Nat):Bool:=match l[j]?,m[j]? with
 |some d,Y e=>D.BC d e
 |_,_=>J
theorem oA: ∀l m:List D,((au<|min (A7 l)<|A7 m).all (uZ l m)&&(A7 l)==A7 m)=D.Cf l m
 |[],[]=>rfl
 |[],e::m=>by simp[D.Cf]
 |d::l,[]=>by simp[D.Cf]
 |d::l,e::m=>by
  rw[D.Cf,<-oA l m];simp only[lg,Nat.succ_min_succ,ey,wB,g0,yL];have a:uZ (d::l) (e::m) 0=D.BC d e:=rfl;have h1:(λx=>uZ (d::l) (e::m)<|Nat.succ x)=uZ l m:=by funext x;simp[uZ]
  rw[a];simp only[h1,gA]
  congr 2
  simp
section
variable {X:Cx}{pins:jK}{σ:L2.St}{H:Hp}{s:iZ}
def lQ(h:kQ X.K H O (.tup l) v): ∃a xs,v= .ref a/\IU X.K H a xs/\AJ X.K H O l xs:=by
 rcases h with h|⟨a,rfl,h⟩
 .obtain⟨a,xs,e,q,r⟩:=h.tup;exact⟨a,xs,e,q.sq,r⟩
 .exact h.elim
def ll(h:kQ X.K H O (.lst l) v): ∃a xs,v= .ref a/\Gm X.K H a xs/\AJ X.K H O l xs:=by
 rcases h with h|⟨a,rfl,h⟩
 .obtain⟨a,xs,e,q,r⟩:=h.lst;exact⟨a,xs,e,q.sq,r⟩
 .obtain⟨xs,e,r⟩:=h;exact⟨a,xs,rfl,.inl<|.inl e,r⟩
def AJ.views{O:B7}{l:List D}{xs:List V}(r:AJ X.K H O l xs){j:Nat}{d:D}{v:V}(h1:l[j]?=Y d)(b:xs[j]?=Y v):Rep X.K H O d v:=by obtain⟨w,a,c⟩:=r.get h1;rw[b] at a;cases a;exact c
def N5(Q:Inv X pins σ H s)(h:E6 X.K (H a) k l i us): ∃o,s.heap.get? a=Y o/\(o.cls= .type "dict"\/o.cls= .type "set"\/ ∃T,o.cls= .ref T):=by
 cases k with
 |dct=>
  rcases h with⟨b,e,_⟩|⟨b,e,_⟩
  .obtain⟨_,_,i,_,o,d,g,h1,c,_⟩:=(show AR X.prog X.w H s.heap a (.dK b) from Q.hok a _ e)
   exact⟨o,h1,.inl c.1⟩
  .obtain⟨_,_,m,_,o,d,g,h1,c,_⟩:=(show AR X.prog X.w H s.heap a (.dT b) from Q.hok a _ e)
   exact⟨o,h1,.inl c.1⟩
 |set=>
  obtain⟨_,j,e,_⟩:=h;obtain⟨d,n,t,h1,_⟩:=(show AR X.prog X.w H s.heap a (.AV j) from Q.hok a _ e)
  exact⟨_,h1,.inr<|.inl AM⟩
 |exc T=>
  obtain⟨_,o,e,h1,_⟩:=h;obtain⟨f,_⟩:=(show AR X.prog X.w H s.heap a (.EY o<|.own 0) from Q.hok a _ e)
  exact⟨o,f,.inr<|.inr ⟨T,h1⟩⟩
 |_=>exact h.elim
def FG(T:Inv X pins σ H s)(h1:IU X.K H a xs)(f:Gm X.K H a k):False:=by obtain⟨g,_,⟨o,e,c,_⟩,_⟩:=T.tuple h1;obtain⟨h,_,⟨j,i,d,b,_⟩,_⟩:=T.list f;rw[e] at d;cases d;rw[c] at b;exact absurd b (by simp)
def Ru(Q:Inv X pins σ H s)(h1:IU X.K H a xs)(f:E6 X.K (H a) k h j us):False:=by obtain⟨g,_,⟨o,e,c,_⟩,_⟩:=Q.tuple h1;obtain⟨i,d,b⟩:=N5 Q f;rw[e] at d;cases d;rw[c] at b;rcases b with b|b|⟨T,b⟩<;>exact absurd b (by simp)
def Rv(Q:Inv X pins σ H s)(h1:Gm X.K H a xs)(f:E6 X.K (H a) k h j us):False:=by obtain⟨g,_,⟨o,n,e,c,_⟩,_⟩:=Q.list h1;obtain⟨i,d,b⟩:=N5 Q f;rw[e] at d;cases d;rw[c] at b;rcases b with b|b|⟨T,b⟩<;>exact absurd b (by simp)
mutual
theorem Rep.inj(T:Inv X pins σ H s): ∀{d e:D} {v:V},d.dep<20000->Rep X.K H O d v->Rep X.K H u e v->d=e
 | .Ax,e,v,i,h,c=>by
  have:=h.Ax;subst this
  cases e with
  |Ax=>rfl
  |bl b=>have:=c.bl;cases this
  |int b=>have:=c.int;cases this
  |str b=>have:=c.str;cases this
  |tup m=>obtain⟨a,f,z,_⟩:=c.tup;cases z
  |lst m=>obtain⟨a,f,z,_⟩:=c.lst;cases z
  |B8 m n o=>obtain⟨a,f,z,_⟩:=c.B8;cases z
 | .bl b,e,v,i,h,c=>by
  have:=h.bl;subst this
  cases e with
  |Ax=>have:=c.Ax;cases this
  |bl b=>have:=c.bl;cases this;rfl
  |int b=>have:=c.int;cases this
  |str b=>have:=c.str;cases this
  |tup m=>obtain⟨a,f,z,_⟩:=c.tup;cases z
  |lst m=>obtain⟨a,f,z,_⟩:=c.lst;cases z
  |B8 m n o=>obtain⟨a,f,z,_⟩:=c.B8;cases z
 | .int b,e,v,i,h,c=>by
  have:=h.int;subst this
  cases e with
  |Ax=>have:=c.Ax;cases this
  |bl b=>have:=c.bl;cases this
  |int b=>have:=c.int;cases this;rfl
  |str b=>have:=c.str;cases this
  |tup m=>obtain⟨a,f,z,_⟩:=c.tup;cases z
  |lst m=>obtain⟨a,f,z,_⟩:=c.lst;cases z
  |B8 m n o=>obtain⟨a,f,z,_⟩:=c.B8;cases z
 | .str b,e,v,i,h,c=>by
  have:=h.str;subst this
  cases e with
  |Ax=>have:=c.Ax;cases this
  |bl b=>have:=c.bl;cases this
  |int b=>have:=c.int;cases this
  |str b=>have:=c.str;cases this;rfl
  |tup m=>obtain⟨a,f,z,_⟩:=c.tup;cases z
  |lst m=>obtain⟨a,f,z,_⟩:=c.lst;cases z
  |B8 m n o=>obtain⟨a,f,z,_⟩:=c.B8;cases z
 | .tup l,e,v,i,h,c=>by
  rw[D.dep] at i;obtain⟨a,f,rfl,q,r⟩:=h.tup
  cases e with
  |Ax=>have:=c.Ax;cases this
  |bl b=>have:=c.bl;cases this
  |int b=>have:=c.int;cases this
  |str b=>have:=c.str;cases this
  |tup m=>obtain⟨k,p,z,g,j⟩:=c.tup;cases z;have:=T.F1 q.sq g.sq;subst this;rw[AJ.inj T (by lia) r j]
  |lst m=>obtain⟨k,p,z,g,j⟩:=c.lst;cases z;exact(FG T q.sq g.sq).elim
  |B8 m n o=>obtain⟨k,t,z,g,j⟩:=c.B8;cases z;exact(Ru T q.sq g.2).elim
 | .lst l,e,v,i,h,c=>by
  rw[D.dep] at i;obtain⟨a,f,rfl,q,r⟩:=h.lst
  cases e with
  |Ax=>have:=c.Ax;cases this
  |bl b=>have:=c.bl;cases this
  |int b=>have:=c.int;cases this
  |str b=>have:=c.str;cases this
  |tup m=>obtain⟨k,p,z,g,j⟩:=c.tup;cases z;exact(FG T g.sq q.sq).elim
  |lst m=>obtain⟨k,p,z,g,j⟩:=c.lst;cases z;have:=T.Ff q.sq g.sq;subst this;rw[AJ.inj T (by lia) r j]
  |B8 m n o=>obtain⟨k,t,z,g,j⟩:=c.B8;cases z;exact(Rv T q.sq g.2).elim
 | .B8 _ _ _,e,v,i,h,c=>by rw[D.dep] at i;lia
theorem AJ.inj(T:Inv X pins σ H s){O b:B7}: ∀{l m:List D} {vs:List V},D.BJ l<20000->AJ X.K H O l vs->AJ X.K H b m vs->l=m
 |[],m,vs,_,h,a=>by
  rw[AJ] at h;subst h
  cases m with
  |nil=>rfl
  |cons e m=>rw[AJ] at a;obtain⟨_,_,z,_⟩:=a;cases z
 |d::l,m,vs,i,h,a=>by
  rw[D.BJ] at i;rw[AJ] at h;obtain⟨v,r,rfl,h1,c⟩:=h
  cases m with
  |nil=>rw[AJ] at a;cases a
  |cons e m=>rw[AJ] at a;obtain⟨k,j,z,f,g⟩:=a;cases z;rw[Rep.inj T (by lia) h1 f,AJ.inj T (by lia) c g]
end
def yi(h:kQ X.K H O d v)(hd:d.dep=0)(c: ∀l,d≠ .tup l)(b: ∀l,d≠ .lst l):Rep X.K H O d v:=by
 rcases h with h|⟨a,rfl,h⟩
 .exact h
 .cases d with
  |lst l=>exact absurd AM<|b l
  |B8 _ _ _=>rw[D.dep] at hd;lia
  |_=>exact h.elim
inductive Sh(X:Cx)(H:Hp)(s:iZ)(O:B7):D->V->jg->Prop
 |Ax:Sh X H s O .Ax .Ax .none
 |bl (b:Bool):Sh X H s O (.bl b) (.bl b) (.bool b)
 |int (i:Int) (t:ww):Sh X H s O (.int i) (.int i) (.int i t)
 |str (x:aG) (t:ww):Sh X H s O (.str x) (.str x) (.str x t)
 |tup {l:List D} {p:iW} {xs:List V} {its:ku} (q:IU X.K H p xs) (r:AJ X.K H O l xs) (v:Vals xs its) (pl:re s.heap p its.toArray):Sh X H s O (.tup l) (.ref p) (.ref p)
 |lst {l:List D} {p:iW} {xs:List V} {its:ku} (q:Gm X.K H p xs) (r:AJ X.K H O l xs) (v:Vals xs its) (pl:s.heap.IsList p its.toArray):Sh X H s O (.lst l) (.ref p) (.ref p)
def vf(T:Inv X pins σ H s)(h:kQ X.K H O d v)(b:RelV v a)(i:d.dep<20000):Sh X H s O d v a:=by
 cases d with
 |B8 m k n=>rw[D.dep] at i;omega
 |tup l=>obtain⟨p,j,rfl,q,r⟩:=lQ h;cases b;obtain⟨e,g,f,_⟩:=T.tuple q;exact .tup q r g f
 |lst l=>obtain⟨p,j,rfl,q,r⟩:=ll h;cases b;obtain⟨e,g,f,_⟩:=T.list q;exact .lst q r g f.isList
 |Ax=>have:=(yi h AM (by simp)<|by simp).Ax;subst this;cases b;exact .Ax
 |bl c=>have:=(yi h AM (by simp)<|by simp).bl;subst this;cases b;exact .bl c
 |int c=>have:=(yi h AM (by simp)<|by simp).int;subst this;obtain⟨t,rfl⟩:=b;exact .int c t
 |str c=>have:=(yi h AM (by simp)<|by simp).str;subst this;obtain⟨t,rfl⟩:=b;exact .str c t
def C1(I:Inv X pins σ H s)(n:Nat)
  (ih: ∀(d e:D) (v u:V) (a b:jg) (O O':B7) (A:jn),kQ X.K H O d v->kQ X.K H O' e u->RelV v a->RelV u b->d.dep+1<=n->e.dep<20000->A.units+n<aQ+1->EqAt A s a b (D.BC d e)):
  ∀(d e:D) (v u:V) (a b:jg) (O O':B7) (A:jn),kQ X.K H O d v->kQ X.K H O' e u->RelV v a->RelV u b->d.dep<=n->e.dep<20000->A.units+n<aQ->EqAt A s a b (D.BC d e):=by
 intro d e v u a b O O' A hd he o t N o9 hA;have h:A.units<cLine:=by lia
 have l5:aQ=9900:=rfl
 have L: ∀(l m:List D) (T G:List V) (c C':ku) (R S:B7),D.BJ l+1<=n->D.BJ m<20000->AJ X.K H R l T->AJ X.K H S m G->Vals T c->Vals G C'->
   ∀j (h1:j<c.toArray.size) (Q:j<C'.toArray.size),EqAt A.in1 s c.toArray[j] C'.toArray[j] (uZ l m j):=λl m T G c C' R S F P r1 i M k j h1 Q=>by
  have e1:=M.length;have e2:=k.length;have e3:=r1.length;have e4:=i.length;simp only[kd] at h1 Q;have hx:T[j]?=Y T[j]:=kK (by lia);have hy:G[j]?=Y G[j]:=kK (by lia);have Z:l[j]?=Y l[j]:=kK (by lia);have W:m[j]?=Y m[j]:=kK (by lia);obtain⟨w,w1,w2⟩:=M.get hx;obtain⟨w',w3,w4⟩:=k.get hy
  have i1:c.toArray[j]=w:=by have:c[j]?=Y c[j]:=kK (by lia);rw[this] at w1;simpa using w1
  have i2:C'.toArray[j]=w':=by have:C'[j]?=Y C'[j]:=kK (by lia);rw[this] at w3;simpa using w3
  rw[i1,i2];have hj:uZ l m j=D.BC l[j] m[j]:=by unfold uZ;rw[Z,W]
  rw[hj];have af:=D.EA Z;have hdep2:=D.EA W;exact ih _ _ _ _ _ _ R S A.in1 (.inl<|r1.views Z hx) (.inl<|i.views W hy) w2 w4 (by lia) (by lia) (by show A.units+1+n<aQ+1;lia)
 have h1:=vf I hd o (by lia);have Q:=vf I he t o9
 cases h1 with
 |Ax=>
  cases Q with
  |Ax=>exact mU o t AM AM
  |bl g=>exact mU o t AM AM
  |int g x=>exact mU o t AM AM
  |str g x=>exact mU o t AM AM
  |tup B i k f=>exact EqAt.none_tuple f h
  |lst B i k f=>exact EqAt.none_list f h
 |bl J'=>
  cases Q with
  |Ax=>exact mU o t AM AM
  |bl g=>exact mU o t AM AM
  |int g x=>exact mU o t AM AM
  |str g x=>exact mU o t AM AM
  |tup B i k f=>exact EqAt.bool_tuple J' f h
  |lst B i k f=>exact EqAt.bool_list J' f h
 |int J' Y'=>
  cases Q with
  |Ax=>exact mU o t AM AM
  |bl g=>exact mU o t AM AM
  |int g x=>exact mU o t AM AM
  |str g x=>exact mU o t AM AM
  |tup B i k f=>exact EqAt.int_tuple J' Y' f h
  |lst B i k f=>exact EqAt.int_list J' Y' f h
 |str J' Y'=>
  cases Q with
  |Ax=>exact mU o t AM AM
  |bl g=>exact mU o t AM AM
  |int g x=>exact mU o t AM AM
  |str g x=>exact mU o t AM AM
  |tup B i k f=>exact EqAt.str_tuple J' Y' f h
  |lst B i k f=>exact EqAt.str_list J' Y' f h
 | @tup l p T c q r M y=>
  cases Q with
  |Ax=>exact EqAt.tuple_none y h
  |bl g=>exact EqAt.tuple_bool g y h
  |int g x=>exact EqAt.tuple_int g x y h
  |str g x=>exact EqAt.tuple_str g x y h
  | @tup m p2 G C' B i k f=>
   by_cases U:p=p2
   .subst U;have:=I.F1 q B;subst this;rw[AJ.inj I (by rw[D.dep] at N;lia) r i,D.Gd];exact gZ _
   .refine .of_refs U ?_;have F:D.BJ l+1<=n:=by rw[D.dep] at N;exact N
    have P:D.BJ m<20000:=by rw[D.dep] at o9;lia
    have z:=RcAt.tuples y f h<|L l m T G c C' _ _ F P r i M k;have e1:=M.length;have e2:=k.length;have e3:=r.length;have e4:=i.length;simp only[kd] at z;rw[show c.length=l.length by lia,show C'.length=m.length by lia,oA] at z;rw[D.BC];exact z
  |lst B i k f=>exact EqAt.tuple_list y f h
 | @lst l p T c q r M y=>
  cases Q with
  |Ax=>exact EqAt.list_none y h
  |bl g=>exact EqAt.list_bool g y h
  |int g x=>exact EqAt.list_int g x y h
  |str g x=>exact EqAt.list_str g x y h
  |tup B i k f=>exact EqAt.list_tuple y f h
  | @lst m p2 G C' B i k f=>
   by_cases U:p=p2
   .subst U;have:=I.Ff q B;subst this;rw[AJ.inj I (by rw[D.dep] at N;lia) r i,D.Gd];exact gZ _
   .refine .of_refs U ?_;have F:D.BJ l+1<=n:=by rw[D.dep] at N;exact N
    have P:D.BJ m<20000:=by rw[D.dep] at o9;lia
    have e1:=M.length;have e2:=k.length;have e3:=r.length;have e4:=i.length;have al:=oA l m;by_cases E:l.length=m.length
    .have z:=RcAt.lists y f (by simp only[kd];lia) h<|L l m T G c C' _ _ F P r i M k;simp only[kd] at z;rw[show c.length=min l.length m.length by lia] at z;rw[D.BC,<-al,E];rw[E] at z;simpa using z
    .have z:=RcAt.lists_lengths y f (by simp only[kd,bne_iff_ne,ne_eq];lia) h;rw[D.BC,<-al];rw[show(l.length==m.length)=ZB by simpa using E];simpa using z
def Bk(T:Inv X pins σ H s): ∀(n:Nat) (d e:D) (v u:V) (a b:jg) (O c:B7) (A:jn),kQ X.K H O d v->kQ X.K H c e u->RelV v a->RelV u b->d.dep<=n->e.dep<20000->A.units+n<aQ->EqAt A s a b (D.BC d e):=by
 intro n
 induction n with
 |zero=>intro d e v u a b O c A hd f i j g h k;exact C1 T 0 (λd e v u a b O c A hd f i j g h k=>absurd g<|by lia) d e v u a b O c A hd f i j g h k
 |succ n l=>intro d e v u a b O c A hd f i j g h k;exact C1 T (n+1) (λd e v u a b O c A hd f i j g h k=>l d e v u a b O c A hd f i j (by lia) h<|by lia) d e v u a b O c A hd f i j g h k
end
section
variable {X:Cx}{c:jK}{f:L2.St}{H:Hp}{s:iZ}
def Gu(I:Inv X c f H s){A:jn}{n:Nat}(U:A.units+n<aQ): ∀(l m:List D) (d e:List V) (a b:ku) (g h:B7),D.BJ l+1<=n->D.BJ m<20000->AJ X.K H g l d->AJ X.K H h m e->Vals d a->Vals e b->
   ∀j (h1:j<a.toArray.size) (p:j<b.toArray.size),EqAt A.in1 s a.toArray[j] b.toArray[j] (uZ l m j):=λl m d e a b g h Y F t u v x j h1 p=>by
 have G:=v.length;have J:=x.length;have M:=t.length;have N:=u.length;simp only[kd] at h1 p;have q:d[j]?=XV d[j]:=kK (by omega);have r:e[j]?=XV e[j]:=kK (by omega);have k:l[j]?=XV l[j]:=kK (by omega);have i:m[j]?=XV m[j]:=kK (by omega);obtain⟨w,y,O⟩:=v.get q;obtain⟨L,z,Q⟩:=x.get r
 have C:a.toArray[j]=w:=by have:a[j]?=XV a[j]:=kK (by omega);rw[this] at y;simpa using y
 have E:b.toArray[j]=L:=by have:b[j]?=XV b[j]:=kK (by omega);rw[this] at z;simpa using z
 rw[C,E];have B:uZ l m j=D.BC l[j] m[j]:=by unfold uZ;rw[k,i]
 rw[B];have T:=D.EA k;have o:=D.EA i;exact Bk I (n-1) _ _ _ _ _ _ g h A.in1 (.inl<|t.views k q) (.inl<|u.views i r) O Q (by omega) (by omega) (by show A.units+1+(n-1)<aQ;omega)
def UI(I:Inv X c f H s)(hd:kQ X.K H O d v)(he:kQ X.K H O' e u)(ra:RelV v a)(rb:RelV u b)(G:d.dep<=n)(N:e.dep<20000)(hA:A.units+n<aQ):RcAt A s a b (D.BC d e):=by
 have j:A.units<cLine:=by lia
 have B:=Gu I hA;have W:aQ=9900:=rfl;have h1:=vf I hd ra (by lia);have L:=vf I he rb N
 cases h1 with
 |Ax=>
  cases L with
  |Ax=>exact RcAt.none_none
  |bl g=>exact RcAt.none_bool g
  |int g i=>exact RcAt.none_int g i
  |str g i=>exact RcAt.none_str g i
  |tup E o t h=>exact RcAt.none_tuple h j
  |lst E o t h=>exact RcAt.none_list h j
 |bl k=>
  cases L with
  |Ax=>exact RcAt.bool_none k
  |bl g=>exact RcAt.bool_bool k g
  |int g i=>exact RcAt.bool_int k g i
  |str g i=>exact RcAt.bool_str k g i
  |tup E o t h=>exact RcAt.bool_tuple k h j
  |lst E o t h=>exact RcAt.bool_list k h j
 |int k x=>
  cases L with
  |Ax=>exact RcAt.int_none k x
  |bl g=>exact RcAt.int_bool k x g
  |int g i=>exact RcAt.int_int k x g i
  |str g i=>exact RcAt.int_str k x g i
  |tup E o t h=>exact RcAt.int_tuple k x h j
  |lst E o t h=>exact RcAt.int_list k x h j
 |str k x=>
  cases L with
  |Ax=>exact RcAt.str_none k x
  |bl g=>exact RcAt.str_bool k x g
  |int g i=>exact RcAt.str_int k x g i
  |str g i=>exact RcAt.str_str k x g i
  |tup E o t h=>exact RcAt.str_tuple k x h j
  |lst E o t h=>exact RcAt.str_list k x h j
 | @tup l p U' C' q r Q w=>
  cases L with
  |Ax=>exact RcAt.tuple_none w j
  |bl g=>exact RcAt.tuple_bool g w j
  |int g i=>exact RcAt.tuple_int g i w j
  |str g i=>exact RcAt.tuple_str g i w j
  | @tup m p2 Y' T E o t h=>
   have J:D.BJ l+1<=n:=by rw[D.dep] at G;exact G
   have M:D.BJ m<20000:=by rw[D.dep] at N;lia
   have P:=Q.length;have R:=t.length;have S:=r.length;have V:=o.length;have z:=RcAt.tuples w h j<|B l m U' Y' C' T _ _ J M r o Q t;simp only[kd] at z;rw[show C'.length=l.length by lia,show T.length=m.length by lia,oA] at z;rw[D.BC];exact z
  |lst E o t h=>exact RcAt.tuple_list w h j
 | @lst l p U' C' q r Q w=>
  cases L with
  |Ax=>exact RcAt.list_none w j
  |bl g=>exact RcAt.list_bool g w j
  |int g i=>exact RcAt.list_int g i w j
  |str g i=>exact RcAt.list_str g i w j
  |tup E o t h=>exact RcAt.list_tuple w h j
  | @lst m p2 Y' T E o t h=>
   have J:D.BJ l+1<=n:=by rw[D.dep] at G;exact G
   have M:D.BJ m<20000:=by rw[D.dep] at N;lia
   have P:=Q.length;have R:=t.length;have S:=r.length;have V:=o.length;have F:=oA l m;by_cases y:l.length=m.length
   .have z:=RcAt.lists w h (by simp only[kd];lia) j<|B l m U' Y' C' T _ _ J M r o Q t;simp only[kd] at z;rw[show C'.length=min l.length m.length by lia] at z;rw[D.BC,<-F,y];rw[y] at z;simpa using z
   .have z:=RcAt.lists_lengths w h (by simp only[kd,bne_iff_ne,ne_eq];lia) j;rw[D.BC,<-F];rw[show(l.length==m.length)=U by simpa using y];simpa using z
def aev(I:Inv X c f H s)(hd:kQ X.K H O d v)(he:kQ X.K H O' e u)(ra:RelV v a)(rb:RelV u b)(G:d.dep<=n)(N:e.dep<20000)(hA:A.units+n<aQ):RcNeAt A s a b (!D.BC d e):=by
 have j:A.units<cLine:=by lia
 have B:=Gu I hA;have W:aQ=9900:=rfl;have h1:=vf I hd ra (by lia);have L:=vf I he rb N
 cases h1 with
 |Ax=>
  cases L with
  |Ax=>exact RcNeAt.none_none
  |bl g=>exact RcNeAt.none_bool g
  |int g i=>exact RcNeAt.none_int g i
  |str g i=>exact RcNeAt.none_str g i
  |tup E o t h=>exact RcNeAt.none_tuple h j
  |lst E o t h=>exact RcNeAt.none_list h j
 |bl k=>
  cases L with
  |Ax=>exact RcNeAt.bool_none k
  |bl g=>exact RcNeAt.bool_bool k g
  |int g i=>exact RcNeAt.bool_int k g i
  |str g i=>exact RcNeAt.bool_str k g i
  |tup E o t h=>exact RcNeAt.bool_tuple k h j
  |lst E o t h=>exact RcNeAt.bool_list k h j
 |int k x=>
  cases L with
  |Ax=>exact RcNeAt.int_none k x
  |bl g=>exact RcNeAt.int_bool k x g
  |int g i=>exact RcNeAt.int_int k x g i
  |str g i=>exact RcNeAt.int_str k x g i
  |tup E o t h=>exact RcNeAt.int_tuple k x h j
  |lst E o t h=>exact RcNeAt.int_list k x h j
 |str k x=>
  cases L with
  |Ax=>exact RcNeAt.str_none k x
  |bl g=>exact RcNeAt.str_bool k x g
  |int g i=>exact RcNeAt.str_int k x g i
  |str g i=>exact RcNeAt.str_str k x g i
  |tup E o t h=>exact RcNeAt.str_tuple k x h j
  |lst E o t h=>exact RcNeAt.str_list k x h j
 | @tup l p U' C' q r Q w=>
  cases L with
  |Ax=>exact RcNeAt.tuple_none w j
  |bl g=>exact RcNeAt.tuple_bool g w j
  |int g i=>exact RcNeAt.tuple_int g i w j
  |str g i=>exact RcNeAt.tuple_str g i w j
  | @tup m p2 Y' T E o t h=>
   have J:D.BJ l+1<=n:=by rw[D.dep] at G;exact G
   have M:D.BJ m<20000:=by rw[D.dep] at N;lia
   have P:=Q.length;have R:=t.length;have S:=r.length;have V:=o.length;have z:=RcNeAt.tuples w h j<|B l m U' Y' C' T _ _ J M r o Q t;simp only[kd] at z;rw[show C'.length=l.length by lia,show T.length=m.length by lia,oA] at z;rw[D.BC];exact z
  |lst E o t h=>exact RcNeAt.tuple_list w h j
 | @lst l p U' C' q r Q w=>
  cases L with
  |Ax=>exact RcNeAt.list_none w j
  |bl g=>exact RcNeAt.list_bool g w j
  |int g i=>exact RcNeAt.list_int g i w j
  |str g i=>exact RcNeAt.list_str g i w j
  |tup E o t h=>exact RcNeAt.list_tuple w h j
  | @lst m p2 Y' T E o t h=>
   have J:D.BJ l+1<=n:=by rw[D.dep] at G;exact G
   have M:D.BJ m<20000:=by rw[D.dep] at N;lia
   have P:=Q.length;have R:=t.length;have S:=r.length;have V:=o.length;have F:=oA l m;by_cases y:l.length=m.length
   .have z:=RcNeAt.lists w h (by simp only[kd];lia) j<|B l m U' Y' C' T _ _ J M r o Q t;simp only[kd] at z;rw[show C'.length=min l.length m.length by lia] at z;rw[D.BC,<-F,y];rw[y] at z;simpa using z
   .have z:=RcNeAt.lists_lengths w h (by simp only[kd,bne_iff_ne,ne_eq];lia) j;rw[D.BC,<-F];rw[show(l.length==m.length)=U by simpa using y];simpa using z
def Vm(j:X.A.units+60<aQ):EC X (aM .Eq) (λx y H Q=> ∃O d e,kQ X.K H O d x/\kQ X.K H O e y/\(d.dep<=50/\e.dep<=50)/\Q (.bl<|D.BC d e) H):=by intro c s f H x y v u Q T g i h;obtain⟨O,d,e,h1,a,b,q⟩:=h;exact UI (A:=X.A) T h1 a g i b.1 (by lia) (by lia) _ _ _ _ ⟨.bl _,H,T,rfl,q⟩
def Vi(j:X.A.units+60<aQ):EC X (aM .NotEq) (λx y H Q=> ∃O d e,kQ X.K H O d x/\kQ X.K H O e y/\(d.dep<=50/\e.dep<=50)/\Q (.bl (!D.BC d e)) H):=by intro c s f H x y v u Q T g i h;obtain⟨O,d,e,h1,a,b,q⟩:=h;exact aev (A:=X.A) T h1 a g i b.1 (by lia) (by lia) _ _ _ _ ⟨.bl _,H,T,rfl,q⟩
end
def jH{e:Type}{c:Prop}[Decidable c]{a b:e}(h:(if c then Y a else C)=Y b):c/\a=b:=by
 split at h
 .rename_i d;exact⟨d,lj h⟩
 .cases h
section
variable {X:Cx}{c:jK}{f:L2.St}{H:Hp}{s:iZ}
def EO(I:Inv X c f H s){A:jn}{l:List D}{q:List V}{a:ku}{O E:B7}{b:D}{T:V}{x:jg}(r:AJ X.K H O l q)(v:Vals q a)(hx:kQ X.K H E b T)(rx:RelV T x)(hn:D.BJ l<=50)(hxn:b.dep<=50)(hA:A.units+60<aQ):
  ∃e:jg->Bool,(∀y∈a,EqAt A.in1 s y x<|e y)/\a.any e=l.any λd=>D.BC d b:=by
 let e:jg->Bool:=λy=>match(a.zip l).find? (λp=>p.1==y) with
  |some p=>D.BC p.2 b
  |none=>ZB
 have Z:=v.length;have e3:=r.length
 have n: ∀(j:Nat) (g:j<a.length) (h:j<l.length),e a[j]=D.BC l[j] b:=λj g h=>by
  show(match(a.zip l).find? (λp=>p.1==a[j]) with|some p=>D.BC p.2 b|none=>ZB)=_
  cases u:(a.zip l).find? (λp=>p.1==a[j]) with
  |none=>
   have:=List.find?_eq_none.mp u (a[j],l[j]) (by
    have:(a.zip l)[j]?=XV (a[j],l[j]):=by simp[Fo,kK g,kK h]
    exact mB this)
   simp at this
  |some p=>
   have F:=List.find?_some u;have Y:=List.mem_of_find?_eq_some u;obtain⟨i,Q⟩:=um Y;obtain⟨R,p2⟩:=p;rw[Fo] at Q;have M:R=a[j]:=vP F;obtain⟨h1,k⟩:=Q;have L:i<q.length:=by have:=(xj.mp h1).1;lia
   obtain⟨w,o,C⟩:=v.get<|kK L;have t:j<q.length:=by lia
   obtain⟨w',G,S⟩:=v.get<|kK t;rw[h1] at o;cases o;rw[kK g] at G;cases G;subst M;have hv:=C.inj S;have a1:=r.views k<|kK L;have J:=r.views (kK h)<|kK t;rw[hv] at a1;have W:=D.EA k;have:=Rep.inj I (by lia) a1 J;exact nE (λz=>D.BC z b) this
 refine⟨e,λy P=>?_,?_⟩
 .obtain⟨j,g⟩:=um P;have B:=(xj.mp g).1;have t:=(xj.mp g).2;have h:j<l.length:=by lia
  have m:j<q.length:=by lia
  obtain⟨w,o,C⟩:=v.get<|kK m;rw[g] at o;cases o;have hk:=n j B h;rw[t] at hk;rw[hk];have hd:=D.EA<|kK h;exact Bk I 50 _ _ _ _ _ _ O E A.in1 (.inl<|r.views (kK h)<|kK m) hx C rx (by lia) (by lia) (by show A.units+1+50<aQ;lia)
 .have:a.map e=l.map λd=>D.BC d b:=by
   apply wA
   .simp;lia
   .intro j h1 k;simp only[kn] at h1 k;simp only[Am];exact n j h1 k
  have N:a.any e=(a.map e).any id:=by rw[DZ];rfl
  have U:(l.any λd=>D.BC d b)=(l.map λd=>D.BC d b).any id:=by rw[DZ];rfl
  rw[N,U,this]
noncomputable def inD(x:D):D->Option Bool
 | .tup l=>if D.BJ l<=50/\x.dep<=50 then Y (l.any λd=>D.BC d x) else C
 | .lst l=>if D.BJ l<=50/\x.dep<=50 then Y (l.any λd=>D.BC d x) else C
 |_=>C
def Vl(B:X.A.units+60<aQ):EC X (aM .In) (λx y H Q=> ∃O d e b,kQ X.K H O d x/\kQ X.K H O e y/\inD d e=Y b/\Q (.bl b) H):=by
 intro c s f H x y v u Q N T E h;obtain⟨O,d,e,b,h1,z,j,q⟩:=h
 cases e with
 |tup l=>
  obtain⟨i,rfl⟩:=jH j
  .skip
   obtain⟨a,L,rfl,n,r⟩:=lQ z;cases E;obtain⟨g,t,p,_⟩:=N.tuple n;obtain⟨e,m,k⟩:=EO (A:=X.A) N r t h1 T i.1 i.2 B;refine in_tupleAt e p (λw o=>m w<|by simpa using o) ⟨.bl _,H,N,rfl,?_⟩;rw[show g.toArray.any e=g.any e by simp,k];exact q
 |lst l=>
  obtain⟨i,rfl⟩:=jH j
  .skip
   obtain⟨a,L,rfl,n,r⟩:=ll z;cases E;obtain⟨g,t,p,_⟩:=N.list n;obtain⟨e,m,k⟩:=EO (A:=X.A) N r t h1 T i.1 i.2 B;refine in_listAt e p.isList (λw o=>m w<|by simpa using o) ⟨.bl _,H,N,rfl,?_⟩;rw[show g.toArray.any e=g.any e by simp,k];exact q
 |_=>cases j
def CC(B:X.A.units+60<aQ):EC X (aM .NotIn) (λx y H Q=> ∃O d e b,kQ X.K H O d x/\kQ X.K H O e y/\inD d e=Y b/\Q (.bl (!b)) H):=by
 intro c s f H x y v u Q N T E h;obtain⟨O,d,e,b,h1,z,j,q⟩:=h
 cases e with
 |tup l=>
  obtain⟨i,rfl⟩:=jH j
  .skip
   obtain⟨a,L,rfl,n,r⟩:=lQ z;cases E;obtain⟨g,t,p,_⟩:=N.tuple n;obtain⟨e,m,k⟩:=EO (A:=X.A) N r t h1 T i.1 i.2 B;refine notIn_tupleAt e p (λw o=>m w<|by simpa using o) ⟨.bl _,H,N,rfl,?_⟩;rw[show g.toArray.any e=g.any e by simp,k];exact q
 |lst l=>
  obtain⟨i,rfl⟩:=jH j
  .skip
   obtain⟨a,L,rfl,n,r⟩:=ll z;cases E;obtain⟨g,t,p,_⟩:=N.list n;obtain⟨e,m,k⟩:=EO (A:=X.A) N r t h1 T i.1 i.2 B;refine notIn_listAt e p.isList (λw o=>m w<|by simpa using o) ⟨.bl _,H,N,rfl,?_⟩;rw[show g.toArray.any e=g.any e by simp,k];exact q
 |_=>cases j
end
def rD1(K:ju)(g:D->Option (D×Bool)):V->Hp->VK->Prop:=λx T Q=> ∃(O:B7) (d:D) (z:D×Bool),(∀p,¬Ow (T p)-> ¬O p)/\kQ K T O d x/\g d=Y z/\Gen K T O z Q
def rD(K:ju)(g:D->D->Option (D×Bool)):R2:=λx y T Q=> ∃(O:B7) (d e:D) (z:D×Bool),(∀p,¬Ow (T p)-> ¬O p)/\kQ K T O d x/\kQ K T O e y/\g d e=Y z/\Gen K T O z Q
def IT(K:ju)(g:List D->Option (D×Bool)):List V->Hp->VK->Prop:=λb T Q=> ∃(O:B7) (a:List D) (z:D×Bool),(∀p,¬Ow (T p)-> ¬O p)/\(A7 a)=A7 b/\(∀(j:Nat) d v,a[j]?=Y d->b[j]?=Y v->kQ K T O d v)/\g a=Y z/\Gen K T O z Q
section
variable {X:Cx}{e a b:je}{c fb:FO}{fs:List FO}{k:bO}
def px1(h:PE X e (tUn (rD1 X.K g)<|tO X.K c)):PX X e (ou g c):=UR h λx z v T O Q np f d G=>⟨O,x,z,np,f,d,G⟩
def Nk(h:PE X e (M5 (rD X.K g) (tO X.K c)<|tO X.K fb)):PX X e (jx g c fb):=UQ h λx y z v u T O Q np f i d G=>⟨O,x,y,z,np,f,i,d,G⟩
def pxn(h:PE X e (N7 (IT X.K g)<|tA X.K fs)):PX X e (jy g fs):=Q3 h λd z j T O Q np i hv f G=>⟨O,d,z,np,i,hv,f,G⟩
def jX{K T}{O:B7}{i:Int}{v:V}(h:kQ K T O (.int i) v):v= .int i:=h.elim (λh=>h.int) λ⟨_,_,h⟩=>h.elim
def Eg{K T}(h:kQ K T O (.bl i) v):v= .bl i:=h.elim (λh=>h.bl) λ⟨_,_,h⟩=>h.elim
def xu{K T}(h:kQ K T O (.str i) v):v= .str i:=h.elim (λh=>h.str) λ⟨_,_,h⟩=>h.elim
def Fw{K T}(h:kQ K T O .Ax v):v= .Ax:=h.elim (λh=>h.Ax) λ⟨_,_,h⟩=>h.elim
def Gen.str{K T}(g:Gen K T O (.str i,U) Q):Q (.str i) T:=g _ T (λ_ _ e=>e) Rep.mkStr
noncomputable def gI(f:Int->Int->Option D):D->D->Option (D×Bool)
 | .int i,.int j=>(f i j).map λz=>(z,U)
 |_,_=>C
def Aa{f:Int->Int->Option D}{d e:D}{z:D×Bool}(h:gI f d e=Y z): ∃i j y,d= .int i/\e= .int j/\f i j=Y y/\z=(y,U):=by
 cases d with
 |int i=>
  cases e with
  |int j=>
   cases g:f i j with
   |none=>simp only[gI,g] at h;cases h
   |some y=>simp only[gI,g] at h;cases h;exact⟨i,j,y,rfl,rfl,g,rfl⟩
  |_=>cases h
 |_=>cases h
def zW{f:zp}{N:Int->Int->Prop}[∀i j,Decidable<|N i j]{g:Int->Int->Int}(q:EC X f (rI N λi j=> .int (g i j))):EC X f (rD X.K (gI λi j=>if N i j then Y (.int<|g i j) else C)):=by intro l s A T x y v u Q M r t h;obtain⟨O,d,e,z,np,h1,m,p,G⟩:=h;obtain⟨i,j,w,rfl,rfl,o,rfl⟩:=Aa p;obtain⟨n,rfl⟩:=jH o;exact q l s A T x y v u Q M r t ⟨i,j,jX h1,jX m,n,G.int⟩
def ad5{f:zp}{g:Int->Int->Int}(p:EC X f (Kv λi j=> .int (g i j))):EC X f (rD X.K<|gI λi j=>Y<|.int<|g i j):=by intro l s t T x y v u Q N q r h;obtain⟨O,d,e,z,np,h1,m,o,G⟩:=h;obtain⟨i,j,w,rfl,rfl,n,rfl⟩:=Aa o;cases n;exact p l s t T x y v u Q N q r ⟨i,j,jX h1,jX m,G.int⟩
instance(i j:Int):Decidable (Es i j):=by unfold Es;exact inferInstance
instance(i j:Int):Decidable (LM i j):=by unfold LM;exact inferInstance
instance(i j:Int):Decidable (Fm i j):=by unfold Fm;exact inferInstance
noncomputable def FZ:=gI λi j=>Y<|.int<|i-j
noncomputable def uc:=gI λi j=>if Es i j then Y (.int<|i*j) else C
noncomputable def Pa:=gI λi j=>if LM i j then Y (.int<|i / j) else C
noncomputable def zS:=gI λi j=>if 0<j then Y (.int<|i%j) else C
noncomputable def OW:=gI λi j=>if Fm i j then Y (.int<|i^j.toNat) else C
def oD:EC X (b3 .Sub) (rD X.K FZ):=ad5 Vg
def qB:EC X (b3 .Mult) (rD X.K uc):=zW Vj
def JC:EC X (b3 .FloorDiv) (rD X.K Pa):=zW Rx
def sH:EC X (b3 .Mod) (rD X.K zS):=zW Vk
def JB:EC X (b3 .Pow) (rD X.K OW):=zW Vh
noncomputable def nQ:D->D->Option (D×Bool)
 | .int i,.int j=>Y (.int<|i+j,U)
 | .str i,.str j=>if i.length+j.length<=sizeLine then Y (.str<|i++j,U) else C
 | .tup l,.tup m=>if l.length+m.length<=sizeLine then Y (.tup<|l++m,U) else C
 | .lst l,.lst m=>if l.length+m.length<=sizeLine then Y (.lst<|l++m,J) else C
 |_,_=>C
def lI:EC X (b3 .Add) (rD X.K nQ):=by
 intro o s σ H x y v u Q I J M h;obtain⟨O,d,e,z,np,h1,N,q,G⟩:=h
 cases d with
 |int i=>
  cases e with
  |int j=>cases q;exact Vn o s σ H x y v u Q I J M ⟨i,j,jX h1,jX N,G.int⟩
  |_=>cases q
 |str i=>
  cases e with
  |str j=>obtain⟨W,rfl⟩:=jH q;exact acv o s σ H x y v u Q I J M ⟨i,j,xu h1,xu N,W,G.str⟩
  |_=>cases q
 |tup l=>
  cases e with
  |tup m=>
   obtain⟨W,rfl⟩:=jH q;have k1:Rep X.K H O (.tup l) x:=h1.elim id λ⟨_,_,z⟩=>z.elim;have k2:Rep X.K H O (.tup m) y:=N.elim id λ⟨_,_,z⟩=>z.elim;obtain⟨U,xs,rfl,Y,L⟩:=k1.tup;obtain⟨E,ys,rfl,D,T⟩:=k2.tup;have l1:=L.length;have l2:=T.length;by_cases hx:xs=[]
   .subst hx;have:l=[]:=by simpa using l1.symm
    subst this;cases J;cases M;obtain⟨g,P,V,_⟩:=I.tuple Y.sq;obtain⟨r,v2,S,_⟩:=I.tuple D.sq;have e1:g=[]:=by have:=P.length;simpa using this.symm
    subst e1;obtain⟨⟨R,dd,t,sl⟩,w,B,n,hd⟩:=id V;obtain⟨⟨de,r0,data2,p6⟩,C,A,Z,f⟩:=id S;simp only at B hd A f;subst B hd A f
    refine D5 ⟨_,w,rfl⟩ ⟨_,C,rfl⟩ Hr Hq Ho Hn (Hm _ _)
     (tuple_addW0 U E #[] r.toArray n Z dd r0 sl p6 (by simp)) ⟨w,C,⟨.ref E,H,I,rfl,?_⟩⟩
    exact G _ H (λ_ _ e=>e) (by simpa using k2)
   .refine Ry o s σ H _ _ v u Q I J M ⟨U,E,xs,ys,rfl,rfl,Y.sq,D.sq,hx,by lia,λhy=>?_,λhy p hp=>?_⟩
    .subst hy;have:m=[]:=by simpa using l2.symm
     subst this;exact G _ H (λ_ _ e=>e) (by simpa using k1)
    .exact G.tup hp (np p<|NA hp) (L.append T)
  |_=>cases q
 |lst l=>
  cases e with
  |lst m=>
   obtain⟨W,rfl⟩:=jH q;obtain⟨U,xs,rfl,Y,L⟩:=ll h1;obtain⟨E,ys,rfl,D,T⟩:=ll N;have l1:=L.length;have l2:=T.length;cases J;cases M;obtain⟨g,P,V,_⟩:=I.list Y;obtain⟨r,v2,S,_⟩:=I.list D;have e1:=P.length;have e2:=v2.length;obtain⟨⟨R,dd,t,sl⟩,w,B,n,hd⟩:=id V.isList;obtain⟨⟨de,r0,data2,p6⟩,C,A,Z,f⟩:=id S.isList;simp only at B hd A f;subst B hd A f
   refine D5 ⟨_,w,rfl⟩ ⟨_,C,rfl⟩ noFill_list_add seq_list_add PySem.F.slot_list_add PySem.F.entry_list_add (PySem.F.args_list_add_2 _ _)
    (list_addW U E g.toArray r.toArray n Z dd r0 sl p6<|by simp only[kd];lia) ⟨w,C,?_⟩
   rw[show g.toArray++r.toArray=(g++r).toArray by simp];exact⟨.ref _,_,I.MN (t':=s.toks) (P.append v2)<|by rw[nB];lia,rfl,G.lst I.fresh<|L.append T⟩
  |_=>cases q
 |_=>cases q
noncomputable def I9(d e:D):Option (D×Bool):=if d.dep<=50/\e.dep<=50 then Y (.bl<|D.BC d e,U) else C
noncomputable def LH(d e:D):Option (D×Bool):=if d.dep<=50/\e.dep<=50 then Y (.bl (!D.BC d e),U) else C
noncomputable def MW(d e:D):Option (D×Bool):=(inD d e).map λb=>(.bl b,U)
noncomputable def oT(d e:D):Option (D×Bool):=(inD d e).map λb=>(.bl (!b),U)
def oj(l:X.A.units+60<aQ):EC X (aM .Eq) (rD X.K I9):=by intro f s o T x y v u Q N m n h;obtain⟨O,d,e,z,np,h1,g,j,G⟩:=h;obtain⟨i,rfl⟩:=jH j;exact Vm l f s o T x y v u Q N m n ⟨O,d,e,h1,g,i,G.bl⟩
def Ez(l:X.A.units+60<aQ):EC X (aM .NotEq) (rD X.K LH):=by intro f s o T x y v u Q N m n h;obtain⟨O,d,e,z,np,h1,g,j,G⟩:=h;obtain⟨i,rfl⟩:=jH j;exact Vi l f s o T x y v u Q N m n ⟨O,d,e,h1,g,i,G.bl⟩
def jL{d g:Type}{x:Option d}{f:d->g}{b:g}(h:x.map f=Y b): ∃a,x=Y a/\f a=b:=by
 cases x with
 |none=>cases h
 |some a=>exact⟨a,rfl,lj h⟩
def Vf(l:X.A.units+60<aQ):EC X (aM .In) (rD X.K MW):=by intro f s o T x y v u Q N m n h;obtain⟨O,d,e,z,np,h1,g,j,G⟩:=h;obtain⟨b,i,rfl⟩:=jL j;exact Vl l f s o T x y v u Q N m n ⟨O,d,e,b,h1,g,i,G.bl⟩
def rJ(l:X.A.units+60<aQ):EC X (aM .NotIn) (rD X.K oT):=by intro f s o T x y v u Q N m n h;obtain⟨O,d,e,z,np,h1,g,j,G⟩:=h;obtain⟨b,i,rfl⟩:=jL j;exact CC l f s o T x y v u Q N m n ⟨O,d,e,b,h1,g,i,G.bl⟩
noncomputable def zR:D->Option (D×Bool)
 | .int i=>Y (.int (-i),U)
 |_=>C
def Qo:Nw X (OO .USub) (rD1 X.K zR):=by
 intro f s l T x v Q N j h;obtain⟨O,d,z,np,h1,g,G⟩:=h
 cases d with
 |int i=>cases g;exact Uo f s l T x v Q N j ⟨i,jX h1,G.int⟩
 |_=>cases g
noncomputable def E9:D->D->Option (D×Bool)
 | .tup l,.int i=>(J4 l i).map λd=>(d,U)
 | .lst l,.int i=>(J4 l i).map λd=>(d,U)
 |_,_=>C
def Kj{K T}{O:B7}{l:List D}{f:List V}{i:Int}{d:D}(r:AJ K T O l f)(h:J4 l i=Y d): ∃v,J4 f i=Y v/\Rep K T O d v:=by unfold J4 at h ⊢;rw[r.length];obtain⟨j,h1,g⟩:=iU h;rw[h1];exact r.get g
def Tt:NT X (rD X.K E9):=by
 intro f slice g s L T x y v u Q M N E h B;obtain⟨O,d,e,z,np,h1,A,j,G⟩:=h
 cases d with
 |tup l=>
  cases e with
  |int i=>obtain⟨w,n,rfl⟩:=jL j;obtain⟨p,t,rfl,q,r⟩:=lQ h1;obtain⟨o,hv,m⟩:=Kj r n;exact VC f slice g s L T _ _ v u Q M N E ⟨p,t,i,o,rfl,jX A,q,hv,G _ T (λ_ _ e=>e) m⟩ B
  |_=>cases j
 |lst l=>
  cases e with
  |int i=>obtain⟨w,n,rfl⟩:=jL j;obtain⟨p,t,rfl,q,r⟩:=ll h1;obtain⟨o,hv,m⟩:=Kj r n;exact RZ f slice g s L T _ _ v u Q M N E ⟨p,t,i,o,rfl,jX A,q,hv,G _ T (λ_ _ e=>e) m⟩ B
  |_=>cases j
 |_=>cases j
end
noncomputable def qN:List Bl->Option (List D)
 |[]=>Y []
 | .val r::os=>(qN os).map (r.1:: ·)
 | .slot _::_=>C
noncomputable def qV(fs:List F):F:=λδ=>(kT (fs.map jk) δ).bind λp=>(qN p.1).bind λa=>if (A7 a)<=sizeLine then Y ((.tup a,U),p.2) else C
noncomputable def sY(fs:List F):F:=λb=>(kT (fs.map jk) b).bind λp=>(qN p.1).bind λa=>if (A7 a)<=sizeLine then Y ((.lst a,J),p.2) else C
section
variable {K:ju}{T m:B7}{f:L2.St}{g e:Dn}{H H':Hp}{os:List Bl}{c:List V}
def Ops.rep(E:ER K H T f g)(B:Ops K T f g H os c e H' m){j:Nat}{r:D×Bool}{v:V}(h1:os[j]?=Y (.val r))(h:c[j]?=Y v):Rep K H' (λa=>AO f e a\/T a) r.1 v:=by
 obtain⟨d,b⟩:=r
 cases b with
 |false=>exact B.val j d v h1 h
 |true=>
  obtain⟨p,rfl,k,i,ok⟩:=B.tmp j d v h1 h;refine ok.rep (λz=>?_) λb _ z=>z;rcases z with z|z
  .exact B.er.nT p z k
  .exact(E.dom p z).ne i
theorem wG{O:B7}: ∀{os:List Bl} {c:List V} {d:List D},qN os=Y d->os.length=A7 c->(∀(j:Nat) (r:D×Bool) (v:V),os[j]?=Y (.val r)->c[j]?=Y v->Rep K H' O r.1 v)->AJ K H' O d c
 |[],c,d,h,n,_=>by
  cases h;have:c=[]:=by simpa using n.symm
  subst this;exact AJ.nil
 | .slot i::os,c,d,h,_,_=>by cases h
 | .val r::os,c,d,h,n,k=>by
  obtain⟨l,h1,rfl⟩:=jL h
  cases c with
  |nil=>simp at n
  |cons v c=>exact AJ.cons (k 0 r v AM AM)<|wG h1 (by simpa using n) λj o p a b=>k (j+1) o p (by simpa using a) (by simpa using b)
end
section
variable {X:Cx}{e a b:je}{m:kL}{n fb:FO}{fs:List F}{c:bO}
def UN{x1}(h:PA X m (tA X.K<|fs.map jk)):PX X (.Tuple m x1 c) (qV fs):=PX.imp (NP h) λy O Q l=>by obtain⟨o,T,w,q,E,e,k⟩:=l;obtain⟨⟨os,d⟩,h1,e⟩:=iU e;obtain⟨u,g,e⟩:=iU e;obtain⟨i,e⟩:=jH e;obtain⟨rfl,rfl⟩:=uk e;refine⟨o,T,os,d,E,h1,λx s t B=>?_⟩;have r:=wG g B.len λj r v a b=>B.rep E a b;exact⟨by rw[r.length];exact i,λp f=>(B.done k).tup f (B.np<|NA f) r⟩
def US(h:PA X m (tA X.K<|fs.map jk)):PX X (.List m c) (sY fs):=PX.imp (Vb h) λy O Q l=>by obtain⟨o,T,w,q,E,e,k⟩:=l;obtain⟨⟨os,d⟩,h1,e⟩:=iU e;obtain⟨u,f,e⟩:=iU e;obtain⟨g,e⟩:=jH e;obtain⟨rfl,rfl⟩:=uk e;refine⟨o,T,os,d,E,h1,λx s t B=>?_⟩;have r:=wG f B.len λj r v a b=>B.rep E a b;exact⟨by rw[r.length];exact g,λp i=>(B.done k).lst i r⟩
def JE{g:List D}{f:List V}{d:D}(h:(A7 g)=A7 f)(hd:g=[d]): ∃v,f=[v]:=by
 subst hd
 cases f with
 |nil=>simp at h
 |cons v r=>
  cases r with
  |nil=>exact⟨v,rfl⟩
  |cons _ _=>simp at h
noncomputable def g1(g:D->Option (D×Bool)):List D->Option (D×Bool)
 |[d]=>g d
 |_=>C
noncomputable def g2(g:D->D->Option (D×Bool)):List D->Option (D×Bool)
 |[d,e]=>g d e
 |_=>C
def oU{f:jg}{g:D->Option (D×Bool)}(h: ∀(i:jK) (s:iZ) (j:L2.St) (T:Hp) (x:V) (u:jg) (Q:VK) (O:B7) (d:D) (z:D×Bool),Inv X i j T s->RelV x u->(∀p,¬Ow (T p)-> ¬O p)->kQ X.K T O d x->g d=Y z->Gen X.K T O z Q->
  ah (aj X.prog X.w) X.A (call f [u]) (EP X i j Q) X.xe s):lr X f (IT X.K<|g1 g):=by
 intro i s j T xs y Q N r q;obtain⟨O,l,z,np,o,hv,k,G⟩:=q
 match l,k with
 |[d],k=>obtain⟨v,rfl⟩:=JE o H;obtain⟨u,rfl,t⟩:=qz r;exact h i s j T v u Q O d z N t np (hv 0 d v H H) k G
def Py{f:jg}{g:D->D->Option (D×Bool)}(h: ∀(i:jK) (s:iZ) (k:L2.St) (T:Hp) (x y:V) (j:ku) (Q:VK) (O:B7) (d e:D) (z:D×Bool),Inv X i k T s->Vals [x,y] j->(∀p,¬Ow (T p)-> ¬O p)->kQ X.K T O d x->kQ X.K T O e y->g d e=Y z->Gen X.K T O z Q->
  ah (aj X.prog X.w) X.A (call f j) (EP X i k Q) X.xe s):lr X f (IT X.K<|g2 g):=by
 intro i s k T u j Q N r t;obtain⟨O,o,z,np,q,hv,l,G⟩:=t;rcases o with _|⟨d,_|⟨e,_|⟨_,_⟩⟩⟩<;>try cases l
 rcases u with _|⟨x,_|⟨y,_|⟨_,_⟩⟩⟩<;>try cases q
 exact h i s k T x y j Q O d e z N r np (hv 0 d x H H) (hv 1 e y H H) l G
noncomputable def uT:D->Option (D×Bool)
 | .tup l=>Y (.int<|A7 l,U)
 | .lst l=>Y (.int<|A7 l,U)
 |_=>C
def lP:lr X (.builtin "len") (IT X.K<|g1 uT):=oU λf s j T x u Q O d z N i np hd g G=>by
 cases d with
 |tup l=>
  cases g;obtain⟨p,h,rfl,q,r⟩:=lQ hd;refine yq f s j T [_] [u] Q N (.cons i .nil) ⟨p,h,rfl,.inr q,?_⟩;rw[r.length];exact G.int
 |lst l=>
  cases g;obtain⟨p,h,rfl,q,r⟩:=ll hd;refine yq f s j T [_] [u] Q N (.cons i .nil) ⟨p,h,rfl,.inl q,?_⟩;rw[r.length];exact G.int
 |_=>cases g
noncomputable def zT:D->Option (D×Bool)
 | .int i=>Y (.int (if i<0 then -i else i),U)
 |_=>C
def mN:lr X (.builtin "abs") (IT X.K<|g1 zT):=oU λf s j T x u Q O d z N h np hd g G=>by
 cases d with
 |int i=>cases g;exact Pz f s j T [x] [u] Q N (.cons h .nil) ⟨i,by rw[jX hd],G.int⟩
 |_=>cases g
noncomputable def OY:D->Option (D×Bool)
 | .int i=>Y (.int i,U)
 | .bl b=>Y (.int (if b then 1 else 0),U)
 |_=>C
def Dc:lr X (.type "int") (IT X.K<|g1 OY):=oU λf s j T x u Q O d z N h np hd g G=>by
 cases d with
 |int i=>cases g;exact Dd f s j T [x] [u] Q N (.cons h .nil)<|.inl ⟨i,by rw[jX hd],G.int⟩
 |bl i=>
  cases g;refine Dd f s j T [x] [u] Q N (.cons h .nil)<|.inr ⟨i,by rw[Eg hd],?_⟩;have:=G.int;cases i<;>exact this
 |_=>cases g
noncomputable def oq:D->Option (D×Bool)
 | .tup l=>Y (.tup l,U)
 | .lst l=>Y (.tup l,U)
 |_=>C
def lq:lr X (.type "tuple") (IT X.K<|g1 oq):=oU λf s o T x u Q O d z N k np hd g G=>by
 cases d with
 |tup l=>
  cases g;have j:Rep X.K T O (.tup l) x:=hd.elim id λ⟨_,_,z⟩=>z.elim;obtain⟨p,h,rfl,q,r⟩:=j.tup;exact wc f s o T [_] [u] Q N (.cons k .nil) ⟨p,h,rfl,.inr ⟨q.sq,G _ T (λ_ _ e=>e) j⟩⟩
 |lst l=>
  cases g;obtain⟨p,h,rfl,q,r⟩:=ll hd;exact wc f s o T [_] [u] Q N (.cons k .nil) ⟨p,h,rfl,.inl ⟨q,λt i=>G.tup i (np t<|NA i) r⟩⟩
 |_=>cases g
noncomputable def CU:D->Option (D×Bool)
 | .tup l=>Y (.lst l,J)
 | .lst l=>Y (.lst l,J)
 |_=>C
def xg:lr X (.type "list") (IT X.K<|g1 CU):=oU λf s k T x u Q O d z N j np hd g G=>by
 cases d with
 |tup l=>
  cases g;obtain⟨p,i,rfl,q,r⟩:=lQ hd;exact yp f s k T [_] [u] Q N (.cons j .nil) ⟨p,i,rfl,.inr q,λt h=>G.lst h r⟩
 |lst l=>
  cases g;obtain⟨p,i,rfl,q,r⟩:=ll hd;exact yp f s k T [_] [u] Q N (.cons j .nil) ⟨p,i,rfl,.inl q,λt h=>G.lst h r⟩
 |_=>cases g
end
abbrev FT:=Dn->Option (Bool×Dn)
def tT(K:ju)(f:FT):TT:=λe O Q=> ∃d T b a,ER K O T e d/\f d=Y (b,a)/\ ∀c,BU e d O a c->ER K c T e a->Q b c
def PTX(X:Cx)(e:je)(f:FT):Prop:=PT X e<|tT X.K f
def PWX(X:Cx)(e:je)(f:FT):Prop:=PW X e<|tT X.K f
noncomputable def LJ:(D×Bool)×Dn->Option (Bool×Dn)
 |((.bl b,_),a)=>Y (b,a)
 |_=>C
noncomputable def fT(f:F):FT:=λδ=>(f δ).bind LJ
def By(h:LJ p=Y q): ∃o,p=((.bl q.1,o),q.2):=by
 obtain⟨⟨d,o⟩,a⟩:=p
 cases d with
 |bl b=>cases h;exact⟨o,rfl⟩
 |_=>cases h
def S8{K:ju}{f:F}{a:L2.St}{O:Hp}{Q:Bool->Hp->Prop}(h:tT K (fT f) a O Q):tF K f a O λx i=> ∃c,x= .bl c/\Q c i:=by obtain⟨l,T,b,m,E,e,k⟩:=h;obtain⟨p,h1,j⟩:=iU e;obtain⟨o,rfl⟩:=By j;refine⟨l,T,_,_,E,h1,λv g P=>?_⟩;obtain⟨d,r⟩:=P.rep E;exact⟨b,r.bl,k g P.1 d⟩
section
variable {X:Cx}{e a b c:je}{w:kL}{i fb:FO}{f g:F}{n m:FT}{l:bO}
def PT.imp'(h:PT X e t)(k: ∀j T Q,p j T Q->t j T Q):PT X e p:=λd s j T Q O o=>h d s j T Q O<|k j T Q o
def PW.imp'(h:PW X e t)(k: ∀j T Q,p j T Q->t j T Q):PW X e p:=λwh d s j T Q O o=>h wh d s j T Q O<|k j T Q o
def RA{r:R2}{g:D->D->Option (D×Bool)}(J:Wd X.K r g){t:L2.St}{H:Hp}{Q:VK}(M:tF X.K (jx g i fb) t H Q):M5 r (tO X.K i) (tO X.K fb) t H Q:=by obtain⟨U,T,P,Y,E,e,k⟩:=M;obtain⟨⟨o,d⟩,h1,e⟩:=iU e;obtain⟨⟨N,q⟩,C,e⟩:=iU e;obtain⟨x,I,e⟩:=iU e;obtain⟨y,L,e⟩:=iU e;obtain⟨z,O,e⟩:=iU e;obtain⟨rfl,rfl⟩:=jz e;refine⟨U,T,o,d,E,h1,λv F h=>⟨d,Fi T o v,N,q,h.er E,C,λu A s=>?_⟩⟩;have B:=Ops.cons E h<|Ops.cons (h.er E) s<|Ops.nil<|s.er<|h.er E;exact J x y z v u A _ Q (λp G=>B.np G) (B.view (j:=0) AM AM I) (B.view (j:=1) AM AM L) O (B.done k)
def XH{K:ju}{g:D->D->Option (D×Bool)}:Wd K (rD K g) g:=λx y z v u T O Q np h j d G=>⟨O,x,y,z,np,h,j,d,G⟩
noncomputable def zF(f g:FT):FT:=λd=>(f d).bind λp=>if p.1=J then g p.2 else Y (U,p.2)
noncomputable def Sn(f g:FT):FT:=λd=>(f d).bind λp=>if p.1=J then Y (J,p.2) else g p.2
noncomputable def zE(f:FT):FT:=λd=>(f d).bind λp=>Y (!p.1,p.2)
noncomputable def Cc(f g:F):F:=λd=>(f d).bind λp=>(LJ p).bind λq=>if q.1=J then g q.2 else Y ((.bl U,U),q.2)
noncomputable def fOr(f g:F):F:=λd=>(f d).bind λp=>(LJ p).bind λq=>if q.1=J then Y ((.bl J,U),q.2) else g q.2
noncomputable def VU(f:F):F:=λd=>(f d).bind λp=>(LJ p).bind λq=>Y ((.bl (!q.1),U),q.2)
def BO.pre{K:ju}{T:B7}{h:L2.St}{δ δ1 δ2:Dn}{Q j q:Hp}{r:D×Bool}{v:V}(k:BU h δ Q δ1 j)(P:BO K T h δ1 j r δ2 v q):BO K T h δ Q r δ2 v q:=by
 refine⟨k.trans P.1,?_⟩;obtain⟨d,o⟩:=r
 cases o with
 |false=>exact P.2
 |true=>
  obtain⟨p,h1,s,t⟩:=P.2;refine⟨p,h1,?_,t⟩
  cases u:Q p with
  |none=>rfl
  |some x=>exact absurd s<|k.dm p (by rw[u];simp)
noncomputable def LI(t:FT)(f g:F):F:=λd=>(t d).bind λp=>if p.1=J then f p.2 else g p.2
end
inductive Out where
 |nx(δ:Dn)|rt(r:D×Bool)(δ:Dn)|bk(δ:Dn)|ct(δ:Dn)
abbrev FS:=Dn->Option Out
structure SK(A:kz)(σ:L2.St)(δ:Dn)(H:Hp)(σ':L2.St)(δ':Dn)(H':Hp):Prop where
 kp: ∀a o,H a=XV o-> ¬AO σ δ a->H' a=XV o
 owi: ∀i a,B9 σ' δ' i a->B9 σ δ i a\/H a=X0\/(A i/\ ∃j,A j/\B9 σ δ j a)
 dm: ∀a,H a≠X0->H' a≠X0
 as: ∀i,¬A i->σ'[i]?=σ[i]?
structure LL where
 p:Nat->Prop
 st:Option L2.St
structure FI(A:kz)(L:LL)(H0:Hp)(σ:L2.St)(δ:Dn)(H:Hp):Prop where
 ow: ∀i a,B9 σ δ i a->L.p i\/H0 a=X0
 dm: ∀a,H0 a≠X0->H a≠X0
 al: ∀j,A j-> ¬L.p j
 gh: ∀z,L.st=XV z-> ∀i,¬A i->σ[i]?=z[i]?
def RV(K:ju)(T:B7)(f:Hp)(r:D×Bool)(c:L2.St)(b:Dn)(v:V)(e:Hp):Prop:=
 match r with
 |(d,U)=>ER K e T c b/\Rep K e (λa=>AO c b a\/T a) d v
 |(d,J)=> ∃p,v= .ref p/\f p=C/\ER K e (λa=>T a\/a=p) c b/\Cg K e (λa=>AO c b a\/T a\/a=p) d p
section
variable {A:kz}{c b m:L2.St}{δ δ1 δ2:Dn}{H l g q:Hp}{L:LL}{K:ju}{T:B7}
def SK.refl:SK A c δ H c δ H:=⟨λ_ _ e _=>e,λ_ _ z=> .inl z,λ_ z=>z,λ_ _=>rfl⟩
def SK.ow(k:SK A c δ H b δ1 g)(a:iW)(h:AO b δ1 a):AO c δ a\/H a=C:=by
 obtain⟨i,d,h1,o⟩:=h;rcases k.owi i a ⟨d,h1,o⟩ with⟨e,f,n⟩|z|⟨_,j,_,e,f,n⟩
 .exact .inl ⟨i,e,f,n⟩
 .exact .inr z
 .exact .inl ⟨j,e,f,n⟩
def SK.trans(x:SK A c δ H b δ1 g)(y:SK A b δ1 g m δ2 q):SK A c δ H m δ2 q where
 kp:=λa o e n=>y.kp a o (x.kp a o e n) λz=>(x.ow a z).elim n λz=>by rw[z] at e;cases e
 owi:=λi a z=>(y.owi i a z).elim (x.owi i a) λz=>z.elim (λz=> .inr (.inl (by
  cases h:H a with
  |none=>rfl
  |some o=>exact absurd z<|x.dm a<|by rw[h];simp))) λ⟨d,j,f,z⟩=>(x.owi j a z).elim (λz=> .inr (.inr ⟨d,j,f,z⟩)) λz=>z.elim (λz=> .inr (.inl z)) λ⟨_,k,ak,z⟩=> .inr (.inr ⟨d,k,ak,z⟩)
 dm:=λa z=>y.dm a<|x.dm a z
 as:=λi h=>(y.as i h).trans<|x.as i h
def BU.sk(k:BU c δ H δ1 g):SK A c δ H c δ1 g:=⟨k.kp,λi a z=> .inl (k.owi i a z),k.dm,λ_ _=>rfl⟩
def FI.step(f:FI A L l c δ H)(k:SK A c δ H b δ1 g):FI A L l b δ1 g where
 ow:=λi a z=>(k.owi i a z).elim (f.ow i a) λz=> .inr (z.elim (λz=>by
  cases h:l a with
  |none=>rfl
  |some o=>exact absurd z<|f.dm a<|by rw[h];simp) λQ=>by obtain⟨_,j,d,z⟩:=Q;exact (f.ow j a z).resolve_left<|f.al j d)
 dm:=λa z=>k.dm a<|f.dm a z
 al:=f.al
 gh:=λz e i n=>(k.as i n).trans<|f.gh z e i n
def FI.fresh(f:FI A L l c δ H)(a:H p=C):l p=C:=by
 cases h:l p with
 |none=>rfl
 |some o=>exact absurd a<|f.dm p (by rw[h];simp)
end
def tS(K:ju)(A:kz)(L:LL)(h:Hp)(f:FS):TS:=λD e Q=> ∃d T g,ER K Q T e d/\FI A L h e d Q/\f d=Y g/\
 match g with
 | .nx b=> ∀a c,SK A e d Q a b c->ER K c T a b->D.nx a c
 | .bk b=> ∀a c,SK A e d Q a b c->ER K c T a b->D.bk a c
 | .ct b=> ∀a c,SK A e d Q a b c->ER K c T a b->D.ct a c
 | .rt r b=> ∀v a c,SK A e d Q a b c->RV K T h r a b v c->D.rt v c
def MY(X:Cx)(A:kz)(L:LL)(a:Hp)(st:bc)(f:FS):Prop:=PS X st<|tS X.K A L a f
def Fl(X:Cx)(A:kz)(L:LL)(a:Hp)(st:List bc)(f:FS):Prop:=IJ X st<|tS X.K A L a f
noncomputable def jG:FS:=λδ=>Y<|.nx δ
noncomputable def ji(f g:FS):FS:=λδ=>(f δ).bind λo=>match o with
 | .nx δ1=>g δ1
 |o=>Y o
noncomputable def pv(f:F):FS:=λa=>(f a).bind λp=>Y<|.nx p.2
noncomputable def lZ(f:F):FS:=λa=>(f a).bind λp=>Y<|.rt p.1 p.2
noncomputable def pD(i:Nat):FS:=λa=>match a[i]? with
 |some (Y (d,J))=>Y<|.rt (d,J)<|a.set i C
 |some (Y (d,U))=>Y<|.rt (d,U) a
 |_=>C
noncomputable def F7(t:FT)(f g:FS):FS:=λδ=>(t δ).bind λp=>if p.1=J then f p.2 else g p.2
noncomputable def lH(i:Nat)(f:F):FS:=λa=>(f a).bind λp=>if i<(A7 p.2) then Y (.nx<|p.2.set i<|Y p.1) else C
section
variable {X:Cx}{A:kz}{L:LL}{d:Hp}{st:bc}{KP:List bc}{f g:FS}{l:F}{j:FT}{e c:je}{i:bO}
def PS.imp'(h:PS X st t)(k: ∀D b T,n D b T->t D b T):PS X st n:=λa s b T D Q m=>h a s b T D Q<|k D b T m
def IJ.imp'(h:IJ X KP t)(k: ∀D b T,n D b T->t D b T):IJ X KP n:=λa s b T D Q m=>h a s b T D Q<|k D b T m
def U1(Q:PTX X c j)(I:Fl X A L d a f)(O:Fl X A L d b g):MY X A L d (.If c a b i) (F7 j f g):=PS.imp' (XN Q I O) λD w M N=>by
 obtain⟨y,T,q,E,C,e,k⟩:=N;obtain⟨⟨c,n⟩,h1,e⟩:=iU e;refine⟨y,T,c,n,E,h1,λx B z=>?_⟩;have u:SK A w y M w n x:=B.sk
 have fin: ∀(h:FS),h n=Y q->tS X.K A L d h D w x:=λh G=>by
  refine⟨n,T,q,z,C.step u,G,?_⟩
  cases q with
  |nx s=>exact λm o p t=>k m o (u.trans p) t
  |bk s=>exact λm o p t=>k m o (u.trans p) t
  |ct s=>exact λm o p t=>k m o (u.trans p) t
  |rt r s=>exact λv m o p R2=>k v m o (u.trans p) R2
 cases c with
 |true=>rw[jl H] at e;exact(show(if J=J then tS X.K A L d f D w x else _) from by rw[jl H];exact fin f e)
 |false=>rw[jv kR] at e;exact(show(if U=J then _ else tS X.K A L d g D w x) from by rw[jv kR];exact fin g e)
end
def mx{b:Type}{l:List b}{i j:Nat}{x y:b}(h:(l.set i x)[j]?=Y y):(i=j/\i<A7 l/\y=x)\/(i≠j/\l[j]?=Y y):=by
 rw[yM] at h;split at h
 .rename_i a;split at h
  .rename_i c;exact .inl ⟨a,c,(lj h).symm⟩
  .cases h
 .rename_i a;exact .inr ⟨a,h⟩
section
variable {K:ju}{T:B7}{f:L2.St}{l c:Dn}{H g:Hp}{x:D×Bool}{v:V}{i:Nat}
def B9.store{j:Nat}{a:iW}(h:B9 (f.set i<|Y v) (l.set i<|Y x) j a):(i≠j/\B9 f l j a)\/(i=j/\x.2=J/\v= .ref a):=by
 obtain⟨d,h1,m⟩:=h;rcases mx h1 with⟨e,_,q⟩|⟨ne,q⟩
 .rcases mx m with⟨_,_,k⟩|⟨b,_⟩
  .right;cases q;exact⟨e,rfl,(lj k).symm⟩
  .exact absurd e b
 .rcases mx m with⟨n,_,_⟩|⟨_,k⟩
  .exact absurd n ne
  .exact .inl ⟨ne,d,q,k⟩
def AO.store(h:AO (f.set i<|Y v) (l.set i<|Y x) a):AO f l a\/(x.2=J/\v= .ref a):=by
 obtain⟨j,d,h1,k⟩:=h;rcases B9.store ⟨d,h1,k⟩ with⟨_,e,b,m⟩|⟨_,b⟩
 .exact .inl ⟨j,e,b,m⟩
 .exact .inr b
def ER.store(h:ER K g (Lv T x v) f c)(E:i<A7 c)(u:match x with|(d,U)=>Rep K g (λa=>AO f c a\/T a) d v|(d,J)=> ∃p,v= .ref p/\ ¬T p/\Cg K g (λa=>AO f c a\/T a\/a=p) d p):
  ER K g T (f.set i<|Y v) (c.set i<|Y x):=by
 have r:i<(A7 f):=by rw[h.len];exact E
 have sub: ∀b,g b≠C->(AO (f.set i<|Y v) (c.set i<|Y x) b\/T b)->(AO f c b\/Lv T x v b):=λb _ z=>by
  rcases z with z|z
  .rcases z.store with z|z
   .exact .inl z
   .exact .inr (.inr z)
  .exact .inr (.inl z)
 refine⟨by rw[ur,ur];exact h.len,λj d o=>?_,λj d o=>?_,λj k d e a o hk h1 n=>?_,λa z=>?_,λa z=>h.dom a<|.inl z⟩
 .rcases mx o with⟨rfl,_,q⟩|⟨ne,q⟩
  .have q:=lj q;subst q
   exact⟨v,ux r,Rep.mono (λ_ _ e _=>e) (λb Q z=>by
    rcases z with z|z
    .rcases z.store with z|z
     .exact .inl z
     .exact absurd z.1 (by simp)
    .exact .inr z) u⟩
  .obtain⟨w,h1,n⟩:=h.val j d q;exact⟨w,by rw[mQ ne];exact h1,Rep.mono (λ_ _ e _=>e) sub n⟩
 .rcases mx o with⟨rfl,_,q⟩|⟨ne,q⟩
  .have q:=lj q;subst q;obtain⟨p,rfl,np,ok⟩:=u;refine⟨p,ux r,ok.mono (λ_ _ e _=>e) (λb Q z=>?_) λ_ e=>e⟩;rcases z with z|z
   .rcases z.store with z|z
    .exact .inl z
    .have:=z.2;cases this;exact .inr<|.inr AM
   .exact .inr (.inl z)
  .obtain⟨a,h1,n⟩:=h.own j d q;exact⟨a,by rw[mQ ne];exact h1,n.mono (λ_ _ e _=>e) sub λ_ e=>e⟩
 .rcases B9.store ⟨d,o,h1⟩ with⟨L,y,g1,g2⟩|⟨B,g1,g2⟩
  .rcases B9.store ⟨e,hk,n⟩ with⟨O,s,g3,m⟩|⟨A,g3,m⟩
   .exact h.inj j k y s a g1 g3 g2 m
   .exact absurd (bP ⟨g3,m⟩) (h.nT a ⟨j,y,g1,g2⟩)
  .rcases B9.store ⟨e,hk,n⟩ with⟨O,s,g3,m⟩|⟨A,g3,m⟩
   .exact absurd (bP ⟨g1,g2⟩) (h.nT a ⟨k,s,g3,m⟩)
   .exact B.symm.trans A
 .rcases z.store with z|z
  .exact λt=>h.nT a z<|.inl t
  .obtain⟨d,b⟩:=x
   cases b with
   |false=>exact absurd z.1 (by simp)
   |true=>obtain⟨p,rfl,np,_⟩:=u;have:=z.2;cases this;exact np
def SK.store(k:BU f l H c g)(b:A i)(h:x.2=J-> ∀p,v= .ref p->H p=C):SK A f l H (f.set i<|Y v) (c.set i<|Y x) g where
 kp:=k.kp
 owi:=λj a z=>by
  rcases z.store with⟨_,z⟩|⟨_,m,n⟩
  .exact .inl (k.owi j a z)
  .exact .inr (.inl<|h m a n)
 dm:=k.dm
 as:=λj d=>mQ λ(e:i=j)=>d (by subst e;exact b)
end
section
variable {X:Cx}{A:kz}{L:LL}{g:Hp}{f:F}{e c:je}{b a:bO}
def xy{K:ju}{T:B7}{k:L2.St}{n j:Dn}{Q l:Hp}{r:D×Bool}{v:V}{i:Nat}(E:ER K Q T k n)(P:BO K T k n Q r j v l)(u:i<A7 j)(t:A i):
  SK A k n Q (k.set i<|Y v) (j.set i<|Y r) l/\ER K l T (k.set i<|Y v) (j.set i<|Y r):=by
 have w:r.2=J-> ∀p,v= .ref p->Q p=C:=λh p hv=>by
  obtain⟨d,o⟩:=r
  cases o with
  |false=>cases h
  |true=>obtain⟨q,h1,m,_⟩:=P.2;rw[hv] at h1;cases h1;exact m
 refine⟨SK.store P.1 t w,ER.store (P.er E) u ?_⟩;obtain⟨d,o⟩:=r
 cases o with
 |false=>exact P.2.2
 |true=>obtain⟨p,rfl,m,x,s⟩:=P.2;exact⟨p,rfl,λz=>(E.dom p z).ne m,s⟩
end
abbrev Tg:=D->Dn->Option Dn
def tG(K:ju)(A:kz)(g:Tg):TG:=λv f O Q=> ∃e T d b,ER K O T f e/\Rep K O (λa=>AO f e a\/T a) d v/\g d e=Y b/\ ∀c,SK A f e O c b O->ER K O T c b->Q c O
def Ll(X:Cx)(A:kz)(e:je)(a:Tg):Prop:=PG X e<|tG X.K A a
noncomputable def ja(i:Nat):Tg:=λd δ=>if i<(A7 δ) then Y (δ.set i<|Y (d,U)) else C
noncomputable def Jm:List Tg->List D->Dn->Option Dn
 |[],[],a=>Y a
 |t::b,d::ds,a=>(t d a).bind<|Jm b ds
 |_,_,_=>C
noncomputable def Cp(a:List Tg):Tg
 | .tup ds,δ=>Jm a ds δ
 |_,_=>C
def Nj(K:ju)(A:kz)(g:List Tg):Lk:=λh e O Q=> ∃d T f b,ER K O T e d/\AJ K O (λa=>AO e d a\/T a) f h/\Jm g f d=Y b/\ ∀c,SK A e d O c b O->ER K O T c b->Q c O
section
variable {X:Cx}{A:kz}{g:bO}{e:je}{f:kL}{t:Tg}{c:List Tg}
def PG.imp'{t d:TG}(h:PG X e t)(k: ∀v b T Q,d v b T Q->t v b T Q):PG X e d:=λa s b T v u Q O r i=>h a s b T v u Q O r<|k v b T Q i
def KZ.imp'{t d:Lk}(h:KZ X f t)(k: ∀v b T Q,d v b T Q->t v b T Q):KZ X f d:=λa s b T v u Q O r i=>h a s b T v u Q O r<|k v b T Q i
def aeh:KZ X [] (Nj X.K A []):=KZ.imp' Rk λv h O Q b=>by
 obtain⟨i,T,a,d,E,r,e,k⟩:=b
 cases a with
 |nil=>
  cases e;rw[AJ] at r;exact⟨r,k h .refl E⟩
 |cons _ _=>cases e
def CB(h1:Ll X A e t)(p:KZ X f (Nj X.K A c))(u:(aZ (e::f) X.env).map (·.2)=cW e X.env::(aZ f X.env).map (·.2)):KZ X (e::f) (Nj X.K A (t::c)):=KZ.imp' (aei h1 p u) λv O N Q w=>by
 obtain⟨G,T,h,i,E,r,e,k⟩:=w
 cases h with
 |nil=>cases e
 |cons d h=>rw[AJ] at r;obtain⟨B,M,rfl,x,y⟩:=r;obtain⟨a,q,e⟩:=iU e;refine⟨B,M,rfl,G,T,d,a,E,x,q,λL l m=>⟨a,T,h,i,m,?_,e,λj o n=>k j (l.trans o) n⟩⟩;exact AJ.mono (λ_ _ e _=>e) (λb s z=>z.elim (λz=>(l.ow b z).elim bb λz=>absurd z s) bP) y
def Rj{k:Nat}(o:X.calm=J)(h:KZ X f (Nj X.K A c)){n:Nat}(s:(aZ f X.env).length=n)(p:c.length=n)(x:(aZ f X.env).findIdx? (·.1)=C):Ll X A (.Tuple f k g) (Cp c):=PG.imp' (U6 o h s x) λv z O Q u=>by
 obtain⟨i,T,d,j,E,r,e,k⟩:=u
 cases d with
 |tup b=>
  obtain⟨a,y,rfl,q,m⟩:=r.tup;refine⟨a,y,rfl,q.sq,?_,i,T,b,j,E,m,e,k⟩
  have: ∀(c:List Tg) (b:List D) (i:Dn),Jm c b i=Y j->b.length=c.length:=by
   intro c
   induction c with
   |nil=>intro b i h;cases b with|nil=>rfl|cons _ _=>cases h
   |cons t c w=>
    intro b i h
    cases b with
    |nil=>cases h
    |cons d b=>obtain⟨l,_,h⟩:=iU h;simp[w b l h]
  rw[m.length,this c b i e,p]
 |_=>cases e
end
abbrev SB:=Nat->Prop
def Lx(B:SB)(T:B7)(c:L2.St)(b:Dn):B7:=λa=>(∃i,¬B i/\B9 c b i a)\/T a
def Lx.own(h:Lx B T σ δ a):AO σ δ a\/T a:=h.imp (λQ=>by obtain⟨i,_,d,h1,b⟩:=Q;exact ⟨i,d,h1,b⟩) id
structure Ks(K:ju)(J:It)(ds:List D)(P O:B7)(H1:Hp):Prop where
 go: ∀(i:Nat) d Hi,ds[i]?=XV d->(∀a o,H1 a=XV o-> ¬P a->Hi a=XV o)->J.go i Hi/\ ∀x H',J.yld i Hi x H'->(∀a o,Hi a=XV o->H' a=XV o)/\
  ∀O':B7,(∀b,H1 b≠X0->O' b->O b)->(∀b,Hi b=X0-> ¬O' b)->Rep K H' O' d x
 stop: ∀(i:Nat) Hi,A7 ds<=i->(∀a o,H1 a=XV o-> ¬P a->Hi a=XV o)->J.stop i Hi
abbrev EV:=Dn->Option (List D×Dn)
def tI(K:ju)(B:SB)(g:EV):TI:=λc O R=> ∃e T f b,ER K O T c e/\g e=Y (f,b)/\ ∀Q d,BU c e O b d->ER K d T c b->Ks K Q f (Lx B T c b) (λa=>AO c b a\/T a) d->R Q d
def Lb(X:Cx)(B:SB)(tg iter:je)(a:EV):Prop:=PI X tg iter<|tI X.K B a
noncomputable def AB:D->Option (List D)
 | .tup l=>Y l
 | .lst l=>Y l
 |_=>C
noncomputable def Iz(f:FO):EV:=λa=>(f a).bind λp=>(res p.2 p.1).bind λd=>(AB d).bind λl=>Y (l,p.2)
noncomputable def kP(f:F):EV:=λδ=>(f δ).bind λp=>match p.1.1 with
 | .lst l=>Y (l,p.2)
 | .tup l=>Y (l,p.2)
 |_=>C
noncomputable def jD(lo:Int)(n:Nat):List D:=(au n).map λ(k:Nat)=> .int (lo+k)
noncomputable def yc(f:FO):EV:=λδ=>(kT [f] δ).bind λp=>match vJ p.2 p.1 with
 |some [.int j]=>if -(2^62)<=j/\j<2^62 then Y (jD 0 j.toNat,p.2) else C
 |_=>C
def NQ(B:SB)(f:FO):Prop:= ∀b i a,f b=Y (.slot i,a)->B i
def Qt:NQ B (jk f):=λb i a h=>by obtain⟨p,_,h⟩:=iU h;cases h
def Jq(h:B i):NQ B (jb i):=λb j a e=>by
 unfold jb at e;split at e<;>cases e
 exact h
noncomputable def NI:D->Bool
 | .lst _=>J
 |_=>U
def Ib(b:Bool)(K:ju)(T:Hp)(P:B7)(a:iW)(c:List V):Prop:=if b=J then IF K T P a c else IB K T P a c
def Ib.mono{K T H'}{P P':B7}(q:Ib b K T P a xs)(k: ∀b o,T b=Y o-> ¬P b->H' b=Y o)(c: ∀b,P' b->P b):Ib b K H' P' a xs:=by
 cases b with
 |true=>exact IF.mono q k λb _=>c b
 |false=>exact IB.mono (K:=K) q k λb _=>c b
def Ib.l{K T}(q:Ib J K T P a xs):Gm K T a xs:=IF.sq q
def Ib.t{K T}(q:Ib U K T P a xs):IU K T a xs:=IB.sq (K:=K) q
def Cw{K T}(h:AB d=Y l)(r:Rep K T O d v): ∃a b,v= .ref a/\Ib (NI d) K T O a b/\AJ K T O l b:=by
 cases d with
 |tup m=>cases h;obtain⟨a,b,rfl,q,c⟩:=r.tup;exact⟨a,b,rfl,q,c⟩
 |lst m=>cases h;obtain⟨a,b,rfl,q,c⟩:=r.lst;exact⟨a,b,rfl,q,c⟩
 |_=>cases h
def Ops.seq{K:ju}{T M:B7}{h:L2.St}{A c:Dn}{N n:Hp}{os:List Bl}{y:List V}(E:ER K N T h A)(W:Ops K T h A N os y c n M){j:Nat}(h1:os[j]?=Y o)(x:y[j]?=Y v)(s:res c o=Y d)(t:AB d=Y l)(L: ∀i,o= .slot i->B i):
  ∃a g,v= .ref a/\Ib (NI d) K n (Lx B T h c) a g/\AJ K n (λa=>AO h c a\/T a) l g:=by
 have fin:Rep K n (λa=>AO h c a\/T a) d v-> ∃a g,v= .ref a/\Ib (NI d) K n (Lx B T h c) a g/\AJ K n (λa=>AO h c a\/T a) l g:=λr=>by obtain⟨a,g,rfl,q,u⟩:=Cw t r;exact⟨a,g,rfl,q.mono (λ_ _ e _=>e) λa z=>z.own,u⟩
 cases o with
 |val r=>cases s;exact fin<|W.rep E h1 x
 |slot i=>
  have hk:=W.slt j i _ h1 x
  have hd: ∃f,c[i]?=Y (Y (d,f)):=by
   unfold res at s;dsimp only at s;split at s<;>cases s
   exact⟨_,by assumption⟩
  obtain⟨f,hd⟩:=hd
  cases f with
  |false=>obtain⟨w,p,G⟩:=W.er.val i _ hd;rw[hk] at p;cases p;exact fin<|Rep.mono (λ_ _ e _=>e) (λb _ z=>z.imp id<|W.tt b) G
  |true=>
   obtain⟨a,p,ok⟩:=W.er.own i _ hd;rw[hk] at p;cases p
   cases d with
   |lst m=>
    cases t;obtain⟨g,e,u⟩:=ok;exact⟨a,g,rfl,.inl ⟨.inl e,λz=>z.elim (λa'=>by obtain⟨k,O,Q,g1,g2⟩:=a';exact O<|W.er.inj i k _ _ a hd g1 hk g2▸L i H) λz=>W.er.nT a ⟨i,_,hd,hk⟩<|W.tt a z⟩,AJ.mono (λ_ _ e _=>e) (λb _ z=>z.imp id<|W.tt b) u⟩
   |tup m=>exact ok.elim
   |_=>cases t
section
variable {X:Cx}{B:SB}{tg e:je}{f:F}{c:FO}{g p:bO}
def PI.imp'(h:PI X tg e t)(k: ∀b T R,i b T R->t b T R):PI X tg e i:=λa s b T R Q d=>h a s b T R Q<|k b T R d
def PI.or(h:PI X tg e t)(d:PI X tg e j):PI X tg e (λb T R=>t b T R\/j b T R):=λa s b T R Q i=>i.elim (h a s b T R Q)<|d a s b T R Q
noncomputable def ItS(b:Bool)(K:ju)(a:iW):It:=if b=J then Itl K a else Itt K a
def ON{K:ju}{P O:B7}{m:Hp}{a:iW}{k:List V}{l:List D}(q:Ib b K m P a k)(r:AJ K m O l k)(v: ∀a,P a->O a):Ks K (ItS b K a) l P O m:=by
 cases b<;>(
  refine⟨λi d Hi hd j=>?_,λi Hi w j=>?_⟩
  .have h:=Ib.mono q j λ_ z=>z
   first|replace h:=h.l|replace h:=h.t
   obtain⟨x,u,A⟩:=r.get hd;refine⟨⟨k,x,h,u⟩,λy Q s=>?_⟩;obtain⟨rfl,s⟩:=s;have:=s k h;rw[u] at this;cases this;exact⟨λ_ _ e=>e,λE h1 T=>Rep.mono (λb o e n=>j b o e λz=>n<|v b z) h1 A⟩
  .exact⟨k,by first|exact(Ib.mono q j λ_ z=>z).l|exact(Ib.mono q j λ_ z=>z).t,by rw[r.length];exact w⟩)
def A4{K:ju}{P O:B7}{b:Hp}(lo:Int)(n:Nat):Ks K (NW lo n) (jD lo n) P O b:=by
 refine⟨λi d Hi hd j=>?_,λi Hi a j=>?_⟩
 .unfold jD at hd;rw[ly] at hd;obtain⟨k,h1,h⟩:=jL hd;have a:i<n:=by have:=(xj.mp h1).1;simpa using this
  have hk:k=i:=by rw[List.getElem?_range a] at h1;exact(lj h1).symm
  subst hk;refine⟨a,λy m l=>?_⟩;obtain⟨rfl,rfl⟩:=l;refine⟨λ_ _ e=>e,λo _ _=>?_⟩;rw[<-h];exact Rep.mkInt
 .unfold jD at a;have:n<=i:=by simpa using a
  exact this
def aed(h:PO X e c)(I:NQ B c):Lb X B tg e (Iz c):=PI.imp' (PI.or (Ri (tg:=tg) h)<|U5 h) λA M R O=>by
 obtain⟨x,T,N,G,E,e,k⟩:=O;obtain⟨⟨o,w⟩,h1,e⟩:=iU e;obtain⟨d,C,e⟩:=iU e;obtain⟨l,y,e⟩:=iU e;obtain⟨rfl,rfl⟩:=jz e
 have u: ∀v n,FA X.K T A x M o w v n-> ∃a s,v= .ref a/\Ib (NI d) X.K n (Lx B T A w) a s/\R (ItS (NI d) X.K a) n:=λv n P=>by have W:=Ops.cons E P<|Ops.nil<|P.er E;obtain⟨a,s,rfl,q,Q⟩:=W.seq E (j:=0) H H C y λi L=>I _ _ _ (L▸h1);exact⟨a,s,rfl,q,k _ n W.keep (W.er.mono (λ_ _ e _=>e) (λb _ z=>W.tt b z) λa z=>W.er.dom a<|W.tt a z) (ON q Q λa z=>z.own)⟩
 cases d with
 |lst m=>exact .inl ⟨x,T,_,_,E,h1,λv n P=>let⟨a,s,e,q,r⟩:=u v n P;⟨a,e,⟨s,q.l⟩,r⟩⟩
 |tup m=>exact .inr ⟨x,T,_,_,E,h1,λv n P=>let⟨a,s,e,q,r⟩:=u v n P;⟨a,e,⟨s,q.t⟩,r⟩⟩
 |_=>cases y
end
noncomputable def ml(b:Tg)(a:FS):List D->FS
 |[],δ=>Y<|.nx δ
 |d::ds,δ=>(b d δ).bind λδ1=>(a δ1).bind λo=>match o with
  | .nx δ2=>ml b a ds δ2
  | .ct δ2=>ml b a ds δ2
  | .bk δ2=>Y<|.nx δ2
  | .rt r δ2=>Y<|.rt r δ2
noncomputable def nh(a:EV)(tg:Tg)(fb:FS):FS:=λδ=>(a δ).bind λp=>ml tg fb p.1 p.2
section
variable {X:Cx}{A:kz}{L:LL}{l:Hp}{g iter:je}{c:List bc}{j:EV}{t:Tg}{f:FS}{h:bO}
def Q8(hp:fL (aj X.prog X.w) X.A X.env X.xe)(hc:X.calm=YP)(hi:Lb X (λ_=>False) g iter j)(hg:Ll X A g t)(G:Fl X A L l c f)(hs: ∀x,aA iter X.env x=pure x):
  MY X A L l (.For g iter c [] h) (nh j t f):=PS.imp' (U2 hp hc hi hg G hs) λD M H hw=>by
 obtain⟨δ,T,R,E,iL,e,k⟩:=hw;obtain⟨⟨u,q⟩,h1,e⟩:=iU e;refine⟨δ,T,u,q,E,h1,λJ Y K1 E1 ok=>?_⟩;have V:SK A M δ H M q Y:=K1.sk;refine⟨λi m s C'=>m=A7 u-i/\i<=A7 u/\ ∃p,SK A M q Y s p C'/\ER X.K C' T s p/\ml t f (u.drop i) p=XV R,⟨A7 u,by simp,mf _,q,.refl,E1,by simpa using e⟩,?_⟩;rintro i m O H2 ⟨rfl,hle,I',S2,N,e2⟩;have aJ: ∀a o,Y a=XV o-> ¬Lx (λ_=>False) T M q a->H2 a=XV o:=λa o ea n=>S2.kp a o ea λ⟨i,d,z⟩=>n<|.inl ⟨i,id,d,z⟩;by_cases Z:i<A7 u
 .refine .inr ?_;have hd:u[i]?=XV u[i]:=kK Z;obtain⟨go,yl⟩:=ok.go i _ H2 hd aJ;rw[Al Z] at e2;obtain⟨S,h3,e3⟩:=iU e2;obtain⟨o,h4,W⟩:=iU e3;refine⟨go,λs C'=> ∃p,SK A M q Y s p C'/\ER X.K C' T s p/\ml t f (u.drop<|i+1) p=XV R,λs C' ⟨p,q1,q2,q3⟩=>⟨A7 u-(i+1),by omega,rfl,Z,p,q1,q2,q3⟩,λx C' hy=>?_⟩;obtain⟨ext,rep⟩:=yl x C' hy;have eY:ER X.K C' T O I':=N.mono (λb ob eb _=>ext b ob eb) (λ_ _ z=>z) λa z=>(N.dom a z).up<|ext a;have iN:SK A M q Y O I' C':=S2.trans (BU.ext ext).sk;have rx:=rep (λa=>AO O I' a\/T a) (λb G z=>z.elim (λz=>(S2.ow b z).elim bb λz=>absurd z G) bP) λb G z=>z.elim (λz=>N.Ie z G) λz=>(N.dom b z).ne G;refine⟨I',T,u[i],S,eY,rx,h3,λσ3 S3 E3=>?_⟩;have P:=iN.trans S3;refine⟨S,T,o,E3,(iL.step V).step P,h4,?_⟩
  cases o with
  |nx y=>exact λB F Q U=>⟨y,P.trans Q,U,W⟩
  |ct y=>exact λB F Q U=>⟨y,P.trans Q,U,W⟩
  |bk y=>cases W;exact λB F Q U=>k B F (V.trans<|P.trans Q) U
  |rt r y=>cases W;exact λv B F Q R4=>k v B F (V.trans<|P.trans Q) R4
 .refine .inl ⟨ok.stop i H2 (by omega) aJ,?_⟩;rw[Ak<|by omega] at e2;cases e2;exact k O H2 (V.trans S2) N
end
noncomputable def qf(c:FT)(b:FS):Nat->FS
 |0,_=>C
 |n+1,d=>(c d).bind λp=>if p.1=J then(b p.2).bind λo=>(match o with
   | .nx a=>qf c b n a
   | .ct a=>qf c b n a
   | .bk a=>Y<|.nx a
   | .rt r a=>Y<|.rt r a) else Y (.nx p.2)
noncomputable def A0(f g:FO):EV:=λδ=>(kT [f,g] δ).bind λp=>match vJ p.2 p.1 with
 |some [.int i,.int j]=>if -(2^62)<=i/\i<2^62/\ -(2^62)<=j/\j<2^62 then Y (jD i (j-i).toNat,p.2) else C
 |_=>C
section
variable {X:Cx}{A:kz}{L:LL}{s:Hp}{B:SB}{t e c a b:je}{d:List bc}{f:FT}{g:FS}{x u:FO}{l p:bO}
def acS{n:Nat}(hp:fL (aj X.prog X.w) X.A X.env X.xe)(hc:PTX X c f)(hb:Fl X A L s d g):MY X A L s (.While c d [] l) (qf f g n):=PS.imp' (aeC hp hc hb) λD F H hw=>by
 obtain⟨Y,T,J,E,iL,e,k⟩:=hw;refine⟨λm i I=> ∃h,SK A F Y H i h I/\ER X.K I T i h/\qf f g m h=XV J,⟨n,Y,.refl,E,e⟩,?_⟩;rintro m M H2 ⟨δ2,S2,E2,e2⟩
 cases m with
 |zero=>cases e2
 |succ m=>
  obtain⟨⟨S,C⟩,Z,N⟩:=iU e2;refine⟨δ2,T,S,C,E2,Z,λR V P=>?_⟩;have O:SK A F Y H M C R:=S2.trans V.sk
  cases S with
  |false=>rw[jv kR] at N;cases N;exact Yc<|k M R O P
  |true=>
   rw[jl AM] at N;obtain⟨o,h4,U⟩:=iU N;refine Yb ⟨λi I=> ∃h,SK A F Y H i h I/\ER X.K I T i h/\qf f g m h=XV J,λi I q=>⟨m,se _,q⟩,C,T,o,P,iL.step O,h4,?_⟩
   cases o with
   |nx j=>exact λy G z Q=>⟨j,O.trans z,Q,U⟩
   |ct j=>exact λy G z Q=>⟨j,O.trans z,Q,U⟩
   |bk j=>cases U;exact λy G z Q=>k y G (O.trans z) Q
   |rt r j=>cases U;exact λv y G z W=>k v y G (O.trans z) W
def vg{K:ju}{T v:B7}{E:L2.St}{O m:Dn}{Q r:Hp}{os:List Bl}{k:List V}{n:List D}(B:Ops K T E O Q os k m r v)(h:vJ m os=Y n){j:Nat}{i:Int}(hd:n[j]?=Y (.int i)):k[j]?=Y (.int i):=by
 obtain⟨h1,w⟩:=pY h;obtain⟨o,q,y⟩:=w j _ hd;have z:j<(A7 k):=by have:=(xj.mp q).1;have:=B.len;lia
 have hv:k[j]?=Y k[j]:=kK z;have:=jX<|B.view q hv y;rw[hv,this]
end
abbrev BP:=List (D×Bool)->Option ((D×Bool)×Dn)
def IW(K:ju)(d:BP):Sp:=λvs O Q _=> ∃T a r b,ER K O T (vs.map Y) (a.map Y)/\d a=Y (r,b)/\ ∀v c,BO K T (vs.map Y) (a.map Y) O r b v c->Q v c
noncomputable def jP(args:List (D×Bool))(δ:Dn):Dn:=args.zipIdx.map λp=>if p.1.2=J then(δ[p.2]?).join else Y p.1
noncomputable def BM(n np:Nat)(asg:kj)(f:FS):BP:=λa=>
 if (A7 a)=np/\np<=n/\(a.zipIdx.all λp=>!(p.1.2&&asg.contains p.2))=J then
  match f (a.map Y++am (n-np) C) with
  |some (.rt r b)=>Y (r,jP a b)
  |some (.nx b)=>Y ((.Ax,U),jP a b)
  |_=>C
 else C
def ad4(a:List (D×Bool))(b:Dn)(i:Nat):(jP a b)[i]?=a[i]?.map λx=>if x.2=J then(b[i]?).join else Y x:=by
 unfold jP;rw[ly,Hh]
 cases a[i]? with
 |none=>rfl
 |some x=>simp
def oo(h:x.join=Y p):x=Y (Y p):=by
 cases x with
 |none=>cases h
 |some y=>exact nE Y h
section
variable {K:ju}{T:B7}{A:kz}{k:List V}{f:List (D×Bool)}{H q:Hp}{m:Nat}{l:L2.St}{g:Dn}{r:D×Bool}{v:V}
def Fp{b:Type}{a:List b}{m i:Nat}{y:b}:(a.map Y++am m C)[i]?=Y (Y y)↔a[i]?=Y y:=by
 by_cases h:i<A7 a
 .rw[qw<|by simpa using h,ly];cases a[i]?<;>simp
 .rw[pN<|by simpa using h];constructor
  .intro e;rw[D6] at e;split at e<;>cases e
  .intro e;exact absurd (xj.mp e).1 h
def vC{b:Type}{a:List b}{i:Nat}{y:b}:(a.map Y)[i]?=Y (Y y)↔a[i]?=Y y:=by rw[ly];cases a[i]?<;>simp
def LO{i:Nat}{a:iW}:B9 (k.map Y++am m C) (f.map Y++am m C) i a↔B9 (k.map Y) (f.map Y) i a:=by unfold B9;simp only[Fp,vC]
def FX:AO σ b a↔ ∃i,B9 σ b i a:=Iff.rfl
def N3:AO (k.map Y++am m C) (f.map Y++am m C) a↔AO (k.map Y) (f.map Y) a:=by rw[FX,FX];exact exists_congr λi=>LO
def ER.pad(E:ER K H T (k.map Y) (f.map Y)):ER K H T (k.map Y++am m C) (f.map Y++am m C):=by
 have len:(A7 k)=(A7 f):=by simpa using E.len
 refine⟨by simp[len],λi d h=>?_,λi d h=>?_,λi j d e a h1 o p s=>?_,λa z=>E.nT a<|N3.mp z,E.dom⟩
 .obtain⟨w,c,n⟩:=E.val i d<|vC.mpr<|Fp.mp h;exact⟨w,Fp.mpr<|vC.mp c,Rep.mono (λ_ _ e _=>e) (λb _ z=>z.imp N3.mp id) n⟩
 .obtain⟨w,c,n⟩:=E.own i d<|vC.mpr<|Fp.mp h;exact⟨w,Fp.mpr<|vC.mp c,n.mono (λ_ _ e _=>e) (λb _ z=>z.imp N3.mp id) λ_ e=>e⟩
 .exact E.inj i j d e a (vC.mpr<|Fp.mp h1) (vC.mpr<|Fp.mp o) (vC.mpr<|Fp.mp p) (vC.mpr<|Fp.mp s)
def JA{J:B7}(E:ER K H T (k.map XV) (f.map XV))(S:SK A (k.map XV++am m X0) (f.map XV++am m X0) H l g q)(hA: ∀(i:Nat) d,f[i]?=XV (d,YP)-> ¬A i)
  (Q:ER K q J l g)(hT: ∀b,H b≠X0->J b->T b):ER K q J (k.map XV) (jP f g)/\(∀b,AO (k.map XV) (jP f g) b->AO l g b)/\BU (k.map XV) (f.map XV) H (jP f g) q:=by
 have len:(A7 k)=(A7 f):=by simpa using E.len
 have s: ∀(i:Nat) d w,f[i]?=XV (d,YP)->k[i]?=XV w->l[i]?=XV (XV w):=λi d w h1 p=>by rw[S.as i<|hA i d h1];exact Fp.mpr p
 have t: ∀(i:Nat) d b,(jP f g)[i]?=XV (XV (d,b))->(∃e,f[i]?=XV (e,YP)/\g[i]?=XV (XV (d,b)))\/(b=ZB/\f[i]?=XV (d,ZB)):=λi d b h=>by
  rw[ad4] at h;obtain⟨⟨e,c⟩,h1,p⟩:=jL h
  cases c with
  |true=>left;exact⟨e,h1,oo<|by simpa using p⟩
  |false=>
   right;have:XV (e,ZB)=XV (d,b):=by simpa using p
   cases this;exact⟨rfl,h1⟩
 have B: ∀i a,B9 (k.map XV) (jP f g) i a->B9 l g i a/\B9 (k.map XV) (f.map XV) i a:=λi a a'=>by
  obtain⟨d,h1,p⟩:=a'
  rcases t i d YP h1 with⟨e,u,x⟩|⟨z,_⟩
  .exact⟨⟨d,x,s i e _ u (vC.mp p)⟩,⟨e,vC.mpr u,p⟩⟩
  .cases z
 have G: ∀b,AO (k.map XV) (jP f g) b->AO l g b:=λb a'=>by
  obtain⟨i,d,h1,p⟩:=a'
  obtain⟨⟨e,I,L⟩,_⟩:=B i b ⟨d,h1,p⟩;exact⟨i,e,I,L⟩
 have C: ∀b,AO (k.map XV) (jP f g) b->AO (k.map XV) (f.map XV) b:=λb a'=>by
  obtain⟨i,d,h1,p⟩:=a'
  obtain⟨_,⟨e,I,L⟩⟩:=B i b ⟨d,h1,p⟩;exact⟨i,e,I,L⟩
 have U: ∀a o,H a=XV o-> ¬AO (k.map XV) (f.map XV) a->q a=XV o:=λa o e n=>S.kp a o e λz=>n<|N3.mp z;refine⟨⟨?_,λi d h=>?_,λi d h=>?_,λi j d e a h1 p u x=>?_,λa z=>Q.nT a<|G a z,Q.dom⟩,G,⟨U,λi a z=>(B i a z).2,S.dm⟩⟩
 .simp[jP,len]
 .have M:i<(A7 k):=by
   have:=(xj.mp h).1;simp[jP] at this
   lia
  have hv:k[i]?=XV k[i]:=kK M;rcases t i d ZB h with⟨e,u,x⟩|⟨_,u⟩
  .obtain⟨w,y,O⟩:=Q.val i d x;rw[s i e _ u hv] at y;cases y;exact⟨_,vC.mpr hv,Rep.mono (λ_ _ e _=>e) (λb _ z=>z.imp (G b) id) O⟩
  .obtain⟨w,y,O⟩:=E.val i d<|vC.mpr u;exact⟨w,y,Rep.mono (λb o e n=>U b o e λz=>n<|.inl z) (λb F z=>z.imp (C b)<|hT b F) O⟩
 .have M:i<(A7 k):=by
   have:=(xj.mp h).1;simp[jP] at this
   lia
  have hv:k[i]?=XV k[i]:=kK M;rcases t i d YP h with⟨e,u,x⟩|⟨z,_⟩
  .obtain⟨w,y,O⟩:=Q.own i d x;rw[s i e _ u hv] at y;have N:k[i]=V.ref w:=by simpa using y
   exact⟨w,by rw[<-N];exact vC.mpr hv,O.mono (λ_ _ e _=>e) (λb _ z=>z.imp (G b) id) λ_ e=>e⟩
  .cases z
 .obtain⟨_,⟨Y,I,L⟩⟩:=B i a ⟨d,h1,u⟩;obtain⟨_,⟨D,P,R⟩⟩:=B j a ⟨e,p,x⟩;exact E.inj i j Y D a I P L R
def rO(E:ER K H T (k.map Y) (f.map Y))(S:SK A (k.map Y++am m C) (f.map Y++am m C) H l g q)(j: ∀(i:Nat) d,f[i]?=Y (d,J)-> ¬A i)
  (R:RV K T H r l g v q):BO K T (k.map Y) (f.map Y) H r (jP f g) v q:=by
 obtain⟨d,b⟩:=r
 cases b with
 |false=>obtain⟨a,s⟩:=R;obtain⟨c,ow,h⟩:=JA E S j a λ_ _ z=>z;exact⟨h,c,Rep.mono (λ_ _ e _=>e) (λb _ z=>z.imp (ow b) id) s⟩
 |true=>obtain⟨p,rfl,n,a,ok⟩:=R;obtain⟨c,ow,h⟩:=JA E S j a (λb o z=>z.elim id λz=>by subst z;exact absurd n o);exact⟨h,p,rfl,n,c,ok.mono (λ_ _ e _=>e) (λb _ z=>z.imp (ow b) id) λ_ e=>e⟩
end
section
variable {P:jw}{w:jm}{K:ju}{c:mz}{base:jo}{N:jq}{m:Nat}{b:kj}{fs:FS}{vs:List V}{H:Hp}{Q:VK}{E:XK}
def Jo(h:IW K (BM (A7 N) m b fs) vs H Q E):(A7 vs)=m:=by
 obtain⟨T,a,r,d,E0,e,_⟩:=h;unfold BM at e;split at e
 .rename_i f;have:=E0.len;simp at this;rw[this];exact f.1
 .cases e
def HL(h:IW K (BM (A7 N) m b fs) vs H Q E): ∃L:LL,(∀i,L.p i->i<m)/\tS K (λi=>i∈b) L H fs {nx:=λ_ k=>Q .Ax k,rt:=Q} (L2.nY N vs) H:=by
 obtain⟨T,f,r,x,E0,e,u⟩:=h;unfold BM at e;split at e
 .rename_i I;obtain⟨h1,Y,C⟩:=I;have l:(A7 vs)=(A7 f):=by simpa using E0.len
  refine⟨⟨λi=> ∃d,f[i]?=XV (d,YP),X0⟩,λi ⟨d,hd⟩=>by have:=(xj.mp hd).1;lia,?_⟩;have M:L2.nY N vs=vs.map XV++am (A7 N-m) X0:=by unfold L2.nY;rw[l,h1]
  have q: ∀(i:Nat) d,f[i]?=XV (d,YP)-> ¬(i∈b):=λi d hd G=>by
   have J:(f.zipIdx)[i]?=XV ((d,YP),i):=by rw[Hh,hd];simp
   have:=mZ.mp C _ (mB J);simp at this;exact this G
  rw[M]
  have B:FI (λi=>i∈b) ⟨λi=> ∃d,f[i]?=XV (d,YP),X0⟩ H (vs.map XV++am (A7 N-m) X0) (f.map XV++am (A7 N-m) X0) H:=⟨λi a z=>by obtain⟨d,U,_⟩:=LO.mp z;exact .inl ⟨d,vC.mp U⟩,λ_ z=>z,λj O ⟨d,hd⟩=>q j d hd O,λ_ h=>nomatch h⟩
  cases s:fs (f.map XV++am (A7 N-m) X0) with
  |none=>rw[s] at e;cases e
  |some n=>
   rw[s] at e;refine⟨_,T,n,E0.pad,B,s,?_⟩
   cases n with
   |rt r1 g=>obtain⟨rfl,rfl⟩:=jz e;exact λv t k o A=>u v k<|rO E0 o q A
   |nx g=>obtain⟨rfl,rfl⟩:=jz e;exact λt k o y=>u .Ax k<|rO (r:=(.Ax,ZB)) E0 o q ⟨y,Rep.HM⟩
   |bk g=>cases e
   |ct g=>cases e
 .cases e
def VH{x qual:aG}{st:bc}{f:iW}{g:mV}{e:jq}{k:Nat}(F:KA K x qual st f g)(S:AN N e (iY st))
  (n: ∀(d:jg) (A:jn) (a:List ek) (s:iZ) (H:Hp) (E:XK) (L:LL),(∀i,L.p i->i<A7 e)->BN k (A.deeper<|aY qual (iY st) s.heap.objs.size f d)->
   Fl (qp FH P w K c base N qual (iY st) f d A a s H E).Ig (λi=>i∈b) L H (lW st) fs):EZ P w K c base FH (k+1) f g e (IW K<|BM (A7 N) (A7 e) b fs):=
 F.ok S (λvs H Q E h=>Jo h) λd A a s H vs Q E l h=>let⟨L,h1,j⟩:=HL h;⟨_,n d A a s H E L h1 l,j⟩
end
noncomputable def zK(a:Dn):Bl->Option (D×Bool)
 | .val r=>Y (r.1,U)
 | .slot i=>(a[i]?).join
noncomputable def km(δ:Dn):List Bl->Option (List<|D×Bool)
 |[]=>Y []
 |o::os=>(zK δ o).bind λa=>(km δ os).bind λl=>Y (a::l)
noncomputable def jB:List Bl->List (D×Bool)->List Nat
 | .slot i::os,(_,J)::as=>i::jB os as
 |_::os,_::as=>jB os as
 |_,_=>[]
noncomputable def wb:List Bl->List (D×Bool)->Dn->Dn->Dn
 | .slot i::os,(_,J)::as,o::outs,δ=>wb os as outs<|δ.set i o
 |_::os,_::as,_::outs,δ=>wb os as outs δ
 |_,_,_,δ=>δ
noncomputable def jI(a:BP)(fs:List FO):F:=λδ=>(kT fs δ).bind λp=>(km p.2 p.1).bind λargs=>if(jB p.1 args).Nodup then(a args).bind λq=>Y (q.1,wb p.1 args q.2 p.2) else C
def qo{δ:Dn}: ∀{os:List Bl} {b:List (D×Bool)},km δ os=Y b->A7 b=os.length/\ ∀(j:Nat) a,b[j]?=Y a-> ∃o,os[j]?=Y o/\zK δ o=Y a:=by
 intro m
 induction m with
 |nil=>intro b h;cases h;exact⟨rfl,λj d h=>by simp at h⟩
 |cons o os k=>
  intro b h;unfold km at h;obtain⟨d,h1,h⟩:=iU h;obtain⟨l,f,h⟩:=iU h;cases h;obtain⟨g,i⟩:=k f;refine⟨by simp[g],λj e c=>?_⟩
  cases j with
  |zero=>simp at c;subst c;exact⟨o,rfl,h1⟩
  |succ j=>obtain⟨n,p,q⟩:=i j e (by simpa using c);exact⟨n,by simpa using p,q⟩
theorem vz: ∀{os:List Bl} {as:List (D×Bool)} {j i:Nat} {d:D},os[j]?=Y (.slot i)->as[j]?=Y (d,J)->i∈jB os as
 |[],_,_,_,_,h,_=>by simp at h
 |_::_,[],_,_,_,_,h=>by simp at h
 |o::os,(e,b)::as,0,i,d,h1,a=>by simp at h1 a;obtain⟨rfl,rfl⟩:=a;subst h1;simp[jB]
 |o::os,(e,b)::as,j+1,i,d,h1,a=>by
  have c:=vz (os:=os) (as:=as) (j:=j) (i:=i) (d:=d) (by simpa using h1) (by simpa using a)
  cases o with
  |val r=>simpa[jB] using c
  |slot k=>
   cases b with
   |true=>simp[jB,c]
   |false=>simpa[jB] using c
theorem CK: ∀{os:List Bl} {a:List (D×Bool)} {i:Nat},i∈jB os a-> ∃(j:Nat) (d:D),os[j]?=Y (.slot i)/\a[j]?=Y (d,J)
 |[],_,_,h=>by simp[jB] at h
 |o::_,[],_,h=>by cases o<;>simp[jB] at h
 |o::os,(e,b)::a,i,h=>by
  have c:i∈jB os a-> ∃(j:Nat) (d:D),(o::os)[j]?=Y (.slot i)/\((e,b)::a)[j]?=Y (d,J):=λh=>by obtain⟨j,d,h1,f⟩:=CK h;exact⟨j+1,d,by simpa using h1,by simpa using f⟩
  cases o with
  |val r=>exact c (by simpa[jB] using h)
  |slot k=>
   cases b with
   |true=>
    simp[jB] at h;rcases h with rfl|h
    .exact⟨0,e,rfl,rfl⟩
    .exact c h
   |false=>exact c (by simpa[jB] using h)
theorem CM: ∀{os:List Bl} {as:List (D×Bool)} {j k i:Nat} {d e:D},(jB os as).Nodup->os[j]?=Y (.slot i)->as[j]?=Y (d,J)->os[k]?=Y (.slot i)->as[k]?=Y (e,J)->j=k
 |[],_,_,_,_,_,_,_,h,_,_,_=>by simp at h
 |_::_,[],_,_,_,_,_,_,_,h,_,_=>by simp at h
 |o::os,(n,b)::as,j,k,i,d,e,a,h1,c,f,g=>by
  cases j with
  |zero=>
   cases k with
   |zero=>rfl
   |succ k=>simp at h1 c;obtain⟨rfl,rfl⟩:=c;subst h1;have:=vz (os:=os) (as:=as) (j:=k) (by simpa using f) (by simpa using g);simp[jB] at a;exact absurd this a.1
  |succ j=>
   cases k with
   |zero=>simp at f g;obtain⟨rfl,rfl⟩:=g;subst f;have:=vz (os:=os) (as:=as) (j:=j) (by simpa using h1) (by simpa using c);simp[jB] at a;exact absurd this a.1
   |succ k=>
    have l:(jB os as).Nodup:=by
     cases o with
     |val r=>simpa[jB] using a
     |slot m=>
      cases b with
      |true=>simp[jB] at a;exact a.2
      |false=>simpa[jB] using a
    have:=CM (os:=os) (as:=as) (j:=j) (k:=k) l (by simpa using h1) (by simpa using c) (by simpa using f) (by simpa using g)
    lia
theorem Av: ∀{os:List Bl} {c:List (D×Bool)} {a δ:Dn} {i:Nat},i∉jB os c->(wb os c a δ)[i]?=δ[i]?
 |[],_,_,_,_,_=>by simp[wb]
 |o::_,[],_,_,_,_=>by cases o<;>simp[wb]
 |o::os,(e,b)::c,[],_,_,_=>by cases o<;>cases b<;>simp[wb]
 |o::os,(e,b)::c,x::a,δ,i,h=>by
  cases o with
  |val r=>simp only[wb];exact Av (by simpa[jB] using h)
  |slot k=>
   cases b with
   |true=>simp[jB] at h;rw[wb,Av h.2,mQ<|qy h.1]
   |false=>simp only[wb];exact Av (by simpa[jB] using h)
theorem Aw: ∀{os:List Bl} {c:List (D×Bool)} {a δ:Dn},(wb os c a δ).length=A7 δ
 |[],_,_,_=>by simp[wb]
 |o::_,[],_,_=>by cases o<;>simp[wb]
 |o::os,(e,b)::c,[],_=>by cases o<;>cases b<;>simp[wb]
 |o::os,(e,b)::c,x::a,δ=>by
  cases o with
  |val r=>simp only[wb];exact Aw
  |slot k=>
   cases b with
   |true=>simp only[wb];rw[Aw,ur]
   |false=>simp only[wb];exact Aw
theorem Jj: ∀{os:List Bl} {c:List (D×Bool)} {a δ:Dn} {i j:Nat} {d:D} {x:Sl},(jB os c).Nodup->os[j]?=Y (.slot i)->c[j]?=Y (d,J)->a[j]?=Y x->i<A7 δ->(wb os c a δ)[i]?=Y x
 |[],_,_,_,_,_,_,_,_,h,_,_,_=>by simp at h
 |o::_,[],_,_,_,_,_,_,_,_,h,_,_=>by simp at h
 |o::os,(e,b)::c,[],_,_,_,_,_,_,_,_,h,_=>by simp at h
 |o::os,(e,b)::c,y::a,δ,i,0,d,x,f,h1,g,l,n=>by simp at h1 g l;obtain⟨rfl,rfl⟩:=g;subst h1;subst l;simp[jB] at f;rw[wb,Av f.1,ux n]
 |o::os,(e,b)::c,y::a,δ,i,j+1,d,x,f,h1,g,l,n=>by
  have p:(jB os c).Nodup:=by
   cases o with
   |val r=>simpa[jB] using f
   |slot m=>
    cases b with
    |true=>simp[jB] at f;exact f.2
    |false=>simpa[jB] using f
  cases o with
  |val r=>simp only[wb];exact Jj p (by simpa using h1) (by simpa using g) (by simpa using l) n
  |slot k=>
   cases b with
   |true=>simp only[wb];exact Jj p (by simpa using h1) (by simpa using g) (by simpa using l) (by rw[ur];exact n)
   |false=>simp only[wb];exact Jj p (by simpa using h1) (by simpa using g) (by simpa using l) n
section
variable {K:ju}{T u:B7}{l:L2.St}{δ f:Dn}{H m s:Hp}{os:List Bl}{vs:List V}{c:List (D×Bool)}{g:Dn}{r:D×Bool}{v:V}
noncomputable def Tc(T:B7)(l:L2.St)(f:Dn)(vs:List V)(c:List (D×Bool)):B7:=λa=>T a\/(AO l f a/\ ¬AO (vs.map Y) (c.map Y) a)
def ya(B:Ops K T l δ H os vs f m u)(p:km f os=Y c){j:Nat}{d:D}(h:c[j]?=Y (d,J)): ∃(i:Nat) (a:iW),os[j]?=Y (.slot i)/\f[i]?=Y (Y (d,J))/\vs[j]?=Y (.ref a)/\l[i]?=Y (Y<|.ref a):=by
 obtain⟨w,q⟩:=qo p;obtain⟨o,h1,b⟩:=q j _ h
 cases o with
 |val r=>cases b
 |slot i=>
  have e:f[i]?=Y (Y (d,J)):=oo b;have t:j<(A7 vs):=by have:=(xj.mp h1).1;have:=B.len;lia
  have hv:vs[j]?=Y vs[j]:=kK t;have k:=B.slt j i _ h1 hv;obtain⟨a,n,_⟩:=B.er.own i d e;rw[k] at n;have:vs[j]=V.ref a:=by simpa using n
  exact⟨i,a,h1,e,by rw[hv,this],by rw[k,this]⟩
def Ga(B:Ops K T l δ H os vs f m u)(n:km f os=Y c){j:Nat}{a:iW}(h:B9 (vs.map Y) (c.map Y) j a): ∃(i:Nat) (d:D),os[j]?=Y (.slot i)/\c[j]?=Y (d,J)/\B9 l f i a:=by obtain⟨d,h1,k⟩:=h;have e:=vC.mp h1;obtain⟨i,b,o,p,q,t⟩:=ya B n e;have:=vC.mp k;rw[q] at this;cases this;exact⟨i,d,o,e,d,p,t⟩
def JQ(B:Ops K T l δ H os vs f m u)(k:km f os=Y c)(h:AO (vs.map Y) (c.map Y) a):AO l f a:=by obtain⟨j,d,h1,b⟩:=h;obtain⟨i,_,_,_,e,n,o⟩:=Ga B k ⟨d,h1,b⟩;exact⟨i,e,n,o⟩
def yt(E:ER K H T l δ)(B:Ops K T l δ H os vs f m u)(n:km f os=XV c)(nd:(jB os c).Nodup):ER K m (Tc T l f vs c) (vs.map XV) (c.map XV):=by
 obtain⟨D,U⟩:=qo n
 have sub: ∀b,(AO (vs.map XV) (c.map XV) b\/Tc T l f vs c b)->AO l f b\/T b:=λb z=>by
  rcases z with z|z|z
  .exact .inl (JQ B n z)
  .exact .inr z
  .exact .inl z.1
 refine⟨by simp[D,B.len],λj d h=>?_,λj d h=>?_,λj k d e a h1 p x y=>?_,λa z t=>?_,λa z=>?_⟩
 .have h:=vC.mp h;obtain⟨o,h1,p⟩:=U j _ h;have Y:j<(A7 vs):=by have:=(xj.mp h1).1;have:=B.len;lia
  have hv:vs[j]?=XV vs[j]:=kK Y;refine⟨_,vC.mpr hv,?_⟩
  cases o with
  |val q=>
   have:q.1=d:=by cases p;rfl
   subst this;exact Rep.mono (λ_ _ e _=>e) (λb _ z=>sub b z)<|B.rep E h1 hv
  |slot i=>
   have x:f[i]?=XV (XV (d,ZB)):=oo p;have y:=B.slt j i _ h1 hv;obtain⟨w,Q,P⟩:=B.er.val i d x;rw[y] at Q;have:vs[j]=w:=by simpa using Q
   rw[this];exact Rep.mono (λ_ _ e _=>e) (λb _ z=>(sub b z).imp id<|B.tt b) P
 .obtain⟨i,a,O,A,C,I⟩:=ya B n<|vC.mp h;obtain⟨b,L,N⟩:=B.er.own i d A;rw[I] at L;cases L;exact⟨a,vC.mpr C,N.mono (λ_ _ e _=>e) (λb _ z=>(sub b z).imp id<|B.tt b) λ_ e=>e⟩
 .obtain⟨i,R,O,A,G,C,I⟩:=Ga B n ⟨d,h1,x⟩;obtain⟨F,S,g1,g2,J,g3,M⟩:=Ga B n ⟨e,p,y⟩;have:=B.er.inj i F G J a C g3 I M;subst this;exact CM nd O A g1 g2
 .rcases t with t|t
  .exact B.er.nT a (JQ B n z) (B.tt a t)
  .exact t.2 z
 .rcases z with z|z
  .exact B.er.dom a (B.tt a z)
  .exact B.er.KH z.1
def Kd{T' Y:B7}(E:ER K H T l δ)(B:Ops K T l δ H os vs f m u)(M:km f os=XV c)(nd:(jB os c).Nodup)(kC:BU (vs.map XV) (c.map XV) m g s)
  (U:ER K s Y (vs.map XV) g)(t1: ∀b,Tc T l f vs c b->Y b)(t2: ∀b,T' b->Y b)(t3: ∀b,m b≠C->T' b->T b):
  ER K s T' l (wb os c g f)/\(∀b,AO l (wb os c g f) b->AO (vs.map XV) g b\/Tc T l f vs c b)/\BU l f m (wb os c g f) s:=by
 obtain⟨hl,hg⟩:=qo M;have ol:(A7 g)=(A7 c):=by have:=U.len;have:=B.len;simp at*;lia
 have R: ∀(i:Nat) (x:Sl),(wb os c g f)[i]?=XV x->(i∉jB os c/\f[i]?=XV x)\/ ∃(j:Nat) (d:D),os[j]?=XV (.slot i)/\c[j]?=XV (d,YP)/\g[j]?=XV x:=λi x h=>by
  by_cases A:i∈jB os c
  .right;obtain⟨j,d,h1,p⟩:=CK A;have hj:j<(A7 g):=by have:=(xj.mp p).1;lia
   have X:g[j]?=XV g[j]:=kK hj;have hi:i<(A7 f):=by have:=(xj.mp h).1;rwa [Aw] at this
   have:=Jj (δ:=f) nd h1 p X hi;rw[h] at this;cases this;exact⟨j,d,h1,p,X⟩
  .left;rw[Av A] at h;exact⟨A,h⟩
 have I: ∀{i:Nat} {a:iW},i∉jB os c->B9 l f i a-> ¬AO (vs.map XV) (c.map XV) a:=λ{i a} A ⟨e,q,C'⟩ ⟨j,d,h1,p⟩=>by obtain⟨P,d2,g1,g2,S,g3,g4⟩:=Ga B M ⟨d,h1,p⟩;have:=B.er.inj i P e S a q g3 C' g4;subst this;exact A<|vz g1 g2
 have N: ∀i a,B9 l (wb os c g f) i a->B9 l f i a/\(AO (vs.map XV) g a\/Tc T l f vs c a):=λi a a'=>by
  obtain⟨d,h1,p⟩:=a'
  rcases R i _ h1 with⟨A,y⟩|⟨j,e,g1,g2,g3⟩
  .exact⟨⟨d,y,p⟩,.inr<|.inr ⟨⟨i,d,y,p⟩,I A ⟨d,y,p⟩⟩⟩
  .obtain⟨P,b,q,C',G,L⟩:=ya B M g2;rw[g1] at q;cases q;rw[p] at L;cases L;exact⟨⟨e,C',p⟩,.inl ⟨j,d,g3,vC.mpr G⟩⟩
 have Z: ∀b,AO l (wb os c g f) b->AO (vs.map XV) g b\/Tc T l f vs c b:=λb ⟨i,d,h1,p⟩=>(N i b ⟨d,h1,p⟩).2
 have F: ∀b,AO l (wb os c g f) b->AO l f b:=λb a'=>by
  obtain⟨i,d,h1,p⟩:=a'
  obtain⟨⟨e,q,C'⟩,_⟩:=N i b ⟨d,h1,p⟩;exact⟨i,e,q,C'⟩
 have W: ∀a o,m a=XV o-> ¬AO l f a->s a=XV o:=λa o e n=>kC.kp a o e λz=>n<|JQ B M z
 have O: ∀b,(AO l (wb os c g f) b\/T' b)->AO (vs.map XV) g b\/Y b:=λb z=>by
  rcases z with z|z
  .exact(Z b z).imp id (t1 b)
  .exact .inr (t2 b z)
 refine⟨⟨by rw[Aw];exact B.er.len,λi d h=>?_,λi d h=>?_,λi k d e a h1 p y h4=>?_,λa z t=>?_,λa z=>U.dom a<|t2 a z⟩,Z,⟨W,λi a z=>(N i a z).1,kC.dm⟩⟩
 .rcases R i _ h with⟨A,y⟩|⟨j,e,g1,g2,g3⟩
  .obtain⟨w,Q,J⟩:=B.er.val i d y;exact⟨w,Q,Rep.mono (λb o e n=>W b o e λz=>n<|.inl z) (λb V z=>z.imp (F b) λz=>B.tt b<|t3 b V z) J⟩
  .obtain⟨P,b,q,C',G,L⟩:=ya B M g2;rw[g1] at q;cases q;obtain⟨w,Q,J⟩:=U.val j d g3;have:=vC.mp Q;rw[G] at this;cases this;exact⟨_,L,Rep.mono (λ_ _ e _=>e) (λb _ z=>O b z) J⟩
 .rcases R i _ h with⟨A,y⟩|⟨j,e,g1,g2,g3⟩
  .obtain⟨a,Q,J⟩:=B.er.own i d y;exact⟨a,Q,J.mono (λb o e n=>W b o e λz=>n<|.inl z) (λb V z=>z.imp (F b) λz=>B.tt b<|t3 b V z) λo e=>kC.kp a o e<|I A ⟨d,y,Q⟩⟩
  .obtain⟨P,b,q,C',G,L⟩:=ya B M g2;rw[g1] at q;cases q;obtain⟨a,Q,J⟩:=U.own j d g3;have:=vC.mp Q;rw[G] at this;cases this;exact⟨_,L,J.mono (λ_ _ e _=>e) (λb _ z=>O b z) λ_ e=>e⟩
 .obtain⟨⟨e1,q,C'⟩,_⟩:=N i a ⟨d,h1,y⟩;obtain⟨⟨S,G,L⟩,_⟩:=N k a ⟨e,p,h4⟩;exact B.er.inj i k e1 S a q G C' L
 .exact B.er.nT a (F a z) (B.tt a<|t3 a (B.er.Ie<|F a z) t)
def ql(E:ER K H T l δ)(B:Ops K T l δ H os vs f m u)(n:km f os=Y c)(q:(jB os c).Nodup)(P:BO K (Tc T l f vs c) (vs.map Y) (c.map Y) m r g v s):
  BO K T l δ H r (wb os c g f) v s:=by
 obtain⟨d,b⟩:=r
 cases b with
 |false=>
  obtain⟨k,h,x⟩:=P;obtain⟨i,ow,j⟩:=Kd (T':=T) E B n q k h (λ_ z=>z) (λ_ z=> .inl z) λ_ _ z=>z;refine⟨B.keep.trans j,i,Rep.mono (λ_ _ e _=>e) (λb _ z=>?_) x⟩;rcases z with z|z
  .exact ow b z
  .exact .inr (.inl z)
 |true=>
  obtain⟨k,p,rfl,o,h,ok⟩:=P;obtain⟨i,ow,j⟩:=Kd (T':=λa=>T a\/a=p) E B n q k h (λ_ z=> .inl z) (λb z=>z.elim (λz=> .inl (.inl z)) .inr) (λb w z=>z.elim id λz=>by subst z;exact absurd o w);refine⟨B.keep.trans j,p,rfl,?_,i,ok.mono (λ_ _ e _=>e) (λb _ z=>?_) λ_ e=>e⟩
  .cases t:H p with
   |none=>rfl
   |some y=>exact absurd o<|B.keep.dm p (by rw[t];simp)
  .rcases z with z|z|z
   .exact(ow b z).imp id .inl
   .exact .inr (.inl<|.inl z)
   .exact .inr (.inr z)
end
section
variable {X:Cx}{e:je}{b:kL}{fs:List FO}{a p:bO}{k:Nat}{f:iW}{g:mV}{d:jq}{c:BP}{x:aG}
def QR(F:EZ X.prog X.w X.K X.mg X.base FH k f g d (IW X.K c))(L:BN k X.A)(C:Gl X x)(I:X.mg x=XV (.ref f))(hk:cG X.K (.ref f)=YP)(y:Binds X.K g d [])
  (u:PA X (e::b) (tA X.K fs))(G:(x==("__debug__":aG))=ZB)(z:ac (e::b) X.env=(ZB,aT e X.env)::ac b X.env)(s:(aH a<|ac b X.env).any (·.1)=ZB):
  PX X (.Call (.Name x p) (e::b) [] a) (jI c fs):=PX.imp (Rq F L C I hk y (.nil) To u G z s) λN H Q O=>by
 obtain⟨J,T,Y,M,E,e,k⟩:=O;obtain⟨⟨os,j⟩,h1,e⟩:=iU e;obtain⟨h,l,e⟩:=iU e;dsimp only at e;split at e
 .rename_i m;obtain⟨⟨r,i⟩,t,e⟩:=iU e;obtain⟨rfl,rfl⟩:=jz e;refine⟨J,T,os,j,E,h1,λn q U B=>?_⟩;show IW X.K c (n++[]) q Q E0;rw[sf];exact⟨Tc T N j n h,h,r,i,yt E B l m,t,λv o P=>k v o<|ql E B l m P⟩
 .cases e
end
structure KL(A:kz)(d:iW)(σ:L2.St)(δ:Dn)(H:Hp)(σ':L2.St)(δ':Dn)(H':Hp):Prop where
 kp: ∀a o,H a=XV o-> ¬AO σ δ a->a≠d->H' a=XV o
 owi: ∀i a,B9 σ' δ' i a->B9 σ δ i a\/H a=X0\/(A i/\ ∃j,A j/\B9 σ δ j a)
 dm: ∀a,H a≠X0->H' a≠X0
 as: ∀i,¬A i->σ'[i]?=σ[i]?
section
variable {A:kz}{d:iW}{c b f:L2.St}{δ δ1 δ2:Dn}{H g l:Hp}
def SK.Lm(k:SK A c δ H b δ1 g):KL A d c δ H b δ1 g:=⟨λa o e n _=>k.kp a o e n,k.owi,k.dm,k.as⟩
def KL.ow(k:KL A d c δ H b δ1 g)(a:iW)(h:AO b δ1 a):AO c δ a\/H a=C:=by
 obtain⟨i,e,h1,o⟩:=h;rcases k.owi i a ⟨e,h1,o⟩ with⟨e,m,n⟩|z|⟨_,j,_,e,m,n⟩
 .exact .inl ⟨i,e,m,n⟩
 .exact .inr z
 .exact .inl ⟨j,e,m,n⟩
def KL.trans(x:KL A d c δ H b δ1 g)(y:KL A d b δ1 g f δ2 l):KL A d c δ H f δ2 l where
 kp:=λa o e n p=>y.kp a o (x.kp a o e n p) (λz=>(x.ow a z).elim n λz=>by rw[z] at e;cases e) p
 owi:=λi a z=>(y.owi i a z).elim (x.owi i a) λz=>z.elim (λz=> .inr (.inl (by
  cases h:H a with
  |none=>rfl
  |some o=>exact absurd z<|x.dm a<|by rw[h];simp))) λ⟨m,j,q,z⟩=>(x.owi j a z).elim (λz=> .inr (.inr ⟨m,j,q,z⟩)) λz=>z.elim (λz=> .inr (.inl z)) λ⟨_,k,ak,z⟩=> .inr (.inr ⟨m,k,ak,z⟩)
 dm:=λa z=>y.dm a<|x.dm a z
 as:=λi h=>(y.as i h).trans<|x.as i h
end
noncomputable def xF(p:(Int->Bool)×Nat)(d:D):(Int->Bool)×Nat:=match d with
 | .int k=>(λa=>p.1 a||decide (a=k),if p.1 k then p.2 else p.2+1)
 |_=>p
noncomputable def nZ(l:List D):(Int->Bool)×Nat:=l.foldl xF (λ_=>U,0)
def Cv(l:List D)(k:Int):nZ (l++[.int k])=((λa=>(nZ l).1 a||decide (a=k)),if(nZ l).1 k then(nZ l).2 else(nZ l).2+1):=by unfold nZ;rw[Hg];rfl
def Qy: ∀(l:List D) (p:(Int->Bool)×Nat),(l.foldl xF p).2<=p.2+(A7 l):=by
 intro b
 induction b with
 |nil=>intro p;exact kh _
 |cons d l a=>
  intro p;have:=a<|xF p d
  have h:(xF p d).2<=p.2+1:=by
   unfold xF;split
   .dsimp only;split<;>lia
   .lia
  simp only[uD,lg]
  lia
def AtD(S:Option Bool)(K:ju)(T:Hp)(O:B7)(d:iW)(a:List D):Prop:=match S with
 |some U=> ∃c,T d=Y (.lst c)/\AJ K T O a c
 |some J=>T d=Y (.set (nZ a).1 (nZ a).2)
 |none=> ∃b,E6 K (T d) .set [] a b/\AJ K T O a b
structure BS(S:Option Bool)(K:ju)(d:iW)(T:B7)(σ:L2.St)(δ:Dn)(acc:List D)(H:Hp):Prop where
 er:ER K H T σ δ
 td:T d
 at':AtD S K H (λa=>AO σ δ a\/T a) d acc
abbrev FB:=List D->Dn->Option (List D×Dn)
def Ic(S:Option Bool)(K:ju)(A:kz)(d:iW)(f:FB):TB:=λh Q N=> ∃e T c g a,BS S K d T h e c Q/\f c e=Y (g,a)/\ ∀b H',KL A d h e Q b a H'->BS S K d T b a g H'->N b H'
noncomputable def kZ(f:F):FB:=λa b=>(f b).bind λp=>if (A7 a)<sizeLine then Y (a++[p.1.1],p.2) else C
noncomputable def kY(b:Tg)(ti:FT)(a:FB):List D->FB
 |[],acc,δ=>Y (acc,δ)
 |x::xs,acc,δ=>(b x δ).bind λδ1=>(ti δ1).bind λp=>(if p.1=J then a acc p.2 else Y (acc,p.2)).bind λq=>kY b ti a xs q.1 q.2
noncomputable def Fc(c:EV)(d:Tg)(ti:FT)(b:FB):FB:=λa e=>(c e).bind λp=>kY d ti b p.1 a p.2
section
variable {K:ju}{A:kz}{d:iW}{T:B7}{f r:L2.St}{j s:Dn}{p:List D}{H q:Hp}
def BS.step(b:BS S K d T f j p H)(k:SK A f j H r s q)(t:ER K q T r s):BS S K d T r s p q:=by
 refine⟨t,b.td,?_⟩;have h:=b.at'
 have m: ∀{l:List D} {i:List V},AJ K H (λa=>AO f j a\/T a) l i->AJ K q (λa=>AO r s a\/T a) l i:=λg=>by
  refine AJ.mono (λb o e n=>k.kp b o e λz=>n<|.inl z) (λc u z=>?_) g;rcases z with z|z
  .exact(k.ow c z).elim bb λz=>absurd z u
  .exact .inr z
 rcases S with _|_|_
 .obtain⟨v,h1,g⟩:=h;exact⟨v,h1.keep λo e=>k.kp d o e λz=>b.er.nT d z b.td,m g⟩
 .obtain⟨i,h1,g⟩:=h;exact⟨i,k.kp d _ h1 λz=>b.er.nT d z b.td,m g⟩
 .exact k.kp d _ h λz=>b.er.nT d z b.td
def JL(hg: ∀v f H Q,tG K A tg v f H Q->g v f H Q)(hi: ∀f H Q,tT K ft f H Q->ti f H Q)(hb: ∀f H N,Ic S K A d fb f H N->tb f H N)
  (b:BS S K d T f j p H)(P O:B7)(ok:Ks K J' ds P O q)(s1: ∀a o,q a=Y o-> ¬P a->H a=Y o)(s0: ∀a,q a≠X0->AO f j a\/a=d->P a)(s2: ∀a,q a≠X0->(AO f j a\/T a)->O a)(s3: ∀a,q a≠X0->H a≠X0)(e:kY tg ft fb ds p j=Y (f6,B))
  (k: ∀E t,KL A d f j H E B t->BS S K d T E B f6 t->N E t):Jn J' g ti tb f H N:=by
 refine⟨λi m l w=>m=A7 ds-i/\i<=A7 ds/\ ∃h G,KL A d f j H l h w/\BS S K d T l h G w/\kY tg ft fb (ds.drop i) G h=Y (f6,B),⟨A7 ds,by simp,mf _,j,p,SK.refl.Lm,b,by simpa using e⟩,?_⟩;rintro i m l w ⟨rfl,hle,h,G,Y',I',e2⟩
 have hO: ∀a,q a≠X0->(AO l h a\/T a)->O a:=λa W z=>by
  rcases z with z|z
  .exact(Y'.ow a z).elim (λz=>s2 a W<|.inl z) λz=>absurd z<|s3 a W
  .exact s2 a W (.inr z)
 have aJ: ∀a o,q a=Y o-> ¬P a->w a=Y o:=λa o V n=>Y'.kp a o (s1 a o V n) (λz=>n<|s0 a (by rw[V];simp)<|.inl z) λz=>n<|s0 a (by rw[V];simp)<|.inr z;by_cases F:i<A7 ds
 .refine .inr ?_;have hd:ds[i]?=Y ds[i]:=kK F;obtain⟨go,yl⟩:=ok.go i _ w hd aJ;rw[Al F] at e2;obtain⟨C,h3,e3⟩:=iU e2;obtain⟨⟨c,u⟩,h4,e4⟩:=iU e3;obtain⟨⟨y,M⟩,D,e5⟩:=iU e4;refine⟨go,λx t hy=>?_⟩;obtain⟨ext,rep⟩:=yl x t hy;have eY:ER K t T l h:=I'.er.mono (λb ob eb _=>ext b ob eb) (λ_ _ z=>z) λa z=>(I'.er.dom a z).up<|ext a;have SX:SK A l h w l h t:=(BU.ext ext).sk;have R:=I'.step SX eY;have iN:KL A d f j H l h t:=Y'.trans SX.Lm;have rx:=rep (λa=>AO l h a\/T a) hO λb hb z=>z.elim (λz=>I'.er.Ie z hb) λz=>(I'.er.dom b z).ne hb;refine hg _ _ _ _ ⟨h,T,ds[i],C,eY,rx,h3,λU S3 Z=>?_⟩;have B3:=R.step S3 Z;have dg:=iN.trans S3.Lm;refine hi _ _ _ ⟨C,T,c,u,Z,h4,λH4 K4 E4=>?_⟩;have S4:SK A U C t U u H4:=K4.sk;have X:=B3.step S4 E4;have L:=dg.trans S4.Lm
  cases c with
  |false=>rw[jv kR] at D;obtain⟨rfl,rfl⟩:=jz D;exact Yc ⟨A7 ds-(i+1),by lia,rfl,F,u,G,L,X,e5⟩
  |true=>rw[jl AM] at D;exact Yb<|hb _ _ _ ⟨u,T,G,y,M,X,D,λσ5 H5 S5 B5=>⟨A7 ds-(i+1),by lia,rfl,F,M,y,L.trans S5,B5,e5⟩⟩
 .refine .inl ⟨ok.stop i w (by lia) aJ,?_⟩;rw[Ak<|by lia] at e2;obtain⟨rfl,rfl⟩:=jz e2;exact k l w Y' I'
end
section
variable {X:Cx}{A:kz}{d:iW}{b:je}{f:F}
def PB.imp'{code:eF Unit}{t e:TB}(h:PB X code t)(k: ∀c T N,e c T N->t c T N):PB X code e:=λa s c T N Q g=>h a s c T N Q<|k c T N g
def Rr{S:Option Bool}{e:je}{depth:Nat}{c:nS}{r:EV}{u:Tg}{s:FT}{q:FB}(M:X.xe=λ_ _=>False)(hc:X.calm=YP)
  (hl:(∃b g l p,e= .ListComp b g l p)\/(∃b g l p,e= .SetComp b g l p))(hg:(cA e)[depth+1]?=XV c)(Y:c.is_async=0)(i9: ∀t,(cA e)[depth+1+1]?=XV t->t.is_async=0)
  (hs: ∀x,aA c.iter X.env x=pure x)(pi:Lb X (λ_=>False) c.target c.iter r)(pg:Ll X A c.target u)(G:K8 X c.ifs (tT X.K s))(pb:PB X (jT e (depth+1) (.ref d) X.env) (Ic S X.K A d q)):
  PB X (jT e depth (.ref d) X.env) (Ic S X.K A d<|Fc r u s q):=PB.imp' (Ve M hc hl hg Y i9 hs pi pg G pb) λw H N D=>by
 obtain⟨v,T,Q,P,F,B,e,k⟩:=D;obtain⟨⟨U,j⟩,h1,e⟩:=iU e;refine⟨v,T,U,j,B.er,h1,λJ I L C ok=>?_⟩;have n:SK A w v H w j I:=L.sk;exact JL (λ_ _ _ _ h=>h) (λ_ _ _ h=>h) (λ_ _ _ h=>h) (B.step n C) _ _ ok (λa o e _=>e) (λa _ z=>z.elim (λa'=>by obtain⟨i,x,z⟩:=a';exact .inl ⟨i,id,x,z⟩) λz=> .inr (z▸B.td)) (λa _ z=>z) (λa z=>z) e λm E O y=>k m E (n.Lm.trans O) y
end
noncomputable def ki(caps:kj)(k:Nat)(fi:EV)(b:Tg)(ti:FT)(a:FB):F:=λδ=>(fi δ).bind λp=>(km p.2<|caps.map .slot).bind λargs=>if(jB (caps.map .slot) args).Nodup then(kY b ti a p.1 []<|args.map Y++am k C).bind λq=>Y ((.lst q.1,J),wb (caps.map .slot) args (jP args q.2) p.2) else C
noncomputable def tZ(a:kj)(k:Nat)(b:L2.St):L2.St:=(a.map λj=>(b[j]?).join)++am k C
noncomputable def o0(S:Option Bool):HO:=match S with
 |some U=> .lst []
 |some J=> .set (λ_=>U) 0
 |none=> .AV []
noncomputable def qS(S:Option Bool)(Q:VK):VK:=match S with
 |some U|none=>Q
 |some J=>λx b=> ∃S n,∃a,x= .ref a/\b a=Y (.set S n)/\Q (.int n) b
noncomputable def rS(S:Option Bool)(a:List D):D×Bool:=match S with
 |some U=>(.lst a,J)
 |none=>(.B8 .set [] a,J)
 |some J=>(.int (nZ a).2,U)
noncomputable def IG(S:Option Bool)(caps:kj)(k:Nat)(b:EV)(c:Tg)(d:FT)(a:FB):F:=λδ=>(b δ).bind λp=>(km p.2<|caps.map .slot).bind λargs=>if(jB (caps.map .slot) args).Nodup then(kY c d a p.1 []<|args.map Y++am k C).bind λq=>Y (rS S q.1,wb (caps.map .slot) args (jP args q.2) p.2) else C
def zm{S:Option Bool}{K:ju}{f:kj}{k:Nat}{fi:EV}{tg:Tg}{ti:FT}{fb:FB}{q:L2.St}{H:Hp}{Q:VK}(h:tF K (IG S f k fi tg ti fb) q H Q):
  tI K (λi=>i∉f) fi q H λJ' s=>FC (o0 S) J' (tG K (λi=>A7 f<=i) tg) (tT K ti) (λd=>Ic S K (λi=>A7 f<=i) d fb) (tZ f k) q s (qS S Q):=by
 obtain⟨δ,T,rr,δr,E,e,kq⟩:=h;obtain⟨⟨ds,t⟩,h1,e⟩:=iU e;obtain⟨g,u,e⟩:=iU e;dsimp only at e u;split at e
 case isFalse=>cases e
 rename_i D;obtain⟨⟨m,δ'⟩,h2,e⟩:=iU e;obtain⟨rfl,rfl⟩:=jz e;refine⟨δ,T,ds,t,E,h1,λJ' s F B ok d hd=>?_⟩;obtain⟨hl,hg⟩:=qo u;have bC:(A7 g)=(A7 f):=by simpa using hl
 let I:List V:=f.map λj=>((q[j]?).join).getD .Ax
 have p: ∀(i j:Nat),f[i]?=XV j-> ∃v,q[j]?=XV (XV v):=λi j l=>by
  have hi:i<(A7 g):=by have:=(xj.mp l).1;lia
  obtain⟨o,w,q2⟩:=hg i _ (kK hi);rw[ly,l] at w;cases w;have G:=oo q2;generalize g[i]=y at G;obtain⟨x,b⟩:=y
  cases b with
  |false=>obtain⟨v,h,_⟩:=B.val j x G;exact⟨v,h⟩
  |true=>obtain⟨a,h,_⟩:=B.own j x G;exact⟨_,h⟩
 have Z: ∀(i j:Nat),f[i]?=XV j-> ∃v,I[i]?=XV v/\q[j]?=XV (XV v):=λi j l=>by obtain⟨v,hv⟩:=p i j l;refine⟨v,?_,hv⟩;show(f.map λj=>((q[j]?).join).getD .Ax)[i]?=XV v;rw[ly,l];simp[hv]
 have y7:tZ f k q=I.map XV++am k X0:=by
  unfold tZ
  congr 1
  apply DY;intro i;show _=((f.map λj=>((q[j]?).join).getD .Ax).map XV)[i]?;rw[ly,ly,ly]
  cases l:f[i]? with
  |none=>rfl
  |some j=>obtain⟨v,hv⟩:=p i j l;simp[hv]
 have L:Ops K T q t s (f.map Bl.slot) I t s T:=by
  refine⟨by simp[I],.refl,B,λ_ z=>z,λj x v l=>?_,λj x v l=>?_,λj i v l hv=>?_⟩
  .rw[ly] at l;obtain⟨_,_,z⟩:=jL l;cases z
  .rw[ly] at l;obtain⟨_,_,z⟩:=jL l;cases z
  .rw[ly] at l;obtain⟨c,X,z⟩:=jL l;cases z;obtain⟨v',w,q2⟩:=Z j i X;rw[hv] at w;cases w;exact q2
 have O:=yt B L u D
 have W: ∀(i:Nat) x,g[i]?=XV (x,J)-> ¬(A7 f<=i):=λi x C=>by
  have:=(xj.mp C).1
  lia
 rw[y7];have C:=lG (o:=o0 S) hd
 have nz: ∀a,s a≠X0->upd s d (o0 S) a≠X0:=λa z=>by
  cases Y:s a with
  |none=>exact absurd Y z
  |some o=>rw[C a o Y];simp
 have b0:BS S K d (λa=>Tc T q t I g a\/a=d) (I.map XV++am k X0) (g.map XV++am k X0) [] (upd s d<|o0 S):=by
  refine⟨(O.pad).mono (λb o eb _=>C b o eb) (λb hb z=>z.elim id λz=>by subst z;exact absurd hd hb) λa z=>?_,.inr AM,?_⟩
  .rcases z with z|z
   .exact(O.dom a z).up (C a)
   .subst z;rw[jr];rcases S with _|_|_<;>trivial
  .rcases S with _|_|_
   .exact⟨[],⟨rfl,[],jr,.nil⟩,AJ.nil⟩
   .exact⟨[],jr,AJ.nil⟩
   .exact jr
 refine JL (λ_ _ _ _ h=>h) (λ_ _ _ h=>h) (λ_ _ _ h=>h) b0 _ _ ok (λa o U _=>C a o U) (λa iu z=>?_) (λa iu z=>?_) nz h2 λσ' M N A=>?_
 .rcases z with z|z
  .obtain⟨j,x,g1,g2⟩:=N3.mp z;obtain⟨i,_,w,_,G⟩:=Ga L u ⟨x,g1,g2⟩;refine .inl ⟨i,λn=>n ?_,G⟩;rw[ly] at w;obtain⟨c,X,e⟩:=jL w;cases e;exact mB X
  .subst z;exact absurd hd iu
 .rcases z with z|z|z
  .exact .inl (JQ L u<|N3.mp z)
  .rcases z with z|z
   .exact .inr z
   .exact .inl z.1
  .subst z;exact absurd hd iu
 .have R:SK (λi=>A7 f<=i) (I.map XV++am k X0) (g.map XV++am k X0) s σ' δ' M:=
   ⟨λa o U n=>N.kp a o (C a o U) n (by intro z;subst z;rw[U] at hd;cases hd),λi a z=>(N.owi i a z).imp id λz=>z.imp (λz=>by
    cases Y:s a with
    |none=>rfl
    |some o=>exact absurd z<|nz a<|by rw[Y];simp) id,λa z=>N.dm a<|nz a z,N.as⟩
  rcases S with _|_|_
  .obtain⟨us,hy,ry⟩:=A.at';have P:=rO (r:=(.B8 .set [] m,J)) (v:= .ref d) O R W ⟨d,rfl,hd,A.er,us,hy,AJ.mono (λ_ _ e _=>e) (λb _ z=>z) ry⟩;exact kq (.ref d) M<|(ql B L u D P).pre F
  .obtain⟨ys,hy,ry⟩:=A.at';have P:=rO (r:=(.lst m,J)) (v:= .ref d) O R W ⟨d,rfl,hd,A.er,ys,hy,AJ.mono (λ_ _ e _=>e) (λb _ z=>z) ry⟩;exact kq (.ref d) M<|(ql B L u D P).pre F
  .have P:=rO (r:=(.int (nZ m).2,ZB)) (v:= .int (nZ m).2) O R W ⟨A.er.mono (λ_ _ e _=>e) (λb _ z=> .inl z) λa z=>A.er.dom a<|.inl z,Rep.mkInt⟩;exact⟨_,_,d,rfl,A.at',kq (.int (nZ m).2) M<|(ql B L u D P).pre F⟩
def GA{K:ju}{a:kj}{k:Nat}{c:EV}{e:Tg}{ti:FT}{b:FB}{f:L2.St}{T:Hp}{Q:VK}(h:tF K (ki a k c e ti b) f T Q):
  MZ (tI K (λi=>i∉a) c) (tG K (λi=>A7 a<=i) e) (tT K ti) (λd=>Ic U K (λi=>A7 a<=i) d b) (tZ a k) f T Q:=zm (S:=U) h
section
variable {X:Cx}{elt:je}{c:nS}{jF:oV}{scope:jQ}{pos f9 py:bO}{N':jq}{caps:kj}{k:Nat}{fi:EV}{tg:Tg}{ti:FT}{fb:FB}{A:kz}{L:LL}{H0:Hp}
structure Ba(X:Cx)(N':jq)(scope:jQ)(caps:kj)(k:Nat):Prop where
 cell: ∀y∈scope.names,y.2= .cell->scope.names.lookup y.1=XV .cell
 kind:scope.kind= .function
 names: ∀y∈scope.names,y.2= .local->scope.names.lookup y.1=XV .local
 free: ∀y∈scope.names,y.2= .free->X.env.scope.names.lookup y.1=XV .cell\/X.env.scope.names.lookup y.1=XV .free
 len:(A7 caps)+k=A7 N'
 caps: ∀(i j:Nat) (x:aG),caps[i]?=XV j->N'[i]?=XV x->X.N[j]?=XV x/\scope.names.lookup x=XV .free
def Ba.M6(T:Ba X N' scope caps k):Bw X N' scope (tZ caps k):=by
 refine⟨T.cell,T.kind,T.names,T.free,λd=>by simp[tZ,T.len],λd i v x h1 f=>?_⟩;unfold tZ at h1;by_cases b:i<A7 caps
 .rw[qw<|by simpa using b,ly,kK b] at h1;obtain⟨g,h⟩:=T.caps i caps[i] x (kK b) f;refine⟨h,caps[i],g,?_⟩;have a:(d[caps[i]]?).join=Y v:=by simpa using h1
  cases e:d[caps[i]]? with
  |none=>rw[e] at a;cases a
  |some y=>rw[e] at a;exact nE Y a
 .rw[pN<|by simpa using b,D6] at h1;split at h1<;>cases h1
def Q0(O:Ba X N' scope caps k)(n:X.calm=J)(m:c.is_async=0)(p: ∀e,jF[0]?=Y e->e.is_async=0)
  (o: ∀x,aA c.iter X.env x=pure x)(r:Lb X (λi=>i∉caps) c.target c.iter fi)
  (q: ∀(j:kF) (O:iW) (s:iZ) (f:Hp) (l:kN) (a:jK),let b:=X.comp N' scope j O s f l a
   Ll b (λi=>A7 caps<=i) c.target tg/\K8 b c.ifs (tT X.K ti)/\ ∀d,PB b (jT (.ListComp elt (c::jF) scope pos) 0 (.ref d) b.env)<|Ic U X.K (λi=>A7 caps<=i) d fb):
  PX X (.ListComp elt (c::jF) scope pos) (ki caps k fi tg ti fb):=PX.imp (aem (g:=tG X.K (λi=>A7 caps<=i) tg) (ti:=tT X.K ti) (tb:=λd=>Ic U X.K (λi=>A7 caps<=i) d fb) O.M6 n m p o r q) λt T Q h=>GA h
def aez{y:aG}{i:Nat}(n:dB (.ListComp elt (c::jF) scope pos) (Y<|.Name y py) f9.line X.env=pure YP)
  (C:Ba X N' scope caps k)(w:X.calm=YP)(u:c.is_async=0)(O: ∀h,jF[0]?=Y h->h.is_async=0)
  (B: ∀x,aA c.iter X.env x=pure x)(J:Lb X (λi=>i∉caps) c.target c.iter fi)(p:PG X (.Name y py) (Gk i))(t:A i)
  (Q: ∀(m:kF) (C:iW) (M:iZ) (l:Hp) (o:kN) (a:jK),let b:=X.comp N' scope m C M l o a
   Ll b (λi=>A7 caps<=i) c.target tg/\K8 b c.ifs (tT X.K ti)/\ ∀d,PB b (jT (.ListComp elt (c::jF) scope pos) 0 (.ref d) b.env)<|Ic ZB X.K (λi=>A7 caps<=i) d fb):
  MY X A L H0 (.Assign [.Name y py] (.ListComp elt (c::jF) scope pos) f9) (lH i<|ki caps k fi tg ti fb):=PS.imp' (ad9 (g:=tG X.K (λi=>A7 caps<=i) tg) (ti:=tT X.K ti) (tb:=λd=>Ic ZB X.K (λi=>A7 caps<=i) d fb) n C.M6 w u O B J p Q) λD U H I=>by
 obtain⟨N,T,G,E,fi,e,k⟩:=I;obtain⟨⟨r,f⟩,s,e⟩:=iU e;obtain⟨z,rfl⟩:=jH e;refine GA ⟨N,T,r,f,E,s,λv j P=>?_⟩;obtain⟨h1,q⟩:=xy (A:=A) E P z t;exact k _ j h1 q
end
section
variable {K:ju}{T:B7}{d:L2.St}{c:Dn}{H:Hp}{i:Nat}{l g:List D}{a:iW}{m:List V}
def B9.write{j:Nat}{b:iW}(hd:c[i]?=Y (Y (.lst l,J)))(h:B9 d (c.set i<|Y (.lst g,J)) j b):B9 d c j b:=by
 obtain⟨e,h1,f⟩:=h;rcases mx h1 with⟨rfl,_,_⟩|⟨_,q⟩
 .exact⟨_,hd,f⟩
 .exact⟨e,q,f⟩
def ER.write(E:ER K H T d c)(hd:c[i]?=Y (Y (.lst l,YP)))(t:d[i]?=Y (Y<|.ref a))(r:AJ K H (λb=>AO d c b\/T b) g m):
  ER K (upd H a<|.lst m) T d (c.set i<|Y (.lst g,YP))/\BU d c H (c.set i<|Y (.lst g,YP)) (upd H a<|.lst m):=by
 have N:i<(A7 c):=(xj.mp hd).1;have v:AO d c a:=⟨i,_,hd,t⟩
 have C: ∀b,AO d (c.set i<|Y (.lst g,YP)) b->AO d c b:=λb a'=>by
  obtain⟨j,e,h1,s⟩:=a'
  obtain⟨L,x,y⟩:=B9.write hd ⟨e,h1,s⟩;exact⟨j,L,x,y⟩
 have u: ∀b o,H b=Y o-> ¬(AO d c b\/T b)->upd H a (.lst m) b=Y o:=λb o e n=>by rw[jA<|by intro z;subst z;exact n<|.inl v];exact e
 have I: ∀b,H b≠X0->upd H a (.lst m) b≠X0:=λb z=>by
  by_cases B:b=a
  .subst B;rw[jr];simp
  .rw[jA B];exact z
 have sub: ∀b,H b≠X0->(AO d (c.set i<|Y (.lst g,YP)) b\/T b)->AO d c b\/T b:=λb _ z=>z.imp (C b) id;refine⟨⟨by rw[ur];exact E.len,λj e h=>?_,λj e h=>?_,λj k e f b h hk h1 s=>?_,λb z=>E.nT b<|C b z,λb z=>by have ne:b≠a:=λe=>E.nT a v<|e▸z;rw[jA ne];exact E.dom b z⟩,⟨λb o e n=>by rw[jA<|by intro z;subst z;exact n v];exact e,λj b z=>B9.write hd z,I⟩⟩
 .rcases mx h with⟨_,_,q⟩|⟨_,q⟩
  .cases q
  .obtain⟨w,p,A⟩:=E.val j e q;exact⟨w,p,Rep.mono u sub A⟩
 .rcases mx h with⟨rfl,_,q⟩|⟨ne,q⟩
  .cases q;exact⟨a,t,m,jr,AJ.mono u sub r⟩
  .obtain⟨b,p,A⟩:=E.own j e q;refine⟨b,p,A.mono u sub λo G=>?_⟩;rw[jA]
   .exact G
   .intro z;subst z;exact ne<|E.inj i j _ _ _ hd q t p
 .obtain⟨O,x,y⟩:=B9.write hd ⟨e,h,h1⟩;obtain⟨Q,J,M⟩:=B9.write hd ⟨f,hk,s⟩;exact E.inj j k O Q b x J y M
end
noncomputable def nr(i:Nat)(f:F):F:=λa=>match a[i]? with
 |some (Y (.lst _,J))=>(f a).bind λp=>match p.2[i]? with
  |some (Y (.lst l,J))=>if (A7 l)<sizeLine then Y ((.Ax,U),p.2.set i<|Y (.lst<|l++[p.1.1],J)) else C
  |_=>C
 |_=>C
noncomputable def Bf(i:Nat)(f:FO):F:=λa=>match a[i]? with
 |some (Y (.lst _,J))=>(f a).bind λp=>match res p.2 p.1,p.2[i]? with
  |some (.int k),Y (Y (.lst l,J))=>if -(2^63)<=k/\k<2^63 then(HY (A7 l) k).bind λj=>(l[j]?).bind λd=>Y ((d,U),p.2.set i<|Y (.lst<|l.eraseIdx j,J)) else C
  |_,_=>C
 |_=>C
noncomputable def qT(i:Nat)(f:F)(g:FO):FS:=λa=>(f a).bind λp=>match p.2[i]? with
 |some (Y _)=>(g p.2).bind λq=>match res q.2 q.1,q.2[i]? with
  |some (.int k),Y (Y (.lst l,J))=>(HY (A7 l) k).bind λj=>Y<|.nx<|q.2.set i<|Y (.lst<|l.set j p.1.1,J)
  |_,_=>C
 |_=>C
section
variable {X:Cx}{e c:je}{f:F}{k:FO}{b m a g:bO}{i:Nat}{x:aG}{A:kz}{L:LL}{n:Hp}
theorem AJ.erase{K T}{O:B7}: ∀{l:List D} {o:List V} (j:Nat),AJ K T O l o->AJ K T O (l.eraseIdx j) (o.eraseIdx j)
 |[],o,j,h=>by rw[AJ] at h;subst h;simp[AJ]
 |d::l,o,0,h=>by rw[AJ] at h;obtain⟨v,r,rfl,h1,p⟩:=h;exact p
 |d::l,o,j+1,h=>by rw[AJ] at h;obtain⟨v,r,rfl,h1,p⟩:=h;exact AJ.cons h1<|AJ.erase j p
end
noncomputable def UA(b:Tg)(f:F):FS:=λc=>(f c).bind λp=>(b p.1.1 p.2).bind λa=>Y<|.nx a
section
variable {X:Cx}{A:kz}{L:LL}{m:Hp}{a b h e:je}{fs:List F}{f:F}{t:Tg}{c l k pt d:bO}{x y:aG}{i j:Nat}{kt k2}
def Q4{id:String}{p:bO}{n:kL}{o:List FO}{g:List D->Option (D×Bool)}{z:aG}(s:lr X (.builtin id) (IT X.K g))(v:Gl X z)(w:X.mg z=C)(hv:aB z=Y (.builtin id))(r:PA X (e::n) (tA X.K o))(B:z≠"__name__")(T:(z==("__debug__":aG))=U)
  (u:ac (e::n) X.env=(U,aT e X.env)::ac n X.env)(q:(aH c<|ac n X.env).any (·.1)=U):PX X (.Call (.Name z p) (e::n) [] c) (jy g o):=pxn<|xG s v w hv r B T u q
def Jw{id:String}{p:bO}{n:kL}{o:List FO}{g:List D->Option (D×Bool)}{z:aG}(s:lr X (.type id) (IT X.K g))(v:Gl X z)(w:X.mg z=C)(hv:aB z=Y (.type id))(r:PA X (e::n) (tA X.K o))(B:z≠"__name__")(T:(z==("__debug__":aG))=U)
  (u:ac (e::n) X.env=(U,aT e X.env)::ac n X.env)(q:(aH c<|ac n X.env).any (·.1)=U):PX X (.Call (.Name z p) (e::n) [] c) (jy g o):=pxn<|rG s v w hv r B T u q
end
def V5:aB "len"=Y (.builtin "len"):=by decide+kernel
def V6:aB "abs"=Y (.builtin "abs"):=by decide+kernel
noncomputable def E7(N:jq)(c scope:jQ)(b:jq)(a:kj)(k:Nat):Bool:=
 (scope.names.all λy=>y.2 != .cell||scope.names.lookup y.1==Y .cell)&&decide (scope.kind= .function)&&(scope.names.all λy=>y.2 != .local||scope.names.lookup y.1==Y .local)&&
 (scope.names.all λy=>y.2 != .free||(c.names.lookup y.1==Y .cell||c.names.lookup y.1==Y .free))&&decide (A7 a+k=A7 b)&&
 ((a.zip b).all λp=>N[p.1]?==Y p.2&&scope.names.lookup p.2==Y .free)
def IS(m:X.N=N)(p:X.env.scope=sc)(h:E7 N sc scope N' a k=J):Ba X N' scope a k:=by
 subst m;subst p;unfold E7 at h;simp only[mP,mZ,sd] at h;obtain⟨⟨⟨⟨⟨h1,c⟩,d⟩,f⟩,g⟩,l⟩:=h;refine⟨λy b e=>?_,c,λy b e=>?_,λy b e=>?_,g,λi j x n q=>?_⟩
 .have:=h1 y b;rw[e] at this;simpa using this
 .have:=d y b;rw[e] at this;simpa using this
 .have:=f y b;rw[e] at this;simpa using this
 .have o:(j,x)∈a.zip N':=by
   have:(a.zip N')[i]?=Y (j,x):=by rw[Fo];exact⟨n,q⟩
   exact mB this
  have:=l _ o;simpa using this
noncomputable def kx:FT:=λδ=>Y (J,δ)
inductive Ty where
 |int|bool|str|tuple|list|dict
noncomputable def Ty.n:Ty->String
 | .int=>"int"| .bool=>"bool"| .str=>"str"| .tuple=>"tuple"| .list=>"list"| .dict=>"dict"
noncomputable def Iv:D->Ty->Bool
 | .bl _,.bool=>J
 | .bl _,.int=>J
 | .int _,.int=>J
 | .str _,.str=>J
 | .tup _,.tuple=>J
 | .lst _,.list=>J
 | .B8 .dct _ _,.dict=>J
 |_,_=>U
noncomputable def tyD:D->String
 | .Ax=>"NoneType"| .bl _=>"bool"| .int _=>"int"| .str _=>"str"| .tup _=>"tuple"| .lst _=>"list"| .B8 .dct _ _=>"dict"| .B8 .set _ _=>"set"| .B8 _ _ _=>"NoneType"
section
variable {X:Cx}{b:jK}{c:L2.St}{H:Hp}{s:iZ}
def EK(K:ju)(d:D)(t:Ty):dG K (.type<|tyD d) (.type t.n)=Y (Iv d t):=by
 cases d with
 |B8 k _ _=>cases k<;>cases t<;>with_unfolding_all rfl
 |_=>cases t<;>with_unfolding_all rfl
def AL(Q:Inv X b c H s)(h:E6 X.K (H a) k l i us)(hk:k= .dct\/k= .set:=by first|exact .inl rfl|exact .inr AM):s.TypeIs (.ref a) (tyD<|.B8 k l i):=by
 cases k with
 |dct=>
  rcases h with⟨d,e,_⟩|⟨d,e,_⟩
  .obtain⟨_,_,i,_,o,g,j,h1,f,_⟩:=(show AR X.prog X.w H s.heap a (.dK d) from Q.hok a _ e)
   exact⟨o,h1,f.1⟩
  .obtain⟨_,_,p,_,o,g,j,h1,f,_⟩:=(show AR X.prog X.w H s.heap a (.dT d) from Q.hok a _ e)
   exact⟨o,h1,f.1⟩
 |set=>
  obtain⟨_,m,e,_⟩:=h;obtain⟨g,n,t,h1,_⟩:=(show AR X.prog X.w H s.heap a (.AV m) from Q.hok a _ e)
  exact⟨_,h1,rfl⟩
 |exc T=>rcases hk with z|z<;>cases z
 |_=>exact h.elim
def pR{K H}(h:kQ K H O (.B8 k g f) v): ∃a d,v= .ref a/\E6 K (H a) k g f d/\AJ K H O f d:=by
 rcases h with h|⟨a,rfl,h⟩
 .obtain⟨a,d,e,q,r⟩:=h.B8;exact⟨a,d,e,q.2,r⟩
 .obtain⟨d,e,r⟩:=h;exact⟨a,d,rfl,e,r⟩
end
theorem mJ(K:ju)(d:D): ∀a:List Ty,ez K (.type<|tyD d) (a.map λt=>bi t.n)=Y (a.any<|Iv d)
 |[]=>rfl
 |t::a=>by
  rw[kc,ez,EK,uC]
  cases Iv d t with
  |true=>rfl
  |false=>simpa using mJ K d a
def TJ{K:ju}{T:Nat}(h: ∀n∈["int","bool","str","tuple","list","dict"],dG K (.ref T) (.type n)=Y U)(t:Ty){ks vs:List D}:dG K (.ref T) (.type t.n)=Y (Iv (.B8 (.exc T) ks vs) t):=by
 cases t<;>exact h _ (by simp[Ty.n])
theorem J3{K:ju}{T:Nat}(h: ∀n∈["int","bool","str","tuple","list","dict"],dG K (.ref T) (.type n)=Y U){ks vs:List D}: ∀a:List Ty,ez K (.ref T) (a.map λt=>bi t.n)=Y (a.any<|Iv<|.B8 (.exc T) ks vs)
 |[]=>rfl
 |t::a=>by
  rw[kc,ez,TJ h t (ks:=ks) (vs:=vs),uC]
  cases Iv (.B8 (.exc T) ks vs) t with
  |true=>rfl
  |false=>simpa using J3 h a
section
variable {X:Cx}{c:jK}{f:L2.St}{H:Hp}{s:iZ}
def aad(N:Inv X c f H s)(hd:kQ X.K H O d x)(g:RelV x u)(h: ∀m,Q (.bool<|Iv d t) {s with toks:=m}):
  ah (aj X.prog X.w) A (call (.builtin "isinstance") [u,.type t.n]) Q E s:=by
 cases d with
 |Ax=>have:=Fw hd;subst this;cases g;exact rZ ik N.HI be (EK X.K .Ax t) (λz=>nomatch z) h
 |bl b=>have:=Eg hd;subst this;cases g;exact rZ ir N.HI be (EK X.K (.bl b) t) (λz=>nomatch z) h
 |int b=>have:=jX hd;subst this;obtain⟨m,rfl⟩:=g;exact rZ iI N.HI be (EK X.K (.int b) t) (λz=>nomatch z) h
 |str b=>have:=xu hd;subst this;obtain⟨m,rfl⟩:=g;exact rZ iF N.HI be (EK X.K (.str b) t) (λz=>nomatch z) h
 |tup l=>obtain⟨a,y,rfl,q,_⟩:=lQ hd;cases g;obtain⟨j,_,⟨o,h1,i,_⟩,_⟩:=N.tuple q;exact rZ hJ N.HI ⟨o,h1,i⟩ (EK X.K (.tup l) t) (λz=>nomatch z) h
 |lst l=>obtain⟨a,y,rfl,q,_⟩:=ll hd;cases g;obtain⟨j,_,⟨o,n,h1,i,_⟩,_⟩:=N.list q;exact rZ im N.HI ⟨o,h1,i⟩ (EK X.K (.lst l) t) (λz=>nomatch z) h
 |B8 k p r=>
  obtain⟨a,B,rfl,q,_⟩:=pR hd;cases g
  cases k with
  |dct=>exact rZ io N.HI (AL N q) (EK X.K (.B8 .dct p r) t) (λz=>nomatch z) h
  |set=>exact rZ iG N.HI (AL N q) (EK X.K (.B8 .set p r) t) (λz=>nomatch z) h
  |exc T=>obtain⟨_,o,e,h1,i,v⟩:=q;exact rZ (i a) N.HI (show AR X.prog X.w H s.heap a (.EY o<|.own 0) from N.hok a _ e).1 (TJ v t) (λz=>nomatch z) h
  |_=>exact q.elim
def aac{A:jn}{E:jJ}{Q:jJ}(M:Inv X c f H s){O:B7}{d:D}{x:V}{u:jg}{ts:List Ty}{p:iW}{dd:Option iW}{n:Nat}{L:ug}(hd:kQ X.K H O d x)(i:RelV x u)
  (g:s.heap.get? p=Y ⟨.type "tuple",dd,.seq (ts.map λt=>bi t.n).toArray n,L⟩)(h: ∀r,Q (.bool<|ts.any<|Iv d) {s with toks:=r}):ah (aj X.prog X.w) A (call (.builtin "isinstance") [u,.ref p]) Q E s:=by
 cases d with
 |Ax=>have:=Fw hd;subst this;cases i;exact rY ik M.HI be g (mJ X.K .Ax ts) (λz=>nomatch z) h
 |bl b=>have:=Eg hd;subst this;cases i;exact rY ir M.HI be g (mJ X.K (.bl b) ts) (λz=>nomatch z) h
 |int b=>have:=jX hd;subst this;obtain⟨r,rfl⟩:=i;exact rY iI M.HI be g (mJ X.K (.int b) ts) (λz=>nomatch z) h
 |str b=>have:=xu hd;subst this;obtain⟨r,rfl⟩:=i;exact rY iF M.HI be g (mJ X.K (.str b) ts) (λz=>nomatch z) h
 |tup l=>obtain⟨a,T,rfl,q,_⟩:=lQ hd;cases i;obtain⟨m,_,⟨o,h1,j,_⟩,_⟩:=M.tuple q;exact rY hJ M.HI ⟨o,h1,j⟩ g (mJ X.K (.tup l) ts) (λz=>nomatch z) h
 |lst l=>obtain⟨a,T,rfl,q,_⟩:=ll hd;cases i;obtain⟨m,_,⟨o,n,h1,j,_⟩,_⟩:=M.list q;exact rY im M.HI ⟨o,h1,j⟩ g (mJ X.K (.lst l) ts) (λz=>nomatch z) h
 |B8 k v y=>
  obtain⟨a,G,rfl,q,_⟩:=pR hd;cases i
  cases k with
  |dct=>exact rY io M.HI (AL M q) g (mJ X.K (.B8 .dct v y) ts) (λz=>nomatch z) h
  |set=>exact rY iG M.HI (AL M q) g (mJ X.K (.B8 .set v y) ts) (λz=>nomatch z) h
  |exc N=>obtain⟨_,o,e,h1,j,B⟩:=q;exact rY (j a) M.HI (show AR X.prog X.w H s.heap a (.EY o<|.own 0) from M.hok a _ e).1 g (J3 B ts) (λz=>nomatch z) h
  |_=>exact q.elim
end
noncomputable def wV(ts:List Ty)(d:D):Option (D×Bool):=Y (.bl<|ts.any<|Iv d,U)
section
variable {X:Cx}{e:je}{g:FO}{f p c:bO}{z:aG}
def UT{t:Ty}(L:PO X e g)(J:Gl X "isinstance")(M:X.mg "isinstance"=X0)(m:Gl X z)(y:X.mg z=X0)(Y:aB z=XV (.type t.n))(N:z≠"__name__")(j5:(z==("__debug__":aG))=ZB)(hv:aB "isinstance"=XV (.builtin "isinstance"))
  (s1:ac [e,.Name z c] X.env=(ZB,aT e X.env)::ac [.Name z c] X.env)(s2:ac [.Name z c] X.env=(ZB,aT (.Name z c) X.env)::ac [] X.env)(w:(aH f<|ac [.Name z c] X.env).any (·.1)=ZB):
  PX X (.Call (.Name "isinstance" p) [e,.Name z c] [] f) (ou (wV [t]) g):=by
 have G:lr X (.builtin "isinstance") (λl H Q=> ∃(O:B7) (d:D) (x:V),l=[x,.ty t.n]/\kQ X.K H O d x/\Q (.bl<|Iv d t) H):=by intro i s W H l us Q I r h;obtain⟨O,d,x,rfl,hd,q⟩:=h;obtain⟨u,w',rfl,F,P⟩:=zq r;cases P;exact aad I hd F λtk=>⟨.bl _,H,I.tok _,rfl,q⟩
 refine PX.imp (xG G J M hv (mw L (mw (Ey (v:= .ty t.n) m y Y AM N j5) pZ s2) s1) (by decide) (by decide) s1 w) λW H Q U=>?_;obtain⟨R,T,rr,S,E,e,k⟩:=U;obtain⟨⟨o,a⟩,h1,e⟩:=iU e;obtain⟨x,A,e⟩:=iU e;obtain⟨zz,C,e⟩:=iU e;cases C;obtain⟨rfl,rfl⟩:=jz e;refine⟨R,T,o,a,E,h1,λv Z b=>?_⟩;have B:=Ops.cons E b<|Ops.nil<|b.er E;refine⟨_,x,v,rfl,B.view (j:=0) AM AM A,?_⟩;have:=(B.done k).bl;simpa using this
def QY{t m:Ty}{z i:aG}{l y:bO}{w}(ha:PO X e g)(hg:Gl X "isinstance")(hm:X.mg "isinstance"=X0)(cR:Gl X z)(gG:X.mg z=X0)(hz:aB z=XV (.type t.n))(hn:z≠"__name__")(j5:(z==("__debug__":aG))=ZB)
  (cQ:Gl X i)(A:X.mg i=X0)(fI:aB i=XV (.type m.n))(en:i≠"__name__")(cU:(i==("__debug__":aG))=ZB)(hv:aB "isinstance"=XV (.builtin "isinstance"))
  (s1:ac [e,.Tuple [.Name z c,.Name i l] w y] X.env=(ZB,aT e X.env)::ac [.Tuple [.Name z c,.Name i l] w y] X.env)(s2:ac [.Tuple [.Name z c,.Name i l] w y] X.env=(ZB,aT (.Tuple [.Name z c,.Name i l] w y) X.env)::ac [] X.env)
  (s3:ac [.Name z c,.Name i l] X.env=(ZB,aT (.Name z c) X.env)::ac [.Name i l] X.env)(s4:ac [.Name i l] X.env=(ZB,aT (.Name i l) X.env)::ac [] X.env)
  (e9:(aH f<|ac [.Tuple [.Name z c,.Name i l] w y] X.env).any (·.1)=ZB):
  PX X (.Call (.Name "isinstance" p) [e,.Tuple [.Name z c,.Name i l] w y] [] f) (ou (wV [t,m]) g):=by
 have S:lr X (.builtin "isinstance") (λF H Q=> ∃(O:B7) (d:D) (x:V) (q:iW),F=[x,.ref q]/\H q=XV (.tup [.ty t.n,.ty m.n])/\kQ X.K H O d x/\Q (.bl<|[t,m].any<|Iv d) H):=by intro Y s P H F us Q I r h;obtain⟨O,d,x,q,rfl,N,hd,k⟩:=h;obtain⟨u,w',rfl,ru,t5⟩:=zq r;cases t5;obtain⟨_,Z,v1,o,h1,G,n,J⟩:=I.hok q _ N;obtain⟨u1,u2,rfl,r1,r2⟩:=zq v1;cases r1;cases r2;obtain⟨R,dd,dt,sl⟩:=o;simp only at G J;subst G;subst J;exact aac (ts:=[t,m]) I hd ru h1 λtk=>⟨.bl _,H,I.tok _,rfl,k⟩
 refine PX.imp (xG S hg hm hv (mw ha (mw (NP<|mw (Ey (v:= .ty t.n) cR gG hz AM hn j5) (mw (Ey (v:= .ty m.n) cQ A fI AM en cU) pZ s4) s3) pZ s2) s1) (by decide) (by decide) s1 e9) λP H Q W=>?_;obtain⟨δ,T,rr,δ',E,e,k⟩:=W;obtain⟨⟨o,L⟩,h1,e⟩:=iU e;obtain⟨x,G,e⟩:=iU e;obtain⟨zz,J,e⟩:=iU e;cases J;obtain⟨rfl,rfl⟩:=jz e;refine⟨δ,T,o,L,E,h1,λv H1 U=>⟨by show 2<=sizeLine;decide,λq N=>?_⟩⟩;have B:=Ops.cons E U<|Ops.nil<|U.er E;have M:=lG (o:= .tup [.ty t.n,.ty m.n]) N;have C:=B.view (j:=0) AM AM G;refine⟨λa=>AO P L a\/T a,x,v,q,rfl,jr,?_,?_⟩
 .rcases C with C|⟨a,rfl,C⟩
  .exact .inl (Rep.mono (λb o e _=>M b o e) (λ_ _ z=>z) C)
  .exact .inr ⟨a,rfl,C.mono (λb o e _=>M b o e) (λ_ _ z=>z) λo e=>M a o e⟩
 .exact(B.done k) _ _ M Rep.Ii
end
noncomputable def yv:List D->Option (List Bool)
 |[]=>Y []
 | .bl b::l=>(yv l).map (b:: ·)
 |_::_=>C
noncomputable def ID:D->Option (D×Bool)
 | .lst l=>(yv l).map λbs=>(.bl<|bs.all id,U)
 |_=>C
theorem zI{K T}{O:B7}: ∀{l:List D} {bs:List Bool} {e:List V} {d:ku},yv l=Y bs->AJ K T O l e->Vals e d->LSm.BoolsAre d bs
 |[],bs,e,d,h,r,v=>by
  cases h;rw[AJ] at r;subst r;cases v;exact .nil
 | .bl b::l,bs,e,d,h,r,v=>by
  obtain⟨f,h1,rfl⟩:=jL h;rw[AJ] at r;obtain⟨x,j,rfl,g,i⟩:=r;have:=g.bl;subst this
  cases v with
  |cons a c=>cases a;exact .cons b<|zI h1 i c
 | .Ax::l,_,_,_,h,_,_=>by cases h
 | .int _::l,_,_,_,h,_,_=>by cases h
 | .str _::l,_,_,_,h,_,_=>by cases h
 | .tup _::l,_,_,_,h,_,_=>by cases h
 | .lst _::l,_,_,_,h,_,_=>by cases h
 | .B8 _ _ _::l,_,_,_,h,_,_=>by cases h
section
variable {X:Cx}
def abx{h a:jo}{o:fy}(hk: ∀b x,b∉[h.objs.size]->(h.push o).get? b=Y x->a.get? b=Y x)(b:iW)(x:fy)(e:h.get? b=Y x):a.get? b=Y x:=
 hk b x (λz=>by have:=Je.mp z;subst this;exact absurd (kH e)<|rp _) (kg _ e)
def zo(o:X.calm=J):lr X (.builtin "all") (IT X.K<|g1 ID):=oU λk s M H x u Q O d z I y np hd j G=>by
 cases d with
 |lst l=>
  obtain⟨bs,n,rfl⟩:=jL j;obtain⟨p,N,rfl,q,r⟩:=ll hd;cases y;obtain⟨c,v,g,_⟩:=I.list q;have a:=zI n r v;have t:X.A.in1.handled=X0:=I.ok.hd o;have h:p<s.heap.objs.size:=by obtain⟨_,e,_⟩:=g.isList;exact kH e
  refine call_all_walk (Aq g.isList ⟨s.heap.objs.size,[s.heap.objs.size,p],[s.heap.objs.size],c.toArray.size,_,_,λi=>(bs[i]?).getD J,rfl,Walks.list t _ p (kf h) c.toArray,
   ⟨⟨_,kG _ rfl,rfl,rfl⟩,g.isList.push _⟩,λi w L C B m f=>?_,λE T hk=>?_⟩)
  .obtain⟨b,e,rfl⟩:=a.get i w (by simpa using m);dsimp only at f;rw[e] at f;exact wD f
  .rw[kd,a.length,LSm.range_all];exact⟨.bl _,H,I.kept<|abx hk,rfl,G.bl⟩
 |_=>cases j
noncomputable def OX:=gI λi j=>Y<|.int (if j>i then j else i)
noncomputable def JZ:=gI λi j=>Y<|.int (if j<i then j else i)
def ack(c:X.calm=J):lr X (.builtin "max") (IT X.K<|g2 OX):=Py λa s k T x y h Q O d e z N r np h1 b g G=>by obtain⟨i,j,w,rfl,rfl,f,rfl⟩:=Aa g;cases f;exact adg c a s k T [x,y] h Q N r ⟨i,j,by rw[jX h1,jX b],G.int⟩
def Bs(c:X.calm=J):lr X (.builtin "min") (IT X.K<|g2 JZ):=Py λa s k T x y h Q O d e z N r np h1 b g G=>by obtain⟨i,j,w,rfl,rfl,f,rfl⟩:=Aa g;cases f;exact adf c a s k T [x,y] h Q N r ⟨i,j,by rw[jX h1,jX b],G.int⟩
def AE{lo:Int}{n:Nat}{a:nv}(h:mL (λi v=> ∃t,v= .int (lo+(i:Int)*1) t) a n):Vals ((au n).map λ(k:Nat)=>V.int<|lo+k) a.toList:=by
 have b: ∀(l:ku) (m:Nat),(∀(j:Nat) v,l[j]?=Y v-> ∃t,v= .int (lo+((m+j:Nat):Int)) t)->Vals ((bw m<|A7 l).map λ(k:Nat)=>V.int<|lo+k) l:=by
  intro l
  induction l with
  |nil=>intro m _;exact .nil
  |cons v l f=>intro m hv;obtain⟨t,e⟩:=hv 0 v H;refine .cons ⟨t,by simpa using e⟩<|f (m+1) λj w d=>?_;obtain⟨g,c⟩:=hv (j+1) w (by simpa using d);exact⟨g,by rw[c];congr 2;first|done|lia⟩
 have:=b a.toList 0 λj v hv=>by obtain⟨t,e⟩:=h.2 j v (by simpa using hv);exact⟨t,by rw[e];congr 1⟩
 rw[lh,h.1,<-List.range_eq_range'] at this;exact this
def ab7{K T}(lo:Int)(n:Nat):AJ K T O (jD lo n) ((au n).map λ(k:Nat)=>V.int<|lo+k):=by
 unfold jD
 induction(au n) with
 |nil=>exact AJ.nil
 |cons k l a=>exact AJ.cons Rep.mkInt a
end
def Fb(lo a:Int):Prop:= -(2^62)<=lo/\lo<2^62/\ -(2^62)<=a/\a<2^62/\(a-lo).toNat<=2^24
instance(lo hi:Int):Decidable (Fb lo hi):=by unfold Fb;infer_instance
noncomputable def LG(lo a:Int):List V:=(au (a-lo).toNat).map λ(k:Nat)=>V.int<|lo+k
def Fb.small{lo a:Int}(h:Fb lo a):wS lo a 1=J:=small_one h.1 h.2.1 h.2.2.1 h.2.2.2.1
def Jt(lo a:Int):fM lo a 1=((a-lo).toNat:Nat):=by rw[Gc];split<;>lia
section
variable {c:jw}{w:jm}{A:jn}{E:jJ}{s:iZ}
def acj{Q:List jg->iZ->Prop}{r:iW}{lo n:Int}{t u v:ww}(N:A.handled=C)(q:Q2 s.heap r lo n 1 t u v)(ok:Fb lo n)
  (O: ∀(g:jo) k (d:nv),(∀b o,s.heap.get? b=Y o->g.get? b=Y o)->mL (λi v=> ∃t,v= .int (lo+(i:Int)*1) t) d (n-lo).toNat->Q d.toList {s with heap:=g,toks:=k}):
  ah (aj c w) A (gm<|.ref r) Q E s:=by
 unfold gm;refine iX<|DX<|oZ F.entry_proto_collect ?_;rw[rm F.plain_proto_collect _];refine iX (m:=lw [])<|nV ?_;refine jd ⟨uj F.plain_list_iadd _,oZ F.entry_list_iadd ?_⟩;rw[rm F.plain_list_iadd _];have z:=kG s.heap (o:=({cls:= .type "list",data:= .seq ([]:List jg).toArray}:fy)) H
 let R:mu->iZ->Prop:=λr j=> ∃(g:jo) (k:Nat) (d:nv) (l:Nat),r= .ok (.ret<|.ref s.heap.objs.size)/\j={s with heap:=g,toks:=k}/\(∀b o,s.heap.get? b=Y o->g.get? b=Y o)/\
  g.get? s.heap.objs.size=Y {cls:= .type "list",dict:=C,data:= .seq d l,slots:= #[]}/\mL (λi v=> ∃t,v= .int (lo+(i:Int)*1) t) d (n-lo).toNat
 have fin: ∀{r j},R r j-> ∃v,r= .ok (.ret v)/\ah (aj c w) A (match v with
   |Value.ref a=>do
    match(<-load a).data with
     |Data.seq xs _=>pure xs.toList
     |_=>o7 "internal:collect"
   |_=>o7 "internal:collect") Q E j:=λ{r j} T=>by
  obtain⟨g,k,d,l,rfl,rfl,hk,y,x⟩:=T;exact⟨_,rfl,iX (m:=load s.heap.objs.size)<|yS y<|jd<|O g k d hk x⟩
 refine nX (wpAny_extend_range (A:=A) (R:=R) (s:={s with heap:=s.heap.push {cls:= .type "list",data:= .seq ([]:List jg).toArray}}) N (kg _ q) ok.small (Jt lo n) ok.2.2.2.2 _ _ 0 z λg k B l hk y x=>⟨g,k,B,l,rfl,rfl,λb o e=>hk b o (kf<|kH e)<|kg _ e,y,x⟩) (λf j h=>?_) λe j h=>?_
 .cases f with
  |done f=>obtain⟨v,hv,p⟩:=fin h;cases hv;exact p
  |again l=>exact⟨h.1,qx h.2 λr L q=>by obtain⟨v,rfl,p⟩:=fin q;exact p⟩
 .obtain⟨v,hv,_⟩:=fin h;cases hv
def abB{Q₁:jJ}{r:iW}{lo g:Int}{t u v:ww}(p:A.handled=C)(l:Q2 s.heap r lo g 1 t u v)(ok:Fb lo g)
  (h: ∀(d:jo) k (a:nv),(∀b o,s.heap.get? b=Y o->d.get? b=Y o)->mL (λi v=> ∃t,v= .int (lo+(i:Int)*1) t) a (g-lo).toNat->Q₁ (.ref d.objs.size) {s with heap:=d.push {cls:= .type "tuple",data:= .seq a},toks:=k}):
  cC (aj c w) A (.call (.builtin "tuple.__new__") ⟨[.type "tuple",.ref r],[]⟩) (o6 Q₁ E) s:=by
 refine uE ?_;refine iX (m:=dE "tuple.__new__" _)<|qv (F.newCall_tuple_1 _)<|jd ⟨uj F.plain_tuple_new _,oZ F.entry_tuple_new ?_⟩;rw[rm F.plain_tuple_new _];have z:=sub_tuple_self;have j:=init_tuple_lookup;have q:=madeHere_tuple;have y:s.TypeIs (.ref r) "range":=⟨_,l,rfl⟩
 have f:A.in1.handled=C:=p
 wp_walk using uv y,acj f l ok
 intro d k a hk n;have x:a.size<=sizeLine:=by rw[n.1,jY];have:=ok.2.2.2.2;omega
 refine iX (m:=bo a.toList.toArray) ?_;unfold bo;refine nV ?_ (by show a.toList.toArray.size<=sizeLine;simpa using x);refine jd ?_;have e:a.toList.toArray=a:=by simp
 rw[e];exact h d k a hk n
def abl{Q:jJ}{r:iW}{lo g:Int}{t u v:ww}(k:A.handled=C)(m:Q2 s.heap r lo g 1 t u v)(ok:Fb lo g)
  (h: ∀(f:jo) j (e:nv),(∀b o,s.heap.get? b=Y o->f.get? b=Y o)->mL (λi v=> ∃t,v= .int (lo+(i:Int)*1) t) e (g-lo).toNat->Q (.ref f.objs.size) {s with heap:=f.push {cls:= .type "tuple",data:= .seq e},toks:=j}):
  ah (aj c w) A (call (.type "tuple") [.ref r]) Q E s:=by
 refine Db (Q₁:=λobj a=>a.TypeIs obj "tuple"/\Q obj a) P8 (F.typeCall_tuple_1 _) Mu
  (abB k m ok λf j e l n=>⟨⟨_,kG _ rfl,rfl⟩,h f j e l n⟩) λobj a d=>?_
 exact⟨d.1,Mt obj _,object_init_meets P8.init.lookup P8.made (by decide) c w A.in1 _ a ⟨d.1,rfl,d.2⟩⟩
end
section
variable {X:Cx}
def C9:lr X (.type "range") (λc T Q=> ∃i j,c=[.int i,.int j]/\ ∀r,T r=C->Q (.ref r) (upd T r<|.rng i j)):=by intro a s k T c g Q O r h;obtain⟨i,j,rfl,h⟩:=h;obtain⟨u,f,rfl,⟨t,rfl⟩,⟨d,rfl⟩⟩:=zq r;exact PP ⟨.ref _,_,O.laid (o:= .rng i j) (λb o e=>kg _ e) (kh _) ⟨_,_,_,kG _ rfl⟩,rfl,h _ O.fresh⟩
def abm(j:X.calm=J):lr X (.type "list") (λg T Q=> ∃r lo b,g=[.ref r]/\T r=Y (.rng lo b)/\Fb lo b/\ ∀l,T l=C->Q (.ref l) (upd T l<|.lst<|LG lo b)):=by intro f s y T g x Q O i h;obtain⟨r,lo,b,rfl,k,ok,h⟩:=h;obtain⟨u,rfl,n⟩:=qz i;cases n;obtain⟨t,u,v,er⟩:=O.hok r _ k;refine call_list_range (A:=X.A) (O.ok.hd j) er ok.small (Jt lo b) ok.2.2.2.2 λp q d c m e a=>?_;have o:=AE a;refine⟨.ref _,_,O.laid m (kh _) (show AR X.prog X.w _ _ _ (.lst<|LG lo b) from⟨?_,d.toList,c,o,by simpa using e⟩),rfl,h _ O.fresh⟩;have:=ok.2.2.2.2;simp only[LG,kn,nf,jY];omega
def abg(m:X.calm=J):lr X (.type "tuple") (λj T Q=> ∃r lo d,j=[.ref r]/\T r=Y (.rng lo d)/\Fb lo d/\ ∀l,T l=C->Q (.ref l) (upd T l<|.tup<|LG lo d)):=by intro f s z T j B Q O k h;obtain⟨r,lo,d,rfl,n,ok,h⟩:=h;obtain⟨u,rfl,q⟩:=qz k;cases q;obtain⟨t,u,v,er⟩:=O.hok r _ n;refine abl (A:=X.A) (O.ok.hd m) er ok λi y c p a=>?_;have x:=AE a;have g:Inv X f z T {s with heap:=i,toks:=y}:=O.kept p;refine⟨.ref _,_,g.laid (λb o e=>kg _ e) (kh _) (show AR X.prog X.w _ _ _ (.tup<|LG lo d) from⟨?_,c.toList,x,by have:=D4 i c;simpa using this⟩),rfl,h _ g.fresh⟩;have:=ok.2.2.2.2;simp only[LG,kn,nf,jY];omega
noncomputable def LA(mk:List D->D)(o:Bool):List D->Option (D×Bool)
 |[.int j]=>if Fb 0 j then Y (mk<|jD 0 j.toNat,o) else C
 |[.int i,.int j]=>if Fb i j then Y (mk<|jD i (j-i).toNat,o) else C
 |_=>C
def Ju{K T}(lo a:Int):AJ K T O (jD lo (a-lo).toNat) (LG lo a):=ab7 lo _
variable {a b:je}{n m:FO}{p g d f:bO}
def Fy(h:upd T r o l=C):T l=C:=by
 by_cases e:l=r
 .subst e;rw[jr] at h;cases h
 .rwa [jA e] at h
def Di{K:ju}{T q:B7}{s:L2.St}{r c:Dn}{Q o:Hp}{os:List Bl}{l:List V}{e:List D}(B:Ops K T s r Q os l c o q)(h:vJ c os=Y e){is:jh}(hd:e=is.map .int):l=is.map .int:=by
 obtain⟨h1,t⟩:=pY h;apply DY;intro j;by_cases k:j<A7 is
 .rw[vg B h (j:=j) (i:=is[j])<|by rw[hd];simp[k]];simp[k]
 .have u:=B.len;subst hd;simp at h1;rw[ij<|by lia,ij<|by simp;lia]
def UP{T:String}{z:aG}{mk:List D->D}{o:Bool}(hT:(T="list"/\mk= .lst/\o=YP)\/(T="tuple"/\mk= .tup/\o=ZB))(U:X.calm=YP)(Y:Gl X z)(hm:X.mg z=X0)(hv:aB z=XV (.type T))(hn:z≠"__name__")(j5:(z==("__debug__":aG))=ZB)
  (J:Gl X "range")(O:X.mg "range"=X0)(N:PA X [a,b] (tA X.K [n,m]))
  (s1:ac [.Call (.Name "range" g) [a,b] [] f] X.env=(ZB,aT (.Call (.Name "range" g) [a,b] [] f) X.env)::ac [] X.env)(s2:ac [a,b] X.env=(ZB,aT a X.env)::ac [b] X.env)
  (M:(aH d<|ac [] X.env).any (·.1)=ZB)(G:(aH f<|ac [b] X.env).any (·.1)=ZB):
  PX X (.Call (.Name z p) [.Call (.Name "range" g) [a,b] [] f] [] d) (jy (LA mk o) [n,m]):=by
 have t: ∀{w c:Dn} {os:List Bl},kT [n,m] w=XV (os,c)->os.length=2:=λ{w c os} h1=>by unfold kT at h1;obtain⟨p,q1,h1⟩:=iU h1;obtain⟨q,v,h1⟩:=iU h1;unfold kT at v;obtain⟨p3,q3,v⟩:=iU v;obtain⟨q4,F,v⟩:=iU v;unfold kT at F;cases F;obtain⟨rfl,rfl⟩:=jz h1;cases v;rfl
 rcases hT with⟨rfl,rfl,rfl⟩|⟨rfl,rfl,rfl⟩
 .refine PX.imp (rG (abm U) Y hm hv (mw (rG C9 J O Ea N (by decide) (by decide) s2 G) pZ s1) hn j5 s1 M) λZ H Q C=>?_;obtain⟨w,T,S,L,E,e,k⟩:=C;obtain⟨⟨os,c⟩,h1,e⟩:=iU e;obtain⟨R,y,e⟩:=iU e;obtain⟨W,h,e⟩:=iU e;obtain⟨rfl,rfl⟩:=jz e;refine⟨w,T,os,c,E,h1,λV x P B=>?_⟩;unfold LA at h;split at h
  .obtain⟨s,_⟩:=pY y;have:=t h1;simp at s;omega
  .rename_i i j;obtain⟨ok,rfl⟩:=jH h;refine⟨i,j,Di B y (is:=[i,j]) AM,λr A=>⟨r,i,j,rfl,jr,ok,λl s=>?_⟩⟩;have I: ∀a u,x a=XV u->upd (upd x r<|.rng i j) l (.lst<|LG i j) a=XV u:=λa u e=>lG s a u<|lG A a u e;exact(B.done k) l _ (Fy s) I ⟨LG i j,jr,Ju i j⟩
  .cases h
 .refine PX.imp (rG (abg U) Y hm hv (mw (rG C9 J O Ea N (by decide) (by decide) s2 G) pZ s1) hn j5 s1 M) λZ H Q C=>?_;obtain⟨w,T,S,L,E,e,k⟩:=C;obtain⟨⟨os,c⟩,h1,e⟩:=iU e;obtain⟨R,y,e⟩:=iU e;obtain⟨W,h,e⟩:=iU e;obtain⟨rfl,rfl⟩:=jz e;refine⟨w,T,os,c,E,h1,λV x P B=>?_⟩;unfold LA at h;split at h
  .obtain⟨s,_⟩:=pY y;have:=t h1;simp at s;omega
  .rename_i i j;obtain⟨ok,rfl⟩:=jH h;refine⟨i,j,Di B y (is:=[i,j]) AM,λr A=>⟨r,i,j,rfl,jr,ok,λl s=>?_⟩⟩;have I: ∀a u,x a=XV u->upd (upd x r<|.rng i j) l (.tup<|LG i j) a=XV u:=λa u e=>lG s a u<|lG A a u e;exact(B.done k) _ _ I (Rep.KJ ⟨jr,B.np<|NA<|Fy s⟩<|Ju i j)
  .cases h
end
def Src(h:jo)(a l:iW)(i:Nat)(b:nv):Prop:=(h.IsListIter a l i/\h.IsList l b)\/(h.IsTupleIter a l i/\h.IsTuple l b)
section
variable {prog:jw}{w:jm}{A:jn}{E:jJ}{s:iZ}{it l:iW}{i:Nat}{xs:nv}
def Src.ne(x:Src h it l i xs):l≠it:=by intro e;subst e;rcases x with⟨⟨o,h1,b,a⟩,c,g1,g2,n,g3⟩|⟨⟨o,h1,b,a⟩,c,g1,g2,n,g3⟩<;>(rw[h1] at g1;cases g1;rw[a] at g3;cases g3)
def Src.lt(x:Src h it l i xs):it<h.objs.size/\l<h.objs.size:=by rcases x with⟨⟨o,h1,_⟩,a,g1,_⟩|⟨⟨o,h1,_⟩,a,g1,_⟩<;>exact⟨kH h1,kH g1⟩
def Src.keep(x:Src h it l i xs)(c: ∀o,h.get? it=Y o->h'.get? it=Y o)(d: ∀o,h.get? l=Y o->h'.get? l=Y o):Src h' it l i xs:=by
 rcases x with⟨⟨o,h1,r⟩,a,g1,b⟩|⟨⟨o,h1,r⟩,a,g1,b⟩
 .exact .inl ⟨⟨o,c _ h1,r⟩,a,d _ g1,b⟩
 .exact .inr ⟨⟨o,c _ h1,r⟩,a,d _ g1,b⟩
def Co{Q:jJ}(c:s.heap.IsTupleIter it l i)(q:s.heap.IsTuple l xs)(n: ∀x,xs[i]?=Y x-> ∀b,b.IsTupleIter it l (i+1)->aK it s.heap b->Q x {s with heap:=b})
  (g:xs[i]?=C->A.handled=C/\ ∀b e,eR it s.heap b->(∃o,b.get? e=Y o/\o.cls= .type "StopIteration")->E (.ref e) {s with heap:=b}):ah (aj prog w) A (aR<|.ref it) Q E s:=by
 obtain⟨o,d,p,hd⟩:=id c;obtain⟨t,k,_,r,j⟩:=q;unfold aR;refine iX<|vQ (name:=bn "__next__") c.typeIs Mr<|nW Mr c.typeIs F.entry_tuple_iterator_next ?_<|F.args_tuple_iterator_next_1 _;refine iX (m:=j0 (.ref it) 0)<|pM d hd (x:= .ref l) H ?_;show ah _ _ (if(bf l==ao)=J then _ else _) _ _ s;rw[jv (by show ¬(bf l==ao)=J;exact kR)];refine iX (m:=j0 (.ref it) 1)<|pM d hd (x:= .int i 0) H ?_;refine iX (m:=seqItems?<|.ref l)<|rX k j ?_
 cases f:xs[i]? with
 |some x=>simp only[uw,f];refine iX<|wz d hd (by simp)<|jd ⟨x,rfl,jd<|n x f _ ⟨_,vO _ d (DV<|qK hd _),(DU ..).trans p,?_⟩ (tH ..)⟩;rw[qK hd];simp[cE]
 |none=>
  obtain⟨h,g⟩:=g f;simp only[uw,f];refine iX<|uo<|iX<|wz d hd (by simp) ?_;refine iX (m:=lA (.type "StopIteration") []) ?_;simp -iota only[lA,px];refine iX<|nV (iX (m:=da _ _)<|qv (a:=ao) (by first|rfl|(simp -iota only[da];rfl)) ?_) (by size_fits);refine nV ?_ (by size_fits);simp -iota only[B1];refine iX<|Hf ?_
  first|rw[show A.in1.handled=C from h]|rw[h]
  exact iX<|jd<|He<|g _ _ (((tH ..).extBut.push _).push _) ⟨_,kG _ rfl,rfl⟩
def Src.item{x:jg}{Q:jJ}(st:Src s.heap it l i xs)(g:xs[i]?=Y x)(h: ∀c,Src c it l (i+1) xs->aK it s.heap c->Q x {s with heap:=c}):
  ah (aj prog w) A (aR<|.ref it) Q E s:=by
 have ne:=st.ne;rcases st with⟨a,b⟩|⟨a,b⟩
 .exact wpAny_nextOf_list_item a b g λc f d=>h c (.inl ⟨f,b.extBut d.extBut ne⟩) d
 .exact Co a b (λj e c f d=>by rw[g] at e;cases e;exact h c (.inr ⟨f,b.extBut d.extBut ne⟩) d) λe=>by rw[g] at e;cases e
def Src.stop{Q:jJ}(f:A.handled=C)(st:Src s.heap it l i xs)(g:xs[i]?=C)
  (d: ∀c e,eR it s.heap c->(∃o,c.get? e=Y o/\o.cls= .type "StopIteration")->E (.ref e) {s with heap:=c}):ah (aj prog w) A (aR<|.ref it) Q E s:=by
 rcases st with⟨a,b⟩|⟨a,b⟩
 .exact wpAny_nextOf_list_end f a b g d
 .exact Co a b (λx e=>by rw[g] at e;cases e) λ_=>⟨f,d⟩
def Src.new(a:s.heap.IsList l xs\/s.heap.IsTuple l xs)(d: ∀c,Src c s.heap.objs.size l 0 xs->c.objs.size=s.heap.objs.size+1->(∀b o,s.heap.get? b=Y o->c.get? b=Y o)->Q (.ref s.heap.objs.size) {s with heap:=c}):
  ah (aj prog w) A (d5<|.ref l) Q E s:=by
 rcases a with a|a
 .exact Aq a (d _ (.inl ⟨⟨_,kG _ rfl,rfl,rfl⟩,a.push _⟩) (rn ..) λb o e=>kg _ e)
 .exact Hx a (d _ (.inr ⟨⟨_,kG _ rfl,rfl,rfl⟩,a.push _⟩) (rn ..) λb o e=>kg _ e)
end
section
variable {h:jw}{w:jm}{A:jn}{E:jJ}{s:iZ}{e f l:iW}{i:Nat}{c:Int}{j:nv}
def adD{x z:jg}{Q:jJ}(he:eZ s.heap e f c z)(st:Src s.heap f l i j)(hx:j[i]?=XV x)(g8:e≠f)(ei:e≠l)
  (hQ: ∀T,kl T e f (c+1) x s.heap.objs.size->Src T f l (i+1) j->T.get? s.heap.objs.size=XV {cls:= .type "tuple",data:= .seq #[.int c s.toks,x]}->T.objs.size=s.heap.objs.size+1->
   (∀b o,b≠e->b≠f->s.heap.get? b=XV o->T.get? b=XV o)->Q (.ref s.heap.objs.size) {s with heap:=T,toks:=s.toks+1}):
  ah (aj h w) A (aV.«enumerate.__next__» ⟨[.ref e],[]⟩) (λfin s'=> ∃v,fin= .done (.ret v)/\Q v s') E s:=by
 obtain⟨I,g,d,n,os⟩:=s;refine iX (m:=j0 (.ref e) 2)<|pM he AM (x:= .ref f) AM<|iX<|st.item hx λk O M=>?_;replace M:aK f I k:=M;have W:eZ k e f c z:=(M.2 e g8).trans he;refine iX (m:=j0 (.ref e) 3)<|pM (s:=⟨k,g,d,n,os⟩) W AM (x:=cE c) AM ?_;refine iX (m:=j0 (.ref e) 4)<|pM (s:=⟨k,g,d,n,os⟩) W AM (x:= .none) AM ?_;refine iX (m:=mkInt c)<|wpAny_mkInt (s:=⟨k,g,d,n,os⟩) ?_;refine iX (m:=pw (.ref e) 3<|cE<|c+1)<|qJ (s:=⟨k,g,d,n+1,os⟩) W (by simp) λr V J=>?_;replace J:aK e k r:=J;replace V:eZ r e f (c+1) z:=V;refine iX (m:=pw (.ref e) 4 .none)<|qJ (s:=⟨r,g,d,n+1,os⟩) V (by simp) λa S G=>?_;replace G:aK e r a:=G;replace S:eZ a e f (c+1) z:=S;refine iX (m:=px [.int c n,x])<|DT (s:=⟨a,g,d,n+1,os⟩) ?_;have L:a.objs.size=I.objs.size:=by rw[G.1,J.1,M.1]
 have U:eZ (a.push {cls:= .type "tuple",data:= .seq #[.int c n,x]}) e f (c+1) z:=kg _ S;have X:e<I.objs.size:=kH he;have B:(a.push {cls:= .type "tuple",data:= .seq #[.int c n,x]}).get? I.objs.size=XV {cls:= .type "tuple",data:= .seq #[.int c n,x]}:=by rw[<-L];exact kG _ rfl
 have up: ∀b o,b≠e->b≠f->I.get? b=XV o->(a.push {cls:= .type "tuple",data:= .seq #[.int c n,x]}).get? b=XV o:=λb o H F q=>kg _ (G.extBut b o H<|J.extBut b o H<|M.extBut b o F q);have C:Src (a.push {cls:= .type "tuple",data:= .seq #[.int c n,x]}) f l (i+1) j:=O.keep (λo q=>kg _ (G.extBut _ o g8.symm (J.extBut _ o g8.symm q))) λo q=>kg _ (G.extBut _ o ei.symm (J.extBut _ o ei.symm q));have Z:(a.push {cls:= .type "tuple",data:= .seq #[.int c n,x]}).objs.size=I.objs.size+1:=by rw[rn,L]
 rw[L];generalize (a.push {cls:= .type "tuple",data:= .seq #[.int c n,x]})=p at U B up C Z;refine iX (m:=bN<|.ref e) ?_;unfold bN;refine iX<|pM (s:=⟨p,g,d,n+1,os⟩) U AM (x:= .none) AM<|jd ?_;simp -iota only[kO];refine iX<|uo<|iX<|pM (s:=⟨p,g,d,n+1,os⟩) U AM (x:=z) AM<|iX<|qJ (s:=⟨p,g,d,n+1,os⟩) U (by simp) λt R D=>?_;replace D:aK e p t:=D;replace R:eZ t e f (c+1) x:=R;refine iX (m:=bx (.ref e)<|.ref I.objs.size) ?_;unfold bx;refine iX<|qJ (s:=⟨t,g,d,n+1,os⟩) R (by simp) λu P Y=>?_;replace Y:aK e t u:=Y;replace P:kl u e f (c+1) x I.objs.size:=P;refine qJ (s:=⟨u,g,d,n+1,os⟩) P (by simp) λy K N=>?_;replace N:aK e u y:=N;replace K:kl y e f (c+1) x I.objs.size:=K;have all: ∀b o,b≠e->p.get? b=XV o->y.get? b=XV o:=λb o H q=>N.extBut b o H<|Y.extBut b o H<|D.extBut b o H q;refine iX<|DS<|jd ⟨_,rfl,hQ y K (C.keep (λo q=>all _ o g8.symm q) λo q=>all _ o ei.symm q) (all _ _ (pk X) B) ?_ λb o H F q=>all b o H<|up b o H F q⟩;rw[N.1,Y.1,D.1,Z]
def za{x m:jg}{Q:Cj}(p:eZ s.heap e f c m)(st:Src s.heap f l i j)(u:j[i]?=Y x)(r:e≠f)(q:e≠l)
  (t: ∀g,kl g e f (c+1) x s.heap.objs.size->Src g f l (i+1) j->g.get? s.heap.objs.size=Y {cls:= .type "tuple",data:= .seq #[.int c s.toks,x]}->g.objs.size=s.heap.objs.size+1->
   (∀b o,b≠e->b≠f->s.heap.get? b=Y o->g.get? b=Y o)->Q (Y<|.ref s.heap.objs.size) {s with heap:=g,toks:=s.toks+1}):
  ah (aj h w) A (cn<|.ref e) Q E s:=by
 have n:s.TypeIs (.ref e) "enumerate":=⟨_,p,rfl⟩
 unfold cn
 exact iX (rW (vQ (name:=bn "__next__") n DR (nW DR n Mq
  (adD p st u r q λg a b c d k=>jd<|t g a b c d k) (Mp _))))
def zM{d:jg}{Q:Cj}(q:A.handled=C)(k:eZ s.heap e f c d)(st:Src s.heap f l i j)(t:j[i]?=C)
  (n: ∀a,eR f s.heap a->Q C {s with heap:=a}):ah (aj h w) A (cn<|.ref e) Q E s:=by
 have g:s.TypeIs (.ref e) "enumerate":=⟨_,k,rfl⟩
 unfold cn;refine iX<|rW<|vQ (name:=bn "__next__") g DR<|nW DR g Mq ?_<|Mp _;refine iX (m:=j0 (.ref e) 2)<|pM k H (x:= .ref f) H<|iX<|st.stop q t λa x u O=>?_;obtain⟨o,r,p⟩:=O;exact iX<|wy (T:="StopIteration") (b:=J) ⟨o,r,p⟩ DQ<|jd<|n _ u
end
section
variable {X:Cx}{d:jK}{g:L2.St}{H:Hp}{s:iZ}{f:jo}
def Cm{t':Nat}{ch:kN}{a:iW}{o:HO}(M:Inv X d g H s)(j: ∀b∈ch,vc X d H b)(k: ∀b u,b∉ch->s.heap.get? b=Y u->f.get? b=Y u)(p:s.heap.objs.size<=a)(new:AR X.prog X.w (upd H a o) f a o):
  Inv X d g (upd H a o) {s with heap:=f,toks:=t'}:=by
 have L:=M.hok.fresh p;have l: ∀b u,H b=Y u->b∉ch:=λb u e z=>by have:=(j b z).1;rw[this] at e;cases e
 have up: ∀b u,H b=Y u->upd H a o b=Y u:=λb u e=>by rw[jA<|ma e L];exact e
 have N: ∀b u,s.heap.get? b=Y u->H b=C->upd H a o b=C:=λb u e n=>by rw[jA λz=>by subst z;exact absurd (kH e)<|SW.mpr p];exact n
 refine M.step (g':=s.gens) (d':=s.drawn) (ch:=ch) (λb i=>?_) (λb u _ _ h e _=>k b u h e) (λb u _ _ h e _=>⟨u.slots,k b u h e⟩) (λb u _ e n=>N b u e n)
  (λb u h e=>⟨u,k b u h e⟩) (λb Q e=>up b _ e) (λb _ _ e=>up b _ e) (λb T e=>⟨#[],by rw[up b _ e];simp⟩) (λm E=>?_) (λb u e=>?_) M.bare
 .obtain⟨_,f1,f2,y,A,B⟩:=j b i;exact⟨y,f1,A,B⟩
 .obtain⟨u,x,t,O,r⟩:=E;exact⟨u,x,t,k _ u (λz=>(j _ z).2.1 AM) O,r⟩
 .by_cases i:b=a
  .subst i;rw[jr] at e;cases e;exact new
  .rw[jA i] at e;refine(M.hok b u e).BQ (λc v h q=>k c v ?_ q) (λc q=>up c _ q) (λc Q q=>up c _ q) λc _ _ q=>up c _ q;rcases h with z|z
   .rw[z];exact l b u e
   .exact l c _ z
def Cn{t':Nat}{ch:kN}(T:Inv X d g H s)(h: ∀b∈ch,vc X d H b)(k: ∀b u,b∉ch->s.heap.get? b=Y u->f.get? b=Y u):Inv X d g H {s with heap:=f,toks:=t'}:=by
 have i: ∀b u,H b=Y u->b∉ch:=λb u e z=>by have:=(h b z).1;rw[this] at e;cases e
 refine T.step (g':=s.gens) (d':=s.drawn) (ch:=ch) (λb w=>?_) (λb u _ _ a e _=>k b u a e) (λb u _ _ a e _=>⟨u.slots,k b u a e⟩) (λb u _ e n=>n)
  (λb u a e=>⟨u,k b u a e⟩) (λb A e=>e) (λb _ _ e=>e) (λb B e=>⟨#[],by rw[e];simp⟩) (λm x=>?_) (λb u e=>?_) T.bare
 .obtain⟨_,f1,f2,o,p,t⟩:=h b w;exact⟨o,f1,p,t⟩
 .obtain⟨u,l,j,y,r⟩:=x;exact⟨u,l,j,k _ u (λz=>(h _ z).2.1 AM) y,r⟩
 .refine(T.hok b u e).BQ (λc v a q=>k c v ?_ q) (λc q=>q) λc A q=>q;rcases a with z|z
  .rw[z];exact i b u e
  .exact i c _ z
end
def IA(b:Bool)(K:ju)(T:Hp)(l:iW)(a:List V):Prop:=if b=J then Gm K T l a else IU K T l a
def K9(b:Bool)(h:jo)(a l:iW)(i:Nat):Prop:=if b=J then h.IsListIter a l i else h.IsTupleIter a l i
def K9.keep(x:K9 b h it l i)(k: ∀o,h.get? it=Y o->h'.get? it=Y o):K9 b h' it l i:=by
 cases b
 .exact PySem.Heap.IsTupleIter.at (show h.IsTupleIter it l i from x) k
 .exact PySem.Heap.IsListIter.at (show h.IsListIter it l i from x) k
def K9.obj(x:K9 b h it l i): ∃o,h.get? it=Y o/\ ∀v,o.data≠ .cell v:=by
 cases b<;>(obtain⟨o,e,c,d⟩:=x;exact⟨o,e,λv z=>by rw[d] at z;cases z⟩)
section
variable {X:Cx}{d:jK}{e:L2.St}{H:Hp}{s:iZ}
def vm(T:Inv X d e H s)(q:IA b X.K H l xs)(t:K9 b s.heap it l i): ∃a,Vals xs a/\Src s.heap it l i a.toArray:=by
 cases b with
 |true=>obtain⟨a,v,p,_⟩:=T.list q;exact⟨a,v,.inl ⟨t,p.isList⟩⟩
 |false=>obtain⟨a,v,p,_⟩:=T.tuple q;exact⟨a,v,.inr ⟨t,p⟩⟩
def En(T:Inv X d e H s)(q:IA b X.K H l xs)(a:IA b X.K H l c):xs=c:=by
 cases b with
 |true=>exact T.Ff q a
 |false=>exact T.F1 q a
def Iw(t:K9 b h it l i)(m:Src h it l i xs)(j:Src k it l p xs)(n: ∀o,h.get? l=Y o->k.get? l=Y o):K9 b k it l p:=by
 cases b with
 |true=>
  rcases j with⟨a,_⟩|⟨a,c⟩
  .exact a
  .rcases m with⟨_,o,h1,f,_⟩|⟨⟨o,h1,f,_⟩,_⟩
   .obtain⟨g,g1,g2,_⟩:=c;rw[n _ h1] at g1;cases g1;rw[f] at g2;injection g2 with g2;exact absurd g2 (by decide)
   .obtain⟨g,g1,g2,_⟩:=t;rw[h1] at g1;cases g1;rw[f] at g2;injection g2 with g2;exact absurd g2 (by decide)
 |false=>
  rcases j with⟨a,c⟩|⟨a,_⟩
  .rcases m with⟨⟨o,h1,f,_⟩,_⟩|⟨_,o,h1,f,_⟩
   .obtain⟨g,g1,g2,_⟩:=t;rw[h1] at g1;cases g1;rw[f] at g2;injection g2 with g2;exact absurd g2 (by decide)
   .obtain⟨g,g1,g2,_⟩:=c;rw[n _ h1] at g1;cases g1;rw[f] at g2;injection g2 with g2;exact absurd g2 (by decide)
  .exact a
end
noncomputable def NX(b:Bool)(K:ju)(l:iW)(c:Int):It:=⟨λi Q=> ∃a x,IA b K Q l a/\a[i]?=Y x,
 λi Q x d=> ∃(T:iW) (y:V),x= .ref T/\Q T=C/\d=upd Q T (.tup [.int<|c+i,y])/\ ∀a,IA b K Q l a->a[i]?=Y y,λi Q=> ∃a,IA b K Q l a/\(A7 a)<=i⟩
def ac7{P:jw}{w:jm}{K:ju}{p:kL}{k1}{pos:bO}(b:Bool)(e j l:iW)(c:Int)(g8:e≠j):
  Turn P w K (.Tuple p k1 pos) (NX b K l c) [e,j] e (λi h=>(∃d,eZ h e j (c+i) d)/\K9 b h j l i) where
 mem:=by simp
 obj:=λi h st a L=>by
  obtain⟨⟨d,g⟩,st⟩:=st;have l6:a=e\/a=j:=by simpa using L
  rcases l6 with rfl|rfl
  .exact⟨_,g,λv z=>by have z':iz _=ga v:=z;cases z'⟩
  .exact st.obj
 keep:=λi h h' st k=>by obtain⟨⟨d,g⟩,st⟩:=st;exact⟨⟨d,k e (by simp) _ g⟩,st.keep λo q=>k j (by simp) o q⟩
 item:=by
  intro X M U J S i m s σ H E I y st N;subst M U J;obtain⟨⟨d,g⟩,st⟩:=st;obtain⟨xs,x,O,Y⟩:=N;obtain⟨D,F,f⟩:=vm I O st;obtain⟨u,hu,ru⟩:=F.get Y
  have G:e≠l:=λz=>by subst z;have V:=(y e<|by simp).1;rcases f with⟨_,o,h1,C',_⟩|⟨_,o,h1,C',_⟩<;>(have Z:s.heap.get? e=_:=g;rw[h1] at Z;cases Z;injection C' with C';exact absurd C'<|by decide)
  refine za g f (x:=u) (by simpa using hu) g8 G λh' ho A hT hsz kp=>⟨.ref s.heap.objs.size,rfl,?_⟩
  refine wpAny_letOwnedTupleGo_enum ho λn r T=>?_;have t:e<s.heap.objs.size:=kH g
  have R: ∀a o,a∉[e,j]->s.heap.get? a=XV o->n.get? a=XV o:=λa o Q q=>by have W:a≠e:=λz=>Q (by simp[z]);have n2:a≠j:=λz=>Q (by simp[z]);exact T.extBut a o W<|kp a o W n2 q
  have cZ:n.get? s.heap.objs.size=XV {cls:= .type "tuple",data:= .seq #[.int (c+i) s.toks,u]}:=T.extBut _ _ (pk t) hT
  have I1:Inv X m σ (upd H s.heap.objs.size<|.tup [.int<|c+i,x]) {s with heap:=n,toks:=s.toks+1}:=
   Cm I y R (kh _) (show AR X.prog X.w _ _ _ (.tup [.int<|c+i,x]) from⟨by show 2<=sizeLine;decide,[.int (c+i) s.toks,u],.cons ⟨_,rfl⟩<|.cons ru .nil,_,cZ,rfl,0,rfl⟩)
  have B:K9 b n j l (i+1):=by refine Iw st f (A.keep (λo q=>T.extBut _ o g8.symm q) λo q=>T.extBut _ o G.symm q) λo q=>R l o ?_ q;have:=f.ne;simp only[lz,lY,mX,oY];exact⟨G.symm,this⟩
  refine⟨.ref s.heap.objs.size,_,I1,rfl,⟨_,x,rfl,I.fresh,rfl,λys hy=>by rw[En I hy O];exact Y⟩,⟨⟨u,?_⟩,B⟩,λa L=>?_⟩
  .have e1:c+((i+1:Nat):Int)=c+i+1:=by lia
   show eZ n e j (c+((i+1:Nat):Int)) u;rw[e1];exact r
  .have V:=(y a L).1;rw[jA]
   .exact V
   .intro z;have i9:a=e\/a=j:=by simpa using L
    rcases i9 with rfl|rfl
    .exact absurd z (kf t)
    .exact absurd z (kf f.lt.1)
 done:=by intro X M U J S i m s σ H E I y st N;subst M U J;obtain⟨⟨d,g⟩,st⟩:=st;obtain⟨xs,O,Y⟩:=N;obtain⟨D,F,f⟩:=vm I O st;have hl:=F.length;exact zM (I.ok.hd S) g f (by simp;lia) λh' eb=>⟨rfl,Cn (t':=s.toks) I y λa o Q q=>eb a o (λz=>Q<|by simp[z]) q⟩
 self:=λ_ _ _ _ _ st h=>by obtain⟨⟨d,g⟩,_⟩:=st;exact ut g h
def Ay{K T}(q:Ib b K T P a xs):IA b K T a xs:=by
 cases b with
 |true=>exact q.l
 |false=>exact q.t
def adt{K:ju}{P O:B7}{h:Hp}{a:iW}{g:List V}{l:List D}{b:Bool}{c:Int}(q:Ib b K h P a g)(r:AJ K h O l g)(A: ∀a,P a->O a):
  Ks K (NX b K a c) (l.zipIdx.map λp=> .tup [.int<|c+p.2,p.1]) P O h:=by
 have sq: ∀Hi,(∀a o,h a=Y o-> ¬P a->Hi a=Y o)->IA b K Hi a g:=λHi f=>Ay<|q.mono f λ_ z=>z;refine⟨λi d Hi hd f=>?_,λi Hi M f=>⟨g,sq Hi f,by rw[r.length];simpa using M⟩⟩;rw[ly] at hd;obtain⟨⟨Q,j⟩,h1,u⟩:=jL hd;rw[Hh] at h1;obtain⟨G,v,w⟩:=jL h1;obtain⟨rfl,rfl⟩:=uk w;obtain⟨x,s,N⟩:=r.get v;refine⟨⟨g,x,sq Hi f,s⟩,λy I E=>?_⟩;obtain⟨T,z,rfl,m,rfl,k⟩:=E;have k:=k g<|sq Hi f;rw[s] at k;cases k;have ext:=lG (o:= .tup [.int<|c+i,x]) m;refine⟨ext,λL h1 t=>?_⟩;subst u;refine Rep.KJ ⟨jr,t T m⟩<|AJ.cons ?_<|AJ.cons (Rep.mono (λb o e n=>ext b o<|f b o e λz=>n<|A b z) (λb B z=>h1 b B z) N) AJ.nil;simp only[wx];exact Rep.mkInt
open AutoSeq1 (wpAny_loadPart')
section
variable {f:jw}{w:jm}{A:jn}{E:jJ}{s:iZ}
def VE{T a:String}{self:jg}{rz:ku}{kw:List (aG×jg)}(h:g7 (.type T) "__init__"=pure (Y<|.builtin "object.__init__"))(i:Bind.madeBy (.type T)=pure (Y a))(e:(Y a !=Y "object.__new__")=J):
  ia (aV.«object.__init__» ⟨self::rz,kw⟩) (λ_ R s=>s.TypeIs self T/\R (.ok<|.ret .none) s):=by
 refine Meets.of_wp λf w A R s d=>?_;obtain⟨g,c⟩:=d;by_cases b:(!rz.isEmpty||!kw.isEmpty)=J
 .unfold aV.«object.__init__»;simp only[b,kO]
  repeat (any_goals (first|assumption|wp_step))
  exact⟨_,rfl,c⟩
 .unfold aV.«object.__init__»;simp only[b,kB];exact jd ⟨_,rfl,c⟩
def acq{T b:String}{q:aV}{a:ku}{kw:List (aG×jg)}{S:PySem.Spec}{Q:jJ}(i:TypeCalled T b "object.__init__")(B:(Y b !=Y "object.__new__")=J)(M:Ix T ⟨a,kw⟩=pure ())
  (x:dE b ⟨.type T::a,kw⟩=pure ())(o: ∀obj,hH "object.__init__" ⟨obj::a,kw⟩)(j:hD u3 b=Y q)(g:ia (q ⟨.type T::a,kw⟩) S)
  (h:S A.in1 (o6 (λobj d=>d.TypeIs obj T/\Q obj d) E) s):ah (aj f w) A (call (.type T) a kw) Q E s:=by
 obtain⟨c,N,u⟩:=i.mro;have n:=i.made;have G:=i.sub;refine yR<|uE ?_;show ah _ _ (Q1 (.type T) _) _ _ _;refine jd ⟨Hd _ (by decide+kernel),oZ F.entry_type_call ?_⟩;rw[Hc (Hb T a kw)<|units_type_call_type T a kw];have h1:=i.notType;have O:=i.canCreate
 repeat (any_goals (first|assumption|wp_step))
 refine qx (DP i.plain j<|qv x<|g f w A.in1 _ s h) λr d p=>?_
 cases r with
 |error e=>exact p
 |ok z=>
  cases z with
  |ret obj=>
   obtain⟨t,v⟩:=p;have I:=i.init.lookup;have L:=i.init.bind obj
   repeat (any_goals (first|assumption|wp_step))
   have C:=VE (self:=obj) (rz:=a) (kw:=kw) i.init.lookup i.made B;refine qx (DP i.init.plain Mu<|i.init.check _ _ _ _ _ _ _ _ t (o obj) (C f w A.in1 (o6 (λr k=>r= .none/\Q obj k) E) d ⟨t,rfl,v⟩)) λl k m=>?_
   cases l with
   |error e=>exact m
   |ok y=>
    cases y with
    |ret r=>
     obtain⟨rfl,v⟩:=m
     repeat (any_goals (first|assumption|wp_step))
    |_=>exact m.elim
  |_=>exact p.elim
def abz(a b:jg):Ix "enumerate" ⟨[a],[("start",b)]⟩=pure ():=by kernel_rfl
def abX(a b:jg):dE "enumerate.__new__" ⟨[.type "enumerate",a],[("start",b)]⟩=pure ():=by kernel_rfl
def abA(o a b:jg):hH "object.__init__" ⟨[o,a],[("start",b)]⟩:=by unfold hH;rw[signature?_of (id:="object.__init__") (n:=['_','_','t','i','n','i','_','_']) (o:=['t','c','e','j','b','o']) (by kernel_rfl) F.owner_object];kernel_rfl
noncomputable def qH(a:iW)(c:Int):Obj:={cls:= .type "enumerate",data:= .fields #[.none,.bool U,.ref a,cE c,.none,.none]}
def adC(l:iW)(i:nv):ia (aV.«enumerate.__new__» ⟨[.type "enumerate",.ref l],[]⟩) (λ_ R s=>(s.heap.IsList l i\/s.heap.IsTuple l i)/\
  ∀e,Src e s.heap.objs.size l 0 i->e.objs.size=s.heap.objs.size+1->(∀b o,s.heap.get? b=Y o->e.get? b=Y o)->R (.ok<|.ret<|.ref e.objs.size) {s with heap:=e.push (qH s.heap.objs.size 0)}):=
 .of_wp λf w A R s h=>by
  obtain⟨k,g,d,n,os⟩:=s;obtain⟨j,h⟩:=h;have m:=FM
  wp_walk
  refine xx λst=>jd ?_;split
  .rename_i c _ _ _ _ _;cases(c==bi "enumerate")<;>(wp_walk using Src.new j;intro e a b c;wp_walk;exact⟨_,rfl,h e a b c⟩)
  .wp_walk using Src.new j
   intro e a b c
   wp_walk
   exact⟨_,rfl,h e a b c⟩
def adB(l:iW)(i:nv)(c:Int)(t:ww)(k:bv c=J):ia (aV.«enumerate.__new__» ⟨[.type "enumerate",.ref l],[("start",.int c t)]⟩) (λ_ R s=>(s.heap.IsList l i\/s.heap.IsTuple l i)/\
  ∀e,Src e s.heap.objs.size l 0 i->e.objs.size=s.heap.objs.size+1->(∀b o,s.heap.get? b=Y o->e.get? b=Y o)->R (.ok<|.ret<|.ref e.objs.size) {s with heap:=e.push (qH s.heap.objs.size c)}):=
 .of_wp λf w A R s h=>by
  obtain⟨m,g,d,p,os⟩:=s;obtain⟨j,h⟩:=h;have n:=FM
  wp_walk
  refine xx λst=>jd ?_;split
  .rename_i c _ _ _ _ _;cases(c==bi "enumerate")<;>(wp_walk using Src.new j;intro e a b c;wp_walk;exact⟨_,rfl,h e a b c⟩)
  .wp_walk using Src.new j
   intro e a b c
   wp_walk
   exact⟨_,rfl,h e a b c⟩
def acn(e:s.heap.IsList l xs\/s.heap.IsTuple l xs)
  (h: ∀d,Src d s.heap.objs.size l 0 xs->d.objs.size=s.heap.objs.size+1->(∀b o,s.heap.get? b=Y o->d.get? b=Y o)->Q (.ref d.objs.size) {s with heap:=d.push (qH s.heap.objs.size 0)}):
  ah (aj f w) A (call (.type "enumerate") [.ref l]) Q E s:=
 P1 F.called_enumerate (by decide) (F.typeCall_enumerate_1 _) (F.newCall_enumerate_1 _) (λobj=>Mt obj _) Mn (adC l xs) ⟨e,λd a b c=>⟨⟨_,kG _ rfl,rfl⟩,h d a b c⟩⟩
def acm(g:s.heap.IsList l xs\/s.heap.IsTuple l xs)(e:bv c=J)
  (h: ∀d,Src d s.heap.objs.size l 0 xs->d.objs.size=s.heap.objs.size+1->(∀b o,s.heap.get? b=Y o->d.get? b=Y o)->Q (.ref d.objs.size) {s with heap:=d.push (qH s.heap.objs.size c)}):
  ah (aj f w) A (call (.type "enumerate") [.ref l] [("start",.int c t)]) Q E s:=
 acq F.called_enumerate (by decide) (abz _ _) (abX _ _) (λobj=>abA obj _ _) Mn (adB l xs c t e) ⟨g,λd a b c=>⟨⟨_,kG _ rfl,rfl⟩,h d a b c⟩⟩
end
section
variable {X:Cx}{g:jK}{i:L2.St}{H:Hp}{s:iZ}{m:kL}{y:Nat}{n:bO}
def J7{R:It->Hp->Prop}{E:jJ}{b:Bool}{l:iW}{L:List V}{j:ku}{h':jo}{c:Int}(Q:Inv X g i H s)(t:IA b X.K H l L)(k:Src h' s.heap.objs.size l 0 j.toArray)(h:h'.objs.size=s.heap.objs.size+1)
  (B: ∀b o,s.heap.get? b=Y o->h'.get? b=Y o)(r:R (NX b X.K l c) H):ah (aj X.prog X.w) X.A (d5<|.ref h'.objs.size) (PIE X g i (.Tuple m y n) R) E {s with heap:=h'.push (qH s.heap.objs.size c)}:=by
 have q:eZ (h'.push<|qH s.heap.objs.size c) h'.objs.size s.heap.objs.size c .none:=kG _ rfl;refine ut q ?_;have d:Inv X g i H {s with heap:=h'.push (qH s.heap.objs.size c)}:=Q.kept (t':=s.toks) λb o e=>kg _ (B b o e);have v:h'.objs.size≠s.heap.objs.size:=by rw[h];exact Nat.succ_ne_self _
 refine⟨h'.objs.size,[h'.objs.size,s.heap.objs.size],_,_,H,rfl,d,ac7 b h'.objs.size s.heap.objs.size l c v,⟨⟨.none,by simpa using q⟩,?_⟩,λa x=>?_,r⟩
 .have u:=k.keep (h':=h'.push<|qH s.heap.objs.size c) (λo e=>kg _ e) (λo e=>kg _ e)
  cases b with
  |true=>
   rcases u with⟨a,_⟩|⟨_,o,h1,f,_⟩
   .exact a
   .obtain⟨_,_,p,_⟩:=d.list t;obtain⟨T,g1,g2,_⟩:=p.isList;rw[h1] at g1;cases g1;rw[f] at g2;injection g2 with g2;exact absurd g2 (by decide)
  |false=>
   rcases u with⟨_,o,h1,f,_⟩|⟨a,_⟩
   .obtain⟨_,_,p,_⟩:=d.tuple t;obtain⟨T,g1,g2,_⟩:=p;rw[h1] at g1;cases g1;rw[f] at g2;injection g2 with g2;exact absurd g2 (by decide)
   .exact a
 .have z:a=h'.objs.size\/a=s.heap.objs.size:=by simpa using x
  rcases z with rfl|rfl
  .exact Q.KS (by rw[h];exact yO _) (Q.hok.fresh<|by rw[h];exact yO _)
  .exact Q.KS (kh _) (Q.hok.fresh<|kh _)
def OS(K:ju)(c:Int)(d:TA):TI:=λi H R=>d i H λe a=> ∃b l f,e=[.ref l]/\IA b K a l f/\R (NX b K l c) a
def Em(T:Inv X g i H s)(q:IA b X.K H l xs): ∃a,Vals xs a/\(s.heap.IsList l a.toArray\/s.heap.IsTuple l a.toArray):=by
 cases b with
 |true=>obtain⟨a,v,p,_⟩:=T.list q;exact⟨a,v,.inl p.isList⟩
 |false=>obtain⟨a,v,p,_⟩:=T.tuple q;exact⟨a,v,.inr p⟩
def Kh:aB "enumerate"=Y (.type "enumerate"):=by decide+kernel
def aeg{a:je}{j:TA}{p c:bO}(o:Gl X "enumerate")(t:X.mg "enumerate"=C)(k:PA X [a] j)(v:ac [a] X.env=[(U,aT a X.env)]):PI X (.Tuple m y n) (.Call (.Name "enumerate" p) [a] [] c) (OS X.K 0 j):=by intro g s i H R N h;refine Call_<|qd N o t Kh<|Ap (BI (k c g s i H _ N h) λL s1 M=>?_) v AM;obtain⟨O,T,e,A,b,l,Q,hv,f,q⟩:=M;subst hv;obtain⟨u,rfl,B⟩:=qz A;cases B;obtain⟨x,_,r⟩:=Em e f;exact acn r λE d w z=>J7 e f d w z q
def zU{M:h9}{A:jn}{E:jJ}{s:iZ}{b:ek}{c:bO}{T:String}{e:je}{j:List cM}{Q:jJ}
  (h:ah M A (lf<|aH c<|ac [e] b) (λw d=>ah M A (evalAll ((cJ c<|bW j b).map (·.2))) (λo f=>ah M A (call (.type T) w (((cJ c<|bW j b).filterMap (·.1)).zip o)) Q E f) E d) E s)
  (u:aH c (ac [e] b)=(U,aT e b)::aH c (ac [] b))(q:(aH c<|ac [e] b).any (·.1)=U)(p:(cJ c<|bW j b).all (·.1.isSome)=J)(l:(cJ c<|bW j b).any (·.1.isNone)=U):
  ah M A (callWith c (.type T) [] (aH c<|ac [e] b)<|cJ c<|bW j b) Q E s:=by
 have t:ah M A (evalArgs (.type T) J (aH c<|ac [e] b)<|cJ c<|bW j b) (λa d=>ah M A (call (.type T) ([]++a.pos) a.kw) Q E d) E s:=by rw[u] at h ⊢;exact evalArgs_kwB p h
 unfold callWith;refine iX<|mv<|nX t (λa d k=>iX<|uG ?_) λ_ _ x=>x;simp only[q,l,gW];exact iX<|jd<|iX<|nX k (λr f v=>iX<|mv<|wpAny_point<|jd v) λ_ _ x=>x
def aef{a:je}{r:TA}{p d U e:bO}{c:Int}{z:Nat}(Q:Gl X "enumerate")(G:X.mg "enumerate"=C)(E:PA X [a] r)(L:bv c=J)
  (O:aH d (ac [a] X.env)=(ZB,aT a X.env)::aH d (ac [] X.env))(B:(aH d<|ac [a] X.env).any (·.1)=ZB):
  PI X (.Tuple m y n) (.Call (.Name "enumerate" p) [a] [⟨Y "start",.Constant (.int c) z U,e⟩] d) (OS X.K c r):=by
 intro g s i H R I h;refine vR<|qd I Q G Kh<|zU (BI (E d g s i H _ I h) λus s1 a'=>?_) O B AM AM;obtain⟨vs,j,A,Y',b,l,xs,hv,o,q⟩:=a';subst hv;obtain⟨u,rfl,D⟩:=qz Y';cases D;refine kws_cons<|BI (NV g s1 i j (λv w=>v= .int c/\w=j) A ⟨rfl,rfl⟩) λv s2 ⟨x,H2,k,rx,J',C'⟩=>kws_nil ?_;subst J';subst C';obtain⟨t,rfl⟩:=rx;obtain⟨N,_,T⟩:=Em k o;exact acm T L λF f M e=>J7 k o f M e q
noncomputable def zg(c:Int)(f:F):EV:=λa=>(f a).bind λp=>match p.1.1 with
 | .tup l=>Y (l.zipIdx.map λq=> .tup [.int<|c+q.2,q.1],p.2)
 | .lst l=>Y (l.zipIdx.map λq=> .tup [.int<|c+q.2,q.1],p.2)
 |_=>C
def Rw{K:ju}{T:B7}{i:L2.St}{d c:Dn}{H:Hp}{r:D×Bool}{f:F}{Q:List V->Hp->Prop}(E:ER K H T i d)(h:f d=Y (r,c))(k: ∀v l,BU i d H c l->ER K l T i c->Rep K l (λa=>AO i c a\/T a) r.1 v->Q [v] l):tA K [jk f] i H Q:=by
 refine⟨d,T,[.val r],c,E,?_,λu o w B=>?_⟩
 .show((jk f d).bind λp=>(kT [] p.2).bind λq=>Y (p.1::q.1,q.2))=_;simp only[jk,h,tp,kT]
 .have t:=B.len;rcases u with _|⟨v,_|⟨_,_⟩⟩<;>try cases t
  exact k v o B.keep (B.er.mono (λ_ _ e _=>e) (λb _ z=>B.tt b z) λa z=>B.er.dom a<|B.tt a z)<|B.rep E (j:=0) AM AM
def Gw{K:ju}{B:SB}{c:Int}{f:F}{i:L2.St}{H:Hp}{R:It->Hp->Prop}(Q:tI K B (zg c f) i H R):OS K c (tA K [jk f]) i H R:=by
 obtain⟨O,T,x,t,E,e,k⟩:=Q;obtain⟨⟨⟨d,o⟩,j⟩,h1,e⟩:=iU e;refine Rw E h1 λv p w u L=>?_
 have h: ∀{l},AB d=Y l->Y (l.zipIdx.map λq=>D.tup [.int<|c+q.2,q.1],j)=Y (x,t)-> ∃b a r,[v]=[V.ref a]/\IA b K p a r/\R (NX b K a c) p:=λA e=>by obtain⟨rfl,rfl⟩:=jz e;obtain⟨a,r,rfl,q,N⟩:=Cw A L;have q:=q.mono (λ_ _ e _=>e) (P':=Lx B T i j) λa z=>z.own;exact⟨_,a,r,rfl,Ay q,k _ p w u (adt q N λa z=>z.own)⟩
 cases d with
 |tup l=>exact h AM e
 |lst l=>exact h AM e
 |_=>cases e
def acW{B:SB}{a:je}{f:F}{p b r q:bO}{c:Int}{z:Nat}(k:Gl X "enumerate")(l:X.mg "enumerate"=C)(e:PX X a f)(h:bv c=J)(s0:ac [a] X.env=(U,aT a X.env)::ac [] X.env)
  (j:aH b (ac [a] X.env)=(U,aT a X.env)::aH b (ac [] X.env))(d:(aH b<|ac [a] X.env).any (·.1)=U):
  Lb X B (.Tuple m y n) (.Call (.Name "enumerate" p) [a] [⟨Y "start",.Constant (.int c) z r,q⟩] b) (zg c f):=PI.imp' (aef k l (rH (PX.po e) xH s0) h j d) λi H R o=>Gw o
end
section
variable {j:jw}{w:jm}{A:jn}{E:jJ}{s:iZ}{z TI TO f d n l:iW}{k:Nat}{i g:nv}{x y a b:jg}
def TU{Q:jJ}(D:p5 z TI TO f d n l)(hz:fm s.heap z TI TO .none)(t7:cH s.heap TI (.ref f) (.ref d))(x9:cH s.heap TO a b)(h1:Src s.heap f n k i)(h2:Src s.heap d l k g)
  (hQ: ∀x y,i[k]?=XV x->g[k]?=XV y-> ∀G,fm G z TI TO (cE s.heap.objs.size)->cH G TO x y->Src G f n (k+1) i->Src G d l (k+1) g->cH G s.heap.objs.size x y->(∀c o,c≠z->c≠TO->c≠f->c≠d->s.heap.get? c=XV o->G.get? c=XV o)->Q (.ref s.heap.objs.size) {s with heap:=G})
  (hE:i[k]?=X0\/g[k]?=X0->A.handled=X0/\ ∀G e,(∀c o,c≠z->c≠TO->c≠f->c≠d->s.heap.get? c=XV o->G.get? c=XV o)->(∃o,G.get? e=XV o/\o.cls= .type "StopIteration")->E (.ref e) {s with heap:=G}):
  ah (aj j w) A (aV.«zip.__next__» ⟨[.ref z],[]⟩) (λfin s'=> ∃v,fin= .done (.ret v)/\Q v s') E s:=by
 have L: ∀{h:jo} {e:iW} {oe:fy} {f0:jg},fm h z TI TO f0->h.get? e=XV oe->oe.cls= .type "StopIteration"->e≠z:=λhzz cI bH q=>by subst q;have R:_=_:=hzz;rw[cI] at R;cases R;injection bH with bH;exact absurd bH (by decide)
 refine iX (m:=j0 (.ref z) 2)<|pM hz AM (x:= .bool U) AM<|iX (m:=j0 (.ref z) 3)<|pM hz AM (x:= .ref TI) AM<|iX<|rX t7 AM<|iX (m:=bN<|.ref z) ?_;unfold bN;refine iX<|pM hz AM (x:= .none) AM<|jd ?_;simp -iota only[kO];refine iX<|uo<|iX<|pM hz AM (x:= .ref TO) AM<|iX<|qJ hz (by simp) λH dX K=>?_;replace dX:fm H z TI TO .ellipsis:=dX;refine iX ?_;simp -iota only[n6,List.zipIdx_nil,eI,sK];have c1:Src H f n k i:=h1.keep (λo e=>K.extBut _ o D.i1z e) λo e=>K.extBut _ o D.l1z e
 cases hx:i[k]? with
 |none=>obtain⟨hh,hE⟩:=hE<|.inl hx;refine iX<|iX<|DO<|iX (m:=aR<|.ref f)<|c1.stop (s:={s with heap:=H}) hh hx λr e U' a'=>?_;obtain⟨oe,cI,bH⟩:=a';have M:fm r z TI TO .ellipsis:=U' _ _ D.i1z.symm dX;exact qJ (s:={s with heap:=r}) M (by simp) λt _ T=>hE t e (λc o O _ d3 _ q=>T.extBut _ _ O (U' _ _ d3 (K.extBut _ _ O q))) ⟨oe,T.extBut _ _ (L M cI bH) cI,bH⟩
 |some x=>
  refine iX<|iX<|DO<|iX (m:=aR<|.ref f)<|c1.item (s:={s with heap:=H}) hx λr V U'=>jd ?_;have B:cH r TO a b:=U'.extBut _ _ D.TOi1 (K.extBut _ _ D.TOz x9);refine iX<|rX (s:={s with heap:=r}) B AM<|iX<|Mm (s:={s with heap:=r}) B λt cY T=>iX<|DS<|jd ?_;replace cY:cH t TO x b:=cY;have c2:Src t d l k g:=h2.keep (λo e=>T.extBut _ o D.TOi2.symm (U'.extBut _ o D.i12.symm (K.extBut _ o D.i2z e))) λo e=>T.extBut _ o D.l2TO (U'.extBut _ o D.l2i1 (K.extBut _ o D.l2z e))
  cases hy:g[k]? with
  |none=>obtain⟨hh,hE⟩:=hE<|.inr hy;refine iX<|iX<|DO<|iX (m:=aR<|.ref d)<|c2.stop (s:={s with heap:=t}) hh hy λu e bj a'=>?_;obtain⟨oe,cI,bH⟩:=a';have dW:fm u z TI TO .ellipsis:=bj _ _ D.i2z.symm (T.extBut _ _ D.TOz.symm (U'.extBut _ _ D.i1z.symm dX));exact qJ (s:={s with heap:=u}) dW (by simp) λp _ F=>hE p e (λc o O d2 d3 d4 q=>F.extBut _ _ O (bj _ _ d4 (T.extBut _ _ d2 (U'.extBut _ _ d3 (K.extBut _ _ O q))))) ⟨oe,F.extBut _ _ (L dW cI bH) cI,bH⟩
  |some y=>
   refine iX<|iX<|DO<|iX (m:=aR<|.ref d)<|c2.item (s:={s with heap:=t}) hy λu X bj=>jd ?_;have C:cH u TO x b:=bj.extBut _ _ D.TOi2 cY;refine iX<|rX (s:={s with heap:=u}) C AM<|iX<|Mm (s:={s with heap:=u}) C λp bI F=>iX<|DS<|jd<|jd ?_;replace bI:cH p TO x y:=bI;refine iX<|rX (s:={s with heap:=p}) bI AM<|iX<|DT (s:={s with heap:=p}) ?_;have hsz:p.objs.size=s.heap.objs.size:=by rw[F.1,bj.1,T.1,U'.1,K.1]
   have N:fm p z TI TO .ellipsis:=F.extBut _ _ D.TOz.symm (bj.extBut _ _ D.i2z.symm (T.extBut _ _ D.TOz.symm (U'.extBut _ _ D.i1z.symm dX)));have hk₅: ∀c o,c≠z->c≠TO->c≠f->c≠d->s.heap.get? c=XV o->p.get? c=XV o:=λc o O d2 d3 d4 e=>F.extBut _ _ d2 (bj.extBut _ _ d4 (T.extBut _ _ d2 (U'.extBut _ _ d3 (K.extBut _ _ O e))));have W:Src p f n (k+1) i:=V.keep (λo e=>F.extBut _ o D.TOi1.symm (bj.extBut _ o D.i12 (T.extBut _ o D.TOi1.symm e))) λo e=>F.extBut _ o D.l1TO (bj.extBut _ o D.l1i2 (T.extBut _ o D.l1TO e));have Z:Src p d l (k+1) g:=X.keep (λo e=>F.extBut _ o D.TOi2.symm e) λo e=>F.extBut _ o D.l2TO e;have P:z<p.objs.size:=kH N;refine iX (m:=bx (.ref z)<|.ref p.objs.size) ?_;unfold bx;have hz₆:fm (p.push {cls:= .type "tuple",data:= .seq #[x,y]}) z TI TO .ellipsis:=kg _ N;refine iX<|qJ (s:={s with heap:=p.push {cls:= .type "tuple",data:= .seq #[x,y]}}) hz₆ (by simp) λS gy bZ=>?_;replace gy:fm S z TI TO (cE p.objs.size):=gy;refine qJ (s:={s with heap:=S}) gy (by simp) λI fG Y=>?_;replace fG:fm I z TI TO (cE p.objs.size):=fG;have up: ∀c o,c≠z->p.get? c=XV o->I.get? c=XV o:=λc o O e=>Y.extBut _ _ O (bZ.extBut _ _ O (kg _ e));have J:cH I p.objs.size x y:=Y.extBut _ _ (pk P) (bZ.extBut _ _ (pk P) (kG _ rfl));rw[hsz] at fG J;refine jd ⟨_,rfl,?_⟩;show Q (.ref p.objs.size) _;rw[hsz];exact hQ x y hx hy I fG (up _ _ D.TOz bI) (W.keep (λo e=>up _ o D.i1z e) λo e=>up _ o D.l1z e) (Z.keep (λo e=>up _ o D.i2z e) λo e=>up _ o D.l2z e) J λc o O d2 d3 d4 e=>up c o O<|hk₅ c o O d2 d3 d4 e
def AG{Q:Cj}(D:p5 z TI TO f d n l)(t:fm s.heap z TI TO .none)(N:cH s.heap TI (.ref f) (.ref d))(M:cH s.heap TO a b)(h1:Src s.heap f n k i)(I:Src s.heap d l k g)
  (L: ∀x y,i[k]?=Y x->g[k]?=Y y-> ∀h,fm h z TI TO (cE s.heap.objs.size)->cH h TO x y->Src h f n (k+1) i->Src h d l (k+1) g->cH h s.heap.objs.size x y->(∀c o,c≠z->c≠TO->c≠f->c≠d->s.heap.get? c=Y o->h.get? c=Y o)->Q (Y<|.ref s.heap.objs.size) {s with heap:=h})
  (m:i[k]?=X0\/g[k]?=X0->A.handled=X0/\ ∀h,(∀c o,c≠z->c≠TO->c≠f->c≠d->s.heap.get? c=Y o->h.get? c=Y o)->Q X0 {s with heap:=h}):
  ah (aj j w) A (cn<|.ref z) Q E s:=by
 have p:s.TypeIs (.ref z) "zip":=⟨_,t,rfl⟩
 unfold cn
 exact iX (rW (vQ (name:=bn "__next__") p F.slot_zip_next (nW F.slot_zip_next p F.entry_zip_next
  (TU D t N M h1 I (λx y q r h a1 u v B C H=>jd<|L x y q r h a1 u v B C H) λq=>⟨(m q).1,λh e hk ⟨o,G,O⟩=>iX<|wy (T:="StopIteration") (b:=J) ⟨o,G,O⟩ DQ<|jd<|(m q).2 _ hk⟩) (F.args_zip_next_1 _))))
end
def P9(j c:iW)(l i:nv):ia (aV.«zip.__new__» ⟨[.type "zip",.ref j,.ref c],[]⟩) (λ_ R s=>(s.heap.IsList j l\/s.heap.IsTuple j l)/\(s.heap.IsList c i\/s.heap.IsTuple c i)/\
  ∀h1 a,Src h1 s.heap.objs.size j 0 l->h1.objs.size=s.heap.objs.size+1->(∀b o,s.heap.get? b=Y o->h1.get? b=Y o)->Src a h1.objs.size c 0 i->a.objs.size=h1.objs.size+1->(∀b o,h1.get? b=Y o->a.get? b=Y o)->
   R (.ok<|.ret<|.ref ((a.push {cls:= .type "tuple",data:= .seq #[.ref s.heap.objs.size,.ref h1.objs.size]}).push {cls:= .type "tuple",data:= .seq #[.none,.none]}).objs.size)
    {s with heap:=((a.push {cls:= .type "tuple",data:= .seq #[.ref s.heap.objs.size,.ref h1.objs.size]}).push {cls:= .type "tuple",data:= .seq #[.none,.none]}).push {cls:= .type "zip",data:= .fields #[.none,.bool U,.bool U,.ref a.objs.size,.ref (a.push {cls:= .type "tuple",data:= .seq #[.ref s.heap.objs.size,.ref h1.objs.size]}).objs.size]}}):=
 .of_wp λm w A R s h=>by
  obtain⟨y,g,d,x,os⟩:=s;obtain⟨v,u,h⟩:=h;have z:=sub_zip
  wp_walk using Src.new v
  intro h1 a1 n k
  have f:h1.IsList c i\/h1.IsTuple c i:=by
   rcases u with⟨o,e,r⟩|⟨o,e,r⟩
   .exact .inl ⟨o,k _ _ e,r⟩
   .exact .inr ⟨o,k _ _ e,r⟩
  wp_walk using Src.new (s:=⟨h1,g,d,x,os⟩) f
  intro a p q t
  wp_walk
  exact⟨_,rfl,h h1 a a1 n k p q t⟩
noncomputable def ItZ(c d:Bool)(K:ju)(e f:iW):It:=⟨λi Q=> ∃a b x y,IA c K Q e a/\IA d K Q f b/\a[i]?=Y x/\b[i]?=Y y,
 λi Q x g=> ∃(T:iW) (u v:V),x= .ref T/\Q T=C/\g=upd Q T (.tup [u,v])/\ ∀a b,IA c K Q e a->IA d K Q f b->a[i]?=Y u/\b[i]?=Y v,
 λi Q=> ∃a b,IA c K Q e a/\IA d K Q f b/\(A7 a<=i\/(A7 b)<=i)⟩
structure ZA(z TI TO i1 i2:iW):Prop where
 a1:TI≠z
 a2:TO≠z
 a3:i1≠z
 a4:i2≠z
 a5:TI≠TO
 a6:TI≠i1
 a7:TI≠i2
 a8:TO≠i1
 a9:TO≠i2
 a10:i1≠i2
def xD{b:Bool}{K:ju}{T:Hp}{l:iW}{m:List V}{X:Cx}{c:jK}{p:L2.St}{s:iZ}(Q:Inv X c p T s)(k:X.K=K)(q:IA b K T l m){h:kN}(i: ∀a∈h,vc X c T a):l∉h:=by
 subst k;intro j;have d:=(i l j).1
 have base: ∀o,X.K.lookup l=Y o->False:=λo e=>by
  have g:=Q.mod.kin l o e;rcases(i l j).2.2.2.1 with z|z
  .exact Q.ok.noex l o g z
  .have:=(Q.ok.bs l o g).1;exact absurd (kH this)<|SW.mpr z
 cases b with
 |true=>
  rcases q with(q|⟨o,q⟩)|⟨o,f,n,e,_⟩
  .rw[d] at q;cases q
  .rw[d] at q;cases q
  .exact base o e
 |false=>
  rcases q with(q|⟨o,q⟩)|⟨o,f,n,e,_⟩
  .rw[d] at q;cases q
  .rw[d] at q;cases q
  .exact base o e
def adT{P:jw}{w:jm}{K:ju}{Y:kL}{k1}{pos:bO}(b1 b2:Bool)(z TI TO m n J M:iW)(D:ZA z TI TO m n):
  Turn P w K (.Tuple Y k1 pos) (ItZ b1 b2 K J M) [z,TI,TO,m,n] z (λi h=>fm h z TI TO .none/\cH h TI (.ref m) (.ref n)/\(∃a b,cH h TO a b)/\K9 b1 h m J i/\K9 b2 h n M i) where
 mem:=by simp
 obj:=λi h st a G=>by
  obtain⟨l,p,⟨u,v,C⟩,s1,B⟩:=st;simp only[lz,lY,mX] at G;rcases G with rfl|rfl|rfl|rfl|rfl
  .exact⟨_,l,λv e=>by have U:iz _=ga v:=e;cases U⟩
  .exact⟨_,p,λv e=>by have U:NL _ _=ga v:=e;cases U⟩
  .exact⟨_,C,λv e=>by have U:NL _ _=ga v:=e;cases U⟩
  .exact s1.obj
  .exact B.obj
 keep:=λi h h' st k=>by obtain⟨l,p,⟨u,v,C⟩,s1,B⟩:=st;exact⟨k z (by simp) _ l,k TI (by simp) _ p,⟨u,v,k TO (by simp) _ C⟩,s1.keep λo q=>k m (by simp) o q,B.keep λo q=>k n (by simp) o q⟩
 item:=by
  intro X hP hw L hc i A s σ H E I t st hg;obtain⟨l,p,⟨a0,b0,C⟩,s1,B⟩:=st;obtain⟨xs,ys,x,y,T,Q,hx,hy⟩:=hg;have d:=xD I L T t;have f:=xD I L Q t;simp only[lz,lY,mX,oY] at d f;subst hP hw L;obtain⟨cq,gk,F⟩:=vm I T s1;obtain⟨b8,Z,N⟩:=vm I Q B;obtain⟨u,hu,ru⟩:=gk.get hx;obtain⟨v,hv,rv⟩:=Z.get hy;have AP:p5 z TI TO m n J M:=⟨D.a1,D.a2,D.a3,D.a4,D.a5,D.a6,D.a7,D.a8,D.a9,D.a10,d.1,d.2.2.1,d.2.2.2.1,d.2.2.2.2,f.1,f.2.2.1,f.2.2.2.1,f.2.2.2.2⟩
  refine AG AP l p C F N (λx' y' q r h' z' t1 c1 c2 hT V=>?_) λq=>absurd q (by simp[hu,hv]);obtain rfl:u=x':=by simpa[hu] using q
  obtain rfl:v=y':=by simpa[hv] using r
  refine⟨.ref s.heap.objs.size,rfl,?_⟩;refine wpAny_letOwnedTupleGo_zip (s:={s with heap:=h'}) z' λO z'' j=>?_;replace j:aK z h' O:=j
  have W: ∀a o,a∉[z,TI,TO,m,n]->s.heap.get? a=XV o->O.get? a=XV o:=λa o g q=>by simp only[lz,lY,mX,oY] at g;exact j.extBut a o g.1<|V a o g.1 g.2.2.1 g.2.2.2.1 g.2.2.2.2 q
  have lt: ∀{c o},s.heap.get? c=XV o->s.heap.objs.size≠c:=λe=>pk<|kH e;have cZ:cH O s.heap.objs.size u v:=j.extBut _ _ (lt l) hT
  have I1:Inv X A σ (upd H s.heap.objs.size<|.tup [x,y]) {s with heap:=O}:=
   Cm (t':=s.toks) I t W (kh _) (show AR X.prog X.w _ _ _ (.tup [x,y]) from⟨by show 2<=sizeLine;decide,[u,v],.cons ru<|.cons rv .nil,_,cZ,rfl,0,rfl⟩)
  have R:K9 b1 O m J (i+1):=Iw s1 F (c1.keep (λo q=>j.extBut _ o D.a3 q) λo q=>j.extBut _ o d.1 q) λo q=>W J o (by simp only[lz,lY,mX,oY];exact d) q;have S:K9 b2 O n M (i+1):=Iw B N (c2.keep (λo q=>j.extBut _ o D.a4 q) λo q=>j.extBut _ o f.1 q) λo q=>W M o (by simp only[lz,lY,mX,oY];exact f) q;refine⟨.ref s.heap.objs.size,_,I1,rfl,⟨_,x,y,rfl,I.fresh,rfl,λbL ys' q1 q2=>by rw[En I q1 T,En I q2 Q];exact⟨hx,hy⟩⟩,⟨z'',j.extBut _ _ D.a1 (V _ _ D.a1 D.a5 D.a6 D.a7 p),⟨u,v,j.extBut _ _ D.a2 t1⟩,R,S⟩,λa G=>?_⟩;have n0:=(t a G).1;rw[jA]
  .exact n0
  .intro e;simp only[lz,lY,mX] at G;rcases G with rfl|rfl|rfl|rfl|rfl
   .exact lt l e.symm
   .exact lt p e.symm
   .exact lt C e.symm
   .exact absurd e (kf F.lt.1)
   .exact absurd e (kf N.lt.1)
 done:=by
  intro X hP hw L hc i A s σ H E I t st hg;obtain⟨l,p,⟨a0,b0,C⟩,s1,B⟩:=st;obtain⟨xs,ys,T,Q,hend⟩:=hg;have d:=xD I L T t;have f:=xD I L Q t;simp only[lz,lY,mX,oY] at d f;subst hP hw L;obtain⟨cq,gk,F⟩:=vm I T s1;obtain⟨b8,Z,N⟩:=vm I Q B;have e1:=gk.length;have e2:=Z.length;have AP:p5 z TI TO m n J M:=⟨D.a1,D.a2,D.a3,D.a4,D.a5,D.a6,D.a7,D.a8,D.a9,D.a10,d.1,d.2.2.1,d.2.2.2.1,d.2.2.2.2,f.1,f.2.2.1,f.2.2.2.1,f.2.2.2.2⟩
  refine AG AP l p C F N (λx y q r=>?_) λ_=>⟨I.ok.hd hc,λh' V=>⟨rfl,Cn (t':=s.toks) I t λa o g q=>?_⟩⟩
  .have z1:=(Kp.mp q).1;have z2:=(Kp.mp r).1;simp at z1 z2;omega
  simp only[lz,lY,mX,oY] at g;exact V a o g.1 g.2.2.1 g.2.2.2.1 g.2.2.2.2 q
 self:=λ_ _ _ _ _ st h=>v6 st.1 h
def OM{K:ju}{P O:B7}{g:Hp}{a1 r:iW}{f h:List V}{A B:List D}{s t:Bool}(l:Ib s K g P a1 f)(L:AJ K g O A f)(m:Ib t K g P r h)(Q:AJ K g O B h)(C: ∀a,P a->O a):
  Ks K (ItZ s t K a1 r) ((A.zip B).map λp=> .tup [p.1,p.2]) P O g:=by
 have sq: ∀{b:Bool} {a:iW} {f:List V},Ib b K g P a f-> ∀Hi,(∀a o,g a=XV o-> ¬P a->Hi a=XV o)->IA b K Hi a f:=λq Hi c=>Ay<|q.mono c λ_ z=>z;refine⟨λi d Hi hd c=>?_,λi Hi U c=>⟨f,h,sq l Hi c,sq m Hi c,by rw[L.length,Q.length];simp at U;lia⟩⟩;rw[ly] at hd;obtain⟨⟨X,Z⟩,h1,J⟩:=jL hd;obtain⟨M,N⟩:=Fo.mp h1;obtain⟨x,H,F⟩:=L.get M;obtain⟨y,I,R⟩:=Q.get N;refine⟨⟨f,h,x,y,sq l Hi c,sq m Hi c,H,I⟩,λv S k=>?_⟩;obtain⟨T,u,w,rfl,E,rfl,Y⟩:=k;obtain⟨g1,g2⟩:=Y f h (sq l Hi c)<|sq m Hi c;rw[H] at g1;cases g1;rw[I] at g2;cases g2;have ext:=lG (o:= .tup [x,y]) E;refine⟨ext,λW h1 G=>?_⟩;subst J;exact Rep.KJ ⟨jr,G T E⟩<|AJ.cons (Rep.mono (λb o e n=>ext b o<|c b o e λz=>n<|C b z) (λb j z=>h1 b j z) F)<|AJ.cons (Rep.mono (λb o e n=>ext b o<|c b o e λz=>n<|C b z) (λb j z=>h1 b j z) R) AJ.nil
section
variable {X:Cx}{d:kL}{n:Nat}{r:bO}
def V3:aB "zip"=Y (.type "zip"):=by decide+kernel
def aaf(K:ju)(g:TA):TI:=λk T R=>g k T λh a=> ∃e f b c i j,h=[.ref b,.ref c]/\IA e K a b i/\IA f K a c j/\R (ItZ e f K b c) a
def JV(Q:Inv X pins σ T s)(f:IA b X.K T l xs)(c:Src s.heap it l i g):K9 b s.heap it l i:=by
 cases b with
 |true=>
  rcases c with⟨a,_⟩|⟨_,o,h1,e,_⟩
  .exact a
  .obtain⟨_,_,p,_⟩:=Q.list f;obtain⟨h,g1,g2,_⟩:=p.isList;rw[h1] at g1;cases g1;rw[e] at g2;injection g2 with g2;exact absurd g2 (by decide)
 |false=>
  rcases c with⟨_,o,h1,e,_⟩|⟨a,_⟩
  .obtain⟨_,_,p,_⟩:=Q.tuple f;obtain⟨h,g1,g2,_⟩:=p;rw[h1] at g1;cases g1;rw[e] at g2;injection g2 with g2;exact absurd g2 (by decide)
  .exact a
def U4{a b:je}{J:TA}{p l:bO}(hg:Gl X "zip")(hm:X.mg "zip"=X0)(A:PA X [a,b] J)(hs:ac [a,b] X.env=(U,aT a X.env)::ac [b] X.env)(e9:(aH l<|ac [b] X.env).any (·.1)=U):
  PI X (.Tuple d n r) (.Call (.Name "zip" p) [a,b] [] l) (aaf X.K J):=by
 intro j s0 M N R L h;refine vR<|qd L hg hm V3<|Ap (BI (A l j s0 M N _ L h) λus s a'=>?_) hs e9;obtain⟨vs,H',I',r1,U',Y',T,G,xs,ys,hv,Q,O,q⟩:=a';subst hv;obtain⟨u,v,rfl,ru,rv⟩:=zq r1;cases ru;cases rv;obtain⟨Z,_,S⟩:=Em I' Q;obtain⟨D,_,P⟩:=Em I' O;refine P1 F.called_zip (by decide) (F.typeCall_zip_2 _ _) (F.newCall_zip_2 _ _) (λobj=>F.args_object_init_3 obj _ _) F.entry_zip_new (P9 T G Z.toArray D.toArray) ⟨S,P,λh1 f V k n W i E=>?_⟩;generalize t:({cls:= .type "tuple",data:= .seq #[.ref s.heap.objs.size,.ref h1.objs.size]}:fy)=g;generalize w:({cls:= .type "tuple",data:= .seq #[.none,.none]}:fy)=o4;have m:(f.push g).objs.size=f.objs.size+1:=rn ..;have z:((f.push g).push o4).objs.size=f.objs.size+2:=by rw[rn,m]
 generalize x:({cls:= .type "zip",data:= .fields #[.none,.bool U,.bool U,.ref f.objs.size,.ref (f.push g).objs.size]}:fy)=o5;have g5:(((f.push g).push o4).push o5).get? ((f.push g).push o4).objs.size=Y o5:=kG _ (by rw[<-x];rfl);have g4:(((f.push g).push o4).push o5).get? (f.push g).objs.size=Y o4:=kg _ (kG _ (by rw[<-w];rfl));have g3:(((f.push g).push o4).push o5).get? f.objs.size=Y g:=kg _ (kg _ (kG _ (by rw[<-t];rfl)));have y: ∀c o,f.get? c=Y o->(((f.push g).push o4).push o5).get? c=Y o:=λc o e=>kg _ (kg _ (kg _ e));have C:fm (((f.push g).push o4).push o5) ((f.push g).push o4).objs.size f.objs.size (f.push g).objs.size .none:=by show _=_;rw[g5,<-x]
 have t7:cH (((f.push g).push o4).push o5) f.objs.size (.ref s.heap.objs.size) (.ref h1.objs.size):=by show _=_;rw[g3,<-t]
 have x9:cH (((f.push g).push o4).push o5) (f.push g).objs.size .none .none:=by show _=_;rw[g4,<-w]
 have B:Inv X j M H' {s with heap:=((f.push g).push o4).push o5}:=I'.kept (t':=s.toks) λc o e=>y c o<|E c o<|n c o e;have d1:=V.keep (h':=((f.push g).push o4).push o5) (λo e=>y _ o (E _ o e)) λo e=>y _ o (E _ o e);have d2:=W.keep (h':=((f.push g).push o4).push o5) (λo e=>y _ o e) λo e=>y _ o e;refine⟨⟨_,C,rfl⟩,v6 (s:={s with heap:=((f.push g).push o4).push o5}) C ?_⟩;refine⟨((f.push g).push o4).objs.size,[((f.push g).push o4).objs.size,f.objs.size,(f.push g).objs.size,s.heap.objs.size,h1.objs.size],_,_,H',rfl,B,adT U' Y' _ _ _ _ _ T G ⟨?_,?_,?_,?_,?_,?_,?_,?_,?_,?_⟩,⟨C,t7,⟨_,_,x9⟩,JV B Q d1,JV B O d2⟩,λa A=>?_,q⟩
 .rw[z];exact kf<|Nat.lt_add_of_pos_right (by decide)
 .rw[z,m];exact kf<|se _
 .rw[z,i,k];exact kf (by
   have:s.heap.objs.size<s.heap.objs.size+1+1+2:=by lia
   exact this)
 .rw[z,i];exact kf (by
   have:h1.objs.size<h1.objs.size+1+2:=by lia
   exact this)
 .rw[m];exact kf<|se _
 .rw[i,k];exact pk (by
   have:s.heap.objs.size<s.heap.objs.size+1+1:=by lia
   exact this)
 .rw[i];exact pk<|se _
 .rw[m,i,k];exact pk (by
   have:s.heap.objs.size<s.heap.objs.size+1+1+1:=by lia
   exact this)
 .rw[m,i];exact pk (by
   have:h1.objs.size<h1.objs.size+1+1:=by lia
   exact this)
 .rw[k];exact kf<|se _
 .have le:s.heap.objs.size<=a:=by
   simp only[lz,lY,mX] at A;rcases A with rfl|rfl|rfl|rfl|rfl
   .rw[z,i,k];have:s.heap.objs.size<=s.heap.objs.size+1+1+2:=by lia
    exact this
   .rw[i,k];have:s.heap.objs.size<=s.heap.objs.size+1+1:=by lia
    exact this
   .rw[m,i,k];have:s.heap.objs.size<=s.heap.objs.size+1+1+1:=by lia
    exact this
   .exact kh _
   .rw[k];exact yO _
  exact I'.KS le<|I'.hok.fresh le
noncomputable def Iy(f g:FO):EV:=λa=>(f a).bind λp=>(g p.2).bind λq=>(res q.2 p.1).bind λx=>(res q.2 q.1).bind λy=>(AB x).bind λl=>(AB y).bind λm=>Y ((l.zip m).map λp=> .tup [p.1,p.2],q.2)
def aec{B:SB}{a b:je}{f g:FO}{p c:bO}(hg:Gl X "zip")(hm:X.mg "zip"=X0)(ha:PO X a f)(hb:PO X b g)(I:NQ B f)(L:NQ B g)(w:ac [a,b] X.env=(ZB,aT a X.env)::ac [b] X.env)(G:ac [b] X.env=(ZB,aT b X.env)::ac [] X.env)(J:(aH c<|ac [b] X.env).any (·.1)=ZB):
  Lb X B (.Tuple d n r) (.Call (.Name "zip" p) [a,b] [] c) (Iy f g):=PI.imp' (U4 hg hm (rH ha (rH hb xH G) w) w J) λσ H R F=>by
 obtain⟨δ,T,ds,δ',E,e,k⟩:=F;obtain⟨⟨K,δ1⟩,h1,e⟩:=iU e;obtain⟨⟨P,t⟩,h,e⟩:=iU e;obtain⟨x,M,e⟩:=iU e;obtain⟨y,N,e⟩:=iU e;obtain⟨l,U,e⟩:=iU e;obtain⟨m,Y,e⟩:=iU e;obtain⟨rfl,rfl⟩:=jz e;dsimp only at h;refine⟨δ,T,[K,P],t,E,?_,λS O T1 W=>?_⟩
 .simp only[kT,h1,h,tp]
 .have D:=W.len;rcases S with _|⟨v,_|⟨u,_|⟨_,_⟩⟩⟩<;>try cases D
  .obtain⟨a1,V,rfl,A,q⟩:=W.seq E (j:=0) AM AM M U λi o=>I _ _ _ (o▸h1);obtain⟨Q,Z,rfl,C,s⟩:=W.seq E (j:=1) AM AM N Y λi o=>L _ _ _ (o▸h);exact⟨_,_,a1,Q,V,Z,rfl,Ay A,Ay C,k _ O W.keep (W.er.mono (λ_ _ e _=>e) (λb _ z=>W.tt b z) λa z=>W.er.dom a<|W.tt a z) (OM A q C s λa z=>z.own)⟩
end
end PX
namespace TS
def Ask(M:h9)(A:jn)(G:iZ->Prop)(a:Nat->fq)(e:rd)(N:Nat)(lt:Nat->Nat->Bool):Prop:= ∀i j,i<N->j<N-> ∀s,G s-> ∀c,ah M A (EQ e (a i).1 (a j).1) (λb d=>G d/\b=lt i j) c s
structure Cs where
 M:h9
 A:jn
 E:jg->iZ->Prop
 G:iZ->Prop
 it:Nat->fq
 lt:Nat->Nat->Bool
 κ:rd
 N:Nat
 as: ∀i j,lt i j=YP->lt j i=ZB
 tr: ∀{i j k},lt j i=ZB->lt k j=ZB->lt k i=ZB
 ask:Ask M A G it κ N lt
section
variable {X:Cs}{α β:Type}{f:α->StateT uf eF β}{Q:β->uf->Prop}{st:uf}
def wp(X:Cs){α:Type}(m:StateT uf eF α)(Q:α->uf->Prop)(st:uf):Prop:= ∀s,X.G s->ah X.M X.A (m.run st) (λr a=>X.G a/\Q r.1 r.2) X.E s
def jf{a:β}(h:Q a st):wp X (pure a) Q st:=λs g=>by rw[Ha];exact jd ⟨g,h⟩
def kU{m:StateT uf eF α}(h:wp X m (λa c=>wp X (f a) Q c) st):wp X (m>>=f) Q st:=λs g=>by rw[StateT.run_bind];exact iX<|nX (h s g) (λr d b=>b.2 d b.1) λ_ _ e=>e
def Jg{m:StateT uf eF α}{Q b:α->uf->Prop}(h:wp X m Q st)(i: ∀a c,Q a c->b a c):wp X m b st:=λs g=>nX (h s g) (λr _ d=>⟨d.1,i _ _ d.2⟩) λ_ _ e=>e
def jM{c:Prop}[Decidable c]{t e:StateT uf eF β}(h1:c->wp X t Q st)(a: ¬c->wp X e Q st):wp X (if c then t else e) Q st:=by split<;>simp_all
def pP{f:uf->StateT uf eF β}(h:wp X (f st) Q st):wp X (get>>=f) Q st:=kU λs g=>by rw[StateT.run_get];exact jd ⟨g,h⟩
def wF{g:uf->uf}{f:PUnit->StateT uf eF β}(h:wp X (f ⟨⟩) Q (g st)):wp X (modify g>>=f) Q st:=kU λs g=>by rw[StateT.run_modify];exact jd ⟨g,h⟩
def Jh{m:eF α}(h: ∀s,X.G s->ah X.M X.A m (λa b=>X.G b/\wp X (f a) Q st) X.E s):wp X (liftM m>>=f) Q st:=kU λs g=>by show ah X.M X.A ((StateT.lift m:StateT uf eF α).run st) _ X.E s;rw[StateT.run_lift];exact iX<|nX (h s g) (λa b c=>jd c) λ_ _ e=>e
def ve{x:String}{f:Unit->StateT uf eF β}(h:wp X (f ()) Q st):wp X (liftM (rule x)>>=f) Q st:=Jh λs g=>uo ⟨g,h⟩
def Qn{e:Nat}{g:Nat->α->StateT uf eF (ForInStep α)}{O:Nat->α->uf->Prop}{T:α->uf->Prop}
  (m: ∀i c st,i<e->O i c st->wp X (g i c) (λr b=>match r with| .done d=>T d b| .yield d=>O (i+1) d b) st)(l: ∀c st,O e c st->T c st):
  ∀(n a:Nat) (c:α) (st:uf),a+n=e->O a c st->wp X (forIn (bw a n 1) c g) T st:=by
 intro p
 induction p with
 |zero=>intro a c st rfl h;exact jf<|l _ _ h
 |succ n o=>
  intro a c st q h;rw[wu,eI];refine kU<|Jg (m a c st (by lia) h) λr b k=>?_
  cases r with
  |done j=>exact jf k
  |yield j=>exact o _ j b (by lia) k
def mR{g:Nat->α->StateT uf eF (ForInStep α)}(O:Nat->α->uf->Prop)(T:α->uf->Prop){a b:Nat}{c:α}(h:O a c st)
  (l: ∀i c st,i<a+(b-a)->O i c st->wp X (g i c) (λr e=>match r with| .done d=>T d e| .yield d=>O (i+1) d e) st)
  (j: ∀c st,O (a+(b-a)) c st->T c st)(k: ∀c st,T c st->wp X (f c) Q st):wp X (forIn [a:b] c g>>=f) Q st:=by
 refine kU<|Jg ?_ k;rw[Std.Legacy.Range.forIn_eq_forIn_range'];exact Qn l j _ _ _ _ (by simp[Std.Legacy.Range.size]) h
noncomputable abbrev ar(X:Cs)(l:kj):Array Keyed:=(l.map X.it).toArray
def mE{l:kj}{i x:Nat}{f:fq->StateT uf eF β}(e:l[i]?=Y x)(h:wp X (f<|X.it x) Q st):wp X (elem' (ar X l) i>>=f) Q st:=kU (by rw[elem'_eq,show(ar X l)[i]?=Y (X.it x) by simp[e]];exact jf h)
def Fu{i j:Nat}{f:Option Bool->StateT uf eF β}(hk:kindOf st=X.κ)(k:i<X.N)(l:j<X.N)(h: ∀b,X.lt i j=b->wp X (f<|Y b) Q st):wp X (lt' (X.it i) (X.it j)>>=f) Q st:=kU (by rw[lt'_eq];refine pP ?_;rw[hk];refine Jh λs g=>rW<|nX (X.ask i j k l s g λ_ _=>False) (λb m c=>?_) λe m d=>d.elim;obtain⟨a,rfl⟩:=c;exact⟨a,jf<|h _ rfl⟩)
structure Rp(X:Cs)(q:Array (Nat×Nat×Nat))(L:kj)(st:uf):Prop where
 a:gb st=ar X L
 k:kindOf st=X.κ
 f:gw st=X0
 q:pendingOf st=q
 p:L.Perm (au X.N)
def Rp.n{q:Array (Nat×Nat×Nat)}{L:kj}(R:Rp X q L st){i x:Nat}(e:L[i]?=Y x):x<X.N:=by simpa using R.p.mem_iff.mp<|mB e
def Fv{q:Array (Nat×Nat×Nat)}{L:kj}(R:Rp X q L st){i j x y:Nat}{f:Option Bool->StateT uf eF β}(c:L[i]?=Y x)(d:L[j]?=Y y)(h: ∀b,X.lt x y=b->wp X (f<|Y b) Q st):wp X (ltAt' i j>>=f) Q st:=kU (by rw[ltAt'_eq];refine pP ?_;rw[R.a];exact mE c<|mE d<|by rw[<-bind_pure (lt' _ _)];exact Fu R.k (R.n c) (R.n d) λb e=>jf<|h b e)
def abK{α:Type}(T A R:List α){d:Nat}(hd:d=(A7 A) / 2):mirror (T++(A++R)).toArray (A7 T) (A7 T+A7 A) d=(T++(A.reverse++R)).toArray:=by
 have hd:d=(A7 T+A7 A-A7 T) / 2:=by lia
 subst hd;apply Array.ext_getElem?;intro k;rw[getElem?_mirror_all<|by simp];simp only[List.getElem?_toArray];by_cases h1:k<A7 T
 .rw[jv<|by lia,qw h1,qw h1]
 .obtain⟨k,rfl⟩:=Nat.exists_eq_add_of_le<|ro h1;rw[pN (by lia) (l₂:=A.reverse++R),DN];by_cases a:k<A7 A
  .rw[jl<|by lia,pN<|by lia,qw<|by lia,qw<|by simpa using a,List.getElem?_reverse a]
   congr 1;lia
  .rw[jv<|by lia,pN<|by lia,DN,pN<|by lia,pN<|by simpa using a,Ml]
def abT{α:Type}(R:List α)(x:α): ∀(A T:List α) {i:Nat},i=A7 T+A7 A->bubble (T++(A++x::R)).toArray i (A7 A)=(T++(x::(A++R))).toArray:=by
 intro c
 induction c with
 |nil=>intro T i h;exact H
 |cons a A b=>
  intro T i h;have:=b (T++[a]) (i:=i) (by simp at h ⊢;lia);rw[lg,bubble_succ,show T++(a::A++x::R)=T++[a]++(A++x::R) by simp,this];have e:i-A7 A=A7 T+1:=by simp at h;lia
  rw[e,nb];simp[Array.swapIfInBounds]
variable {q:Array (Nat×Nat×Nat)}{T A R:kj}{i j x:Nat}
def MK{b:Ci}{L a:kj}(S:Rp X q L st)(e:b=ar X a)(p:a.Perm L):Rp X q a (setArr st b):=⟨e,S.k,S.f,S.q,p.trans S.p⟩
def HH{f:Unit->StateT uf eF β}(S:Rp X q (T++(A++R)) st)(c:i=A7 T)(e:j=A7 T+A7 A)(h: ∀b,Rp X q (T++(A.reverse++R)) b->wp X (f ()) Q b):wp X (Op i j>>=f) Q st:=by rw[reverseSlice'_eq];subst c e;refine wF<|h _ (MK S ?_<|((Aj A).append_right R).append_left T);have:=abK (T.map X.it) (A.map X.it) (R.map X.it) (d:=(A7 T+A7 A-A7 T) / 2) (by simp);simpa[ar,S.a] using this
def Uj{f:Unit->StateT uf eF β}(S:Rp X q (T++(A++x::R)) st)(c:i=A7 T+A7 A)(d:j=A7 T)(h: ∀b,Rp X q (T++(x::(A++R))) b->wp X (f ()) Q b):wp X (moveDown' i j>>=f) Q st:=by rw[moveDown'_eq];subst c d;refine wF<|h _ (MK S ?_<|P7.symm.append_left T);have:=abT (R.map X.it) (X.it x) (A.map X.it) (T.map X.it) (i:=A7 T+A7 A) (by simp);simpa[ar,S.a] using this
end
abbrev Cs.le(X:Cs)(i j:Nat):Prop:=X.lt j i=U
section
variable {X:Cs}{o:Type}{Q:o->uf->Prop}{st:uf}{q:Array (Nat×Nat×Nat)}{T A B D R L:kj}{i j x y:Nat}{r:Nat->Nat->Prop}
def Lr(h:i=A7 T+A7 A):(T++(A++x::R))[i]?=Y x:=by subst h;simp
def ix1(h:i=A7 T+A7 A+1):(T++(A++x::y::R))[i]?=Y y:=by subst h;rw[<-tJ,pN<|by simp];simp
def FL(u:D.Pairwise r)(h: ∀z∈D,r z y):(D++[y]).Pairwise r:=vd.mpr ⟨u,Mk _ _,λa c b d=>Je.mp d▸h a c⟩
def Ge(e: ∀{a b c},r a b->r b c->r a c)(u:(D++[x]).Pairwise r)(h:r x y): ∀z∈D++[x],r z y:=λz d=>by
 rcases tM.mp d with d|d
 .exact e ((vd.mp u).2.2 z d x jW) h
 .rw[Je.mp d];exact h
def MO{g:Nat->Option (Option Nat)×Nat->StateT uf eF (ForInStep<|Option (Option Nat)×Nat)}{f:Option (Option Nat)×Nat->StateT uf eF o}{lo n m:Nat}
  (p: ∀i n,g i (C,n)=(ltAt' (lo+n) (lo+n-1)>>=λx=>match x with|some b=>if b=J then pure (.done (C,n)) else pure (.yield (C,n+1))|_=>pure<|.done (Y C,n)))
  (S:Rp X q (T++(A++x::R)) st)(v:(A7 T)=lo)(t:n=A7 A+1)(a:m=n+R.length)(u:(A++[x]).Pairwise X.le)
  (h: ∀A x R,Rp X q (T++(A++x::R)) st->m=A7 A+1+R.length->(A++[x]).Pairwise X.le->(∀y l,R=y::l->X.lt y x=J)->wp X (f (C,A7 A+1)) Q st):wp X (forIn [n:m] (C,n) g>>=f) Q st:=by
 refine mR (λi c s=>s=st/\c=(C,i)/\ ∃A x R,Rp X q (T++(A++x::R)) st/\i=A7 A+1/\m=i+R.length/\(A++[x]).Pairwise X.le)
  (λc s=>s=st/\ ∃A x R,Rp X q (T++(A++x::R)) st/\c=(C,A7 A+1)/\m=A7 A+1+R.length/\(A++[x]).Pairwise X.le/\ ∀y l,R=y::l->X.lt y x=J) ⟨rfl,rfl,A,x,R,S,t,a,u⟩ ?_ ?_ ?_
 .rintro i c s d ⟨rfl,rfl,A,x,R,S,rfl,h1,u⟩;rw[p];obtain⟨y,l,rfl⟩:=uB (l:=R) (by lia);refine Fv S (ix1<|by lia) (Lr<|by lia) λb e=>?_
  cases b with
  |true=>exact jf ⟨rfl,A,x,_,S,rfl,h1,u,λ_ _ k=>by cases k;exact e⟩
  |false=>exact jf ⟨rfl,rfl,A++[x],y,l,by simpa using S,by simp,by simp at h1;lia,FL u<|Ge X.tr u e⟩
 .rintro c s ⟨rfl,rfl,A,x,R,S,d,h1,u⟩;exact⟨rfl,A,x,R,S,by rw[d],by lia,u,λy l e=>by subst e;simp at h1;lia⟩
 .rintro c s ⟨rfl,A,x,R,S,rfl,a,u,e⟩;exact h A x R S a u e
def ML{c:Prop}[Decidable c]{k:StateT uf eF o}(S:Rp X q (T++(A++R)) st)(e:i=A7 T)(f:j=A7 T+A7 A)(d: ¬c->A7 A=1)(h: ∀b,Rp X q (T++(A.reverse++R)) b->wp X k Q b):wp X (if c then Op i j>>=λ_=>k else k) Q st:=jM (λ_=>HH S e f h) λz=>h _ (by obtain⟨a,rfl⟩:=Wm.mp<|d z;exact S)
def dnT(d:(A++B).Pairwise λa b=>X.le b a)(u:B.Pairwise X.le):(A++B.reverse).Pairwise λa b=>X.le b a:=by rw[vd] at d ⊢;exact⟨d.1,HD.mpr u,λa c b e=>d.2.2 a c b<|ee.mp e⟩
def Cs.rf(X:Cs)(i:Nat):X.le i i:=Bool.eq_false_iff.mpr λh=>oC<|h.symm.trans<|X.as i i h
def S0{k m:StateT uf eF o}(P:uf->Prop)(b:(∀a,P a->wp X k Q a)->wp X m Q st)(hk: ∀a,P a->wp X k Q a):wp X m Q st:=b hk
def adQ{lo m:Nat}{Q:Option Nat->uf->Prop}(S:Rp X q (T++x::R) st)(p:(A7 T)=lo)(f:m=1+R.length)(h: ∀A R g,Rp X q (T++(A++R)) g->A≠[]->A.Pairwise X.le->m=A7 A+R.length->Q (Y<|A7 A) g):wp X (countRun' lo m) Q st:=by
 have fin: ∀A x R g,Rp X q (T++(A++x::R)) g->m=A7 A+1+R.length->(A++[x]).Pairwise X.le->Q (Y<|A7 A+1) g:=λA x R g S f u=>by simpa using h (A++[x]) R g (by simpa using S) (by simp) u (by simpa using f)
 have ge: ∀{a b c},X.le b a->X.le c b->X.le c a:=λh1 t=>X.tr t h1;rw[countRun'_eq];dsimp only;refine MO (λ_ _=>rfl) (A:=[]) S p H f (by simp) λA x R S f u O=>?_;refine jM (λ_=>jf<|fin A x R _ S f u) λI=>?_;obtain⟨y,l,rfl⟩:=uB (l:=R) (by simp at I;lia);apply S0 λg=>Rp X q (T++((A++[x]).reverse++y::l)) g/\ ∀z∈A++[x],X.le y z
 .intro F;have w:=X.as _ _ (O y l H);refine jM (λh1=>?_) λh1=>F _ ?_
  .obtain⟨a,A,rfl⟩:=uB (l:=A)<|Nat.lt_of_succ_lt_succ h1;refine Fv S (x:=a) (y:=x) (Lr (A:=[])<|by simpa using p.symm) (Lr<|by simp;lia) λb e=>?_
   cases b with
   |true=>exact jf<|fin _ x _ _ S f u
   |false=>
    refine HH (A:=a::A++[x]) (by simpa using S) p.symm (by simp;lia) λg n=>F _ ⟨n,λz k=>X.tr (X.tr w e) ?_⟩;rcases lz.mp k with rfl|k
    .exact X.rf _
    .exact(Fq.mp u).1 z k
  .obtain rfl:=Ai (l:=A) (by simpa using h1);exact⟨S,by simpa using w⟩
 .rintro st ⟨S,d⟩;have t:(A7 A)+2<=m:=by simp at f;lia
  dsimp only
  refine ve (mR (λi c s=> ∃M B x R,c=(C,i,A7 B)/\Rp X q (T++(M++(B++x::R))) s/\i=A7 M+A7 B+1/\m=i+R.length/\(M++(B++[x])).Pairwise (λa b=>X.le b a)/\(B++[x]).Pairwise X.le)
   (λc s=> ∃M B x R,c=(C,A7 M+A7 B+1,A7 B)/\Rp X q (T++(M++(B++x::R))) s/\m=A7 M+A7 B+1+R.length/\(M++(B++[x])).Pairwise (λa b=>X.le b a)/\(B++[x]).Pairwise X.le) ⟨(A++[x]).reverse,[],y,l,rfl,S,by simp,by simp at f ⊢;lia,?_,by simp⟩ ?_ ?_ ?_)
  .exact FL (HD.mpr u) λz k=>d z<|ee.mp k
  .rintro i c s v ⟨M,B,x,R,rfl,S,rfl,f,d,u⟩;obtain⟨y,l,rfl⟩:=uB (l:=R) (by lia);rw[<-tJ] at S;refine Fv S (ix1<|by simp;lia) (Lr<|by simp;lia) λb e=>?_
   cases b with
   |true=>refine ML (T:=T++M) (A:=B++[x]) (by simpa using S) (by simp;lia) (by simp;lia) (λz=>by simp at z ⊢;exact z) λg n=>jf ⟨M++(B++[x]).reverse,[],y,l,rfl,by simpa using n,by simp;lia,by simp at f;lia,FL (dnT d u) λz k=>?_,by simp⟩;rw[<-tJ] at d;exact Ge (r:=λa b=>X.le b a) ge d (X.as _ _ e) z (by simpa[or_comm] using k)
   |false=>
    refine Fv S (Lr<|by simp;lia) (ix1<|by simp;lia) λb N=>?_
    cases b with
    |true=>exact jf ⟨M,B,x,_,rfl,by simpa using S,f,d,u⟩
    |false=>refine jf ⟨M,B++[x],y,l,by simp,by simpa using S,by simp;lia,by simp at f;lia,?_,FL u<|Ge X.tr u e⟩;rw[<-tJ] at d ⊢;rw[<-tJ];exact FL d<|Ge (r:=λa b=>X.le b a) ge d N
  .rintro c s ⟨M,B,x,R,rfl,S,v,f,d,u⟩;exact⟨M,B,x,R,by rw[v],S,by lia,d,u⟩
  .rintro c s ⟨M,B,x,R,rfl,S,f,d,u⟩;refine ML (T:=T++M) (A:=B++[x]) (by simpa using S) (by simp;lia) (by simp;lia) (λz=>by simp at z ⊢;exact z) λg n=>?_;refine HH (T:=T) (A:=M++(B++[x]).reverse) (by simpa using n) p.symm (by simp;lia) λg n=>?_;have u:=HD.mpr<|dnT d u;rcases DM (M++(B++[x]).reverse).reverse with e|⟨E,G,e⟩
   .simp at e
   .rw[e,DL] at n u;have k:=nE dq e;simp at k;exact MO (λ_ _=>rfl) (A:=E) (x:=G) (R:=R) (by simpa using n) p (by dsimp only;lia) (by dsimp only;lia) u λA x R S f u _=>jf<|fin A x R _ S f u
end
section
variable {X:Cs}{g:Type}{Q:g->uf->Prop}{st:uf}{q:Array (Nat×Nat×Nat)}{T A B D R L:kj}{i j x y:Nat}{p:Nat->Bool}
abbrev Mo(X:Cs)(p:Nat->Bool):Prop:= ∀a b,X.le a b->p b=J->p a=J
abbrev Lo(p:Nat->Bool)(A:kj)(a:Nat):Prop:= ∀i,i<a->p (A.getD i 0)=J
abbrev Hi(p:Nat->Bool)(A:kj)(a:Nat):Prop:= ∀i,a<=i->i<A7 A->p (A.getD i 0)=U
def Og:Mo X λz=>!X.lt x z:=λa b h c=>by simp only[fU] at c ⊢;exact X.tr h c
def X3:Mo X λz=>X.lt z x:=λa b h c=>by
 cases e:X.lt a x with
 |true=>exact e
 |false=>exact oC<|(X.tr e h).symm.trans c
def upD(u:A.Pairwise X.le)(b:i<=j)(h:j<A7 A):X.le (A.getD i 0) (A.getD j 0):=by
 have a:i<(A7 A):=by lia
 simp only[md,kK h,kK a,fO];rcases na b with e|rfl
 .exact PZ.mp u i j a h e
 .exact X.rf _
def F9(u:A.Pairwise X.le)(m:Mo X p)(h:i<A7 A)(e:p (A.getD i 0)=J):Lo p A (i+1):=λj a=>m _ _ (upD u (by lia) h) e
def Gj(u:A.Pairwise X.le)(m:Mo X p)(e:p (A.getD i 0)=U):Hi p A i:=λj a h=>by
 cases c:p (A.getD j 0) with
 |false=>rfl
 |true=>exact(m _ _ (upD u a h) c).symm.trans e
def JO(h:Lo p A i): ∀z∈A.take i,p z=J:=λz a=>by obtain⟨k,hk,rfl⟩:=DK a;have hk:=tL▸hk;have:=h k (by lia);simpa[show k<(A7 A) by lia] using this
def JX(h:Hi p A i): ∀z∈A.drop i,p z=U:=λz a=>by obtain⟨k,hk,rfl⟩:=DK a;simp at hk;have:=h (i+k) (by lia) (by lia);simpa[show i+k<(A7 A) by lia] using this
def ixD(a:(A7 T)=j)(h:i<A7 A):(T++(A++R))[j+i]?=Y (A.getD i 0):=by subst a;rw[pN<|by lia,DN,qw h];simp[h]
def aae(u:A.Pairwise X.le)(h1: ∀z∈A.take i,(!X.lt y z)=J)(e: ∀z∈A.drop i,(!X.lt y z)=U):(A.take i++y::A.drop i).Pairwise X.le:=by
 rw[<-wt i A,vd] at u;refine vd.mpr ⟨u.1,Fq.mpr ⟨λz f=>X.as _ _ (by simpa using e z f),u.2.1⟩,λa d b c=>?_⟩;rcases lz.mp c with rfl|c
 .simpa using h1 a d
 .exact u.2.2 a d b c
def Uk{lo n k:Nat}{Q:Bool->uf->Prop}(S:Rp X q (T++(A++R)) st)(N:(A7 T)=lo)(E:(A7 A)=k)(O:0<k)(o:n<=k+R.length)(hk:k<=n)(u:A.Pairwise X.le)
  (h: ∀A R w,Rp X q (T++(A++R)) w->A7 A=n->A.Pairwise X.le->Q J w):wp X (binarySort' lo n k) Q st:=by
 rw[binarySort'_eq,show max k 1=k by lia];dsimp only;refine mR (λk c s=>c=(C,())/\ ∃A R,Rp X q (T++(A++R)) s/\(A7 A)=k/\A.Pairwise X.le/\n<=k+R.length) (λc s=>c=(C,())/\ ∃A R,Rp X q (T++(A++R)) s/\(A7 A)=n/\A.Pairwise X.le) ⟨rfl,A,R,S,E,u,o⟩ ?_ ?_ ?_
 .rintro k c s m ⟨rfl,A,R,S,rfl,u,o⟩;obtain⟨y,l,rfl⟩:=uB (l:=R) (by lia)
  refine mR (λi c r=>r=s/\ ∃a b,c=(C,a,b)/\a<=b/\b<=A7 A/\b<=a+(A7 A-i)/\Lo (λz=>!X.lt y z) A a/\Hi (λz=>!X.lt y z) A b)
   (λc r=>r=s/\ ∃a b,c=(C,a,b)/\a<=A7 A/\Lo (λz=>!X.lt y z) A a/\Hi (λz=>!X.lt y z) A a) ⟨rfl,0,A7 A,rfl,by lia,by lia,by lia,λi h=>by lia,λi h G=>by lia⟩ ?_ ?_ ?_
  .rintro i c _ m ⟨rfl,a,b,rfl,h1,t,v,d,f⟩;dsimp only;refine jM (λe=>jf ⟨rfl,a,b,rfl,by lia,d,(show a=b by lia)▸f⟩) λe=>?_;refine Fv S (Lr<|by lia) (ixD N<|by lia) λc e=>?_
   cases c with
   |true=>exact jf ⟨rfl,a,_,rfl,by lia,by lia,by lia,d,Gj u Og<|by rw[e];rfl⟩
   |false=>exact jf ⟨rfl,_,b,rfl,by lia,by lia,by lia,F9 u Og (by lia)<|by rw[e];rfl,f⟩
  .rintro c _ ⟨rfl,a,b,rfl,h1,t,v,d,f⟩;exact⟨rfl,a,b,rfl,by lia,d,(show a=b by lia)▸f⟩
  .rintro c _ ⟨rfl,a,b,rfl,h1,t,v⟩;refine Uj (T:=T++A.take a) (A:=A.drop a) (by rw[tJ,<-tJ (A.take a),wt];exact S) (by simp;lia) (by simp;lia) λr M=>jf ⟨rfl,A.take a++y::A.drop a,l,by simpa using M,by simp;lia,aae u (JO t)<|JX v,by simp at o;lia⟩
 .rintro c s ⟨rfl,A,R,S,m,u,o⟩;exact⟨rfl,A,R,S,by lia,u⟩
 .rintro c s ⟨rfl,A,R,S,m,u⟩;exact jf<|h A R s S m u
noncomputable def R5:Bool->fq->Array fq->Nat->Nat->Nat->StateT uf eF (Option Nat):=sortPriv%PySem.Builtin.gallop
noncomputable def Oh:Array fq->Array fq->StateT uf eF (Array fq):=sortPriv%PySem.Builtin.mergeLo
noncomputable def Oi:Array fq->Array fq->StateT uf eF (Array fq):=sortPriv%PySem.Builtin.mergeHi
noncomputable def Qw:Nat->StateT uf eF Unit:=sortPriv%PySem.Builtin.setMinGallop
def Xd{k:Nat->Nat->StateT uf eF g}{m:StateT uf eF g}(P:Nat->Nat->Prop)(c:(∀a b,P a b->wp X (k a b) Q st)->wp X m Q st)(hk: ∀a b,P a b->wp X (k a b) Q st):wp X m Q st:=c hk
noncomputable abbrev gp(X:Cs)(left:Bool)(x z:Nat):Bool:=if left=J then X.lt z x else !X.lt x z
def Ef{left:Bool}{base:Nat}{f:Option Bool->StateT uf eF g}(hk:kindOf st=X.κ)(k: ∀z∈A,z<X.N)(c:x<X.N)(l:(A7 T)=base)(a:i<A7 A)(h: ∀b,gp X left x (A.getD i 0)=b->wp X (f<|Y b) Q st):
  wp X ((elem' (ar X<|T++(A++R)) (base+i)>>=λz=>if left=J then lt' z (X.it x) else lt' (X.it x) z>>=λr=>pure<|vl (λx=>!x) r)>>=f) Q st:=by
 have d:A.getD i 0<X.N:=k _ (by simp[a]);refine kU<|mE (ixD l a) ?_
 cases left with
 |true=>rw[jl H,<-bind_pure (lt' _ _)];exact Fu hk d c λb e=>jf<|h b e
 |false=>exact Fu hk c d λb e=>jf<|h (!b)<|nE not e
def yV{left:Bool}{base n hint:Nat}{Q:Option Nat->uf->Prop}(hk:kindOf st=X.κ)(t: ∀z∈A,z<X.N)(w:x<X.N)(u:A.Pairwise X.le)(G:L=T++(A++R))(v:(A7 T)=base)(H:(A7 A)=n)(C:hint<n)
  (h: ∀r,r<=n->(∀z∈A.take r,gp X left x z=YP)->(∀z∈A.drop r,gp X left x z=U)->Q (Y r) st):wp X (R5 left (X.it x) (ar X L) base n hint) Q st:=by
 subst G
 have m:Mo X (gp X left x):=by
  cases left with
  |true=>exact X3
  |false=>exact Og
 apply Xd λa b=>a<=b/\b<=n/\Lo (gp X left x) A a/\Hi (gp X left x) A b
 .intro F;refine Ef hk t w v (H▸C) λb e=>?_;refine jM (λz=>?_) λz=>?_
  .subst z
   refine mR (λi c s=>st=s/\ ∃a b,c=(X0,a,b)/\a<b/\i<b/\hint+a<n/\Lo (gp X left x) A (hint+a+1)) (λc s=>st=s/\ ∃a b,c=(X0,a,b)/\a<b/\hint+a<n/\Lo (gp X left x) A (hint+a+1)/\(n-hint<=b\/Hi (gp X left x) A (hint+b)))
    ⟨rfl,0,1,rfl,by lia,by lia,C,F9 u m (H▸C) e⟩ ?_ ?_ ?_
   .rintro i c _ E ⟨rfl,a,b,rfl,h1,o,l,f⟩;dsimp only;refine jM (λz=>jf ⟨rfl,a,b,rfl,h1,l,f,.inl z⟩) λz=>Ef hk t w v (by lia) λc e=>?_
    cases c with
    |true=>exact jf ⟨rfl,_,_,rfl,by lia,by lia,by lia,F9 u m (by lia) e⟩
    |false=>exact jf ⟨rfl,a,b,rfl,h1,l,f,.inr<|Gj u m e⟩
   .rintro c _ ⟨rfl,a,b,rfl,h1,o,l,f⟩;exact⟨rfl,a,b,rfl,h1,l,f,.inl<|by lia⟩
   .rintro c _ ⟨rfl,a,b,rfl,h1,l,f,k⟩;dsimp only;generalize I:hint+a+1=c at*;generalize O:hint+min b (n-hint)=d;refine F c d ⟨by lia,by lia,f,λi J M=>?_⟩;rcases k with k|k
    .lia
    .exact k i (by lia) M
  .refine mR (λi c s=>st=s/\ ∃a b,c=(X0,a,b)/\a<b/\i<b/\a<=hint/\Hi (gp X left x) A (hint-a)) (λc s=>st=s/\ ∃a b,c=(X0,a,b)/\a<b/\a<=hint/\Hi (gp X left x) A (hint-a)/\(hint<b\/Lo (gp X left x) A (hint-b+1)))
    ⟨rfl,0,1,rfl,by lia,by lia,by lia,Gj u m<|by simpa[z] using e⟩ ?_ ?_ ?_
   .rintro i c _ E ⟨rfl,a,b,rfl,h1,o,l,f⟩;dsimp only;refine jM (λz=>jf ⟨rfl,a,b,rfl,h1,l,f,.inl z⟩) λz=>Ef hk t w v (by lia) λc e=>?_
    cases c with
    |true=>exact jf ⟨rfl,a,b,rfl,h1,l,f,.inr<|F9 u m (by lia) e⟩
    |false=>exact jf ⟨rfl,_,_,rfl,by lia,by lia,by lia,Gj u m e⟩
   .rintro c _ ⟨rfl,a,b,rfl,h1,o,l,f⟩;exact⟨rfl,a,b,rfl,h1,l,f,.inl<|by lia⟩
   .rintro c _ ⟨rfl,a,b,rfl,h1,l,f,k⟩;dsimp only;generalize O:hint-a=d at*;generalize I:hint+1-min b (hint+1)=c;refine F c d ⟨by lia,by lia,λi J=>?_,f⟩;rcases k with k|k
    .lia
    .exact k i (by lia)
 .rintro a b ⟨h1,o,l,f⟩;refine mR (λi c s=>st=s/\ ∃a b,c=(X0,a,b)/\a<=b/\b<=n/\b<=a+(n-i)/\Lo (gp X left x) A a/\Hi (gp X left x) A b) (λc s=>st=s/\ ∃a,c=(X0,a,a)/\a<=n/\Lo (gp X left x) A a/\Hi (gp X left x) A a) ⟨rfl,a,b,rfl,h1,o,by lia,l,f⟩ ?_ ?_ ?_
  .rintro i c _ E ⟨rfl,a,b,rfl,h1,o,l,f,k⟩;refine jM (λz=>?_) λz=>Ef hk t w v (by dsimp only at z ⊢;lia) λc e=>?_
   .have:a=b:=by dsimp only at z;lia
    subst this;exact jf ⟨rfl,a,rfl,o,f,k⟩
   .dsimp only at z
    cases c with
    |true=>exact jf ⟨rfl,_,b,rfl,by dsimp only;lia,o,by dsimp only;lia,F9 u m (by dsimp only;lia) e,k⟩
    |false=>exact jf ⟨rfl,a,_,rfl,by dsimp only;lia,by dsimp only;lia,by dsimp only;lia,f,Gj u m e⟩
  .rintro c _ ⟨rfl,a,b,rfl,h1,o,l,f,k⟩;have:a=b:=by lia
   subst this;exact⟨rfl,a,rfl,o,f,k⟩
  .rintro c _ ⟨rfl,a,rfl,o,f,k⟩;exact jf<|h a o (JO f)<|JX k
end
section
variable {X:Cs}{β:Type}{Q:β->uf->Prop}{st:uf}{pq:Array (Nat×Nat×Nat)}{q r L Z a b o k:kj}{i j x y:Nat}{le:Nat->Nat->Prop}{out:Ci}
structure MG(le:Nat->Nat->Prop)(Z a b o:kj):Prop where
 s:o.Pairwise le
 c: ∀x∈o,∀y∈a++b,le x y
 p:(o++(a++b)).Perm Z
 ua:a.Pairwise le
 ub:b.Pairwise le
def MG.put(m:MG le Z (k++a) b o)(h: ∀x∈k,∀y∈b,le x y):MG le Z a b (o++k):=by
 have f:=vd.mp m.ua;refine⟨vd.mpr ⟨m.s,f.1,λx e y d=>m.c x e y<|by simp[d]⟩,λx e y d=>?_,by simpa using m.p,f.2.1,m.ub⟩;rcases tM.mp e with e|e
 .refine m.c x e y ?_;simp at d ⊢;exact .inr d
 .rcases tM.mp d with d|d
  .exact f.2.2 x e y d
  .exact h x e y d
def Mg(X:Cs)(le:Nat->Nat->Prop)(Z a b:kj)(out:Ci):Prop:= ∃o,out=ar X o/\MG le Z a b o
def Rs(X:Cs)(Z:kj)(out:Ci):Prop:= ∃o,out=ar X o/\o.Pairwise X.le/\o.Perm Z
def Mg.sw(m:Mg X le Z a b out):Mg X le Z b a out:=by obtain⟨o,e,m⟩:=m;exact⟨o,e,m.s,λx d y f=>m.c x d y<|by simpa[or_comm] using f,(SR.append_left o).trans m.p,m.ub,m.ua⟩
def Mg.put(m:Mg X le Z a b out){a':kj}{c:Ci}(e:a=k++a')(h: ∀x∈k,∀y∈b,le x y)(d:c=out++ar X k):Mg X le Z a' b c:=by obtain⟨o,rfl,m⟩:=m;exact⟨o++k,by simpa[ar] using d,(e▸m).put h⟩
def Mg.a1(m:Mg X le Z (q.drop i) b out)(c:i<A7 q)(h: ∀y∈b,le q[i] y):Mg X le Z (q.drop<|i+1) b (out.push<|X.it q[i]):=m.put (k:=[q[i]]) (Al c) (by simpa using h) (by simp[ar])
def Mg.ak(m:Mg X le Z (q.drop i) b out)(h: ∀x∈(q.drop i).take j,∀y∈b,le x y):Mg X le Z (q.drop<|i+j) b (out++(ar X q).extract i (i+j)):=m.put (by rw[<-List.drop_drop,wt]) h (by simp[ar,DJ])
def Mg.fin(m:Mg X X.le Z (q.drop i) (r.drop j) out)(h: ∀x∈q.drop i,∀y∈r.drop j,X.le x y):Rs X Z (out++(ar X q).extract i (ar X q).size++(ar X r).extract j (ar X r).size):=by obtain⟨o,e,m⟩:=((m.put (k:=q.drop i) (a':=[]) (by simp) h H).sw).put (k:=r.drop j) (a':=[]) (by simp) (by simp) H;exact⟨o,by rw[<-e];simp[ar,DJ,ew],m.s,by simpa using m.p⟩
def Mg.end(m:Mg X X.le Z (q.drop i) (r.drop j) out)(h:(A7 q)<=i\/(A7 r)<=j):Rs X Z (out++(ar X q).extract i (ar X q).size++(ar X r).extract j (ar X r).size):=m.fin λx c y d=>by
 rcases h with h|h
 .rw[Ak h] at c;cases c
 .rw[Ak h] at d;cases d
def Mg.hd(m:Mg X le Z (q.drop i) b out)(f: ∀{a b c},le a b->le b c->le a c)(e:i<A7 q)(h:le x q[i]): ∀y∈q.drop i,le x y:=λy d=>by
 obtain⟨o,_,m⟩:=m;have:=m.ua;rw[Al e] at this d;rcases lz.mp d with rfl|d
 .exact h
 .exact f h ((Fq.mp this).1 y d)
def Ee{f:Unit->StateT uf eF β}{n:Nat}(S:Rp X pq L st)(h: ∀c,Rp X pq L c->wp X (f ()) Q c):wp X (Qw n>>=f) Q st:=wF (g:=λs=>SortSt.mk' (kindOf s) (gb s) (pendingOf s) n<|gw s)<|h _ ⟨S.a,S.k,S.f,S.q,S.p⟩
def Ji{e:Type}{k:e->Nat->StateT uf eF β}{m:StateT uf eF β}(P:e->Nat->uf->Prop)(f:(∀c n d,P c n d->wp X (k c n) Q d)->wp X m Q st)(hk: ∀c n d,P c n d->wp X (k c n) Q d):wp X m Q st:=f hk
def MM{k:Nat->StateT uf eF β}{m:StateT uf eF β}(P:Nat->uf->Prop)(d:(∀n c,P n c->wp X (k n) Q c)->wp X m Q st)(hk: ∀n c,P n c->wp X (k n) Q c):wp X m Q st:=d hk
def Xc{Q:Array fq->uf->Prop}(S:Rp X pq L st)(u1:q.Pairwise X.le)(u2:r.Pairwise X.le)(U: ∀z∈q,z<X.N)(Y: ∀z∈r,z<X.N)(h1:0<A7 q)(h2:0<A7 r)(hd: ∀y∈q,X.le r[0] y)(top: ∀x∈r,X.le x q[A7 q-1])
  (h: ∀out s,Rp X pq L s->Rs X (q++r) out->Q out s):wp X (Oh (ar X q)<|ar X r) Q st:=by
 have sq:(ar X q).size=(A7 q):=by simp
 have sr:(ar X r).size=(A7 r):=by simp
 have K:Mg X X.le (q++r) (q.drop 0) (r.drop 1) #[X.it r[0]]:=Mg.sw<|Mg.a1 (q:=r) (i:=0) (out:= #[]) ⟨[],rfl,.nil,by simp,by simpa using SR,by simpa using u2,by simpa using u1⟩ h2 hd
 have last: ∀{out i j},Mg X X.le (q++r) (q.drop i) (r.drop j) out->i+1=A7 q->Rs X (q++r) (out++(ar X r).extract j (ar X r).size++(ar X q).extract i (ar X q).size):=λ{_ i j} m e=>m.sw.fin λx O y C=>by
  have hi:i<(A7 q):=by lia
  rw[Al hi,Ak<|by lia,Je] at C;have:=top x<|DI O;simpa only[C,<-e,nb] using this
 refine ve<|mE (x:=r[0]) (by simp[h2]) ?_;refine jM (λe=>jf<|h _ _ S (K.end<|.inr<|by simp at e;lia)) λe=>jM (λv=>jf<|h _ _ S (last K<|by simpa using v)) λv=>pP ?_
 let I:=λ(c:Nat) out d f s=>Rp X pq L s/\Mg X X.le (q++r) (q.drop d) (r.drop f) out/\d+1<A7 q/\f<A7 r/\c<=d+f
 refine mR (λi c s=> ∃out d f B,c=(X0,out,d,f,B)/\I (i+1) out d f s) (λc s=> ∃out t,c=(XV out,t)/\Rp X pq L s/\Rs X (q++r) out) ⟨_,0,1,_,rfl,S,K,by simp at v;lia,by simp at e;lia,by lia⟩ ?_ ?_ ?_
 .rintro i c s _ ⟨out,d,f,B,rfl,G⟩;refine mR (λj c s=> ∃out d f p u,c=(X0,out,d,f,p,u)/\I (i+1+j) out d f s) (λc s=>(∃out t,c=(XV out,t)/\Rp X pq L s/\Rs X (q++r) out)\/ ∃out d f p u,c=(X0,out,d,f,p,u)/\I (i+1) out d f s) ⟨_,_,_,_,_,rfl,G⟩ ?_ ?_ ?_
  .rintro j c s _ ⟨out,d,f,p,u,rfl,S,m,E,l,H'⟩;dsimp only;refine mE (x:=r[f]) (by simp[l]) (mE (x:=q[d]) (by simp)<|Fu S.k (Y _ (by simp)) (U _ (by simp)) λb e=>?_)
   cases b with
   |true=>have n:=(m.sw.a1 l<|m.hd X.tr (by lia)<|X.as _ _ e).sw;exact mE (x:=r[f]) (by simp[l])<|jM (λe=>jf<|.inl ⟨_,_,rfl,S,n.end<|.inr<|by simp at e;lia⟩) λe=>jM (λ_=>jf<|.inr ⟨_,_,_,_,_,rfl,S,n,E,by simp at e;lia,by lia⟩) λ_=>jf ⟨_,_,_,_,_,rfl,S,n,E,by simp at e;lia,by lia⟩
   |false=>have n:=m.a1 (by lia)<|m.sw.hd X.tr l e;exact mE (x:=q[d]) (by simp)<|jM (λe=>jf<|.inl ⟨_,_,rfl,S,last n<|by simpa using e⟩) λe=>jM (λ_=>jf<|.inr ⟨_,_,_,_,_,rfl,S,n,by simp at e;lia,l,by lia⟩) λ_=>jf ⟨_,_,_,_,_,rfl,S,n,by simp at e;lia,l,by lia⟩
  .rintro c s ⟨out,d,f,p,u,rfl,S,m,E,l,H'⟩;exfalso;lia
  .rintro c s (⟨out,t,rfl,hs⟩|⟨out,d,f,p,u,rfl,G⟩)
   .exact jf ⟨out,_,rfl,hs⟩
   .refine ve (mR (λj c s=> ∃out d f B p u,c=(X0,out,d,f,B,p,u)/\I (i+1+j) out d f s) (λc s=>(∃out t,c=(XV out,t)/\Rp X pq L s/\Rs X (q++r) out)\/ ∃out d f B p u,c=(X0,out,d,f,B,p,u)/\I (i+2) out d f s) ⟨_,_,_,_,_,_,rfl,G⟩ ?_ ?_ ?_)
    .rintro j c s _ ⟨out,d,f,B,p,u,rfl,S,m,E,l,H'⟩;dsimp only;apply MM λ_ s=>Rp X pq L s
     .intro F;refine jM (λ_=>?_) λ_=>?_
      .generalize B-1=g;exact F g s S
      .exact F B s S
     intro g s S;refine Ee S λs S=>mE (x:=r[f]) (by simp[l])<|kU<|yV (T:=q.take d) (A:=q.drop d) (R:=[]) S.k (λz D=>U z<|DI D) (Y _ (by simp)) (u1.sublist<|G9 _ _) (by simp) (by simp;lia) (by simp) (by simp;lia) λk _ P V=>?_;dsimp only;apply Ji λout d s=>Rp X pq L s/\Mg X X.le (q++r) (q.drop d) (r.drop f) out/\d+1<A7 q/\i+1+j<=d+f/\ ∀y∈q.drop d,X.le r[f] y
     .intro F;have mk:=m.ak (j:=k) λx O y C=>m.sw.hd (x:=x) X.tr l (by simpa using P x O) y C;have w: ∀y∈q.drop (d+k),X.le r[f] y:=λy C=>X.as _ _ (by simpa using V y<|by simpa using C);refine jM (λe=>?_) λe=>?_
      .refine jM (λM=>jf<|.inl ⟨_,_,rfl,S,last mk<|by simpa using M⟩) λM=>jM (λv=>jf<|.inl ⟨_,_,rfl,S,mk.end<|.inl<|by simp at v;lia⟩) λv=>?_;generalize out++(ar X q).extract d (d+k)=out at mk ⊢;generalize W:d+k=ic at mk w M v ⊢;exact F out ic s ⟨S,mk,by simp at M v;lia,by lia,w⟩
      .rw[show k=0 by lia] at w;exact F out d s ⟨S,m,E,H',w⟩
     rintro out d s ⟨S,m,E,H',w⟩;have n:=(m.sw.a1 l w).sw;refine mE (x:=r[f]) (by simp[l])<|jM (λe=>jf<|.inl ⟨_,_,rfl,S,n.end<|.inr<|by simp at e;lia⟩) λe=>mE (x:=q[d]) (by simp)<|kU<|yV (T:=r.take<|f+1) (A:=r.drop<|f+1) (R:=[]) S.k (λz D=>Y z<|DI D) (U _ (by simp)) (u2.sublist<|G9 _ _) (by simp) (by simp;lia) (by simp) (by simp at e ⊢;lia) λJ _ P V=>?_;dsimp only;apply Ji λout f s=>Rp X pq L s/\Mg X X.le (q++r) (q.drop d) (r.drop f) out/\f<A7 r/\i+1+j<d+f/\ ∀y∈r.drop f,X.le q[d] y
     .intro F;have mk:=(n.sw.ak (j:=J) λx O y C=>n.hd X.tr (by lia) (X.as _ _ (P x O)) y C).sw;have w: ∀y∈r.drop (f+1+J),X.le q[d] y:=λy C=>V y (by simpa using C);refine jM (λ_=>?_) λe3=>?_
      .refine jM (λv=>jf<|.inl ⟨_,_,rfl,S,mk.end<|.inr<|by simp at v;lia⟩) λv=>?_;generalize out.push (X.it r[f])++(ar X r).extract (f+1) (f+1+J)=out at mk ⊢;generalize W:f+1+J=ic at mk w v ⊢;exact F out ic s ⟨S,mk,by simp at v;lia,by lia,w⟩
      .rw[show J=0 by lia] at w;exact F _ _ s ⟨S,n,by simp at e;lia,by lia,w⟩
     rintro out f s ⟨S,m,l,H',w⟩;have n:=m.a1 (by lia) w;exact mE (x:=q[d]) (by simp)<|jM (λe=>jf<|.inl ⟨_,_,rfl,S,last n<|by simpa using e⟩) λe=>jM (λ_=>jf<|.inr ⟨_,_,_,_,_,_,rfl,S,n,by simp at e;lia,l,by lia⟩) λ_=>jf ⟨_,_,_,_,_,_,rfl,S,n,by simp at e;lia,l,by lia⟩
    .rintro c s ⟨out,d,f,B,p,u,rfl,S,m,E,l,H'⟩;exfalso;lia
    .rintro c s (⟨out,t,rfl,hs⟩|⟨out,d,f,B,p,u,rfl,S,G⟩)
     .exact jf ⟨out,_,rfl,hs⟩
     .exact Ee S λs S=>jf ⟨_,_,_,_,rfl,S,G⟩
 .rintro c s ⟨out,d,f,B,rfl,S,m,E,l,H'⟩;exfalso;lia
 .rintro c s ⟨out,t,rfl,S,m⟩;exact jf<|h _ _ S m
end
section
variable {X:Cs}{f:Type}{Q:f->uf->Prop}{st:uf}{d:Array (Nat×Nat×Nat)}{q r L Z a b o k:kj}{i j x y n:Nat}{out:Ci}
theorem ss1(n:Nat):n+1-1=n:=rfl
abbrev Cs.ge(X:Cs)(i j:Nat):Prop:=X.le j i
def Mg.h1(m:Mg X X.ge Z (q.take<|n+1).reverse b out)(c:n<A7 q)(h: ∀y∈b,X.le y q[n]):Mg X X.ge Z (q.take n).reverse b (out.push<|X.it q[n]):=m.put (k:=[q[n]]) (by rw[DH];simp[c]) (by simpa using h) (by simp[ar])
def Mg.hk(m:Mg X X.ge Z (q.take n).reverse b out)(c:i<=n)(h: ∀x∈(q.take n).drop i,∀y∈b,X.le y x):Mg X X.ge Z (q.take i).reverse b (out++((ar X q).extract i n).reverse):=m.put (k:=((q.take n).drop i).reverse) (by rw[<-List.reverse_append,<-eJ c,<-gz,eJ c,wt]) (by simpa using h) (by simp[ar,List.extract_eq_drop_take'])
def Mg.NK(m:Mg X X.ge Z (q.take i).reverse (r.take j).reverse out)(h: ∀x∈q.take i,∀y∈r.take j,X.le x y):Rs X Z ((ar X q).extract 0 i++(ar X r).extract 0 j++out.reverse):=by obtain⟨o,e,m⟩:=(m.sw.put (k:=(r.take j).reverse) (a':=[]) (by simp) (by simpa using λx c y g=>h y g x c) H).sw.put (k:=(q.take i).reverse) (a':=[]) (by simp) (by simp) H;refine⟨o.reverse,?_,HD.mpr m.s,(Aj o).trans<|by simpa using m.p⟩;have:=nE Array.reverse e;simpa[ar,DJ] using this
def Mg.LB(m:Mg X X.ge Z (q.take i).reverse (r.take j).reverse out)(h:i=0\/j=0):Rs X Z ((ar X q).extract 0 i++(ar X r).extract 0 j++out.reverse):=m.NK λx c y e=>by
 rcases h with rfl|rfl
 .cases c
 .cases e
def Mg.Nt(m:Mg X X.ge Z (q.take<|n+1).reverse b out)(e:n<A7 q)(h:X.le q[n] x): ∀y∈(q.take<|n+1).reverse,X.le y x:=λy c=>by
 obtain⟨o,_,m⟩:=m;have:=m.ua;rw[show(q.take<|n+1).reverse=q[n]::(q.take n).reverse by rw[DH];simp[e]] at this c;rcases lz.mp c with rfl|c
 .exact h
 .exact X.tr ((Fq.mp this).1 y c) h
def Xe{Q:Array fq->uf->Prop}(S:Rp X d L st)(u1:q.Pairwise X.le)(u2:r.Pairwise X.le)(hq: ∀z∈q,z<X.N)(hr: ∀z∈r,z<X.N)(h1:0<A7 q)(h2:0<A7 r)(hd: ∀y∈q,X.le r[0] y)(top: ∀x∈r,X.le x q[A7 q-1])
  (h: ∀out s,Rp X d L s->Rs X (q++r) out->Q out s):wp X (Oi (ar X q)<|ar X r) Q st:=by
 have sq:(ar X q).size=(A7 q):=by simp
 have sr:(ar X r).size=(A7 r):=by simp
 have K:Mg X X.ge (q++r) (q.take<|A7 q-1).reverse (r.take<|A7 r).reverse #[X.it q[A7 q-1]]:=Mg.h1 (out:= #[]) ⟨[],rfl,.nil,by simp,by simpa[m6 h1] using(Aj q).append (Aj r),by simpa[m6 h1,HD] using u1,by simpa[HD] using u2⟩ (by lia) (by simpa using top)
 have last: ∀{out i},Mg X X.ge (q++r) (q.take i).reverse (r.take 1).reverse out->Rs X (q++r) ((ar X r).extract 0 1++(ar X q).extract 0 i++out.reverse):=λm=>m.sw.NK λx Y y U=>by obtain⟨b,r,rfl⟩:=uB h2;simp at Y;subst Y;exact hd y<|wq U
 refine ve<|mE (x:=q[A7 q-1]) (by simp[h1]) ?_;rw[sq,sr];refine jM (λe=>jf<|h _ _ S (K.LB<|.inl<|by simpa using e)) λe=>jM (λE=>jf<|h _ _ S ?_) λE=>pP ?_
 .have E:(A7 r)=1:=by simpa using E
  rw[E] at K ⊢;exact last K
 let I:=λ(c:Nat) out l u s=>Rp X d L s/\Mg X X.ge (q++r) (q.take l).reverse (r.take u).reverse out/\0<l/\l<=A7 q/\1<u/\u<=A7 r/\c+l+u<=A7 q+A7 r
 refine mR (λi c s=> ∃l u out C,c=(X0,l,u,out,C)/\I (i+1) out l u s) (λc s=> ∃out t,c=(XV out,t)/\Rp X d L s/\Rs X (q++r) out) ⟨_,_,_,_,rfl,S,K,by simp at e;lia,by lia,by simp at E;lia,by lia,by lia⟩ ?_ ?_ ?_
 .rintro i c s _ ⟨l,u,out,C,rfl,i0⟩;refine mR (λj c s=> ∃l u out w B,c=(X0,l,u,out,w,B)/\I (i+1+j) out l u s) (λc s=>(∃out t,c=(XV out,t)/\Rp X d L s/\Rs X (q++r) out)\/ ∃l u out w B,c=(X0,l,u,out,w,B)/\I (i+1) out l u s) ⟨_,_,_,_,_,rfl,i0⟩ ?_ ?_ ?_
  .rintro j c s _ ⟨l,u,out,w,B,rfl,S,m,G,J',H',b4,b5⟩;obtain⟨n,rfl⟩: ∃n,l=n+1:=⟨l-1,by lia⟩
   obtain⟨p,rfl⟩: ∃n,u=n+1:=⟨u-1,by lia⟩
   dsimp only[ss1];refine mE (x:=r[p]) (by simp)<|mE (x:=q[n]) (by simp)<|Fu S.k (hr _ (by simp)) (hq _ (by simp)) λb e=>?_
   cases b with
   |true=>have v:=m.h1 (by lia)<|m.sw.Nt (by lia)<|X.as _ _ e;exact mE (x:=q[n]) (by simp)<|jM (λe=>jf<|.inl ⟨_,_,rfl,S,v.LB<|.inl<|by simpa using e⟩) λe=>jM (λ_=>jf<|.inr ⟨_,_,_,_,_,rfl,S,v,by simp at e;lia,by lia,H',b4,by lia⟩) λ_=>jf ⟨_,_,_,_,_,rfl,S,v,by simp at e;lia,by lia,H',b4,by lia⟩
   |false=>
    have v:=(m.sw.h1 (by lia)<|m.Nt (by lia) e).sw;refine mE (x:=r[p]) (by simp)<|jM (λe=>?_) λe=>jM (λ_=>jf<|.inr ⟨_,_,_,_,_,rfl,S,v,G,J',by simp at e;lia,by lia,by lia⟩) λ_=>jf ⟨_,_,_,_,_,rfl,S,v,G,J',by simp at e;lia,by lia,by lia⟩;obtain rfl:p=1:=by simpa using e
    exact jf<|.inl ⟨_,_,rfl,S,last v⟩
  .rintro c s ⟨l,u,out,w,B,rfl,S,m,G,J',H',b4,b5⟩;exfalso;lia
  .rintro c s (⟨out,t,rfl,hs⟩|⟨l,u,out,w,B,rfl,i0⟩)
   .exact jf ⟨out,_,rfl,hs⟩
   .refine ve (mR (λj c s=> ∃l u out C w B,c=(X0,l,u,out,C,w,B)/\I (i+1+j) out l u s) (λc s=>(∃out t,c=(XV out,t)/\Rp X d L s/\Rs X (q++r) out)\/ ∃l u out C w B,c=(X0,l,u,out,C,w,B)/\I (i+2) out l u s) ⟨_,_,_,_,_,_,rfl,i0⟩ ?_ ?_ ?_)
    .rintro j c s _ ⟨l,u,out,C,w,B,rfl,S,m,G,J',H',b4,b5⟩;obtain⟨p,rfl⟩: ∃n,u=n+1:=⟨u-1,by lia⟩
     dsimp only[ss1];apply MM λ_ s=>Rp X d L s
     .intro F;refine jM (λ_=>?_) λ_=>?_
      .generalize C-1=g;exact F g s S
      .exact F C s S
     intro g s S;refine Ee S λs S=>mE (x:=r[p]) (by simp)<|kU<|yV (T:=[]) (A:=q.take l) (R:=q.drop l) S.k (λz V=>hq z<|wq V) (hr _ (by simp)) (u1.sublist<|yQ _ _) (by simp) H (by simp;lia) (by lia) λk hk W t2=>?_;dsimp only;apply Ji λout l s=>Rp X d L s/\Mg X X.ge (q++r) (q.take l).reverse (r.take<|p+1).reverse out/\0<l/\l<=A7 q/\i+1+j+l+p<A7 q+A7 r/\ ∀y∈q.take l,X.le y r[p]
     .intro F;have mk:=m.hk hk λx Y y U=>m.sw.Nt (x:=x) (by lia) (X.as _ _ (by simpa using t2 x Y)) y U;have M: ∀y∈q.take k,X.le y r[p]:=λy U=>by simpa using W y (by rwa [gz,eJ hk])
      refine jM (λe=>?_) λe=>?_
      .refine jM (λO=>jf<|.inl ⟨_,_,rfl,S,mk.LB<|.inl<|by simpa using O⟩) λO=>?_;generalize out++((ar X q).extract k l).reverse=out at mk ⊢;generalize ea:k=ic at mk M O ⊢;exact F out ic s ⟨S,mk,by simp at O;lia,by lia,by lia,M⟩
      .obtain rfl:k=l:=by lia
       exact F out _ s ⟨S,m,G,J',by lia,M⟩
     rintro out na' s ⟨S,m,G,J',b5,M⟩;have v:=(m.sw.h1 (by lia)<|by simpa using M).sw;obtain⟨n,rfl⟩: ∃n,na'=n+1:=⟨na'-1,by lia⟩
     dsimp only[ss1];refine mE (x:=r[p]) (by simp)<|jM (λe=>?_) λe=>mE (x:=q[n]) (by simp)<|kU<|yV (T:=[]) (A:=r.take p) (R:=r.drop p) S.k (λz V=>hr z<|wq V) (hq _ (by simp)) (u2.sublist<|yQ _ _) (by simp) H (by simp;lia) (by lia) λD bD W t2=>?_
     .obtain rfl:p=1:=by simpa using e
      exact jf<|.inl ⟨_,_,rfl,S,last v⟩
     dsimp only;apply Ji λout u s=>Rp X d L s/\Mg X X.ge (q++r) (q.take<|n+1).reverse (r.take u).reverse out/\1<u/\u<=A7 r/\i+1+j+(n+1)+u<A7 q+A7 r/\ ∀y∈r.take u,X.le y q[n]
     .intro F;have mk:=(v.sw.hk bD λx Y y U=>v.Nt (x:=x) (by lia) (t2 x Y) y U).sw;have P: ∀y∈r.take D,X.le y q[n]:=λy U=>X.as _ _ (W y<|by rwa [gz,eJ bD]);refine jM (λ_=>?_) λe3=>?_
      .refine jM (λO=>?_) λO=>jM (λE=>jf<|.inl ⟨_,_,rfl,S,mk.LB<|.inr<|by simpa using E⟩) λE=>?_
       .obtain rfl:D=1:=by simpa using O
        exact jf<|.inl ⟨_,_,rfl,S,last mk⟩
       generalize out.push (X.it r[p])++((ar X r).extract D p).reverse=out at mk ⊢;generalize ea:D=ic at mk P O E ⊢;exact F out ic s ⟨S,mk,by simp at O E;lia,by lia,by lia,P⟩
      .obtain rfl:D=p:=by lia
       exact F _ _ s ⟨S,v,by simp at e;lia,by lia,b5,P⟩
     rintro out u s ⟨S,m,H',b4,b5,M⟩;have v:=m.h1 (by lia) (by simpa using M);exact mE (x:=q[n]) (by simp)<|jM (λe=>jf<|.inl ⟨_,_,rfl,S,v.LB<|.inl<|by simpa using e⟩) λe=>jM (λ_=>jf<|.inr ⟨_,_,_,_,_,_,rfl,S,v,by simp at e;lia,by lia,H',b4,by lia⟩) λ_=>jf ⟨_,_,_,_,_,_,rfl,S,v,by simp at e;lia,by lia,H',b4,by lia⟩
    .rintro c s ⟨l,u,out,C,w,B,rfl,S,m,G,J',H',b4,b5⟩;exfalso;lia
    .rintro c s (⟨out,t,rfl,hs⟩|⟨l,u,out,C,w,B,rfl,S,i0⟩)
     .exact jf ⟨out,_,rfl,hs⟩
     .exact Ee S λs S=>jf ⟨_,_,_,_,rfl,S,i0⟩
 .rintro c s ⟨l,u,out,C,rfl,S,m,G,J',H',b4,b5⟩;exfalso;lia
 .rintro c s ⟨out,t,rfl,S,m⟩;exact jf<|h _ _ S m
end
section
variable {X:Cs}{t:Type}{Q:t->uf->Prop}{st:uf}{d:Array (Nat×Nat×Nat)}{T A B R L:kj}{i j x y n s:Nat}{o C:List (List Nat)}{r w:List (Nat×Nat×Nat)}
def Pe{c:Type}: ∀(m K T R:List c) (j a:Nat),a+j=A7 T->K.length=A7 m->(m.zipIdx j).foldl (λ(x:Array c) (p:c×Nat)=>x.setIfInBounds (a+p.2) p.1) (T++(K++R)).toArray=(T++(m++R)).toArray:=by
 intro f
 induction f with
 |nil=>intro K T R j a h b;rw[Ai b];rfl
 |cons y m e=>intro K T R j a h b;obtain⟨k,K,rfl⟩:=uB (l:=K) (by simp[b]);rw[n6,uD];have:=e K (T++[y]) R (j+1) a (by simp;lia) (by simpa using b);simpa[h] using this
def Rn(X:Cs):Nat->List (List Nat)->List (Nat×Nat×Nat)->Prop
 |_,[],[]=>True
 |s,A::o,p::r=>p.1=s/\p.2.1=A7 A/\A≠[]/\A.Pairwise X.le/\Rn X (s+A7 A) o r
 |_,_,_=>False
theorem Rn.cut: ∀{r:List (Nat×Nat×Nat)} {s:Nat} {o:List (List Nat)},Rn X s o (r++w)-> ∃a L2,o=a++L2/\Rn X (s+A7 a.flatten) L2 w/\ ∀M q,Rn X (s+A7 a.flatten) M q->Rn X s (a++M) (r++q)
 |[],s,o,h=>⟨[],o,rfl,h,λ_ _ h=>h⟩
 |p::r,s,[],h=>h.elim
 |p::r,s,A::o,h=>by
  obtain⟨h1,b,c,f,g⟩:=h;obtain⟨a,L2,rfl,k,l⟩:=Rn.cut g;have e:s+(A::a).flatten.length=s+A7 A+(A7 a.flatten):=by simp;lia
  exact⟨A::a,L2,rfl,e▸k,λM q h=>⟨h1,b,c,f,l M q<|e▸h⟩⟩
def Ui{s:uf}{f:PUnit->StateT uf eF t}(h:wp X (f ⟨⟩) Q s):wp X (set s>>=f) Q st:=kU λ_ g=>by rw[StateT.run_set];exact jd ⟨g,h⟩
def upA(u:A.Pairwise X.le)(v:B.Pairwise X.le)(h: ∀a∈A,∀b∈B,X.le a b):(A++B).Pairwise X.le:=vd.mpr ⟨u,v,h⟩
def TQ(a:L=T++(A++R))(b:i=A7 T)(c:j=A7 T+A7 A):(ar X L).extract i j=ar X A:=by subst a b c;simp[ar,DJ]
def SY{Q:Bool->uf->Prop}(S:Rp X d (o.flatten++R) st)(hr:Rn X 0 o d.toList)(hi:i+1<d.size)(h: ∀d7 cf iR,Rp X cf (iR.flatten++R) d7->Rn X 0 iR cf.toList->cf.size+1=d.size->A7 iR.flatten=A7 o.flatten->Q YP d7):wp X (mergeAt' i) Q st:=by
 obtain⟨d⟩:=d
 obtain⟨H,⟨D,F,P⟩,⟨sb,K,fj⟩,Y,rfl,rfl⟩: ∃H x y Y,d=H++x::y::Y/\(A7 H)=i:=by have hi:i+1<(A7 d):=hi;exact⟨d.take i,d[i],d[i+1],d.drop<|i+2,by simp,by simp;lia⟩
 obtain⟨L1,L2,rfl,h2,h3⟩:=Rn.cut hr
 obtain⟨A,B,L2,rfl⟩: ∃A B L,L2=A::B::L:=by
  match L2,h2 with
  |A::B::L,_=>exact⟨A,B,L,rfl⟩
  |[A],h=>exact h.2.2.2.2.elim
  |[],h=>exact h.elim
 obtain⟨O,v5,a1,V,hb,ej,b1,W,h4⟩:=h2;dsimp only at O v5 hb ej;obtain⟨κ',a',p',g,f'⟩:=st;have e1:a'=_:=S.a;have e2:p'=_:=S.q;subst e1 e2;rw[show(L1++A::B::L2).flatten++R=L1.flatten++(A++(B++(L2.flatten++R))) by simp] at S ⊢
 have fin: ∀d7 M,Rp X (H++(D,F+K,P)::Y).toArray (L1.flatten++(M++(L2.flatten++R))) d7->M.Perm (A++B)->M.Pairwise X.le->Q YP d7:=λd7 M U em u=>by have em:=em.length_eq;rw[nB,<-v5,<-ej] at em;refine h _ (H++(D,F+K,P)::Y).toArray (L1++M::L2) (by simpa using U) (h3 _ _ ⟨O,em.symm,λe=>a1 ?_,u,by rwa [em,v5,ej,<-yK]⟩) (by simp;lia) (by simp;lia);exact Ai (by rw[e] at em;simp at em;lia)
 have ep: ∀z,((H++(D,F,P)::(sb,K,fj)::Y).toArray.setIfInBounds (A7 H) z).eraseIdxIfInBounds (A7 H+1)=(H++z::Y).toArray:=λz=>by simp[rs,List.eraseIdx_append];intro;lia
 clear h h3 h4 hr;generalize L1.flatten=T at*;generalize L2.flatten++R=R at*;have hN: ∀z,z∈A\/z∈B->z<X.N:=λz l=>by simpa using S.p.mem_iff.mp<|ph _ (by rcases l with h|h<;>simp[h])
 obtain⟨y,B',eB⟩:=List.exists_cons_of_ne_nil b1
 have hy: ∀z∈B,X.le y z:=λz l=>by
  rw[eB] at W l;rcases lz.mp l with rfl|l
  .exact X.rf _
  .exact(Fq.mp W).1 z l
 refine pP ?_;dsimp only;rw[show(H++(D,F,P)::(sb,K,fj)::Y).toArray[A7 H]?=XV (D,F,P) by simp,show(H++(D,F,P)::(sb,K,fj)::Y).toArray[A7 H+1]?=XV (sb,K,fj) by simp];dsimp only;rw[ep];refine Ui<|mE (x:=y) (by rw[eB];exact Lr<|by lia)<|kU<|yV S.k (λz h=>hN z<|.inl h) (hN y<|.inr<|by simp[eB]) V AM (by lia) v5.symm (by have:=SV.mpr a1;lia) λk hk t1 t2=>?_;have S2:Rp X (H++(D,F+K,P)::Y).toArray (T++(A++(B++R))) (SortSt.mk' κ' (ar X<|T++(A++(B++R))) (H++(D,F+K,P)::Y).toArray g f'):=⟨rfl,S.k,S.f,rfl,S.p⟩
 have done:(∀a∈A,X.le a y)->Q YP (SortSt.mk' κ' (ar X<|T++(A++(B++R))) (H++(D,F+K,P)::Y).toArray g f'):=λz=>fin _ (A++B) (by simpa using S2) (.refl _) (upA V W λa O b hb=>X.tr (z a O)<|hy b hb);rw[v5] at hk;obtain⟨v,E,rfl,rfl⟩: ∃v E,A=v++E/\(A7 v)=k:=⟨A.take k,A.drop k,by simp,by simp;lia⟩
 have t1: ∀z∈v,X.le z y:=λz l=>by simpa using t1 z (by simpa using l)
 have t2: ∀z∈E,X.le y z:=λz l=>X.as _ _ (by simpa using t2 z<|by simpa using l);rw[nB] at v5 hb;dsimp only;rcases DM E with e|⟨A3,x,e⟩
 .subst e;rw[jl<|by simp[v5]];exact jf<|done (by simpa using t1)
 rw[DL] at e;have l1:0<(A7 E):=by simp[e]
 rw[jv<|by simp;lia];refine mE (x:=x) (by rw[e,show T++(v++(A3++[x])++(B++R))=T++((v++A3)++x::(B++R)) by simp];exact Lr (by have:=nE dq e;simp at this ⊢;lia))<|kU<|yV (T:=T++(v++E)) (R:=R) S.k (λz h=>hN z<|.inr h) (hN x<|.inl<|by simp[e]) W (by rw[<-tJ]) (by simp;lia) ej.symm (by have:=SV.mpr b1;lia) λk2 bD t3 t4=>?_;rw[ej] at bD;obtain⟨I',J,rfl,rfl⟩: ∃I' J,B=I'++J/\(A7 I')=k2:=⟨B.take k2,B.drop k2,by simp,by simp;lia⟩
 have v3: ∀z∈I',X.le z x:=λz l=>X.as _ _ (by simpa using t3 z<|by simpa using l);have v4: ∀z∈J,X.le x z:=λz l=>by simpa using t4 z (by simpa using l)
 have lx: ∀a∈v++E,X.le a x:=by rw[e,<-tJ] at V ⊢;exact Ge X.tr V<|X.rf x
 cases I' with
 |nil=>exact jf<|done λa O=>X.tr (lx a O)<|v4 y (by simp[show J=y::B' from eB])
 |cons b I'=>
  obtain rfl:b=y:=(rV eB).1;refine jM (λc=>by simp at c) λ_=>?_;rw[TQ (A:=E) (T:=T++v) (R:=b::I'++J++R) (by simp) (by simp;lia)<|by simp;lia,TQ (A:=b::I') (T:=T++(v++E)) (R:=J++R) (by simp) (by simp;lia)<|by simp;lia]
  have Z: ∀G s,Rp X (H++(D,F+K,P)::Y).toArray (T++(v++E++(b::I'++J++R))) s->Rs X (E++b::I') G->Q (gw s).isNone (setArr s<|G.toList.zipIdx.foldl (λa x=>a.setIfInBounds (D+A7 v+x.2) x.1)<|gb s):=λG s U ho=>by
   obtain⟨M,rfl,u,hp⟩:=ho;rw[U.f,U.a];refine fin _ (v++(M++J)) ⟨?_,U.k,U.f,U.q,SS ?_ U.p⟩ ?_ ?_
   .have:=Pe (M.map X.it) ((E++b::I').map X.it) ((T++v).map X.it) ((J++R).map X.it) 0 (D+A7 v) (by simp;lia) (by simpa using hp.length_eq.symm);simpa[ar] using this
   .simpa using(((hp.append_right<|J++R).append_left v).append_left T)
   .simpa using((hp.append_right J).append_left v)
   .rw[vd] at V W;refine upA V.1 (upA u W.2.1 λa O c m=>?_) λa O c m=>?_
    .rcases tM.mp (hp.mem_iff.mp O) with O|O
     .exact X.tr (lx a<|by simp[O]) (v4 c m)
     .exact W.2.2 a O c m
    .have m:c∈E\/c∈b::I'++J:=by
      rcases tM.mp m with m|m
      .rcases tM.mp (hp.mem_iff.mp m) with m|m
       .exact .inl m
       .exact .inr (Ed _ m)
      .exact .inr (ph _ m)
     rcases m with m|m
     .exact V.2.2 a O c m
     .exact X.tr (t1 a O) (hy c m)
  have hd: ∀z∈E,X.le (b::I')[0] z:=t2;have top: ∀z∈b::I',X.le z E[A7 E-1]:=λz l=>by subst e;simpa using v3 z l
  have l2:0<(b::I').length:=by simp
  have h3: ∀z∈E,z<X.N:=λz l=>hN z<|.inl (by simp[l]);have h4: ∀z∈b::I',z<X.N:=λz l=>hN z<|.inr<|Ed _ l;have u1:=(vd.mp V).2.1;have u2:=(vd.mp W).1;exact jM (λc=>kU<|Xc S2 u1 u2 h3 h4 l1 l2 hd top λG s U ho=>wF<|pP<|jf<|Z G s U ho) λc=>kU<|Xe S2 u1 u2 h3 h4 l1 l2 hd top λG s U ho=>wF<|pP<|jf<|Z G s U ho
end
section
variable {X:Cs}{st:uf}{b:Array (Nat×Nat×Nat)}{A L:kj}
theorem Rn.mod{w:Nat}: ∀{c:List (Nat×Nat×Nat)} {s:Nat} {a:List (List Nat)} (i:Nat),Rn X s a c->Rn X s a (c.modify i λx=>(x.1,x.2.1,w))
 |[],s,a,i,h=>by cases i<;>exact h
 |p::c,s,[],i,h=>h.elim
 |p::c,s,A::a,0,h=>h
 |p::c,s,A::a,i+1,h=>⟨h.1,h.2.1,h.2.2.1,h.2.2.2.1,Rn.mod i h.2.2.2.2⟩
theorem Rn.le: ∀{c:List (Nat×Nat×Nat)} {s:Nat} {a:List (List Nat)},Rn X s a c->A7 c<=A7 a.flatten
 |[],s,a,h=>mf _
 |p::c,s,[],h=>h.elim
 |p::c,s,A::a,h=>by have:=Rn.le h.2.2.2.2;have:=SV.mpr h.2.2.1;simp at*;omega
theorem Rn.push{A:kj}{w:Nat}: ∀{d:List (Nat×Nat×Nat)} {s:Nat} {c:List (List Nat)},Rn X s c d->A≠[]->A.Pairwise X.le->Rn X s (c++[A]) (d++[(s+A7 c.flatten,A7 A,w)])
 |[],s,[],h,a,u=>⟨rfl,rfl,a,u,trivial⟩
 |[],s,A::c,h,a,u=>h.elim
 |p::d,s,[],h,a,u=>h.elim
 |p::d,s,B::c,h,a,u=>⟨h.1,h.2.1,h.2.2.1,h.2.2.2.1,by simpa[yK] using Rn.push (w:=w) h.2.2.2.2 a u⟩
def Qm{Q:Unit->uf->Prop}(S:Rp X #[] L st)(h: ∀E b L,Rp X b L E->L.Pairwise X.le->Q () E):wp X sortRuns' Q st:=by
 have I:(gb st).size=X.N:=by rw[S.a];simpa using S.p.length_eq
 have w: ∀{b L st},Rp X b L st->A7 L=X.N:=λS=>by simpa using S.p.length_eq
 rw[sortRuns'_eq];refine pP ?_;rw[I];dsimp only;refine mR (λi c s=> ∃b,∃g:List (List Nat),∃R,c=(C,A7 g.flatten)/\Rp X b (g.flatten++R) s/\Rn X 0 g b.toList/\i<=A7 g.flatten) (λc s=>c.1=C/\ ∃b g,Rp X b g.flatten s/\Rn X 0 g b.toList) ⟨#[],[],L,rfl,S,trivial,mf _⟩ ?_ ?_ ?_
 .rintro i c s t ⟨b,g,R,rfl,S,d,o⟩;have r:=w S;dsimp only;refine jM (λe=>?_) λe=>?_
  .obtain rfl:R=[]:=Ai (by simp at r e;omega);exact jf ⟨rfl,b,g,by simpa using S,d⟩
  obtain⟨x,R,rfl⟩:=uB (l:=R) (by simp at r e;omega);refine kU<|adQ S AM (by simp at r ⊢;omega) λA R s S a1 u M=>?_;apply MM λn s=> ∃A R,n=A7 A/\Rp X b (g.flatten++(A++R)) s/\A≠[]/\A.Pairwise X.le
  .intro F;have T:=SV.mpr a1;refine jM (λe=>?_) λe=>?_
   .refine ve (kU<|Uk S AM AM T (by simp at r;omega) (by omega) u λA R s S o u=>jM (λc=>by simp at c) λ_=>?_);generalize J:min (X.N-A7 g.flatten) (minRun' X.N X.N 0)=n at o ⊢;exact F n s ⟨A,R,o.symm,S,by intro z;subst z;simp at o e;omega,u⟩
   .exact F (A7 A) s ⟨A,R,rfl,S,a1,u⟩
  rintro _ s ⟨A,R,rfl,S,a1,u⟩;refine pP ?_;apply S0 λs=> ∃b m,Rp X b (m.flatten++(A++R)) s/\Rn X 0 m b.toList/\(A7 m.flatten)=A7 g.flatten
  .intro F;rw[S.q]
   cases b.back? with
   |none=>exact F s ⟨b,g,S,d,rfl⟩
   |some z=>
    refine mR (λ_ c s=>c=(C,())/\ ∃b m,Rp X b (m.flatten++(A++R)) s/\Rn X 0 m b.toList/\(A7 m.flatten)=A7 g.flatten) (λc s=>c=(C,())/\ ∃b m,Rp X b (m.flatten++(A++R)) s/\Rn X 0 m b.toList/\(A7 m.flatten)=A7 g.flatten) ⟨rfl,b,g,S,d,rfl⟩ ?_ (λ_ _ h=>h) ?_
    .rintro j c s _ ⟨rfl,b,m,S,d,o⟩;refine pP ?_;rw[S.q]
     cases H:(if b.size>1 then b[b.size-2]? else C) with
     |none=>exact jf ⟨rfl,b,m,S,d,o⟩
     |some z=>
      refine jM (λ_=>jf ⟨rfl,b,m,S,d,o⟩) λ_=>kU<|SY S d ?_ λs v y S d _ O=>jM (λc=>by simp at c) λ_=>jf ⟨rfl,v,y,S,d,O.trans o⟩;split at H
      .omega
      .cases H
    .rintro c s ⟨rfl,b,m,S,d,o⟩;exact wF<|F _ ⟨_,m,⟨S.a,S.k,S.f,rfl,S.p⟩,by rw[S.q,Array.toList_modify];exact d.mod _,o⟩
  .rintro s ⟨b,m,S,d,o⟩;refine wF<|jf ⟨_,m++[A],R,?_,⟨by simpa using S.a,S.k,S.f,rfl,by simpa using S.p⟩,?_,?_⟩
   .rw[List.flatten_append,nB,o];simp
   .rw[S.q,fK,<-o,<-wx (A7 m.flatten)];exact d.push a1 u
   .have:=SV.mpr a1;simp at*;omega
 .rintro c s ⟨b,g,R,rfl,S,d,o⟩;have r:=w S;obtain rfl:R=[]:=Ai (by simp at r o;omega);exact⟨rfl,b,g,by simpa using S,d⟩
 .rintro⟨_,c⟩ s ⟨rfl,b,g,S,d⟩;have r:=w S;have G:=d.le;refine mR (λi c s=>c=(C,())/\ ∃b g,Rp X b g.flatten s/\Rn X 0 g b.toList/\(b.size<=1\/b.size+i<=X.N)) (λc s=>c=(C,())/\ ∃b g,Rp X b g.flatten s/\Rn X 0 g b.toList/\b.size<=1) ⟨rfl,b,g,S,d,.inr<|by rw[lh] at G;omega⟩ ?_ ?_ ?_
  .rintro i c s _ ⟨rfl,b,g,S,d,t⟩;refine pP ?_;rw[S.q];refine jM (λe=>jf ⟨rfl,b,g,S,d,e⟩) λe=>kU<|SY (R:=[]) (by simpa using S) d ((λc:Bool=>show(if c=YP then b.size-2-1 else b.size-2)+1<b.size by split<;>omega) _) λs v y S d I _=>jM (λc=>by simp at c) λ_=>jf ⟨rfl,v,y,by simpa using S,d,.inr<|by omega⟩
  .rintro c s ⟨rfl,b,g,S,d,t⟩;exact⟨rfl,b,g,S,d,by omega⟩
  .rintro c s ⟨rfl,b,g,S,d,t⟩;refine jf<|h s b _ S ?_;obtain⟨C'⟩:=b
   match C',g,d,t with
   |[],[],_,_=>exact .nil
   |[p],[A],d,_=>simpa using d.2.2.2.1
   |p::[],A::B::g,d,_=>exact d.2.2.2.2.elim
   |[],A::g,d,_=>exact d.elim
   |p::C',[],d,_=>exact d.elim
   |p::U'::C',g,d,t=>simp at t
end
end TS
namespace PX
open L2 PySem.SeqAt
open PySem.AutoSeq1 (wpAny_loadPart')
open PySem.MeetsSeq PySem.MeetsSeq2 PySem.MeetsSeq3
noncomputable def lR(op:dz)(i j:Int):Bool:=match op with
 | .Lt=>decide (i<j)| .LtE=>decide (i<=j)| .Gt=>decide (i>j)|_=>decide<|i>=j
def A5(op:dz):Prop:=op= .Lt\/op= .LtE\/op= .Gt\/op= .GtE
def SQ(op:dz)(A:jn)(s:iZ)(y x:jg)(b:Bool):Prop:= ∀(a:jw) (w:jm) (E:jJ) (Q:jJ),Q (.bool b) s->ah (aj a w) A (richCompare op y x) Q E s
def BF(op:dz)(A:jn)(s:iZ)(fin:Bool):List (jg×jg)->Bool->Prop
 |[],r=>r=fin
 |(y,x)::jF,r=> ∃e,EqAt A s y x e/\(if e=J then BF op A s fin jF r else SQ op A s y x r)
def adW(l b:iW)(a i:nv)(n v:Nat)(dd B:Option iW)(Q z:ug)(r:Bool):
  ia (aV.«tuple.__lt__» ⟨[.ref l,.ref b],[]⟩) (λA R s=>s.heap.get? l=Y {cls:= .type "tuple",dict:=dd,data:= .seq a n,slots:=Q}/\s.heap.get? b=Y {cls:= .type "tuple",dict:=B,data:= .seq i v,slots:=z}/\
   BF .Lt A.in1 s (lR .Lt a.size i.size) (a.toList.zip i.toList) r/\R (.ok<|.ret<|.bool r) s):=
 .of_wp λf w A R s h=>by
  obtain⟨m,g,d,o,os⟩:=s;obtain⟨u,q,c,h⟩:=h;have f2:=DG
  wp_walk using b9 u,b9 q,rT _ (λjF b k=>b.1=C/\k=⟨m,g,d,o,os⟩/\BF .Lt A.in1 ⟨m,g,d,o,os⟩ (lR .Lt a.size i.size) jF r) _
  case turn=>
   rintro⟨y,x⟩ jF b k ⟨j,rfl,e,t,c⟩;refine iX<|t f w _ _ ?_
   cases e with
   |true=>
    simp only[kO] at c
    wp_walk
    exact⟨rfl,rfl,c⟩
   |false=>
    simp only[ke,kB] at c;have p:=c f w
    wp_walk using p
    exact⟨_,rfl,by simpa using h⟩
  case fin=>
   rintro⟨E,T⟩ k ⟨j,rfl,c⟩;simp only at j;subst j;have c:r=lR .Lt a.size i.size:=c;rw[c] at h
   wp_walk
   exact⟨_,rfl,by simpa[bQ,lR] using h⟩
  case h=>exact⟨rfl,rfl,c⟩
def adX(l b:iW)(a i:nv)(n v:Nat)(dd B:Option iW)(Q z:ug)(r:Bool):
  ia (aV.«tuple.__le__» ⟨[.ref l,.ref b],[]⟩) (λA R s=>s.heap.get? l=Y {cls:= .type "tuple",dict:=dd,data:= .seq a n,slots:=Q}/\s.heap.get? b=Y {cls:= .type "tuple",dict:=B,data:= .seq i v,slots:=z}/\
   BF .LtE A.in1 s (lR .LtE a.size i.size) (a.toList.zip i.toList) r/\R (.ok<|.ret<|.bool r) s):=
 .of_wp λf w A R s h=>by
  obtain⟨m,g,d,o,os⟩:=s;obtain⟨u,q,c,h⟩:=h;have f2:=DG
  wp_walk using b9 u,b9 q,rT _ (λjF b k=>b.1=C/\k=⟨m,g,d,o,os⟩/\BF .LtE A.in1 ⟨m,g,d,o,os⟩ (lR .LtE a.size i.size) jF r) _
  case turn=>
   rintro⟨y,x⟩ jF b k ⟨j,rfl,e,t,c⟩;refine iX<|t f w _ _ ?_
   cases e with
   |true=>
    simp only[kO] at c
    wp_walk
    exact⟨rfl,rfl,c⟩
   |false=>
    simp only[ke,kB] at c;have p:=c f w
    wp_walk using p
    exact⟨_,rfl,by simpa using h⟩
  case fin=>
   rintro⟨E,T⟩ k ⟨j,rfl,c⟩;simp only at j;subst j;have c:r=lR .LtE a.size i.size:=c;rw[c] at h
   wp_walk
   exact⟨_,rfl,by simpa[bQ,lR] using h⟩
  case h=>exact⟨rfl,rfl,c⟩
def adY(l b:iW)(a i:nv)(n v:Nat)(dd B:Option iW)(Q z:ug)(r:Bool):
  ia (aV.«tuple.__gt__» ⟨[.ref l,.ref b],[]⟩) (λA R s=>s.heap.get? l=Y {cls:= .type "tuple",dict:=dd,data:= .seq a n,slots:=Q}/\s.heap.get? b=Y {cls:= .type "tuple",dict:=B,data:= .seq i v,slots:=z}/\
   BF .Gt A.in1 s (lR .Gt a.size i.size) (a.toList.zip i.toList) r/\R (.ok<|.ret<|.bool r) s):=
 .of_wp λf w A R s h=>by
  obtain⟨m,g,d,o,os⟩:=s;obtain⟨u,q,c,h⟩:=h;have f2:=DG
  wp_walk using b9 u,b9 q,rT _ (λjF b k=>b.1=C/\k=⟨m,g,d,o,os⟩/\BF .Gt A.in1 ⟨m,g,d,o,os⟩ (lR .Gt a.size i.size) jF r) _
  case turn=>
   rintro⟨y,x⟩ jF b k ⟨j,rfl,e,t,c⟩;refine iX<|t f w _ _ ?_
   cases e with
   |true=>
    simp only[kO] at c
    wp_walk
    exact⟨rfl,rfl,c⟩
   |false=>
    simp only[ke,kB] at c;have p:=c f w
    wp_walk using p
    exact⟨_,rfl,by simpa using h⟩
  case fin=>
   rintro⟨E,T⟩ k ⟨j,rfl,c⟩;simp only at j;subst j;have c:r=lR .Gt a.size i.size:=c;rw[c] at h
   wp_walk
   exact⟨_,rfl,by simpa[bQ,lR] using h⟩
  case h=>exact⟨rfl,rfl,c⟩
def adZ(l b:iW)(a i:nv)(n v:Nat)(dd B:Option iW)(Q z:ug)(r:Bool):
  ia (aV.«tuple.__ge__» ⟨[.ref l,.ref b],[]⟩) (λA R s=>s.heap.get? l=Y {cls:= .type "tuple",dict:=dd,data:= .seq a n,slots:=Q}/\s.heap.get? b=Y {cls:= .type "tuple",dict:=B,data:= .seq i v,slots:=z}/\
   BF .GtE A.in1 s (lR .GtE a.size i.size) (a.toList.zip i.toList) r/\R (.ok<|.ret<|.bool r) s):=
 .of_wp λf w A R s h=>by
  obtain⟨m,g,d,o,os⟩:=s;obtain⟨u,q,c,h⟩:=h;have f2:=DG
  wp_walk using b9 u,b9 q,rT _ (λjF b k=>b.1=C/\k=⟨m,g,d,o,os⟩/\BF .GtE A.in1 ⟨m,g,d,o,os⟩ (lR .GtE a.size i.size) jF r) _
  case turn=>
   rintro⟨y,x⟩ jF b k ⟨j,rfl,e,t,c⟩;refine iX<|t f w _ _ ?_
   cases e with
   |true=>
    simp only[kO] at c
    wp_walk
    exact⟨rfl,rfl,c⟩
   |false=>
    simp only[ke,kB] at c;have p:=c f w
    wp_walk using p
    exact⟨_,rfl,by simpa using h⟩
  case fin=>
   rintro⟨E,T⟩ k ⟨j,rfl,c⟩;simp only at j;subst j;have c:r=lR .GtE a.size i.size:=c;rw[c] at h
   wp_walk
   exact⟨_,rfl,by simpa[bQ,lR] using h⟩
  case h=>exact⟨rfl,rfl,c⟩
section
variable {A:jn}{s:iZ}{l b:iW}{a c:nv}{r:Bool}
def aeu(B:A5 op)(z:s.heap.IsTuple l a)(y:s.heap.IsTuple b c)(g:A.units<aQ)(i:BF op A.in1 s (lR op a.size c.size) (a.toList.zip c.toList) r):SQ op A s (.ref l) (.ref b) r:=λu w E Q h=>by
 obtain⟨⟨v,dd,q,o⟩,d,t,n,hd⟩:=id z;obtain⟨⟨T,m,data2,k⟩,e,p,j,f⟩:=id y;simp only at t hd p f;subst t hd p f;rcases B with rfl|rfl|rfl|rfl
 .exact DF (op:= .Lt) ⟨_,d,rfl⟩ ⟨_,e,rfl⟩ PySem.F.slot_tuple_lt PySem.F.entry_tuple_lt (PySem.F.args_tuple_lt_2 _ _) (adW l b a c n j dd m o k r) ⟨d,e,i,show dQ r≠db/\Q (.bool r) s from⟨(λx=>nomatch x),h⟩⟩ g
 .exact DF (op:= .LtE) ⟨_,d,rfl⟩ ⟨_,e,rfl⟩ PySem.F.slot_tuple_le PySem.F.entry_tuple_le (PySem.F.args_tuple_le_2 _ _) (adX l b a c n j dd m o k r) ⟨d,e,i,show dQ r≠db/\Q (.bool r) s from⟨(λx=>nomatch x),h⟩⟩ g
 .exact DF (op:= .Gt) ⟨_,d,rfl⟩ ⟨_,e,rfl⟩ PySem.F.slot_tuple_gt PySem.F.entry_tuple_gt (PySem.F.args_tuple_gt_2 _ _) (adY l b a c n j dd m o k r) ⟨d,e,i,show dQ r≠db/\Q (.bool r) s from⟨(λx=>nomatch x),h⟩⟩ g
 .exact DF (op:= .GtE) ⟨_,d,rfl⟩ ⟨_,e,rfl⟩ PySem.F.slot_tuple_ge PySem.F.entry_tuple_ge (PySem.F.args_tuple_ge_2 _ _) (adZ l b a c n j dd m o k r) ⟨d,e,i,show dQ r≠db/\Q (.bool r) s from⟨(λx=>nomatch x),h⟩⟩ g
end
mutual
noncomputable def nR(a:dz):D->D->Option Bool
 | .int i,.int j=>Y<|lR a i j
 | .tup l,.tup m=>tw a l m
 |_,_=>C
noncomputable def tw(a:dz):List D->List D->Option Bool
 |[],m=>Y<|lR a 0<|A7 m
 |x::l,[]=>Y<|lR a ((x::l).length) 0
 |x::l,y::m=>if D.BC x y=J then tw a l m else nR a x y
end
def sO(c:dz)(a b k:Int):lR c (a+k) (b+k)=lR c a b:=by
 cases c<;>simp[lR]
section
variable {X:Cx}{c:jK}{f:L2.St}{H:Hp}{s:iZ}
def FR(b:A5 op):SQ op A s (.int i t) (.int j u) (lR op i j):=λa w E Q h=>by
 rcases b with rfl|rfl|rfl|rfl
 .exact(y9 h:ah (aj a w) A (aM .Lt _ _) Q E s)
 .exact(zn h:ah (aj a w) A (aM .LtE _ _) Q E s)
 .exact(zx h:ah (aj a w) A (aM .Gt _ _) Q E s)
 .exact(z0 h:ah (aj a w) A (aM .GtE _ _) Q E s)
def Nl(N:A5 op)(I:Inv X c f H s): ∀(n:Nat) (d e:D) (v u:V) (a b:jg) (O B:B7) (A:jn) (r:Bool),kQ X.K H O d v->kQ X.K H B e u->RelV v a->RelV u b->d.dep<=n->e.dep<20000->A.units+n<aQ->nR op d e=XV r->SQ op A s a b r:=by
 intro n
 induction n with
 |zero=>
  intro d e v u a b O B A r hd T G J M W hA g
  cases d with
  |int i=>
   cases e with
   |int j=>have:=jX hd;subst this;have:=jX T;subst this;obtain⟨t,rfl⟩:=G;obtain⟨t',rfl⟩:=J;rw[nR] at g;rw[<-lj g];exact FR N
   |_=>rw[nR] at g<;>first|cases g|(intros;simp_all)
  |tup l=>rw[D.dep] at M;lia
  |_=>rw[nR] at g<;>first|cases g|(intros;simp_all)
 |succ n ih=>
  intro d e v u a b O B A r hd T G J M W hA g
  cases d with
  |int i=>
   cases e with
   |int j=>have:=jX hd;subst this;have:=jX T;subst this;obtain⟨t,rfl⟩:=G;obtain⟨t',rfl⟩:=J;rw[nR] at g;rw[<-lj g];exact FR N
   |_=>rw[nR] at g<;>first|cases g|(intros;simp_all)
  |tup l=>
   cases e with
   |tup m=>
    rw[nR] at g;rw[D.dep] at M W;obtain⟨p,E,rfl,q,z⟩:=lQ hd;obtain⟨p2,L,rfl,q2,o⟩:=lQ T;cases G;cases J;obtain⟨h,Q,pl,_⟩:=I.tuple q;obtain⟨w,C,d9,_⟩:=I.tuple q2;have S:A.in1.units=A.units+1:=rfl
    have Y: ∀(l m:List D) (E L:List V) (h w:ku) (k:Int),D.BJ l+1<=n+1->D.BJ m<20000->AJ X.K H O l E->AJ X.K H B m L->Vals E h->Vals L w->tw op l m=XV r->BF op A.in1 s (lR op (h.length+k)<|w.length+k) (h.zip w) r:=by
     intro l
     induction l with
     |nil=>
      intro m E L h w k P F z o Q C g;rw[AJ] at z;subst z;cases Q;rw[tw] at g;have e1:=o.length;have e2:=C.length;show r=_;rw[sO,<-lj g]
      congr 1
      lia
     |cons x l U'=>
      intro m E L h w k P F z o Q C g;rw[AJ] at z;obtain⟨Z,xr,rfl,g1,g2⟩:=z
      cases Q with
      |cons a1 a2=>
       cases m with
       |nil=>
        rw[AJ] at o;subst o;cases C;rw[tw] at g;have e1:=g2.length;have e2:=a2.length;rw[kA];show r=_;rw[sO,<-lj g]
        congr 1
        simp only[lg];lia
       |cons y m=>
        rw[AJ] at o;obtain⟨vy,yr,rfl,g3,g4⟩:=o
        cases C with
        |cons b1 b2=>
         rw[tw] at g;rw[D.BJ] at P F;rw[wo];refine⟨D.BC x y,Bk I n x y Z vy _ _ O B A.in1 (.inl g1) (.inl g3) a1 b1 (by lia) (by lia) (by rw[S];lia),?_⟩
         cases R:D.BC x y with
         |true=>
          rw[R,jl AM] at g;rw[jl AM];have:=U' m xr yr _ _ (k+1) (by lia) (by lia) g2 g4 a2 b2 g;simp only[lg];have e: ∀a:Nat,(((a+1:Nat):Int)+k)=(a:Int)+(k+1):=λa=>by lia
          rw[e,e];exact this
         |false=>rw[R,jv kR] at g;rw[jv kR];exact ih x y Z vy _ _ O B A.in1 r (.inl g1) (.inl g3) a1 b1 (by lia) (by lia) (by rw[S];lia) g
    have:=Y l m E L h w 0 (by lia) (by lia) z o Q C g;refine aeu N pl d9 (by lia) ?_;simpa using this
   |_=>rw[nR] at g<;>first|cases g|(intros;simp_all)
  |_=>rw[nR] at g<;>first|cases g|(intros;simp_all)
noncomputable def ud(a:dz)(d e:D):Option (D×Bool):=if d.dep<=50/\e.dep<=50 then(nR a d e).map λb=>(.bl b,U) else C
def nI(b:A5 op)(l:X.A.units+60<aQ):EC X (aM op) (rD X.K<|ud op):=by
 intro c s f H x y v u Q T j k h;obtain⟨O,d,e,z,np,h1,g,a,G⟩:=h;unfold ud at a;split at a
 .rename_i hd;obtain⟨r,i,rfl⟩:=jL a;have:=Nl b T 50 d e x y v u O O X.A r h1 g j k hd.1 (by lia) (by lia) i X.prog X.w X.xe (EP X c f Q) ⟨.bl r,H,T,rfl,G.bl⟩;rcases b with rfl|rfl|rfl|rfl<;>exact this
 .cases a
end
open TS
section
variable {b:jw}{w:jm}{A:jn}{E:jJ}{s:iZ}
noncomputable def qA(h:jo)(a:iW)(c:ku):Heap:=((h.update a<|aL λ_=> #[]).push<|bt "tuple" c.toArray 0).push<|bt "list" #[] 0
noncomputable def OP(a:ku)(i:Nat):Keyed:=(a.getD i ao,a.getD i ao)
def vX{a:iW}{c:ku}{n:Nat}{P:x6->iZ->Prop}{κ:rd}{lt:Nat->Nat->Bool}(t:s.heap.get? a=XV (bt "list" c.toArray n))(B:(A7 c)<=sizeLine)(O: ∀i j,lt i j=YP->lt j i=ZB)(N: ∀{i j k},lt j i=ZB->lt k j=ZB->lt k i=ZB)
  (hk:2<=A7 c->ah (aj b w) A (keyKind' c.toArray) (λg d=>d={s with heap:=qA s.heap a c}/\g=κ) (λ_ _=>False) {s with heap:=qA s.heap a c})
  (ask:2<=A7 c->Ask (aj b w) A (λd=>d={s with heap:=qA s.heap a c}) (OP c) κ (A7 c) lt)
  (h: ∀p:List Nat,p.Perm (au<|A7 c)->p.Pairwise (λi j=>lt j i=ZB)->P (.done<|.ret .none) {s with heap:=(qA s.heap a c).update a (aL λ_=>(p.map λi=>c.getD i ao).toArray)}):
  ah (aj b w) A (aV.«list.sort» ⟨[.ref a],[]⟩) P E s:=by
 rw[list_sort_plain];have U:a<s.heap.objs.size:=kH t;refine iX<|G8 t AM<|iX<|wm t AM ?_ (by rw[kd];exact B)<|mf _;obtain⟨v,C⟩: ∃v,(s.heap.update a<|aL λ_=>(#[]:Array jg)).get? a=XV (bt "list" #[] v):=⟨_,yJ t λ_=> #[]⟩
 refine iX<|Ah C AM<|iX<|DT ?_ (by show (A7 c)<=_;exact B);refine iX<|DE ?_<|mf _;refine mv ?_;have r:(qA s.heap a c).get? a=XV (bt "list" #[] v):=kg _ (kg _ C);show ah (aj b w) A _ P E {s with heap:=qA s.heap a c};dsimp only;by_cases l:c.toArray.size<2
 .rw[jl l,jl l];refine iX<|jd ?_;rw[Ha];refine iX<|jd ?_;dsimp only;refine iX<|Ah r AM<|iX<|wm r AM ?_ (mf _) ?_
  .simp only[vN,ke,kB];refine jd ?_;have u:(A7 c)<2:=by simpa using l
   have:=h (au<|A7 c) (wk _) (by rw[PZ];intro i j m J Y;simp at m J;lia)
   have e:((c.toArray.zip c.toArray).map (·.2))=((au<|A7 c).map λi=>c.getD i ao).toArray:=by
    apply A1
    .simp
    .intro i h1 G;have m:i<(A7 c):=by simpa using h1
     simp[m]
   rw[e];exact this
  .rw[sm,sa];simp;lia
 .rw[jv l,jv l];have u:2<=(A7 c):=by simpa using l
  refine iX<|nX (hk u) (λg d z=>?_) λ_ _ x=>x.elim;obtain⟨rfl,rfl⟩:=z;refine iX (nX (Qm (X:=⟨_,A,E,λd=>d={s with heap:=qA s.heap a c},OP c,lt,g,A7 c,O,N,ask u⟩) (L:=au<|A7 c) ⟨?_,rfl,rfl,rfl,.refl _⟩ (Q:=λ_ q=> ∃p,(gb q).map (·.2)=(p.map λi=>c.getD i ao).toArray/\gw q=X0/\p.Perm (au<|A7 c)/\p.Pairwise λi j=>lt j i=ZB) (λq _ p R y=>⟨p,?_,R.f,R.p,y⟩) _ rfl) ?_ λ_ _ e=>e)
  .show c.toArray.zip c.toArray=_;apply A1
   .simp
   .intro i h1 G;have m:i<(A7 c):=by simpa using h1
    simp[OP,m]
  .rw[R.a];simp[OP]
  rintro⟨⟨⟩,q⟩ d ⟨rfl,H,o,T,I,y⟩;dsimp only;have M:(A7 H)=(A7 c):=by simpa using I.length_eq
  refine iX<|Ah r AM<|iX<|wm r AM ?_ (mf _) ?_
  .rw[T];simp only[vN,ke,kB];rw[o];exact jd<|h H I y
  .rw[o,kd,kn,M];lia
end
mutual
noncomputable def cT:D->D->Ordering
 | .int i,.int j=>if i<j then .lt else if i=j then .eq else .gt
 | .int _,_=> .lt
 | .tup _,.int _=> .gt
 | .tup l,.tup m=>cL l m
 | .tup _,_=> .lt
 |_,.int _=> .gt
 |_,.tup _=> .gt
 |_,_=> .eq
noncomputable def cL:List D->List D->Ordering
 |[],[]=> .eq
 |[],_::_=> .lt
 |_::_,[]=> .gt
 |x::l,y::m=>match cT x y with
  | .lt=> .lt
  | .gt=> .gt
  | .eq=>cL l m
end
mutual
theorem Ke: ∀x:D,cT x x= .eq
 | .int i=>by simp[cT]
 | .tup l=>by rw[cT];exact Kg l
 | .Ax=>by simp[cT]
 | .bl _=>by simp[cT]
 | .str _=>by simp[cT]
 | .lst _=>by simp[cT]
 | .B8 _ _ _=>by simp[cT]
theorem Kg: ∀l:List D,cL l l= .eq
 |[]=>by simp[cL]
 |x::l=>by rw[cL,Ke x];exact Kg l
end
mutual
theorem Ad: ∀x y:D,cT y x=(cT x y).swap
 | .int i,.int j=>by
  rw[cT,cT];by_cases h1:i<j
  .rw[jl h1,jv<|by lia,jv<|by lia];rfl
  .rw[jv h1];by_cases a:i=j
   .rw[jl a,jv<|by lia,jl a.symm];rfl
   .rw[jv a,jl<|by lia];rfl
 | .tup l,.tup m=>by rw[cT,cT];exact Kf l m
 | .int _,.tup _=>by simp[cT]
 | .int _,.Ax=>by simp[cT]
 | .int _,.bl _=>by simp[cT]
 | .int _,.str _=>by simp[cT]
 | .int _,.lst _=>by simp[cT]
 | .int _,.B8 _ _ _=>by simp[cT]
 | .tup _,.int _=>by simp[cT]
 | .tup _,.Ax=>by simp[cT]
 | .tup _,.bl _=>by simp[cT]
 | .tup _,.str _=>by simp[cT]
 | .tup _,.lst _=>by simp[cT]
 | .tup _,.B8 _ _ _=>by simp[cT]
 | .Ax,y=>by cases y<;>simp[cT]
 | .bl _,y=>by cases y<;>simp[cT]
 | .str _,y=>by cases y<;>simp[cT]
 | .lst _,y=>by cases y<;>simp[cT]
 | .B8 _ _ _,y=>by cases y<;>simp[cT]
theorem Kf: ∀l m:List D,cL m l=(cL l m).swap
 |[],[]=>by simp[cL]
 |[],_::_=>by simp[cL]
 |_::_,[]=>by simp[cL]
 |x::l,y::m=>by
  rw[cL,cL,Ad x y];cases h:cT x y<;>simp[gi]
  exact Kf l m
end
def Oy(h1:cT x y≠ .gt)(a:cT y x≠ .gt):cT x y= .eq:=by
 rw[Ad x y] at a
 cases h:cT x y with
 |lt=>rw[h] at a;exact absurd H a
 |eq=>rfl
 |gt=>exact absurd h h1
mutual
theorem yu: ∀x y z:D,cT x y≠ .gt->cT y z≠ .gt->cT x z≠ .gt
 | .int i,y,z,h1,d=>by
  cases z with
  |int k=>
   cases y with
   |int j=>
    rw[cT] at h1 d ⊢
    have a:i<=j:=by
     by_cases a:i<j
     .lia
     .rw[jv a] at h1;by_cases b:i=j
      .lia
      .rw[jv b] at h1;exact absurd H h1
    have b:j<=k:=by
     by_cases a:j<k
     .lia
     .rw[jv a] at d;by_cases b:j=k
      .lia
      .rw[jv b] at d;exact absurd H d
    by_cases c:i<k
    .rw[jl c];simp
    .rw[jv c,jl<|by lia];simp
   |_=>simp[cT] at d
  |_=>simp[cT]
 | .tup l,y,z,h1,d=>by
  cases y with
  |int j=>simp[cT] at h1
  |tup m=>
   cases z with
   |int k=>simp[cT] at d
   |tup n=>rw[cT] at h1 d ⊢;exact GD l m n h1 d
   |_=>simp[cT]
  |_=>cases z<;>simp_all [cT]
 | .Ax,y,z,h1,d=>by cases y<;>cases z<;>simp_all [cT]
 | .bl _,y,z,h1,d=>by cases y<;>cases z<;>simp_all [cT]
 | .str _,y,z,h1,d=>by cases y<;>cases z<;>simp_all [cT]
 | .lst _,y,z,h1,d=>by cases y<;>cases z<;>simp_all [cT]
 | .B8 _ _ _,y,z,h1,d=>by cases y<;>cases z<;>simp_all [cT]
 termination_by x y z=>sizeOf x+sizeOf y+sizeOf z
theorem GD: ∀l m n:List D,cL l m≠ .gt->cL m n≠ .gt->cL l n≠ .gt
 |[],m,n,_,_=>by cases n<;>simp[cL]
 |x::l,[],n,h1,_=>by simp[cL] at h1
 |x::l,y::m,[],_,a=>by simp[cL] at a
 |x::l,y::m,z::n,h1,a=>by
  have a1:cT x y≠ .gt:=λh=>by rw[cL,h] at h1;exact h1 H
  have c:cT y z≠ .gt:=λh=>by rw[cL,h] at a;exact a H
  have g:=yu x y z a1 c;rw[cL]
  cases b:cT x z with
  |lt=>simp
  |gt=>exact absurd b g
  |eq=>
   have f:cT z x≠ .gt:=by rw[Ad x z,b];simp[gi]
   have d:cT x y= .eq:=Oy a1<|yu y z x c f;have e:cT y z= .eq:=Oy c<|yu z x y f a1;rw[cL,d] at h1;rw[cL,e] at a;exact GD l m n h1 a
 termination_by l m n=>sizeOf l+sizeOf m+sizeOf n
end
noncomputable def EE(x y:D):Bool:=cT x y== .lt
def X4:EE x y=J↔cT x y= .lt:=by simp[EE]
def CJ:EE x y=U↔cT x y≠ .lt:=by simp[EE]
def Tr:EE y x=U↔cT x y≠ .gt:=by rw[CJ,Ad x y];cases cT x y<;>simp[gi]
def YH(x y:D)(h:EE x y=J):EE y x=U:=by rw[Tr,X4.mp h];simp
def Xh(h1:EE y x=U)(a:EE z y=U):EE z x=U:=Tr.mpr<|yu _ _ _ (Tr.mp h1) (Tr.mp a)
mutual
/-- ints,and tuples of such -/
noncomputable def D.pr:D->Bool
 | .int _=>J
 | .tup l=>D.Ja l
 |_=>U
noncomputable def D.Ja:List D->Bool
 |[]=>J
 |x::l=>D.pr x&&D.Ja l
end
mutual
theorem II: ∀x y:D,D.pr x=J->D.pr y=J->D.BC x y=(cT x y== .eq)
 | .int i,.int j,_,_=>by
  rw[D.BC,cT];by_cases h:i=j
  .subst h;simp
  .rw[jv h];by_cases a:i<j<;>simp[h,a]
 | .int _,.tup _,_,_=>by simp[D.BC,cT]
 | .tup _,.int _,_,_=>by simp[D.BC,cT]
 | .tup l,.tup m,h1,a=>by rw[D.BC,cT];rw[D.pr] at h1 a;exact J6 l m h1 a
 | .Ax,_,h,_=>by simp[D.pr] at h
 | .bl _,_,h,_=>by simp[D.pr] at h
 | .str _,_,h,_=>by simp[D.pr] at h
 | .lst _,_,h,_=>by simp[D.pr] at h
 | .B8 _ _ _,_,h,_=>by simp[D.pr] at h
 |_,.Ax,_,h=>by simp[D.pr] at h
 |_,.bl _,_,h=>by simp[D.pr] at h
 |_,.str _,_,h=>by simp[D.pr] at h
 |_,.lst _,_,h=>by simp[D.pr] at h
 |_,.B8 _ _ _,_,h=>by simp[D.pr] at h
theorem J6: ∀l m:List D,D.Ja l=J->D.Ja m=J->D.Cf l m=(cL l m== .eq)
 |[],[],_,_=>by simp[D.Cf,cL]
 |[],_::_,_,_=>by simp[D.Cf,cL]
 |_::_,[],_,_=>by simp[D.Cf,cL]
 |x::l,y::m,h1,a=>by rw[D.Ja,mP] at h1 a;rw[D.Cf,cL,II x y h1.1 a.1,J6 l m h1.2 a.2];cases cT x y<;>simp
end
mutual
theorem Bt: ∀x y:D,D.pr x=J->D.pr y=J->cT x y= .eq->x=y
 | .int i,.int j,_,_,h=>by
  rw[cT] at h;by_cases h1:i<j
  .rw[jl h1] at h;cases h
  .rw[jv h1] at h;by_cases c:i=j
   .rw[c]
   .rw[jv c] at h;cases h
 | .tup l,.tup m,a,b,h=>by rw[cT] at h;rw[D.pr] at a b;rw[GF l m a b h]
 | .int _,.tup _,_,_,h=>by simp[cT] at h
 | .tup _,.int _,_,_,h=>by simp[cT] at h
 | .Ax,_,a,_,_=>by simp[D.pr] at a
 | .bl _,_,a,_,_=>by simp[D.pr] at a
 | .str _,_,a,_,_=>by simp[D.pr] at a
 | .lst _,_,a,_,_=>by simp[D.pr] at a
 | .B8 _ _ _,_,a,_,_=>by simp[D.pr] at a
 |_,.Ax,_,a,_=>by simp[D.pr] at a
 |_,.bl _,_,a,_=>by simp[D.pr] at a
 |_,.str _,_,a,_=>by simp[D.pr] at a
 |_,.lst _,_,a,_=>by simp[D.pr] at a
 |_,.B8 _ _ _,_,a,_=>by simp[D.pr] at a
theorem GF: ∀l m:List D,D.Ja l=J->D.Ja m=J->cL l m= .eq->l=m
 |[],[],_,_,_=>rfl
 |[],_::_,_,_,h=>by simp[cL] at h
 |_::_,[],_,_,h=>by simp[cL] at h
 |x::l,y::m,a,b,h=>by
  rw[D.Ja,mP] at a b;rw[cL] at h
  cases e:cT x y with
  |eq=>rw[e] at h;rw[Bt x y a.1 b.1 e,GF l m a.2 b.2 h]
  |lt=>rw[e] at h;cases h
  |gt=>rw[e] at h;cases h
end
mutual
theorem E8: ∀x y:D,D.pr x=J->D.pr y=J-> ∀b,nR .Lt x y=Y b->b=EE x y
 | .int i,.int j,_,_,b,h=>by
  rw[nR] at h;rw[<-lj h,EE,cT,lR];by_cases h1:i<j
  .simp[h1]
  .rw[jv h1];by_cases a:i=j<;>simp[h1,a]
 | .int _,.tup _,_,_,b,h=>by simp[nR] at h
 | .tup _,.int _,_,_,b,h=>by simp[nR] at h
 | .tup l,.tup m,h1,a,b,h=>by rw[nR] at h;rw[D.pr] at h1 a;rw[EE,cT];exact Kb l m h1 a b h
 | .Ax,_,h,_,_,_=>by simp[D.pr] at h
 | .bl _,_,h,_,_,_=>by simp[D.pr] at h
 | .str _,_,h,_,_,_=>by simp[D.pr] at h
 | .lst _,_,h,_,_,_=>by simp[D.pr] at h
 |_,.Ax,_,h,_,_=>by simp[D.pr] at h
 |_,.bl _,_,h,_,_=>by simp[D.pr] at h
 |_,.str _,_,h,_,_=>by simp[D.pr] at h
 |_,.lst _,_,h,_,_=>by simp[D.pr] at h
theorem Kb: ∀l m:List D,D.Ja l=J->D.Ja m=J-> ∀b,tw .Lt l m=Y b->b=(cL l m== .lt)
 |[],[],_,_,b,h=>by rw[tw] at h;rw[<-lj h];simp[lR,cL]
 |[],_::_,_,_,b,h=>by rw[tw] at h;rw[<-lj h];simp[lR,cL]<;>lia
 |_::_,[],_,_,b,h=>by rw[tw] at h;rw[<-lj h];simp[lR,cL]<;>lia
 |x::l,y::m,h1,a,b,h=>by
  rw[D.Ja,mP] at h1 a;rw[tw,II x y h1.1 a.1] at h;rw[cL]
  cases c:cT x y with
  |eq=>rw[c] at h;simp at h;exact Kb l m h1.2 a.2 b h
  |lt=>rw[c] at h;simp at h;have:=E8 x y h1.1 a.1 b h;rw[this,EE,c]
  |gt=>rw[c] at h;simp at h;have:=E8 x y h1.1 a.1 b h;rw[this,EE,c]
end
section
variable {a:Type}(lt:a->a->Bool)
noncomputable def EN(x:a):List a->List a
 |[]=>[x]
 |y::l=>if lt y x=J then y::EN x l else x::y::l
noncomputable def nF:List a->List a
 |[]=>[]
 |x::l=>EN lt x<|nF l
theorem vB(x:a): ∀l:List a,(EN lt x l).Perm (x::l)
 |[]=>wk _
 |y::l=>by
  rw[EN];split
  .exact((vB x l).cons y).trans (iP x y l)
  .exact wk _
theorem la: ∀l:List a,(nF lt l).Perm l
 |[]=>wk _
 |x::l=>(vB lt x _).trans<|(la l).cons x
end
def OQ{x:D}: ∀{l:List D},(l.Pairwise λx y=>EE y x=U)->(EN EE x l).Pairwise λx y=>EE y x=U:=by
 intro d
 induction d with
 |nil=>intro _;exact Mk _ _
 |cons y l c=>
  intro h;have h:=Fq.mp h;rw[EN]
  cases b:EE y x with
  |true=>
   refine Fq.mpr ⟨λz a=>?_,c h.2⟩;rcases lz.mp ((vB EE x l).mem_iff.mp a) with rfl|a
   .exact YH _ _ b
   .exact h.1 z a
  |false=>
   refine Fq.mpr ⟨λz a=>?_,Fq.mpr h⟩;rcases lz.mp a with rfl|a
   .exact b
   .exact Xh b (h.1 z a)
theorem rA: ∀l:List D,(nF EE l).Pairwise λx y=>EE y x=U
 |[]=>du
 |x::l=>OQ<|rA l
def M4{l m:List D}(h: ∀x∈m,D.pr x=J)(a:l.Perm m)(c:l.Pairwise λx y=>EE y x=U):l=nF EE m:=
 Td (λx y d e h1 b=>Bt x y (h x<|a.mem_iff.mp d) (h y<|(la EE m).mem_iff.mp e)<|Oy (Tr.mp h1)<|Tr.mp b) c (rA m) (a.trans (la EE m).symm)
def ac8{a:List D}{p:kj}(pr: ∀x∈a,D.pr x=J)(d:p.Perm (au<|A7 a))(f:p.Pairwise λi j=>EE (a.getD j .Ax) (a.getD i .Ax)=U):p.map (λi=>a.getD i .Ax)=nF EE a:=by
 have e:(au<|A7 a).map (λi=>a.getD i .Ax)=a:=by apply DY;intro i;by_cases c:i<A7 a<;>simp[c]
 have b:=d.map λi=>a.getD i .Ax;rw[e] at b;exact M4 pr b<|ue.mpr f
noncomputable def lX:D->Option Nat
 | .int _=>Y 0
 | .tup (.int _::_)=>Y 1
 | .tup (.tup _::_)=>Y 2
 |_=>C
noncomputable def JT:Nat->rd
 |0=>Ev
 |1=>R1 J
 |_=>R1 U
structure I0(k:Nat)(l:List D):Prop where
 hd: ∀x∈l,lX x=XV k
 pr: ∀x∈l,D.pr x=YP
 dp: ∀x∈l,x.dep<=50
 cm: ∀x∈l,∀y∈l,(nR .Lt x y).isSome=YP
noncomputable def oO(l:List D):Bool:=A7 l<=1||match l with
 |[]=>J
 |x::_=>(lX x).isSome&&(l.all λy=>lX y==lX x&&D.pr y&&decide (y.dep<=50))&&l.all λy=>l.all λz=>(nR .Lt y z).isSome
def Ct(h:oO l=J):(A7 l)<=1\/ ∃k,I0 k l:=by
 unfold oO at h;rw[yI] at h;rcases h with h|h
 .left;simpa using h
 .right
  cases l with
  |nil=>exact⟨0,λx a=>absurd a lY,λx a=>absurd a lY,λx a=>absurd a lY,λx a=>absurd a lY⟩
  |cons x m=>simp only[mP,mZ,sd] at h;obtain⟨⟨h1,c⟩,d⟩:=h;obtain⟨k,hk⟩:=MF.mp h1;refine⟨k,λy b=>?_,λy b=>(c y b).1.2,λy b=>(c y b).2,λy b z e=>d y b z e⟩;have:=(c y b).1.1;rw[hk] at this;simpa using this
section
variable {X:Cx}{d:jK}{f:L2.St}{H:Hp}{s:iZ}
def vh(v:Vals xs a)(b:i<a.length):RelV (xs.getD i .Ax) (a.getD i ao):=by
 have e:=v.length;have h:xs[i]?=Y xs[i]:=kK (by omega);obtain⟨w,c,j⟩:=v.get h;have h1:xs.getD i .Ax=xs[i]:=by simp[show i<xs.length by omega]
 have g:a.getD i ao=w:=by rw[kK b] at c;have:=lj c;simp[b,this]
 rw[h1,g];exact j
def vo(r:AJ X.K H O ds xs)(a:i<ds.length):Rep X.K H O (ds.getD i .Ax) (xs.getD i .Ax):=by
 have e:=r.length;have hd:ds[i]?=Y ds[i]:=kK a;obtain⟨v,b,g⟩:=r.get hd;have h1:ds.getD i .Ax=ds[i]:=by simp[a]
 have c:xs.getD i .Ax=v:=by rw[kK<|by lia] at b;have:=lj b;simp[show i<xs.length by lia,this]
 rw[h1,c];exact g
def AW{ds:List D}{i:Nat}(a:i<A7 ds):ds.getD i .Ax∈ds:=by simp[a]
theorem Gh(I:Inv X d f H s){A:jn}{b:Bool}{O z:B7}(hA:A.units+60<aQ){r:Bool}{Q:uh}(n:Q r s): ∀(l m:List D) (u v:List V) (g o:ku) (k:Int) (i:Nat),D.BJ l<=50->D.BJ m<=50->
  ((b&&i==0)=J-> ∀x y l' m',l=x::l'->m=y::m'->(∃a,x= .int a)/\ ∃c,y= .int c)->AJ X.K H O l u->AJ X.K H z m v->Vals u g->Vals v o->tw .Lt l m=XV r->
  ∀fin:Bool,fin=lR .Lt (g.length+k) (o.length+k)->PySem.W.KatLex X.prog X.w A b fin Q (g.zip o) i s
 |[],m,u,v,g,o,k,i,_,_,_,p,q,v1,v2,j,fin,hf=>by
  rw[AJ] at p;subst p;cases v1;rw[tw] at j;have N:=q.length;have U:=v2.length;show Q fin s;rw[hf,sO];rw[<-lj j] at n;have:lR .Lt ((([]:List jg).length:Nat):Int) (o.length:Int)=lR .Lt 0 (m.length:Int):=by congr 1;lia
  rw[this];exact n
 |x::l,[],u,v,g,o,k,i,_,_,_,p,q,v1,v2,j,fin,hf=>by
  rw[AJ] at q;subst q;cases v2;rw[tw] at j;have N:=p.length;have U:=v1.length;rw[kA];show Q fin s;rw[hf,sO];rw[<-lj j] at n;have:lR .Lt (g.length:Int) ((([]:List jg).length:Nat):Int)=lR .Lt (((x::l).length:Nat):Int) 0:=by congr 1;lia
  rw[this];exact n
 |x::l,y::m,u,v,g,o,k,i,J',G,hb,p,q,v1,v2,j,fin,hf=>by
  rw[AJ] at p q;obtain⟨E,P,rfl,g1,g2⟩:=p;obtain⟨L,R,rfl,g3,F⟩:=q
  cases v1 with
  |cons a1 T=>
   cases v2 with
   |cons B M=>
    rw[tw] at j;rw[D.BJ] at J' G;rw[wo];refine PySem.W.kat_cons<|Bk I 50 x y E L _ _ O z A (.inl g1) (.inl g3) a1 B (by lia) (by lia) (by lia) X.prog X.w _ _ ?_
    cases C:D.BC x y with
    |true=>
     rw[C,jl AM] at j;refine PySem.W.kat_yes<|Gh I hA n l m P R _ _ (k+1) (i+1) (by lia) (by lia) (λh=>by simp at h) g2 F T M j fin ?_;rw[hf];simp only[lg];have e: ∀a:Nat,(((a+1:Nat):Int)+k)=(a:Int)+(k+1):=λa=>by lia
     rw[e,e]
    |false=>
     rw[C,jv kR] at j;refine PySem.W.kat_no ?_
     cases Y:(b&&i==0) with
     |true=>obtain⟨⟨a,rfl⟩,c,rfl⟩:=hb Y x y l m AM AM;have:=g1.int;subst this;have:=g3.int;subst this;obtain⟨t,rfl⟩:=a1;obtain⟨S,rfl⟩:=B;rw[nR] at j;rw[<-lj j] at n;exact oneLt_int n
     |false=>exact PySem.W.kat_one _ _ (Nl (.inl AM) I 50 x y E L _ _ O z A r (.inl g1) (.inl g3) a1 B (by lia) (by lia) (by lia) j X.prog X.w _ _ n)
def YG(I:Inv X d f H s){O:B7}{u:List D}{N:List V}{e:ku}{A:jn}(hA:A.units+60<aQ)(rr:AJ X.K H O u N)(v:Vals N e){k:Nat}(B:I0 k u):
  Ask (aj X.prog X.w) A (λT=>T=s) (OP e) (JT k) e.length (λi j=>EE (u.getD i .Ax)<|u.getD j .Ax):=by
 intro i j hi hj T av E';subst av;have e1:=rr.length;have e2:=v.length;have J:u.getD i .Ax∈u:=AW (by lia);have M:u.getD j .Ax∈u:=AW (by lia);have ri:=vo rr (i:=i) (by lia);have rj:=vo rr (i:=j) (by lia);have vi:=vh v hi;have vj:=vh v hj;obtain⟨b,E⟩:=MF.mp<|B.cm _ J _ M;have i3:=E8 _ _ (B.pr _ J) (B.pr _ M) b E;have r:=B.hd _ J;have g:=B.hd _ M;have di:=B.dp _ J;have dj:=B.dp _ M;show ah _ _ (EQ (JT k) (e.getD i ao)<|e.getD j ao) _ _ _;dsimp only;rw[<-i3];generalize u.getD i .Ax=x at*;generalize u.getD j .Ax=y at*;generalize N.getD i .Ax=vx at*;generalize N.getD j .Ax=vy at*;generalize e.getD i ao=a at*;generalize e.getD j ao=c at*
 have C: ∀(l m:List D) (G:Bool),x= .tup l->y= .tup m->(G=YP-> ∀x y Z m',l=x::Z->m=y::m'->(∃a,x= .int a)/\ ∃c,y= .int c)->ah (aj X.prog X.w) A (EQ (R1 G) a c) (λY U=>U=T/\Y=b) E' T:=λl m G P R hh=>by subst P R;obtain⟨p,us,rfl,q,r1⟩:=ri.tup;obtain⟨p2,ws,rfl,q2,r2⟩:=rj.tup;cases vi;cases vj;obtain⟨S,w1,⟨o,ho,hc,n,hd⟩,_⟩:=I.tuple q.sq;obtain⟨L,w2,⟨o2,o8,ag,n2,F⟩,_⟩:=I.tuple q2.sq;rw[nR] at E;rw[D.dep] at di dj;refine PySem.W.kat_lt ho hd o8 F ?_;have:=Gh I (b:=G) hA (Q:=λY U=>U=T/\Y=b) ⟨rfl,rfl⟩ l m us ws S L 0 0 (by lia) (by lia) (λh=>hh<|by simpa using h) r1 r2 w1 w2 E (decide<|S.toArray.size<L.toArray.size) (by simp[lR]);simpa using this
 match k,r,g with
 |0,r,g=>
  cases x with
  |int ix=>
   cases y with
   |int iy=>have:=ri.int;subst this;have:=rj.int;subst this;obtain⟨t,rfl⟩:=vi;obtain⟨t',rfl⟩:=vj;rw[nR] at E;rw[<-lj E];show ah _ _ (EQ Ev _ _) _ _ _;rw[keyLt'_oneType];exact oneLt_int ⟨rfl,rfl⟩
   |tup m=>cases m with
    |nil=>simp[lX] at g
    |cons z m=>cases z<;>simp[lX] at g
   |_=>simp[lX] at g
  |tup m=>cases m with
   |nil=>simp[lX] at r
   |cons z m=>cases z<;>simp[lX] at r
  |_=>simp[lX] at r
 |1,r,g=>
  cases x with
  |tup l=>
   cases y with
   |tup m=>
    refine C l m YP AM AM λ_ x y Z m' P R=>?_;subst P R;refine⟨?_,?_⟩
    .cases x with
     |int a=>exact⟨a,rfl⟩
     |_=>simp[lX] at r
    .cases y with
     |int a=>exact⟨a,rfl⟩
     |_=>simp[lX] at g
   |_=>simp[lX] at g
  |_=>simp[lX] at r
 |(n+2),r,g=>
  cases x with
  |tup l=>
   cases y with
   |tup m=>exact C l m ZB AM AM λh=>absurd h kR
   |_=>simp[lX] at g
  |_=>simp[lX] at r
end
open PySem.W
section
variable {X:Cx}{c:jK}{y:L2.St}{H:Hp}{s:iZ}
def Gq(I:Inv X c y H s){O:B7}{T:jg}(P:D->Prop)(m: ∀x v u,P x->Rep X.K H O x v->RelV v u->Looks (aj X.prog X.w) s.heap (B0 u) T): ∀{ds:List D} {b:List V} {a:ku},AJ X.K H O ds b->Vals b a->
  (∀d∈ds,∃x l,d= .tup (x::l)/\P x)-> ∃fs,KatTups s.heap a fs/\(A7 fs)=A7 a/\ ∀f∈fs,Looks (aj X.prog X.w) s.heap (B0 f) T:=by
 intro C
 induction C with
 |nil=>intro b a r v _;rw[AJ] at r;subst r;cases v;exact⟨[],KatTups.nil,rfl,λf z=>absurd z lY⟩
 |cons d ds B=>
  intro b a r v h;rw[AJ] at r;obtain⟨S,W,rfl,g1,g2⟩:=r
  cases v with
  |cons a1 j=>
   obtain⟨fs,E,L,Q⟩:=B g2 j λd hd=>h d<|jZ _ hd;obtain⟨x,l,rfl,G⟩:=h d jW;obtain⟨p,R,rfl,q,i⟩:=g1.tup;cases a1;obtain⟨U,M,⟨o,A,t,n,hd⟩,_⟩:=I.tuple q.sq;rw[AJ] at i;obtain⟨J,Z,rfl,g3,F⟩:=i
   cases M with
   |cons k N=>
    rename_i f Y;refine⟨f::fs,KatTups.cons A t hd (by simp) E,by simp[L],λg e=>?_⟩;rcases lz.mp e with rfl|e
    .exact m x J _ G g3 k
    .exact Q g e
def VA(I:Inv X c y H s){O:B7}{ds:List D}{J:List V}{b:ku}{A:jn}(f:AJ X.K H O ds J)(v:Vals J b){k:Nat}(B:I0 k ds)(M:2<=b.length):
  ah (aj X.prog X.w) A (keyKind' b.toArray) (λL s'=>s'=s/\L=JT k) (λ_ _=>False) s:=by
 have P:=f.length;have R:=v.length
 match k,B with
 |0,B=>
  refine kas_kind (T:= .type "int") M (λu Y=>?_) AM AM ⟨rfl,rfl⟩;obtain⟨i,Q,e⟩:=DK Y;have G:=vo f (i:=i) (by lia);have E:=vh v Q;have hd:=B.hd _ (AW (ds:=ds) (i:=i)<|by lia);have:b.getD i ao=u:=by simp[Q,e]
  rw[this] at E
  cases h:ds.getD i .Ax with
  |int a=>rw[h] at G;have:=G.int;rw[this] at E;obtain⟨t,rfl⟩:=E;exact Looks.of_pure AM
  |tup l=>
   rw[h] at hd
   cases l with
   |nil=>simp[lX] at hd
   |cons z m=>cases z<;>simp[lX] at hd
  |_=>rw[h] at hd;simp[lX] at hd
 |1,B=>
  obtain⟨fs,f1,f2,g⟩:=Gq I (T:= .type "int") (λx=> ∃a,x= .int a) (λx F u j C r=>by
   obtain⟨a,rfl⟩:=j;have:=C.int;subst this;obtain⟨t,rfl⟩:=r
   exact Looks.of_pure AM) f v λd hd=>by
    have:=B.hd d hd
    cases d with
    |tup l=>
     cases l with
     |nil=>simp[lX] at this
     |cons z m=>
      cases z with
      |int a=>exact⟨_,m,rfl,a,rfl⟩
      |_=>simp[lX] at this
    |_=>simp[lX] at this
  exact kat_kind f1 (by lia) g AM ⟨rfl,rfl⟩
 |(n+2),B=>
  obtain⟨fs,f1,f2,g⟩:=Gq I (T:= .type "tuple") (λx=> ∃a,x= .tup a) (λx F u j C r=>by
   obtain⟨a,rfl⟩:=j;obtain⟨p,Z,rfl,q,W⟩:=C.tup;cases r;obtain⟨S,w1,⟨o,U,N,n,hd⟩,_⟩:=I.tuple q.sq;have:Looks (aj X.prog X.w) s.heap (B0<|.ref p) o.cls:=(Looks.ld U).andThen .now
   rw[N] at this;exact this) f v λd hd=>by
    have:=B.hd d hd
    cases d with
    |tup l=>
     cases l with
     |nil=>simp[lX] at this
     |cons z m=>
      cases z with
      |tup a=>exact⟨_,m,rfl,a,rfl⟩
      |_=>simp[lX] at this
    |_=>simp[lX] at this
  exact kat_kind f1 (by lia) g AM ⟨rfl,rfl⟩
noncomputable def lE(l:List D):Option (D×Bool):=if oO l=J/\(A7 l)<=sizeLine then Y (.lst<|nF EE l,J) else C
noncomputable def ye(d:D):Option (D×Bool):=(AB d).bind lE
def adR{b:List V}{a:ku}(v:Vals b a): ∀(p:kj),(∀i∈p,i<A7 a)->Vals (p.map λi=>b.getD i .Ax) (p.map λi=>a.getD i ao):=by
 intro f
 induction f with
 |nil=>intro _;exact .nil
 |cons i p e=>intro h;exact .cons (vh v<|h i jW)<|e λj d=>h j<|jZ _ d
def aes{O:B7}{a:List D}{b:List V}(r:AJ X.K H O a b): ∀(p:kj),(∀i∈p,i<A7 a)->AJ X.K H O (p.map λi=>a.getD i .Ax) (p.map λi=>b.getD i .Ax):=by
 intro f
 induction f with
 |nil=>intro _;exact AJ.nil
 |cons i p e=>intro h;exact AJ.cons (vo r<|h i jW)<|e λj d=>h j<|jZ _ d
def ab3{b:List D}{n:Nat}(e:n=A7 b)(h1:(A7 b)<=1){p:kj}(a:p.Perm (au n)):p.map (λi=>b.getD i .Ax)=nF EE b:=by
 subst e
 match b,h1,a with
 |[],_,a=>
  have:p=[]:=by simpa using a.length_eq
  subst this;rfl
 |[d],_,a=>
  have e:(A7 p)=1:=by simpa using a.length_eq
  match p,e,a with
  |[i],_,a=>
   have:i=0:=by have:=a.mem_iff.mp<|Je.mpr AM;simpa using this
   subst this;rfl
def vn(hu:X.A.units+62<aQ)(I:Inv X c y H s){O:B7}{f:List D}{M:List V}{a:ku}{x:jg}{Q:VK}{z:D×Bool}(u:AJ X.K H O f M)(v:Vals M a)(hg:lE f=XV z)(G:Gen X.K H O z Q)
  (hc: ∀(Y:List jg->iZ->Prop) (E':jJ) (N:jn),N.handled=X.A.handled->(∀(h':jo) (d:Nat),(∀b o,s.heap.get? b=XV o->h'.get? b=XV o)->Y a {s with heap:=h',toks:=d})->ah (aj X.prog X.w) N (gm x) Y E' s):
  ah (aj X.prog X.w) X.A (call (.builtin "sorted") [x]) (EP X c y Q) X.xe s:=by
 unfold lE at hg;obtain⟨⟨L,hz⟩,rfl⟩:=jH hg;have r:=u.length;have e2:=v.length;refine Calls.call_function_entry W1 Sc Sr (args_sorted1 _) ?_;unfold aV.«sorted»;refine iX (m:=checkCount "sorted" 1 1 _)<|jd ?_;refine iX<|hc _ _ _ rfl λh1 d S=>?_;refine iX<|DE ?_ (by lia);have t:(h1.push<|bt "list" a.toArray 0).get? h1.objs.size=XV (bt "list" a.toArray 0):=kG _ rfl;have C:Inv X c y H {s with heap:=h1,toks:=d}:=I.kept S
 have keep: ∀b o,h1.get? b=XV o->(qA (h1.push<|bt "list" a.toArray 0) h1.objs.size a).get? b=XV o:=λb o l=>by have R:b≠h1.objs.size:=kf<|kH l;refine kg _ (kg _ ?_);rw[G7 _ _ _ _ R];exact kg _ l
 have U:Inv X c y H {s with heap:=qA (h1.push<|bt "list" a.toArray 0) h1.objs.size a,toks:=d}:=C.kept keep;have Z: ∀i∈au a.length,i<a.length:=λi q=>by simpa using q
 refine iX<|mv<|nW (s:={s with heap:=h1.push<|bt "list" a.toArray 0,toks:=d}) Do ⟨_,t,rfl⟩ z7 ?body<|args_list_sort _
 case body=>
  have fin: ∀p:List Nat,p.Perm (au a.length)->p.map (λi=>f.getD i .Ax)=nF EE f->EP X c y Q (.ref h1.objs.size) {s with heap:=(qA (h1.push<|bt "list" a.toArray 0) h1.objs.size a).update h1.objs.size<|aL λ_=>(p.map λi=>a.getD i ao).toArray,toks:=d}:=λp e T=>by
   have F: ∀i∈p,i<a.length:=λi q=>by simpa using e.mem_iff.mp q
   have J: ∃n,(qA (h1.push<|bt "list" a.toArray 0) h1.objs.size a).get? h1.objs.size=XV (bt "list" #[] n):=by
    obtain⟨r,W⟩: ∃r,((h1.push<|bt "list" a.toArray 0).update h1.objs.size<|aL λ_=>(#[]:Array jg)).get? h1.objs.size=XV (bt "list" #[] r):=⟨_,yJ t λ_=> #[]⟩
    exact⟨r,kg _ (kg _ W)⟩
   obtain⟨n,J⟩:=J;obtain⟨E,P⟩: ∃E,((qA (h1.push<|bt "list" a.toArray 0) h1.objs.size a).update h1.objs.size<|aL λ_=>(p.map λi=>a.getD i ao).toArray).get? h1.objs.size=XV (bt "list" (p.map λi=>a.getD i ao).toArray E):=⟨_,yJ J λ_=>(p.map λi=>a.getD i ao).toArray⟩
   have g: ∀b o,h1.get? b=XV o->((qA (h1.push<|bt "list" a.toArray 0) h1.objs.size a).update h1.objs.size<|aL λ_=>(p.map λi=>a.getD i ao).toArray).get? b=XV o:=λb o l=>by rw[G7 _ _ _ _ (kf<|kH l)];exact keep b o l
   have pl:p.length=a.length:=by simpa using e.length_eq
   refine⟨.ref h1.objs.size,_,C.laid (t':=d) g (kh _) (show AR X.prog X.w _ _ _ (.lst<|p.map λi=>M.getD i .Ax) from⟨by rw[kn];lia,_,E,adR v p F,P⟩),rfl,?_⟩;refine G.lst C.fresh ?_;rw[<-T];exact aes u p λi q=>by have:=F i q;lia
  rcases Ct L with hlen|⟨k,B⟩
  .refine vX (κ:=general') (lt:=λ_ _=>ZB) (s:={s with heap:=h1.push<|bt "list" a.toArray 0,toks:=d}) t (by lia) (λ_ _ _=>rfl) (λ_ _=>rfl) (λh=>by lia) (λh=>by lia) λp e _=>⟨_,rfl,jd ⟨_,rfl,fin p e ?_⟩⟩
   exact ab3 (by lia) hlen e
  .refine vX (κ:=JT k) (lt:=λi j=>EE (f.getD i .Ax)<|f.getD j .Ax) (s:={s with heap:=h1.push<|bt "list" a.toArray 0,toks:=d}) t (by lia) (λ_ _=>YH _ _) Xh (λh=>VA U u v B h) (λ_=>YG (A:=X.A.in1.in1) U (by show X.A.units+1+1+60<aQ;lia) u v B) λp e T=>⟨_,rfl,jd ⟨_,rfl,fin p e<|ac8 B.pr (by rw[show f.length=a.length by lia];exact e) T⟩⟩
def abQ(j:X.A.units+62<aQ):lr X (.builtin "sorted") (IT X.K<|g1 ye):=oU λc s y H x u Q O d z I t np hd a G=>by
 obtain⟨l,g,a⟩:=iU a
 have M:l.length<=sizeLine:=by unfold lE at a;exact(jH a).1.2
 cases d with
 |lst m=>
  cases g;obtain⟨p,N,rfl,q,r⟩:=ll hd;cases t;obtain⟨i,v,T,_⟩:=I.list q;have E:=r.length;have L:=v.length;obtain⟨o,h,f,n,hd⟩:=T.isList;refine vn j I r v a G λC B w _ e=>G6 p (.inl AM) h f hd (λb k=>by simpa using e b s.toks k) (by rw[kd];lia)
 |tup m=>
  cases g;obtain⟨p,N,rfl,q,r⟩:=lQ hd;cases t;obtain⟨i,v,⟨o,h,f,n,hd⟩,_⟩:=I.tuple q;have E:=r.length;have L:=v.length;refine vn j I r v a G λC B w _ e=>G6 p (.inr AM) h f hd (λb k=>by simpa using e b s.toks k) (by rw[kd];lia)
 |_=>cases g
def adi:aB "sorted"=Y (.builtin "sorted"):=by decide+kernel
end
def wd:aB "isinstance"=Y (.builtin "isinstance"):=by decide+kernel
structure Tx(mg:mz):Prop where
 n_len:mg "len"=X0
 n_abs:mg "abs"=X0
 n_int:mg "int"=X0
 n_tuple:mg "tuple"=X0
 n_list:mg "list"=X0
 n_range:mg "range"=X0
 n_isinstance:mg "isinstance"=X0
 n_bool:mg "bool"=X0
 n_max:mg "max"=X0
 n_min:mg "min"=X0
 n_all:mg "all"=X0
 n_any:mg "any"=X0
 n_sorted:mg "sorted"=X0
 n_enumerate:mg "enumerate"=X0
 n_zip:mg "zip"=X0
 n_set:mg "set"=X0
def R7{P:jw}{w:jm}{K:ju}{g:mz}{base:jo}{f:iW}{d:mV}{i:jq}{k:Nat}:EZ P w K g base FH k f d i (IW K λ_=>C) where
 len:=λj O Q E h=>by obtain⟨T,a,r,b,_,e,_⟩:=h;cases e
 run:=λA c s O a l j Q E _ _ _ _ h=>by obtain⟨T,a,r,b,_,e,_⟩:=h;cases e
def acO{K:ju}{T:Hp}{O:B7}: ∀a:List Int,AJ K T O (a.map .int) (a.map V.int):=by
 intro c
 induction c with
 |nil=>exact AJ.nil
 |cons n a b=>exact AJ.cons Rep.mkInt<|b
def Bh(d e:dz)(a b c:FO):F:=λf=>(a f).bind λp=>(b p.2).bind λq=>match res q.2 p.1,res q.2 q.1 with
 |some (.int i),Y (.int j)=>if lR d i j=J then(c q.2).bind λr=>match res r.2 r.1 with
   |some (.int k)=>Y ((.bl<|lR e j k,U),r.2)
   |_=>C
  else Y ((.bl U,U),q.2)
 |_,_=>C
section
variable {X:Cx}{a b c:je}{m l g:FO}{n:bO}{d f:dz}
def JD(h:A5 d):EC X (aM d) (Kv λi j=> .bl (lR d i j)):=by
 rcases h with rfl|rfl|rfl|rfl
 .exact XU
 .exact XW
 .exact XX
 .exact XY
def adK(A:tF X.K (Bh d f m l g) σ H' Q):M0 (Kv λi j=> .bl (lR d i j)) (Kv λi j=> .bl (lR f i j)) (tO X.K m) (tO X.K l) (tO X.K g) σ H' Q:=by
 obtain⟨M,T,F,N,E,e,k⟩:=A;unfold Bh at e;obtain⟨⟨x,p⟩,h1,e⟩:=iU e;obtain⟨⟨G,q⟩,y,e⟩:=iU e;refine⟨M,T,x,p,E,h1,λv U h=>⟨p,Fi T x v,G,q,h.er E,y,λu Y o=>?_⟩⟩;have B:=Ops.cons E h<|Ops.cons (h.er E) o<|Ops.nil<|o.er<|h.er E;dsimp only at e;split at e
 .rename_i i j C I;have hv:=jX<|B.view (j:=0) H H C;have t:=jX<|B.view (j:=1) H H I;refine⟨i,j,hv,t,lR d i j,rfl,?_⟩;by_cases c:lR d i j=YP
  .rw[jl c] at e ⊢;obtain⟨⟨J,r⟩,z,e⟩:=iU e;dsimp only at e;split at e
   .rename_i O L;obtain⟨rfl,rfl⟩:=jz e;refine⟨q,_,J,r,o.er<|h.er E,z,λw D P3=>?_⟩;have s:=Ops.cons E h<|Ops.cons (h.er E) o<|Ops.cons (o.er<|h.er E) P3<|Ops.nil<|P3.er<|o.er<|h.er E;exact⟨j,O,t,jX<|s.view (j:=2) H H L,(s.done k).bl⟩
   .cases e
  .rw[jv c] at e ⊢;obtain⟨rfl,rfl⟩:=jz e;exact(B.done k).bl
 .cases e
end
section
variable {X:Cx}
end
end PX
namespace HT
open L2
section
variable {a:jw}{w:jm}{A:jn}{E:jJ}{s:iZ}
def acd{t d:iW}{b:nv}{i j:jg}{lo e:Option Int}{Q:jJ}(c:re s.heap t b)(f:s.heap.IsSliceOf d i j .none)(n:eG i lo)(o:eG j e)
  (g:BR b.size 0 lo=0/\BR b.size b.size e=b.size)(h:Q (.ref t) s):ah (aj a w) A (el (.ref t)<|.ref d) Q E s:=by
 obtain⟨os,p,k,q⟩:=id f;have l:s.TypeIs (.ref d) "slice":=⟨os,p,k⟩
 unfold el
 try with_reducible refine mv ?_
 first|refine iX (jd ?_)|skip
 refine iX<|ul c.typeIs (by decide) ?_
 refine iX (vQ (name:=bn "__getitem__") c.typeIs BH
  (nW BH c.typeIs MB ?_<|te _ _))
 show ah _ _ (c8 (.ref t)>>=_) _ _ s;refine iX<|NR c ?_;refine iX<|uv l ?_;rw[jl<|by decide];refine iX<|rC f n o ?_;rw[g.1,g.2];show ah _ _ (if((((0:Nat):Int)==0&&(1:Int)==1&&(b.size-0)==b.size)=J) then _ else _) _ _ s;rw[jl<|by simp];refine iX (m:=fA _) ?_;unfold fA;refine iX<|uv c.typeIs ?_;refine jd ?_;rw[jl<|by decide];refine iX<|uo ?_
 first
  |exact iX<|jd ⟨_,rfl,jd h⟩
  |exact jd ⟨_,rfl,jd h⟩
  |exact iX<|jd<|jd ⟨_,rfl,jd h⟩
  |(refine iX ?_;trace_state;done)
end
end HT
namespace PX
open L2 PySem.SeqAt
def C4(l:List D)(lo a:Option Int):List D:=(l.drop<|HT.BR (A7 l) 0 lo).take<|HT.BR (A7 l) (A7 l) a-HT.BR (A7 l) 0 lo
def Nu(lo a:Option Int):D->Option (D×Bool)
 | .tup l=>Y (.tup<|C4 l lo a,U)
 | .lst l=>Y (.lst<|C4 l lo a,J)
 |_=>C
def Z4(K:ju):V->Option Int->Option Int->Hp->VK->Prop:=λx lo a T Q=> ∃(O:B7) (d:D) (z:D×Bool),(∀p,¬Ow (T p)-> ¬O p)/\kQ K T O d x/\Nu lo a d=Y z/\Gen K T O z Q
def AJ.cut{K T}(r:AJ K T O l xs)(lo a:Option Int):AJ K T O (C4 l lo a) (Gz xs lo a):=by unfold C4 Gz;rw[r.length];exact(r.drop _).take _
section
variable {X:Cx}
def FN{b:jK}{s:iZ}{h:L2.St}{N:Hp}{a:iW}{v e f:jg}{lo c:Option Int}{d:iW}{Q:VK}{O:B7}{l:List D}{g:List V}(M:Inv X b h N s)(n:RelV (.ref a) v)(j:s.heap.IsSliceOf d e f .none)(k:eG e lo)(m:eG f c)
  (q:Gm X.K N a g)(r:AJ X.K N O l g)(G:Gen X.K N O (.lst<|C4 l lo c,J) Q): ∃T id,g7 (.type T) "__getitem__"=pure (Y<|.builtin id)/\s.TypeIs v T/\ah (aj X.prog X.w) X.A (el v<|.ref d) (EP X b h Q) X.xe s:=
 Qs b s h N (.ref a) v e f lo c d Q M n j k m ⟨a,g,rfl,q,λp i=>G.lst i<|r.cut lo c⟩
def Zp:Nx X (Z4 X.K):=by
 intro f s E T x v B N lo g A Q M n i k m h;obtain⟨O,d,z,np,hd,o,G⟩:=h
 cases d with
 |tup l=>
  cases o;rcases hd with hd|⟨a,_,h⟩
  .obtain⟨a,b,rfl,q,r⟩:=hd.tup;by_cases j:HT.BR b.length 0 lo=0/\HT.BR b.length b.length g=b.length
   .cases n;obtain⟨t,y,w,L⟩:=M.tuple q.sq;have c:t.toArray.size=b.length:=by rw[kd];exact y.length.symm
    refine⟨"tuple",_,BH.lookup,w.typeIs,?_⟩;refine HT.acd w i k m (by rw[c];exact j) ⟨.ref a,T,M,rfl,?_⟩
    have e:C4 l lo g=l:=by unfold C4;rw[<-r.length,j.1,j.2];simp[r.length]
    rw[e] at G;exact G (.ref a) T (λ_ _ e=>e) hd
   .exact Ux f s E T (.ref a) v B N lo g A Q M n i k m ⟨a,b,rfl,q.sq,j,λp u=>G.tup u (np p<|NA u)<|r.cut lo g⟩
  .exact h.elim
 |lst l=>
  cases o;rcases hd with hd|⟨a,rfl,h⟩
  .obtain⟨a,b,rfl,q,r⟩:=hd.lst;exact FN M n i k m q.sq r G
  .obtain⟨b,e,r⟩:=h;exact FN M n i k m (.inl<|.inl e) r G
 |_=>cases o
end
def CZ(a b:FO):F:=λδ=>(a δ).bind λp=>(b p.2).bind λq=>match res q.2 q.1 with
 |some (.int i)=>(res q.2 p.1).bind λx=>(Nu C (Y i) x).bind λz=>Y (z,q.2)
 |_=>C
section
variable {X:Cx}{a lo d:je}{g e f:FO}{b c:bO}
end
end PX
namespace L2
section
variable {X:Cx}
def Xq(T:It)(g:TG)(a:TT)(tb:iW->TB)(pre:St->St)(b:St)(O:Hp)(Q:VK):Prop:=FC (.set (λ_=>U) 0) T g a tb pre b O Q
def El(c:TI)(g:TG)(ti:TT)(tb:iW->TB)(pre:St->St):TE:=λa O Q=>c a O λT b=>Xq T g ti tb pre a b Q
def ael{e:je}{c:nS}{jF:oV}{scope:jQ}{f:bO}{r:jq}{pre:St->St}{E:TI}{g:TG}{ti:TT}{tb:iW->TB}
  (S:Bw X r scope pre)(hc:X.calm=YP)(ha:c.is_async=0)(i9: ∀z,jF[0]?=XV z->z.is_async=0)
  (hs: ∀x,aA c.iter X.env x=pure x)(pi:PI X c.target c.iter E)
  (l9: ∀(u:kF) (C:iW) (B:iZ) (l:Hp) (y:kN) (a:jK),let i:=X.comp r scope u C B l y a
   PG i c.target g/\K8 i c.ifs ti/\ ∀d,PB i (jT (.SetComp e (c::jF) scope f) 0 (.ref d) i.env)<|tb d):
  PE X (.SetComp e (c::jF) scope f) (El E g ti tb pre):=by
 intro a s L H Q I h;obtain⟨tg,t,k,M⟩:=c;obtain rfl:M=0:=ha;obtain⟨u,W,R,V⟩:=qk X.env scope λx P D=>I.ok.has x.1<|S.free x P D;rw[wv];show ah _ X.A (f5 _ scope X.env _ (B2<|.type "set") ZB (aT t X.env)) _ _ s;refine D2 (use:=X0) (g:=⟨tg,t,k,0⟩) (gs:=jF) AM hs W S.kind S.names<|BI (pi a s L H _ I h) λv s1 h1=>BI h1 λck s2 U=>?_;obtain⟨it,y,tn,J,H2,rfl,n,T,u5,f2,K⟩:=U;refine wpAny_newSet_of (knd:=l8 X.prog X.w) λled Y=>?_;refine vH (RR:=λj C=>p4 (aj X.prog X.w) X.A X.xe X0 (EP X a L Q) j C) (.inr ⟨_,_,_,_,rfl⟩) AM S hc AM i9 l9 R V n T u5 f2 (n.laid (t':=s2.toks) (o:= .set (λ_=>ZB) 0) (λb ob q=>kg _ q) (kh _) Y) K λd iM B l O σ' s4 G N p q=>?_;obtain⟨m,F,_⟩:=id p.loc;exact⟨m,F,λh' Z=>⟨.ref d,O,yo G N p Z,rfl,q⟩⟩
def Us(d:iW)(e:TE):TB:=λc T N=>e c T λy a=> ∃k S n,y= .int k/\a d=Y (.set S n)/\n+1<i7/\N c (upd a d<|.set (λb=>S b||decide (b=k)) (if S k then n else n+1))
def ad2{a:je}{c:oV}{i:jQ}{p:bO}{depth:Nat}{d:iW}{l:TE}(E:c[depth+1]?=X0)(C:PE X a l):PB X (jT (.SetComp a c i p) depth (.ref d) X.env) (Us d l):=by
 intro f s m H N I h
 have r:jT (.SetComp a c i p) depth (.ref d) X.env=(do let v <-aT a X.env;c9 a.pos;let _ <-call (.builtin "set.add") [.ref d,v]):=by unfold jT;simp -iota only[clausesOf.eq_def];rw[E]
 rw[r];refine iX<|BI (C f s m H _ I h) λu s1 a'=>?_;obtain⟨y,J',g,G,k,S,n,z,hd,Q,q⟩:=a';subst z;obtain⟨t,rfl⟩:=G;have A:s1.heap.SetOf (l8 X.prog X.w) d S n:=g.hok d _ hd;refine iX<|uG<|iX<|call_set_add (knd:=l8 X.prog X.w) (k:=k) (intKind_is _ _ k t) AM A Q λM T j=>jd ⟨m,_,?_,q⟩;refine g.write (x:=d) (e:=d) (by rw[hd];exact trivial) (.inl AM) (λb u B O=>by rw[T.2 b B];exact O) ?_ j;obtain⟨o,_,_,_,L,_⟩:=j;exact⟨o,L⟩
end
end L2
namespace PX
open L2 PySem.SeqAt
noncomputable def Bx(f:F):FB:=λa b=>(f b).bind λp=>match p.1.1 with
 | .int k=>if (A7 a)+1<i7 then Y (a++[.int k],p.2) else C
 |_=>C
section
variable {X:Cx}{A:kz}{d:iW}{c:je}{f:F}
def ac0{j:oV}{J:jQ}{p:bO}{depth:Nat}(E:j[depth+1]?=X0)(y:PX X c f):PB X (jT (.SetComp c j J p) depth (.ref d) X.env) (Ic YP X.K A d<|Bx f):=PB.imp' (ad2 E y) λm H N I=>by
 obtain⟨w,T,g,U,M,B,e,k⟩:=I;obtain⟨⟨r,h⟩,h1,e⟩:=iU e;obtain⟨O,Q⟩:=r
 cases O with
 |int i=>
  obtain⟨Y,e⟩:=jH e;obtain⟨rfl,rfl⟩:=uk e;refine⟨w,T,(.int i,Q),h,B.er,h1,λv s P=>?_⟩;obtain⟨q,G⟩:=P.rep B.er;have hv:v= .int i:=G.int;have t:SK A m w H m h s:=P.1.sk;have x:=B.step t q;have C:=Qy g (λ_=>ZB,0);refine⟨i,_,_,hv,x.at',by unfold nZ;lia,k m _ ?_ ?_⟩
  .have:KL A d m h s m h (upd s d<|.set (λu=>(nZ g).1 u||decide (u=i)) (if(nZ g).1 i then(nZ g).2 else(nZ g).2+1)):=⟨λa o e n L=>by rw[jA L];exact e,λi a z=> .inl z,λa z=>by
    by_cases l:a=d
    .subst l;rw[jr];simp
    .rw[jA l];exact z,λ_ _=>rfl⟩
   exact t.Lm.trans this
  .refine⟨q.mono (λb o e n=>by rw[jA<|by intro z;subst z;exact n B.td];exact e) (λ_ _ z=>z) λa z=>?_,B.td,?_⟩
   .by_cases l:a=d
    .subst l;rw[jr];trivial
    .rw[jA l];exact q.dom a z
   .show upd _ _ _ _=_;rw[jr,Cv]
 |_=>cases e
end
def vE(b:kj)(k:Nat)(d:EV)(e:Tg)(ti:FT)(c:FB):F:=λf=>(d f).bind λp=>(km p.2<|b.map .slot).bind λa=>if(jB (b.map .slot) a).Nodup then(kY e ti c p.1 []<|a.map Y++am k C).bind λq=>Y ((.int (nZ q.1).2,U),wb (b.map .slot) a (jP a q.2) p.2) else C
def adH{K:ju}{b:kj}{k:Nat}{f:EV}{g:Tg}{ti:FT}{e:FB}{j:L2.St}{T:Hp}{Q:VK}(h:tF K (vE b k f g ti e) j T Q):
  El (tI K (λi=>i∉b) f) (tG K (λi=>A7 b<=i) g) (tT K ti) (λd=>Ic J K (λi=>A7 b<=i) d e) (tZ b k) j T (λx c=> ∃S n,∃a,x= .ref a/\c a=Y (.set S n)/\Q (.int n) c):=zm (S:=J) h
section
variable {X:Cx}{j:je}{c:nS}{jF:oV}{scope:jQ}{f l p:bO}{L:jq}{b:kj}{k:Nat}{B:EV}{y:Tg}{ti:FT}{A:FB}
def adh:lr X (.builtin "len") (λi N Q=> ∃S n,∃a,i=[.ref a]/\N a=Y (.set S n)/\Q (.int n) N):=by
 intro g s G N i T Q I r h;obtain⟨S,n,a,rfl,e,q⟩:=h;obtain⟨u,rfl,M⟩:=qz r;cases M;obtain⟨o,m,E,t,z,hex,hd,_,_,O,v,x⟩:=(show s.heap.SetOf (l8 X.prog X.w) a S n from I.hok a _ e)
 have d:(m.size:Int)<2^63:=by
  have:i7=4096:=rfl
  lia
 refine call_len_set z hex hd v d ⟨.int n,N,?_,⟨_,by rw[x]⟩,q⟩;exact(I.tok _)
def acR{z:aG}(C:Ba X L scope b k)(hc:X.calm=YP)(ha:c.is_async=0)(i9: ∀M,jF[0]?=XV M->M.is_async=0)
  (hs: ∀x,aA c.iter X.env x=pure x)(pi:Lb X (λi=>i∉b) c.target c.iter B)
  (l9: ∀(cl:kF) (C:iW) (s3:iZ) (H3:Hp) (fp:kN) (o:jK),let r:=X.comp L scope cl C s3 H3 fp o
   Ll r (λi=>A7 b<=i) c.target y/\K8 r c.ifs (tT X.K ti)/\ ∀d,PB r (jT (.SetComp j (c::jF) scope f) 0 (.ref d) r.env)<|Ic YP X.K (λi=>A7 b<=i) d A)
  (hg:Gl X z)(hm:X.mg z=X0)(hv:aB z=XV (.builtin "len"))(hn:z≠"__name__")(j5:(z==("__debug__":aG))=ZB)
  (h1:ac [.SetComp j (c::jF) scope f] X.env=(ZB,aT (.SetComp j (c::jF) scope f) X.env)::ac [] X.env)(e9:(aH l<|ac [] X.env).any (·.1)=ZB):
  PX X (.Call (.Name z p) [.SetComp j (c::jF) scope f] [] l) (vE b k B y ti A):=
 PX.imp (xG adh hg hm hv (mw (ael (g:=tG X.K (λi=>A7 b<=i) y) (ti:=tT X.K ti) (tb:=λd=>Ic YP X.K (λi=>A7 b<=i) d A) C.M6 hc ha i9 hs pi l9) pZ h1) hn j5 h1 e9) λN H Q h=>by
  have q:=adH h
  have mono: ∀{t u:VK},(∀v H,t v H->u v H)->El (tI X.K (λi=>i∉b) B) (tG X.K (λi=>A7 b<=i) y) (tT X.K ti) (λd=>Ic YP X.K (λi=>A7 b<=i) d A) (tZ b k) N H t->El (tI X.K (λi=>i∉b) B) (tG X.K (λi=>A7 b<=i) y) (tT X.K ti) (λd=>Ic YP X.K (λi=>A7 b<=i) d A) (tZ b k) N H u:=by
   rintro t u hq ⟨δ,T,ds,I',E,h1,kk⟩;refine⟨δ,T,ds,I',E,h1,λJ G D U ok d hd=>?_⟩;obtain⟨W,F,step⟩:=kk J G D U ok d hd;refine⟨W,F,λi m O Y w=>?_⟩;rcases step i m O Y w with⟨s1,s2⟩|s
   .exact .inl ⟨s1,hq _ _ s2⟩
   .exact .inr s
  exact mono (λv G a'=>by obtain⟨S,n,a,e,h2,h3⟩:=a';exact ⟨S,n,a,by rw[e],h2,h3⟩) q
end
end PX
namespace HT
open L2
section
variable {a:jw}{w:jm}{A:jn}{E:jJ}{s:iZ}
end
end HT
namespace L2
section
variable {X:Cx}{e st:je}{c b:TE}{a d:bO}
end
end L2
namespace PX
open L2 PySem.SeqAt
section
variable {X:Cx}{a st:je}{d fs:FO}{b c:bO}
end
section
variable {b:kL}{a:ek}
end
end PX
namespace TT
noncomputable def S:Nat->Nat
 |0=>0
 |n+1=>5*S n+1
theorem Kn(m:Nat): ∀n:Nat,S (m+n)=5^n*S m+S n
 |0=>by simp[S]
 |n+1=>by rw[<-yK,S,Kn m n,S,qI,wj,<-rR,yH 5 (5^n)];lia
theorem Be: ∀n:Nat,∃c,5^n=4*c+1
 |0=>⟨0,rfl⟩
 |n+1=>by obtain⟨c,e⟩:=Be n;exact⟨5*c+1,by rw[qI,e];lia⟩
theorem PU: ∀k:Nat,∃c,S (2^k)=2^k*(2*c+1)
 |0=>⟨0,rfl⟩
 |k+1=>by
  obtain⟨c,e⟩:=PU k;obtain⟨d,f⟩:=Be (2^k)
  have h:S (2^(k+1))=(5^2^k+1)*S (2^k):=by rw[qI,Nat.mul_two,Kn,gj,G5]
  refine⟨2*(d*c)+d+c,?_⟩;rw[h,f,e,qI];have:4*d+1+1=2*(2*d+1):=by lia
  rw[this,rR 2,yH (2*d+1),rR (2^k),rR (2^k),<-rR 2 (2^k),yH 2 (2^k),rR (2^k) 2]
  congr 2
  rw[gj,wj,G5,yG,rR 2 c,DD c 2 d,yH c d]
  lia
def PY(k n:Nat):S (2^k+n)%2^k=S n%2^k:=by obtain⟨c,e⟩:=PU k;rw[Kn,e,DD,sx]
def Km: ∀(k e:Nat),e<2^k-> ∃n,n<2^k/\S n%2^k=e:=by
 intro u
 induction u with
 |zero=>intro e h;exact⟨0,by simp,by simp at h;subst h;rfl⟩
 |succ k t=>
  intro e h;have l:0<2^k:=ss k;obtain⟨n,z,s⟩:=t (e%2^k)<|yF _ l;obtain⟨c,m⟩:=PU k;obtain⟨d,o⟩:=Be n
  have b:S (2^k+n)=2^(k+1)*(4*d*c+2*d+c)+2^k+S n:=by
   rw[Kn,m,o,qI,DD,rR (2^k) 2]
   have:(4*d+1)*(2*c+1)=2*(4*d*c+2*d+c)+1:=by rw[gj,wj,G5,yG,DD (4*d) 2 c];lia
   rw[this,wj,yG]
  rw[qI] at h b ⊢;generalize 2^k=P at*;have j:=sB (S n) P;have i:=sB e P;rw[s] at j;have A:e / P<2:=Nat.div_lt_of_lt_mul (by rw[yH] at h;lia)
  have mk: ∀a q x,a=P*2*q+x->x<P*2->a%(P*2)=x:=λa q x h1 b=>by rw[h1,sx,Nat.mod_eq_of_lt b]
  have y:=yF e l;have v:S n / P=2*(S n / P / 2)+S n / P%2:=by lia
  have g:S n=P*2*(S n / P / 2)+(P*(S n / P%2)+e%P):=by rw[rR,<-yK,<-wj,<-v];exact j.symm
  generalize S n / P / 2=q at g;have w:S n / P%2<2:=yF _ (by decide);generalize S n / P%2=r at g w;generalize e / P=f at*;by_cases p:r=f
  .exact⟨n,by lia,mk _ q _ (by rw[g,p,i]) h⟩
  .refine⟨P+n,by lia,mk _ (4*d*c+2*d+c+q+r) _ ?_ h⟩;rw[b,g,wj (P*2) _ r,wj (P*2) _ q];rcases(show r=0\/r=1 by lia) with rfl|rfl
   .have:f=1:=by lia
    subst this;rw[G4,G4];rw[yG] at i;lia
   .have:f=0:=by lia
    subst this;rw[yG,yG];rw[G4] at i;lia
noncomputable def ls(mask:Nat)(h:Int):Nat->Nat×Nat
 |0=>(aP h%(mask+1),aP h)
 |k+1=>cX mask (ls mask h k).1 (ls mask h k).2
def Sz(h:Int):aP h<2^64:=by
 unfold aP;have:=G3 h (show(0:Int)<2^64 by decide);have:=G2 h (show(2^64:Int)≠0 by decide)
 lia
def JJ(mask:Nat)(h:Int): ∀k,(ls mask h k).1<=mask
 |0=>by have:=yF (aP h) (show 0<mask+1 by lia);show _%(mask+1)<=_;lia
 |k+1=>by show(_%(mask+1))<=_;have:=yF ((ls mask h k).1*5+1+(ls mask h k).2 / 32) (show 0<mask+1 by lia);lia
theorem JI(mask:Nat)(h:Int): ∀k,(ls mask h k).2=aP h / 32^k
 |0=>by simp[ls]
 |k+1=>by show(ls mask h k).2 / 32=_;rw[JI mask h k,qI,Nat.div_div_eq_div_mul]
def RI(mask:Nat)(h:Int)(k:Nat)(hk:13<=k):(ls mask h k).2=0:=by rw[JI];refine Nat.div_eq_of_lt<|oG (Sz h) ?_;exact mC (show 2^64<=32^13 by decide)<|yE (by decide) hk
theorem Om(mask:Nat)(h:Int)(m:Nat)(a:(ls mask h 13).1=S m%(mask+1)): ∀n,(ls mask h (13+n)).1=S (m+n)%(mask+1)
 |0=>a
 |n+1=>by show(((ls mask h (13+n)).1*5+1+(ls mask h (13+n)).2 / 32)%(mask+1))=_;rw[RI mask h _ (by lia),Om mask h m a n,Nat.zero_div,ib,<-yK m n 1,S,At,Nat.mod_mul_mod,<-At,yH 5]
def F8(hk:mask+1=2^k)(h:Int)(g:e<=mask): ∃n,n<mask+14/\(ls mask h n).1=e:=by
 have i:=JJ mask h 13;obtain⟨m,c,b⟩:=Km k (ls mask h 13).1 (by lia);obtain⟨q,d,eq⟩:=Km k e (by lia);rw[<-hk] at b eq c d;have a:=Om mask h m b.symm;by_cases f:m<=q
 .exact⟨13+(q-m),by lia,by rw[a,show m+(q-m)=q by lia];exact eq⟩
 .refine⟨13+(q+(mask+1)-m),by lia,?_⟩;rw[a,show m+(q+(mask+1)-m)=2^k+q by lia,hk,PY,<-hk];exact eq
def HU(mask i:Nat)(h:i<=mask):i<=aI mask i/\aI mask i<=mask/\aI mask i<=i+9:=by unfold aI;split<;>lia
noncomputable def tm(mask:Nat)(h:Int):Nat->Nat
 |0=>0
 |k+1=>tm mask h k+(aI mask (ls mask h k).1-(ls mask h k).1)+1
theorem S7(mask:Nat)(h:Int): ∀k,tm mask h k<=10*k
 |0=>kh _
 |k+1=>by have:=S7 mask h k;have:=HU mask _ (JJ mask h k);unfold tm;lia
noncomputable def at_(mask:Nat)(h:Int)(k t:Nat):SetTable.Probe:=⟨(ls mask h k).1+t,aI mask (ls mask h k).1-(ls mask h k).1-t,(ls mask h k).1,(ls mask h k).2,C⟩
theorem wM(mask:Nat)(h:Int): ∀k t,t<=aI mask (ls mask h k).1-(ls mask h k).1->pr mask h (tm mask h k+t)=at_ mask h k t
 |0,0,_=>rfl
 |k+1,0,_=>by have e:=wM mask h k (aI mask (ls mask h k).1-(ls mask h k).1)<|kh _;show Lj mask (pr mask h<|tm mask h k+(aI mask (ls mask h k).1-(ls mask h k).1))=_;rw[e];unfold Lj at_;simp only[Nat.sub_self,rp,kB,gt_iff_lt];rfl
 |k,t+1,a=>by
  have e:=wM mask h k t (by lia);show Lj mask (pr mask h<|tm mask h k+t)=_;rw[e];unfold Lj at_;rw[jl (show aI mask (ls mask h k).1-(ls mask h k).1-t>0 by lia)];simp only[SetTable.Probe.mk.injEq,and_true,true_and]
  lia
def aeb(hk:mask+1=2^k)(h:Int)(a:e<=mask): ∃n,n<10*(mask+14)/\(pr mask h n).j=e:=by obtain⟨r,b,er⟩:=F8 hk h a;have:=S7 mask h r;refine⟨tm mask h r,by lia,?_⟩;have:=wM mask h r 0<|mf _;rw[ib] at this;rw[this];exact er
theorem ND(mask:Nat)(h:Int): ∀n,(pr mask h n).dummy=C
 |0=>rfl
 |n+1=>by show(Lj mask<|pr mask h n).dummy=C;unfold Lj;split<;>exact ND mask h n
theorem FV(mask:Nat)(h:Int): ∀n,∃k t,n=tm mask h k+t/\t<=aI mask (ls mask h k).1-(ls mask h k).1
 |0=>⟨0,0,rfl,mf _⟩
 |n+1=>by
  obtain⟨k,t,e,b⟩:=FV mask h n;by_cases a:t+1<=aI mask (ls mask h k).1-(ls mask h k).1
  .exact⟨k,t+1,by lia,a⟩
  .exact⟨k+1,0,by unfold tm;lia,mf _⟩
def NC(mask:Nat)(h:Int)(n:Nat):(pr mask h n).j<=mask:=by obtain⟨k,t,e,a⟩:=FV mask h n;rw[e,wM mask h k t a];have:=HU mask _ (JJ mask h k);show(ls mask h k).1+t<=mask;lia
def Eu{c:Array Nat}(g:c.toList.Pairwise (· < ·)){i j:Nat}{a b:Nat}(h:i<j)(h1:c[i]?=Y a)(d:c[j]?=Y b):a<b:=by rw[<-mY] at h1 d;obtain⟨e,rfl⟩:=xj.mp h1;obtain⟨f,rfl⟩:=xj.mp d;exact PZ.mp g i j e f h
def PH{c:Array Nat}(o:c.toList.Pairwise (· < ·))(j:Nat): ∀(d lo b:Nat),lo<=b->b<=c.size->b-lo<=d->
  (∀i a,i<lo->c[i]?=Y a->a<j)->(∀i a,b<=i->c[i]?=Y a->j<=a)->
  let p:=SetTable.below.go c j d lo b
  p<=c.size/\(∀i a,i<p->c[i]?=Y a->a<j)/\(∀i a,p<=i->c[i]?=Y a->j<=a):=by
 intro u
 induction u with
 |zero=>
  intro lo b h1 g t h k;have:lo=b:=by lia
  subst this;exact⟨g,h,k⟩
 |succ d r=>
  intro lo b h1 g t h k;unfold SetTable.below.go;by_cases q:lo<b
  .rw[jl q];have n:(lo+b) / 2<c.size:=by lia
   have m:c[(lo+b) / 2]?=Y c[(lo+b) / 2]:=qu n;have hd:c.getD ((lo+b) / 2) j=c[(lo+b) / 2]:=by simp[gx,n]
   dsimp only;rw[hd];by_cases l:c[(lo+b) / 2]<j
   .rw[jl l];refine r ((lo+b) / 2+1) b (by lia) g (by lia) (λi a s f=>?_) k;by_cases e:i=(lo+b) / 2
    .subst e;rw[m] at f;cases f;exact l
    .exact D3 (Eu o (by lia) f m) l
   .rw[jv l];refine r lo ((lo+b) / 2) (by lia) (by lia) (by lia) h λi a s f=>?_;by_cases e:i=(lo+b) / 2
    .subst e;rw[m] at f;cases f;lia
    .have:=Eu o (show(lo+b) / 2<i by lia) m f;lia
  .rw[jv q];have:lo=b:=by lia
   subst this;exact⟨g,h,k⟩
def qm{b:Array Nat}(d:b.toList.Pairwise (· < ·))(j:Nat):ap b j<=b.size/\(∀i a,i<ap b j->b[i]?=Y a->a<j)/\(∀i a,ap b j<=i->b[i]?=Y a->j<=a):=
 PH d j b.size 0 b.size (mf _) (kh _) (by lia) (λi a h=>by lia) (λi a h1 c=>by have:=(Kp.mp c).1;lia)
def Bv{a:Array Nat}(c:a.toList.Pairwise (· < ·)){i j:Nat}(h:a[i]?=Y j):ap a j=i:=by
 obtain⟨h1,d,e⟩:=qm c j;by_cases g:i<ap a j
 .exact absurd (d i j g h) (rp _)
 .by_cases f:ap a j<i
  .have k:=(Kp.mp h).1;have b:a[ap a j]?=Y a[ap a j]:=qu (by omega);have:=e _ _ (kh _) b;have:=Eu c f b h;omega
  .omega
theorem ES(j:Nat):UF #[] j=U:=rfl
def rB{t:mW}(a:t.place.toList.Pairwise (· < ·)){i j:Nat}(h:t.place[i]?=Y j):t.slot j= .live i:=by unfold mj;dsimp only;rw[Bv a h,h];simp
def ab4{t:mW}(hd:t.dummies= #[]){j:Nat}(h:j∉t.place.toList):t.slot j= .empty:=by
 unfold mj;dsimp only
 have:(t.place[ap t.place j]?==Y j)=U:=by rw[xo];intro e;rw[<-mY] at e;exact h<|mB e
 rw[this,hd,ES];rfl
def PL(t:mW)(p:dy):t.advance p=Lj t.mask p:=by unfold Wp Lj;split<;>rfl
def aea{k:jh}{t:mW}(ok:BX k t)(hashAt:Nat->Int)(h:Int): ∀(a n:Nat),(∃M,n<=M/\M<n+a/\(pr t.mask h M).j∉t.place.toList)->
    ∃m,n<=m/\(∀q,n<=q->q<m-> ∃i,t.place[i]?=Y (pr t.mask h q).j/\hashAt i≠h)/\
      (((pr t.mask h m).j∉t.place.toList/\eu t hashAt h a (pr t.mask h n)=Y (.empty (pr t.mask h m).j C))\/
       (∃i,t.place[i]?=Y (pr t.mask h m).j/\hashAt i=h/\eu t hashAt h a (pr t.mask h n)=Y (.candidate (pr t.mask h m).j i<|pr t.mask h<|m+1))):=by
  intro o
  induction o with
  |zero=>
    rintro n ⟨M,h1,f,g⟩
    lia
  |succ a l=>
    rintro n ⟨M,h1,f,g⟩;unfold eu;by_cases d:(pr t.mask h n).j∈t.place.toList
    · obtain⟨i,c⟩:=um d
      rw[mY] at c;rw[rB ok.ris c];dsimp only;by_cases b:hashAt i=h
      · refine⟨n,kh _,λq h1 f=>by lia,.inr ⟨i,c,b,?_⟩⟩
        rw[jl<|by simpa using b,PL];rfl
      · rw[jv<|by simpa using b,PL]
        have r:M≠n:=λe=>g<|e▸d;obtain⟨m,g1,g2,g3⟩:=l (n+1) ⟨M,by lia,by lia,g⟩;refine⟨m,by lia,λq s p=>?_,g3⟩;by_cases e:q=n
        · subst e;exact⟨i,c,b⟩
        · exact g2 q (by lia) p
    · rw[ab4 ok.dum d]
      dsimp only;rw[ND];exact⟨n,kh _,λq h1 f=>by lia,.inl ⟨d,rfl⟩⟩
def Gb: ∀(n:Nat) (l:kj),A7 l<=n-> ∃e,e<=n/\e∉l:=by
 intro d
 induction d with
 |zero=>intro l h;exact⟨0,kh _,by cases l with|nil=>simp|cons _ _=>simp at h⟩
 |succ n c=>
  intro l h;by_cases a:n+1∈l
  .obtain⟨e,h1,b⟩:=c (l.erase<|n+1) (by rw[List.length_erase_of_mem a];lia);exact⟨e,by lia,λz=>b<|(G1<|by lia).mpr z⟩
  .exact⟨n+1,kh _,a⟩
def BX.free(ok:BX f t)(h:Int): ∃M,M<10*(t.mask+14)/\(pr t.mask h M).j∉t.place.toList:=by
 obtain⟨k,_,_,hk⟩:=ok.pow
 have h1:(A7 t.place.toList)<=t.mask:=by have:=ok.len;have:=ok.room;rw[lh];lia
 obtain⟨e,c,d⟩:=Gb t.mask _ h1;obtain⟨n,a,b⟩:=aeb hk h c;exact⟨n,a,by rw[b];exact d⟩
def mF{b:Type}(a:Array b)(p:Nat)(x:b):(aE a p x).toList=a.toList.take p++x::a.toList.drop p:=by unfold aE;simp[Array.toList_extract,List.extract];rw[ew<|by simp]
def ab5(h:xs.toList.Pairwise (· < ·))(n:j∉xs.toList):(aE xs (ap xs j) j).toList.Pairwise (· < ·):=by
 obtain⟨h1,l,k⟩:=qm h j;rw[mF,vd];refine⟨h.sublist<|yQ _ _,?_,?_⟩
 .rw[Fq];refine⟨λa d=>?_,h.sublist<|G9 _ _⟩;obtain⟨i,c⟩:=um d;rw[d0] at c;have m:=k _ _ (show ap xs j<=ap xs j+i by lia) (by rw[<-mY];exact c);have:a≠j:=λe=>n (e▸mB c)
  lia
 .intro a d b g
  have f:a<j:=by
   obtain⟨i,c⟩:=um d;rw[List.getElem?_take] at c;split at c
   .rename_i o;exact l i a o (by rw[<-mY];exact c)
   .cases c
  rcases lz.mp g with rfl|g
  .exact f
  .obtain⟨i,c⟩:=um g;rw[d0] at c;have m:=k _ _ (show ap xs j<=ap xs j+i by lia) (by rw[<-mY];exact c)
   lia
def BX.fresh(finger moves:Nat)(led:Bool):BX [] (ka finger moves led) where
 pow:=⟨3,by lia,by lia,rfl⟩
 dum:=rfl
 len:=rfl
 room:=by show 5*0<3*7;lia
 ris:= .nil
 bd:=λj h=>by simp[ka] at h
 road:=λi h j h1=>by simp at h1
def BX.put(ok:BX g t)(z:(pr t.mask h n).j∉t.place.toList)(y: ∀m,m<n->(pr t.mask h m).j∈t.place.toList)(T:5*(A7 g+1)<3*t.mask)(B:j=(pr t.mask h n).j)(Q:p=ap t.place j):
  BX (g.take p++h::g.drop p) (t.put j).1/\(t.put j).2=p:=by
 subst B;subst Q
 have v:(t.put (pr t.mask h n).j).1={t with place:=aE t.place (ap t.place (pr t.mask h n).j) (pr t.mask h n).j,dummies:= #[]}:=by unfold n3;dsimp only;rw[ok.dum,ES];rfl
 obtain⟨h1,_,_⟩:=qm ok.ris (pr t.mask h n).j;have E:=ok.len
 have c: ∀x,x∈t.place.toList->x∈(aE t.place (ap t.place (pr t.mask h n).j) (pr t.mask h n).j).toList:=λx a=>by
  rw[mF];rw[<-wt (ap t.place (pr t.mask h n).j) t.place.toList] at a;rcases tM.mp a with a|a
  .exact tM.mpr (.inl a)
  .exact tM.mpr (.inr<|jZ _ a)
 refine⟨?_,rfl⟩;rw[v];generalize w:ap t.place (pr t.mask h n).j=P at*;refine⟨ok.pow,rfl,?_,?_,?_,λx a=>?_,λi f k g1 g2=>?_⟩
 .show(aE t.place P (pr t.mask h n).j).size=_;rw[<-lh,mF];simp only[nB,lg,tL,ef,lh];lia
 .show 5*_<3*t.mask;simp only[nB,lg,tL,ef];lia
 .have:=ab5 ok.ris z;rw[w] at this;exact this
 .have s:x∈(aE t.place P (pr t.mask h n).j).toList:=a;rw[mF] at s;show x<=t.mask;rcases tM.mp s with a|a
  .exact ok.bd x (wq a)
  .rcases lz.mp a with rfl|a
   .exact NC _ _ _
   .exact ok.bd x (DI a)
 .have b:(aE t.place P (pr t.mask h n).j).toList[i]?=Y k:=by rw[mY];exact g2
  rw[mF] at b;show ∃u,(pr t.mask f u).j=k/\ ∀m,m<u->(pr t.mask f m).j∈(aE t.place P (pr t.mask h n).j).toList;have Ik:(t.place.toList.take P).length=P:=by rw[tL,lh];lia
  have l:(g.take P).length=P:=by rw[tL];lia
  by_cases A:i<P
  .rw[qw<|by lia,Hv A] at g1 b;rw[mY] at b;obtain⟨q,o,r⟩:=ok.road i f k g1 b;exact⟨q,o,λm e=>c _ (r m e)⟩
  .rw[pN<|by lia,Ik] at b;rw[pN<|by lia,l] at g1
   cases hd:i-P with
   |zero=>rw[hd] at g1 b;simp at g1 b;subst g1;subst b;exact⟨n,rfl,λm e=>c _ (y m e)⟩
   |succ d=>rw[hd] at g1 b;simp only[tE,d0] at g1 b;rw[mY] at b;obtain⟨q,o,r⟩:=ok.road _ f k g1 b;exact⟨q,o,λm e=>c _ (r m e)⟩
def K6(ow:xk)(j:Nat):Prop:= ∃i,ow.getD j C=Y i
def ET{ow:xk}{j:Nat}{d:Option Nat}(h:j<ow.size):ow.getD j d=ow.getD j C:=by simp[gx,h]
def adz{mask:Nat}{ow:xk}(T:ow.size=mask+1)(h:Int): ∀(a k:Nat),(∃r,k<=r/\r<k+a/\ ¬K6 ow (ls mask h r).1)->(∀m,m<tm mask h k->K6 ow (pr mask h m).j)->
  ∃n,bX mask ow a (ls mask h k).1 (ls mask h k).2=Y (pr mask h n).j/\ ¬K6 ow (pr mask h n).j/\ ∀m,m<n->K6 ow (pr mask h m).j:=by
 intro A
 induction A with
 |zero=>
  rintro k ⟨r,h1,v,_⟩ _
  lia
 |succ a z=>
  rintro k ⟨r,h1,v,g⟩ l;unfold bX;have x:=JJ mask h k;have y:=HU mask _ x
  cases c:(au<|aI mask (ls mask h k).1+1-(ls mask h k).1).find? λt=>(ow.getD ((ls mask h k).1+t)<|Y 0).isNone with
  |some t=>
   rw[List.find?_range_eq_some] at c;obtain⟨a1,q,s⟩:=c;rw[xi] at q;have p:t<=aI mask (ls mask h k).1-(ls mask h k).1:=by lia
   have e:=wM mask h k t p;refine⟨tm mask h k+t,by rw[e];rfl,?_,λm o=>?_⟩
   .rw[e];rintro⟨i,w⟩;rw[ET (by show(ls mask h k).1+t<_;lia)] at a1;have u:ow.getD ((ls mask h k).1+t) C=Y i:=w;rw[u] at a1;simp at a1
   .by_cases f:m<tm mask h k
    .exact l m f
    .have b:=wM mask h k (m-tm mask h k) (by lia);rw[show tm mask h k+(m-tm mask h k)=m by lia] at b;rw[b];have:=s (m-tm mask h k) (by lia);rw[ET (by show(ls mask h k).1+(m-tm mask h k)<_;lia)] at this;show K6 ow ((ls mask h k).1+(m-tm mask h k));unfold K6
     cases d:ow.getD ((ls mask h k).1+(m-tm mask h k)) C with
     |none=>rw[d] at this;simp at this
     |some i=>exact⟨i,rfl⟩
  |none=>
   rw[List.find?_range_eq_none] at c
   have all: ∀t,t<=aI mask (ls mask h k).1-(ls mask h k).1->K6 ow ((ls mask h k).1+t):=λt p=>by
    have:=c t (by lia);rw[ET<|by lia] at this;unfold K6
    cases d:ow.getD ((ls mask h k).1+t) C with
    |none=>rw[d] at this;simp at this
    |some i=>exact⟨i,rfl⟩
   have B:r≠k:=λe=>g (by subst e;have:=all 0<|mf _;simpa using this)
   have:=z (k+1) ⟨r,by lia,by lia,g⟩ (λm o=>by
    by_cases f:m<tm mask h k
    .exact l m f
    .unfold tm at o;have b:=wM mask h k (m-tm mask h k) (by lia);rw[show tm mask h k+(m-tm mask h k)=m by lia] at b;rw[b];exact all _ (by lia))
   exact this
def Gp{a e:Type}{f g:a->Option e}: ∀{l:List a},(∀x∈l,f x=g x)->l.filterMap f=l.filterMap g:=by
 intro d
 induction d with
 |nil=>intro _;exact H
 |cons x l c=>intro h;rw[sh,sh,h x jW,c λy b=>h y<|jZ _ b]
noncomputable def qc(mask:Nat)(ow:xk):List (Nat×Nat):=(au<|mask+1).filterMap λj=>(ow.getD j C).map (j,·)
def P4:(j,i)∈qc mask ow↔j<=mask/\ow.getD j C=Y i:=by
 unfold qc;simp only[fH,xi,d6,Prod.mk.injEq];constructor
 .rintro⟨a,h1,b,c,rfl,rfl⟩;exact⟨by lia,c⟩
 .rintro⟨h1,c⟩;exact⟨j,by lia,i,c,rfl,rfl⟩
def Ov(mask:Nat)(ow:xk):((qc mask ow).map (·.1)).Pairwise (· < ·):=by unfold qc;rw[List.map_filterMap,List.pairwise_filterMap];refine Wl.imp λ{a b} e x c y d=>?_;simp only[Option.mem_def,Option.map_map,d6,bG] at c d;obtain⟨_,_,rfl⟩:=c;obtain⟨_,_,rfl⟩:=d;exact e
def Ou{mask:Nat}{ow:xk}(f:ow.size=mask+1){j k:Nat}(d:j<=mask)(c:ow.getD j C=C):(qc mask<|ow.setIfInBounds j<|Y k).Perm ((j,k)::qc mask ow):=by
 have g: ∀i,(ow.setIfInBounds j<|Y k).getD i C=if i=j then Y k else ow.getD i C:=λi=>by
  simp only[wg,DC];by_cases e:i=j
  .subst e;simp[show i<ow.size by lia]
  .rw[jv λz=>e z.symm,jv e]
 have split:au (mask+1)=au j++j::(au<|mask-j).map (λx=>j+1+x):=by rw[show mask+1=j+(mask-j+1) by lia,List.range_add,ey];simp[yL,yK,Nat.add_comm 1]
 unfold qc;rw[split,Mj,Mj,sh,sh];simp only[g,c,jl H,Option.map_none,m4]
 have a1:(au j).filterMap (λi=>(if i=j then Y k else ow.getD i C).map (i,·))=(au j).filterMap (λi=>(ow.getD i C).map (i,·)):=
  Gp λi a=>by rw[xi] at a;rw[jv<|by lia]
 have b:((au<|mask-j).map λx=>j+1+x).filterMap (λi=>(if i=j then Y k else ow.getD i C).map (i,·))=((au<|mask-j).map λx=>j+1+x).filterMap (λi=>(ow.getD i C).map (i,·)):=
  Gp λi a=>by obtain⟨x,_,rfl⟩:=nC.mp a;rw[jv<|by lia]
 rw[a1,b];exact P7
structure Gv(mask:Nat)(hs:jh)(ow:xk):Prop where
 size:ow.size=mask+1
 perm:((qc mask ow).map (·.2)).Perm (au<|A7 hs)
 road: ∀j i h,ow.getD j X0=XV i->hs[i]?=XV h-> ∃n,(pr mask h n).j=j/\ ∀m,m<n->K6 ow (pr mask h m).j
def JF(h:K6 ow x):K6 (ow.setIfInBounds j<|Y k) x:=by
 obtain⟨i,a⟩:=h;unfold K6;simp only[wg,DC] at a ⊢;by_cases e:j=x
 .subst e;rw[jl H];split
  .exact⟨k,rfl⟩
  .rename_i b;rw[DA<|by lia] at a;simp at a
 .rw[jv e];exact⟨i,a⟩
def Gv.step{mask k:Nat}(hk:mask+1=2^k){a:jh}{ow:xk}(ok:Gv mask a ow)(h:Int)(E:(A7 a)<=mask):
  ∃j,bX mask ow (ci mask) (aP h%(mask+1)) (aP h)=Y j/\Gv mask (a++[h]) (ow.setIfInBounds j<|Y<|A7 a):=by
 have p:(qc mask ow).length=(A7 a):=by have:=ok.perm.length_eq;simpa using this
 obtain⟨e,o,x⟩:=Gb mask ((qc mask ow).map (·.1)) (by rw[kn];lia)
 have t: ¬K6 ow e:=by rintro⟨i,f⟩;exact x<|nC.mpr ⟨(e,i),P4.mpr ⟨o,f⟩,rfl⟩
 obtain⟨r,A,l⟩:=F8 hk h o;obtain⟨n,f1,f2,u⟩:=adz ok.size h (ci mask) 0 ⟨r,mf _,by unfold ci;lia,by rw[l];exact t⟩ (λm c=>by simp[tm] at c);have w:=NC mask h n
 have s:ow.getD (pr mask h n).j C=C:=by
  cases y:ow.getD (pr mask h n).j C with
  |none=>rfl
  |some i=>exact absurd ⟨i,y⟩ f2
 refine⟨_,f1,⟨by rw[Array.size_setIfInBounds];exact ok.size,?_,λj i v g1 g2=>?_⟩⟩
 .refine((Ou ok.size w s).map _).trans ?_;rw[kc,nB,yN,List.range_succ];exact(iQ _ ok.perm).trans (Mi _ _).symm
 .by_cases b:j=(pr mask h n).j
  .subst b
   have:i=(A7 a):=by simp only[wg,DC,jl H] at g1;rw[jl be,jl<|by rw[ok.size];lia] at g1;exact(lj g1).symm
   subst this;rw[pN<|kh _] at g2;simp at g2;subst g2;exact⟨n,rfl,λm c=>JF<|u m c⟩
  .have d:ow.getD j C=Y i:=by simp only[wg,DC] at g1 ⊢;rw[jv λz=>b z.symm] at g1;exact g1
   have f:i<(A7 a):=by
    have g:j<=mask:=by
     by_cases q:j<ow.size
     .have:=ok.size;lia
     .rw[wg,DA<|by lia] at d;simp at d
    have:=ok.perm.mem_iff.mp<|nC.mpr ⟨(j,i),P4.mpr ⟨g,d⟩,rfl⟩;exact xi.mp this
   rw[qw f] at g2;obtain⟨q,B,T⟩:=ok.road j i v d g2;exact⟨q,B,λm c=>JF<|T m c⟩
def Gv.start(mask:Nat):Gv mask [] (gg (mask+1) C) where
 size:=by simp
 perm:=by
  have:qc mask (gg (mask+1) C)=[]:=by unfold qc;refine List.filterMap_eq_nil_iff.mpr λj a=>?_;rw[wg,Mh];split<;>rfl
  rw[this];exact wk _
 road:=λj i h h1=>by rw[wg,Mh] at h1;split at h1<;>cases h1
noncomputable def yb(mask:Nat)(a:Option (Array (Option Nat)×Nat))(h:Int):Option (Array (Option Nat)×Nat):=do
 let(owner,k) <-a
 let j <-bX mask owner (ci mask) (aP h%(mask+1)) (aP h)
 pure (owner.setIfInBounds j<|Y k,k+1)
def OA{mask k:Nat}(hk:mask+1=2^k): ∀(l a:jh) (ow:xk),Gv mask a ow->A7 a+A7 l<=mask+1->
  ∃c,l.foldl (yb mask) (Y (ow,A7 a))=Y (c,A7 a+A7 l)/\Gv mask (a++l) c:=by
 intro m
 induction m with
 |nil=>intro a ow ok _;exact⟨ow,rfl,by rw[sf];exact ok⟩
 |cons h l i=>
  intro a ow ok g;rw[lg] at g;obtain⟨j,e,d⟩:=ok.step hk h (by lia);obtain⟨c,f,b⟩:=i (a++[h]) _ d (by rw[nB,yN];lia);refine⟨c,?_,by rw[tJ] at b;exact b⟩;rw[uD]
  have:yb mask (Y (ow,A7 a)) h=Y (ow.setIfInBounds j<|Y<|A7 a,A7 a+1):=by unfold yb;show(bX mask ow (ci mask) (aP h%(mask+1)) (aP h)>>=_)=_;rw[e];rfl
  rw[this];rw[nB,yN] at f;rw[f,lg]
  congr 2;lia
def abV(hk:mask+1=2^k)(a:jh)(c:(A7 a)<=mask): ∃ow,hZ mask a.toArray=Y ow/\Gv mask a ow:=by
 obtain⟨ow,e,ok⟩:=OA hk a [] _ (Gv.start mask) (by simp;lia);refine⟨ow,?_,by simpa using ok⟩;unfold hZ;rw[<-Array.foldl_toList];show vl _ (AC (yb mask) _ a)=_;have b:AC (yb mask) (Y (gg (mask+1) C,0)) a=Y (ow,A7 a):=by simpa using e
 rw[b];rfl
def RT(hk:mask+1=2^k)(w:3<=k)(o:k<=11)(finger moves:Nat)(led plain:Bool)(d:jh)(E:5*(A7 d)<3*mask):
  ∃t c,mm mask finger moves led plain d.toArray=Y (t,c)/\c.toList.Perm (au<|A7 d)/\BX (c.toList.map λi=>d.getD i 0) t/\t.plain=plain/\t.led=led:=by
 obtain⟨ow,e,ok⟩:=abV hk d (by lia);refine⟨{mask,place:=((qc mask ow).map (·.1)).toArray,dummies:= #[],finger,led,moves,plain},((qc mask ow).map (·.2)).toArray,?_,by simpa using ok.perm,?_,rfl,rfl⟩
 .unfold mm;rw[e];rfl
 .have g:(qc mask ow).length=(A7 d):=by have:=ok.perm.length_eq;simpa using this
  refine⟨⟨k,w,o,hk⟩,rfl,by simp,by simp[g];lia,by simpa using Ov mask ow,λj z=>?_,λi h j g1 g2=>?_⟩
  .have u:j∈(qc mask ow).map (·.1):=by simpa using z
   obtain⟨⟨a,b⟩,q,rfl⟩:=nC.mp u;exact(P4.mp q).1
  .have s:((qc mask ow).map (·.2)).map (λi=>d.getD i 0)=(((qc mask ow).map (·.2)).toArray).toList.map λi=>d.getD i 0:=by simp
   rw[<-s,ly,ly] at g1;have f:((qc mask ow).map (·.1))[i]?=Y j:=by simpa using g2
   rw[ly] at f
   cases l:(qc mask ow)[i]? with
   |none=>rw[l] at f;cases f
   |some p=>
    obtain⟨a,b⟩:=p;rw[l] at g1 f;simp at g1 f;subst f;have q:=P4.mp<|mB l
    have x:b<(A7 d):=by have:=ok.perm.mem_iff.mp<|nC.mpr ⟨(a,b),mB l,rfl⟩;exact xi.mp this
    have y:d[b]?=Y h:=by rw[kK x] at g1 ⊢;simpa using g1
    obtain⟨n,B,T⟩:=ok.road a b h q.2 y;refine⟨n,B,λm r=>?_⟩;obtain⟨A,v⟩:=T m r;show(pr mask h m).j∈(((qc mask ow).map (·.1)).toArray).toList;have:(pr mask h m).j∈(qc mask ow).map (·.1):=nC.mpr ⟨(_,A),P4.mpr ⟨NC mask h m,v⟩,rfl⟩;simpa using this
def abD: ∀n,n<2048-> ∃k,3<=k/\k<=11/\eQ n=2^k/\n<2^k:=by
 intro n h
 have step: ∀(f k:Nat),3<=k->k<=11->11<k+f-> ∃b,3<=b/\b<=11/\SetTable.sizeAbove.go n f (2^k)=2^b/\n<2^b:=by
  intro f
  induction f with
  |zero=>intro k h1 c d;lia
  |succ f g=>
   intro k h1 c d;unfold SetTable.sizeAbove.go;by_cases a:2^k<=n
   .rw[jl a,<-qI];have:k≠11:=λe=>by subst e;lia
    exact g (k+1) (by lia) (by lia) (by lia)
   .rw[jv a];exact⟨k,h1,c,rfl,by lia⟩
 exact step 64 3 (by lia) (by lia) (by lia)
open PyProof.Rows PySem.SeqAt
def acU{g:jh}{t:mW}(ok:BX g t){hashAt:Nat->Int}{h:Int}{p:dy}{n:Nat}(f:p=pr t.mask h n)(e: ∀m,m<n->(pr t.mask h m).j∈t.place.toList):
    ∃m,n<=m/\m<10*(t.mask+14)/\(∀q,n<=q->q<m-> ∃i,t.place[i]?=Y (pr t.mask h q).j/\hashAt i≠h)/\
      (((pr t.mask h m).j∉t.place.toList/\t.probe hashAt h p=Y (.empty (pr t.mask h m).j C))\/
       (∃i,t.place[i]?=Y (pr t.mask h m).j/\hashAt i=h/\t.probe hashAt h p=Y (.candidate (pr t.mask h m).j i<|pr t.mask h<|m+1))):=by
  subst f;obtain⟨M,h1,a⟩:=ok.free h
  have c:n<=M:=by
    by_cases b:M<n
    · exact absurd (e M b) a
    · lia
  obtain⟨m,g1,g2,g3⟩:=aea ok hashAt h (10*ci t.mask) n ⟨M,c,by unfold ci;lia,a⟩
  have k:m<=M:=by
    by_cases b:M<m
    · obtain⟨i,d,_⟩:=g2 M c b
      rw[<-mY] at d;exact absurd (mB d) a
    · lia
  exact⟨m,g1,by lia,g2,g3⟩
section
variable {prog:jw}{w:jm}{A:jn}{E:jJ}{s:iZ}
structure KY(A:jn)(s:iZ)(a:iW)(es:vI)(n:Nat)(t:mW)(x:jg)(h:Int)(eqs:Nat->Bool):Prop where
 at_: ∃o,s.heap.get? a=XV o/\o.data= .set es n t
 tab:BX (es.toList.map (·.1)) t
 refs: ∀(i:Nat) (e:Int×jg),es[i]?=XV e-> ∃b,e.2= .ref b
 eq: ∀(i:Nat) (e:Int×jg),es[i]?=XV e->EqAt A s e.2 x (eqs i)
 hash: ∀(i:Nat) (e:Int×jg),es[i]?=XV e->eqs i=YP->e.1=h
 quiet: ∀(l:ku) (prog:jw) (w:jm) (E:jJ) (Q:uh),(∀v∈l,∃e∈es.toList,e.2=v)->Q ZB s->ah (aj prog w) A (u6 x l) Q E s
def ad8(ok:BX c t):t.gaveWay=U:=by
 obtain⟨k,h1,_,b⟩:=ok.pow;obtain⟨a,rfl⟩: ∃a,k=a+1:=⟨k-1,by lia⟩
 rw[qI] at b;unfold UV;rw[xo];lia
def J2(ok:BX a t)(h:(A7 a)=n):t.fits n=J:=by have:=ok.len;have:=ok.room;unfold mo ms;rw[ok.dum];simp only[mP,beq_iff_eq,sd];exact⟨by lia,by show _+0<=_;lia⟩
def KY.fits{a b n t x h eqs}(S:KY A s a b n t x h eqs):t.fits b.size=J:=J2 S.tab (by simp)
def zr{a:iW}{k:vI}{nn:Nat}{t:mW}{x:jg}{h:Int}{c:Nat->Bool}{adding:Bool}(S:KY A s a k nn t x h c){Q:SetFound->iZ->Prop}
  (H: ∀i r,c i=YP->i<k.size->(r=X0\/r=XV i)->(adding=ZB->r=XV i)->Q (.there r) s)
  (j9:(∀i,i<k.size->c i=ZB)-> ∀n,(pr t.mask h n).j∉t.place.toList->(∀m,m<n->(pr t.mask h m).j∈t.place.toList)->Q (.free (pr t.mask h n).j ZB) s):
  ∀(l n:Nat) (u:Option dy),u.getD (t.probeStart h)=pr t.mask h n->(∀q,q<n-> ∃i,t.place[i]?=XV (pr t.mask h q).j/\c i=ZB)->10*(t.mask+14)<n+l->n<=10*(t.mask+14)->
   ah (aj prog w) A (F2 a x h adding l u) Q E s:=by
 intro iV
 induction iV with
 |zero=>
  intro n u _ _ V X
  lia
 |succ l iH=>
  intro n u l4 U V X;obtain⟨o,G,hd⟩:=S.at_
  have K6: ∀m,m<n->(pr t.mask h m).j∈t.place.toList:=λm W=>by obtain⟨i,g,_⟩:=U m W;rw[<-mY] at g;exact mB g
  unfold F2;refine iX<|ui G hd S.fits ?_;dsimp only;rw[ad8 S.tab];simp only[ke,↓reduceIte];generalize R:t.probe _ h _=P;obtain⟨m,m1,m2,m3,F⟩:=acU S.tab l4 K6 (hashAt:=λi=>(k[i]?.map (·.1)).getD 0);have T:t.probe (λi=>(k[i]?.map (·.1)).getD 0) h (u.getD<|t.probeStart h)=P:=R;rw[T] at F
  have N: ∀(i:Nat) (j:Nat),t.place[i]?=XV j-> ∃e,k[i]?=XV e/\(k[i]?.map (·.1)).getD 0=e.1:=λi j g=>by have h1:=(Kp.mp g).1;have O:=S.tab.len;rw[kn,lh] at O;exact⟨k[i],qu<|by lia,by rw[qu<|by lia];rfl⟩
  have ne: ∀(i:Nat) (j:Nat),t.place[i]?=XV j->(k[i]?.map (·.1)).getD 0≠h->c i=ZB:=λi j g L=>by
   obtain⟨e,f,Y⟩:=N i j g
   cases d:c i with
   |false=>rfl
   |true=>exact absurd (Y.trans<|S.hash i e f d) L
  have seen: ∀q,q<m-> ∃i,t.place[i]?=XV (pr t.mask h q).j/\c i=ZB:=λq d=>by
   by_cases p:q<n
   .exact U q p
   .obtain⟨i,g,L⟩:=m3 q (by lia) d;exact⟨i,g,ne i _ g L⟩
  rcases F with⟨a1,a2⟩|⟨i,a1,a2,a3⟩
  .subst a2;dsimp only;refine jd<|j9 (λi g=>?_) m a1 λq d=>?_
   .cases d:c i with
    |false=>rfl
    |true=>
     exfalso;have f:k[i]?=XV k[i]:=qu g;have h1:=S.hash i _ f d;have O:=S.tab.len;rw[kn,lh] at O;have B:t.place[i]?=XV t.place[i]:=qu (by lia);obtain⟨M,K,r2⟩:=S.tab.road i h t.place[i] (by rw[ly,mY,f];exact nE XV h1) B
     have:M<m:=by
      by_cases p:M<m
      .exact p
      .exfalso;rcases na (SW.mp p) with p|heq
       .exact a1 (r2 m p)
       .subst heq;rw[<-mY] at B;rw[K] at a1;exact a1<|mB B
     obtain⟨Z,g1,g2⟩:=seen M this;rw[K] at g1;have:Z=i:=by rw[<-Bv S.tab.ris g1,Bv S.tab.ris B]
     rw[this,d] at g2;cases g2
   .obtain⟨i,g,_⟩:=seen q d;rw[<-mY] at g;exact mB g
  .subst a3;dsimp only;obtain⟨e,f,Y⟩:=N i _ a1;obtain⟨h',y⟩:=e;obtain⟨b,D⟩:=S.refs i _ f;dsimp only at D;subst D;have I:t.sameMemory t.moves t.mask=XV YP:=by simp[T2]
   have C:i<k.size:=(Kp.mp f).1;cases hl:t.led
   .simp only[Ag,↓reduceIte];refine iX<|S.quiet _ _ _ _ _ (λv hv=>?_) ?_
    .obtain⟨e,v8,rfl⟩:=nC.mp hv;exact⟨e,(Wk.mp (by simpa using(Array.mem_filter.mp<|Wk.mp v8).1) |> λz=>by simpa using z),rfl⟩
    simp only[ke,↓reduceIte];rw[f];dsimp only;refine iX<|mv<|S.eq i _ f _ _ _ _ ?_;refine iX<|ui G hd S.fits ?_;dsimp only
    cases d:c i with
    |true=>
     cases adding with
     |true=>simp only[gX,↓reduceIte];exact jd<|H i X0 d C (.inl AM) (λz=>by cases z)
     |false=>simp only[eS,ke,↓reduceIte,I,rB S.tab.ris a1,f];refine iX<|Dz ?_;simp only[↓reduceIte];exact iX<|jd<|jd<|H i _ d C (.inr AM) λ_=>rfl
    |false=>
     simp only[eW,ke,↓reduceIte,I,rB S.tab.ris a1,f];refine iX<|Dz ?_;simp only[↓reduceIte];refine iX<|jd ?_
     exact iH (m+1) _ rfl (λq J=>by
      by_cases e:q=m
      .subst e;exact⟨i,a1,d⟩
      .exact seen q (by lia)) (by lia) (by lia)
   .simp only[qt,ke,↓reduceIte];rw[f];dsimp only;refine iX<|mv<|S.eq i _ f _ _ _ _ ?_;refine iX<|ui G hd S.fits ?_;dsimp only
    cases d:c i with
    |true=>
     cases adding with
     |true=>simp only[gX,↓reduceIte];exact jd<|H i X0 d C (.inl AM) (λz=>by cases z)
     |false=>simp only[eS,ke,↓reduceIte,I,rB S.tab.ris a1,f];refine iX<|Dz ?_;simp only[↓reduceIte];exact iX<|jd<|jd<|H i _ d C (.inr AM) λ_=>rfl
    |false=>
     simp only[eW,ke,↓reduceIte,I,rB S.tab.ris a1,f];refine iX<|Dz ?_;simp only[↓reduceIte];refine iX<|jd ?_
     exact iH (m+1) _ rfl (λq J=>by
      by_cases e:q=m
      .subst e;exact⟨i,a1,d⟩
      .exact seen q (by lia)) (by lia) (by lia)
end
noncomputable abbrev ky(a:vI)(n:Nat)(t:mW):Obj:={cls:= .type "set",data:= .set a n t}
section
variable {c:jw}{w:jm}{A:jn}{E:jJ}{s:iZ}
def FE{h:jo}{a:iW}{b es':vI}{n:Nat}{t t':mW}(d:h.get? a=Y (ky b n t)):(h.update a<|mA es' t').get? a=Y (ky es' (n+1) t'):=by have:=vO (mA es' t') d (by rw[putSet_of es' t' H];rfl);rw[putSet_of es' t' H] at this;exact this
def aew{b:Type}(a:Array b):(au a.size).filterMap (λi=>a[i]?)=a.toList:=by
 have: ∀(l:List b),(au<|A7 l).filterMap (λi=>l[i]?)=l:=by
  intro l
  induction l with
  |nil=>rfl
  |cons x l d=>rw[lg,ey,sh];simp only[uA,k7,yL,tE,d]
 have h:=this a.toList;simpa using h
def R8{a:vI}: ∀(l:kj),(∀i∈l,i<a.size)->(l.filterMap λi=>a[i]?).map (·.1)=l.map λi=>(a.toList.map (·.1)).getD i 0:=by
 intro f
 induction f with
 |nil=>intro _;exact H
 |cons i l e=>
  intro h;have b:=h i jW;rw[sh,qu b];simp only[kc];rw[e λj d=>h j<|jZ _ d]
  congr 1
  simp[b]
def aet{a:iW}{d:vI}{n:Nat}{t:mW}(g:s.heap.get? a=Y (ky d n t))(v:t.fits d.size=J)(T:5<=d.size)(L:d.size<=500){Q:Unit->iZ->Prop}
  (h: ∀f es' O t',aK a s.heap f->f.get? a=Y (ky es' O t')->es'.toList.Perm d.toList->BX (es'.toList.map (·.1)) t'->t'.plain=t.plain->t'.led=t.led->Q () {s with heap:=f}):
  ah (aj c w) A (setRelay a<|f7 d.size) Q E s:=by
 have x:f7 d.size=d.size*4:=by unfold f7;rw[jv<|by lia]
 obtain⟨k,B,j,u,lk⟩:=abD (d.size*4) (by lia);have z:eQ (d.size*4)-1+1=2^k:=by have:=ss k;lia
 obtain⟨t',b,o,e,p,q,r⟩:=RT z B j t.finger (t.movedTo<|eQ (d.size*4)-1) t.led t.plain (d.toList.map (·.1)) (by rw[kn,lh];lia);rw[kn,lh] at e
 have er:t.relaid (d.map (·.1)) (d.size*4)=Y (t',b):=by unfold Uf;rw[<-o,<-Array.toList_map]
 have m: ∀i∈b.toList,i<d.size:=λi y=>xi.mp<|e.mem_iff.mp y;have l:(b.filterMap (d[·]?)).toList=b.toList.filterMap (λi=>d[i]?):=by simp
 have perm:(b.filterMap (d[·]?)).toList.Perm d.toList:=by rw[l];refine(e.filterMap _).trans ?_;rw[aew]
 have sz:(b.filterMap (d[·]?)).size=d.size:=by rw[<-lh,perm.length_eq,lh]
 rw[x];unfold setRelay;refine iX<|ui g H v ?_;dsimp only
 have N:2^k<=sizeLine:=by have:2^k<=2^11:=yE (by decide) j;rw[jY];lia
 rw[jv<|by rw[u];lia,er];refine iX ?_;change ah _ _ (if((b.filterMap (d[·]?)).size !=d.size)=J then _ else _) _ _ _;rw[jv<|by rw[sz];simp];refine jd ?_;dsimp only;refine t9 g H ?_ (by rw[sz,jY];lia);refine h _ (b.filterMap (d[·]?)) (n+1) t' (tH s.heap a _) (FE g) perm ?_ q r;rw[l,R8 _ m];exact p
def qG{b:Type}(a:Array b)(p:Nat)(x:b):(aE a p x).toList.Perm (x::a.toList):=by rw[mF];refine P7.trans ?_;rw[wt]
def Y1{a b:iW}{d:vI}{n:Nat}{t:mW}{h:Int}{p:Nat->Bool}(S:KY A s a d n t (.ref b) h p)(I:s.heap.get? a=XV (ky d n t))(e9:t.plain=YP)(hz:d.size+1<=500)
  (J: ∀(U:uh),U YP s->ah (aj c w) A (dP 8<|.ref b) U E s){Q:uh}
  (B:(∃i,i<d.size/\p i=YP)->Q ZB s)
  (j4:(∀i,i<d.size->p i=ZB)-> ∀h' es' N t',aK a s.heap h'->h'.get? a=XV (ky es' N t')->es'.toList.Perm ((h,.ref b)::d.toList)->BX (es'.toList.map (·.1)) t'->t'.plain=YP->t'.led=t.led->Q YP {s with heap:=h'}):
  ah (aj c w) A (O1 a (.ref b) h) Q E s:=by
 unfold O1 setAddHashedIn;refine mv<|iX<|ui I AM S.fits ?_;dsimp only;have Z:byScan (.ref b) d=ZB:=rfl;rw[Z];simp only[ke,↓reduceIte]
 have hm:t.mask+1<=2048:=by
  obtain⟨k,_,K,R⟩:=S.tab.pow;have:2^k<=2^11:=yE (by decide) K
  lia
 refine iX<|zr S (adding:=YP) (λi r h1 G _ _=>?_) (λY m h1 G=>?_) 100000 0 X0 AM (λq hq=>by lia) (by lia) (by lia)
 .dsimp only;exact jd<|B ⟨i,G,h1⟩
 .dsimp only;refine iX<|ui I AM S.fits ?_;dsimp only
  have x:(t.put (pr t.mask h m).j).1={t with place:=aE t.place (ap t.place (pr t.mask h m).j) (pr t.mask h m).j,dummies:= #[]}:=by unfold n3;dsimp only;rw[S.tab.dum,ES];rfl
  have P:(t.put (pr t.mask h m).j).2=ap t.place (pr t.mask h m).j:=rfl;have T:(t.put (pr t.mask h m).j).1.plain=YP:=by rw[x];exact e9
  rw[jl T];refine iX<|J _ ?_;simp only[↓reduceIte]
  have v:(aE d (t.put (pr t.mask h m).j).2 (h,bf b)).size=d.size+1:=by rw[<-lh,(qG d _ _).length_eq,lg,lh]
  refine iX<|t9 I AM ?_ (by rw[v,jY];lia);have F:=FE (es':=aE d (t.put (pr t.mask h m).j).2 (h,bf b)) (t':=(t.put (pr t.mask h m).j).1) I;have H:=tH s.heap a<|mA (aE d (t.put (pr t.mask h m).j).2 (h,bf b)) (t.put (pr t.mask h m).j).1;have f:(A7 d.toList)=d.size:=lh;have o:=S.tab.len;rw[kn,f] at o
  have l:(t.put (pr t.mask h m).j).1.place.size=d.size+1:=by rw[x];show(aE t.place _ _).size=_;rw[<-lh,(qG t.place _ _).length_eq,lg,lh,o]
  have O:(t.put (pr t.mask h m).j).1.fill=d.size+1:=by unfold ms;rw[l,x];rfl
  have L:(t.put (pr t.mask h m).j).1.mask=t.mask:=by rw[x]
  have g:(t.put (pr t.mask h m).j).1.led=t.led:=by rw[x]
  by_cases e:(t.put (pr t.mask h m).j).1.tooFull=YP
  .rw[e];simp only[Ag,gX,↓reduceIte];have u:=S.tab.room;rw[kn,f] at u
   have D:3*t.mask<=5*(d.size+1):=by unfold iw at e;rw[O,L] at e;have:=of_decide_eq_true e;lia
   have m7:7<=t.mask:=by
    obtain⟨k,k3,_,R⟩:=S.tab.pow;have:2^3<=2^k:=yE (by decide) k3
    lia
   have y:(t.put (pr t.mask h m).j).1.fits (aE d (t.put (pr t.mask h m).j).2 (h,bf b)).size=YP:=by unfold mo;rw[l,v,O,L];simp only[BEq.rfl,fF,sd];lia
   rw[<-v];refine iX<|aet F y (by rw[v];lia) (by rw[v];lia) λh' es' N t' g1 g2 g3 V W X=>?_;exact jd<|j4 Y h' es' N t' (H.trans g1) g2 (g3.trans<|qG d _ _) V (by rw[W];exact T) (by rw[X];exact g)
  .have C:(t.put (pr t.mask h m).j).1.tooFull=ZB:=by simpa using e
   rw[C];simp only[eW,ke,↓reduceIte]
   have M:5*(d.size+1)<3*t.mask:=by
    unfold iw at e;rw[O,L] at e;have: ¬(d.size+1)*5>=t.mask*3:=λz=>e<|pe z
    lia
   obtain⟨p1,p2⟩:=S.tab.put h1 G (by rw[kn,f];exact M) AM AM;refine jd<|j4 Y _ _ _ _ H F (qG d _ _) ?_ T g;rw[mF,oX,kc,<-tv,<-List.map_drop] at*;rw[P];exact p1
def Ys(S:KY A s a d n t (.ref b) h eqs)(j:s.heap.get? a=Y (ky d n t)) 
  (h1: ∀i,i<d.size->eqs i=J->Q (Y i) s)(g:(∀i,i<d.size->eqs i=U)->Q C s):ah (aj c w) A (setFind a (.ref b) h) Q E s:=by
 unfold setFind setFindIn;refine iX<|ui j H S.fits ?_;dsimp only;have l:byScan (.ref b) d=U:=rfl;rw[l];simp only[ke,↓reduceIte]
 have p:t.mask+1<=2048:=by
  obtain⟨k,_,f,o⟩:=S.tab.pow;have:2^k<=2^11:=yE (by decide) f
  lia
 refine iX<|zr S (adding:=U) (λi r g1 g2 _ g3=>?_) (λe m _ _=>?_) 100000 0 C H (λq u=>by lia) (by lia) (by lia)
 .rw[g3 H];exact jd<|h1 i g2 g1
 .exact jd (g e)
end
end TT
namespace PX
open L2 PySem.SeqAt TS
def D.KR: ∀l:List D,D.GG l=l.map D.hash:=by
 intro b
 induction b with
 |nil=>rw[D.GG];rfl
 |cons d l a=>rw[D.GG,a];rfl
def Ew: ∀{l:List D} {d:D},D.Ja l=J->d∈l->D.pr d=J:=by
 intro c
 induction c with
 |nil=>intro d _ h;simp at h
 |cons e l b=>
  intro d a h;rw[D.Ja,mP] at a;rcases lz.mp h with rfl|h
  .exact a.1
  .exact b a.2 h
def tj: ∀{l:List D} {d:D},d∈l->d.dep<=D.BJ l:=λ{l d} h=>by obtain⟨j,a⟩:=um h;exact D.EA a
section
variable {X:Cx}{c:jK}{f:L2.St}{H:Hp}{s:iZ}
def IH(X:Cx)(H:Hp)(O:B7)(d:List D)(a:ku):Prop:= ∃b,AJ X.K H O d b/\Vals b a
def IH.cons(h:IH X H O (d::ds) (v::e)):(∃x,Rep X.K H O d x/\RelV x v)/\IH X H O ds e:=by
 obtain⟨k,r,vs⟩:=h;rw[AJ] at r;obtain⟨x,j,rfl,g,i⟩:=r
 cases vs with
 |cons a b=>exact⟨⟨x,g,a⟩,j,i,b⟩
def IH.nil_of{O:B7}{a:List D}(h:IH X H O a []):a=[]:=by
 obtain⟨g,r,b⟩:=h;cases b
 cases a with
 |nil=>rfl
 |cons d a=>rw[AJ] at r;obtain⟨_,_,e,_⟩:=r;cases e
def IH.cons_of(h:IH X H O a (v::e)): ∃d b,a=d::b:=by
 cases a with
 |nil=>obtain⟨i,r,g⟩:=h;rw[AJ] at r;subst r;cases g
 |cons d a=>exact⟨d,a,rfl⟩
def OU: ∀(n:Nat) {s:iZ} (I:Inv X c f H s) (d:D) (v:V) (u:jg) (O:B7) (A:jn) (E:jJ) (Q:Int->iZ->Prop),Rep X.K H O d v->RelV v u->D.pr d=YP->d.dep<=n->A.units+n<aQ->(∀j,s.toks<=j->Q d.hash {s with toks:=j})->
  ah (aj X.prog X.w) A (pyHash u) Q E s:=by
 intro n
 induction n with
 |zero=>
  intro s I d v u O A E Q g L m hd R p
  cases d with
  |int i=>have:=g.int;subst this;obtain⟨t,rfl⟩:=L;have:=p (s.toks+1)<|yO _;rw[D.hash] at this;exact HC this
  |tup l=>rw[D.dep] at hd;lia
  |_=>simp[D.pr] at m
 |succ n ih=>
  intro s I d v u O A E Q g L m hd R p
  cases d with
  |int i=>have:=g.int;subst this;obtain⟨t,rfl⟩:=L;have:=p (s.toks+1)<|yO _;rw[D.hash] at this;exact HC this
  |tup l=>
   rw[D.pr] at m;rw[D.dep] at hd;obtain⟨a,xs,rfl,q,r⟩:=g.tup;cases L;obtain⟨Z,vs,⟨o,N,S,nn,Y⟩,_⟩:=I.tuple q.sq;have z:s.TypeIs (.ref a) "tuple":=⟨o,N,S⟩
   have W:A.units<cLine:=by lia
   unfold pyHash;unfold pyHashByItsType;refine iX<|wpAny_cRoomFor_or (.inr W) ?_;refine iX<|uz z Jf.lookup ?_;show ah _ _ (if(XV (gC "tuple.__hash__")==XV ao)=YP then _ else _) Q E s;rw[jv<|by rw[wr];exact kR];refine iX<|uz z Jf.lookup ?_;show ah _ _ (callSpecialIfBoundUnlessNone? (.ref a) "__hash__" _>>=_) Q E s;refine iX<|wpAny_callSpecialIfBoundUnlessNone?_slot z Jf<|nW Jf z PySem.F.entry_tuple_hash ?_<|PySem.F.args_tuple_hash_1 _;show ah _ _ (c8 (.ref a)>>=_) _ _ s;refine iX<|wpAny_tupleItemsOf N Y ?_;refine iX ?_;rw[<-Dy]
   refine rT _
    (λjF (b:Array Int) G=> ∃done left,l=done++left/\IH X H (λa=>O a) left jF/\b.toList=done.map D.hash/\ ∃j,s.toks<=j/\G={s with toks:=j})
    _ ?_ ?_ _ _ ⟨[],l,rfl,⟨xs,r,by simpa using vs⟩,rfl,s.toks,kh _,rfl⟩
   .rintro x jF b G ⟨done,left,rfl,C',B,j,T,rfl⟩;obtain⟨d,left,rfl⟩:=C'.cons_of;obtain⟨⟨y,h1,P⟩,J⟩:=C'.cons;have M:d∈done++d::left:=by simp
    have aS:=tj M;refine iX<|ih (I.kept (h':=s.heap) (t':=j) λ_ _ e=>e) d y x O A.in1 E _ h1 P (Ew m M) (by lia) (by show A.units+1+n<aQ;lia) λU k=>?_
    first
     |exact jd ⟨done++[d],left,by simp,J,by simp[B],U,mC T k,rfl⟩
     |exact iX<|jd<|jd ⟨done++[d],left,by simp,J,by simp[B],U,mC T k,rfl⟩
   .rintro b G ⟨done,left,rfl,C',B,j,T,rfl⟩;have:=C'.nil_of;subst this;have h:=p (j+1)<|n5 T;rw[D.hash,D.KR,sf] at h;show ah _ _ (retInt<|bh b.toList) _ _ _;rw[B];refine wpAny_ret_mkInt ?_;show ah _ _ (if(decide (-(2:Int)^63<=bh (done.map D.hash))&&decide (bh (done.map D.hash)<2^63))=YP then _ else _) Q E _;unfold reduceHash at h;by_cases g:(decide (-(2:Int)^63<=bh (done.map D.hash))&&decide (bh (done.map D.hash)<2^63))=YP
    .rw[jl g];rw[jl g] at h;exact jd h
    .rw[jv g];rw[jv g] at h;exact iX<|uo<|jd h
  |_=>simp[D.pr] at m
def Yh(I:Inv X c f H s): ∀(n:Nat) (d:D) (v:V) (u:jg) (O:B7) (A:jn) (E:jJ) (Q:uh),Rep X.K H O d v->RelV v u->D.pr d=YP->d.dep<=n->Q YP s->ah (aj X.prog X.w) A (dP n u) Q E s:=by
 intro n
 induction n with
 |zero=>
  intro d v u O A E Q g j b hd e
  cases d with
  |int i=>have:=g.int;subst this;obtain⟨t,rfl⟩:=j;exact qv (show dP 0 (.int i t)=pure YP by simp[dP]) e
  |tup l=>rw[D.dep] at hd;lia
  |_=>simp[D.pr] at b
 |succ n U'=>
  intro d v u O A E Q g j b hd e
  cases d with
  |int i=>have:=g.int;subst this;obtain⟨t,rfl⟩:=j;exact qv (show dP (n+1) (.int i t)=pure YP by simp[dP]) e
  |tup l=>
   rw[D.pr] at b;rw[D.dep] at hd;obtain⟨a,F,rfl,q,r⟩:=g.tup;cases j;obtain⟨m,Y,⟨o,C,N,R,T⟩,_⟩:=I.tuple q.sq;have M:s.TypeIs (.ref a) "tuple":=⟨o,C,N⟩
   unfold dP;refine iX<|uz M Jf.lookup ?_;dsimp only;refine iX<|rX C T ?_;refine iX ?_;show ah _ _ (forIn m.toArray _ _) _ _ s;rw[<-Dy];refine rT _ (λjF L p=>L.1=X0/\p=s/\ ∃left,(∀d∈left,d∈l)/\IH X H O left jF) _ ?_ ?_ _ _ ⟨rfl,rfl,l,λd h=>h,F,r,by simpa using Y⟩
   .rintro x jF L p ⟨k,rfl,left,hm,B⟩;obtain⟨d,left,rfl⟩:=B.cons_of;obtain⟨⟨y,h1,G⟩,J⟩:=B.cons;have z:=hm d jW;have P:=tj z;refine iX<|U' d y x O A E _ h1 G (Ew b z) (by lia) ?_;simp -iota only[qt,ke,kB];exact jd ⟨rfl,rfl,left,λd h=>hm d<|jZ _ h,J⟩
   .rintro⟨S,W⟩ p ⟨k,rfl,_⟩;simp only at k;subst k;exact jd e
  |_=>simp[D.pr] at b
def QN{P:jw}{W:jm}(I:Inv X c f H s): ∀(n:Nat) (d:D) (v:V) (u:jg) (O:B7) (A:jn) (E:jJ) (Q:uh),Rep X.K H O d v->RelV v u->D.pr d=YP->d.dep<=n->Q YP s->ah (aj P W) A (wl n u) Q E s:=by
 intro n
 induction n with
 |zero=>
  intro d v u O A E Q g j b hd e
  cases d with
  |int i=>have:=g.int;subst this;obtain⟨t,rfl⟩:=j;exact qv (u7 0 AM) e
  |tup l=>rw[D.dep] at hd;omega
  |_=>simp[D.pr] at b
 |succ n N=>
  intro d v u O A E Q g j b hd e
  cases d with
  |int i=>have:=g.int;subst this;obtain⟨t,rfl⟩:=j;exact qv (u7 (n+1) AM) e
  |tup l=>
   rw[D.pr] at b;rw[D.dep] at hd;obtain⟨a,Y,rfl,q,r⟩:=g.tup;cases j;obtain⟨m,U,⟨o,C,M,S,T⟩,_⟩:=I.tuple q.sq;have z:s.TypeIs (.ref a) "tuple":=⟨o,C,M⟩
   unfold wl;refine iX<|uz z PySem.F.slot_tuple_eq.lookup ?_;show ah _ _ (isInstance (.ref a) (.type "tuple")>>=_) _ _ s;refine iX<|wy z isSubtype_tuple_tuple ?_;simp -iota only[qt,ke,kB];refine iX<|rX C T ?_;refine iX ?_;show ah _ _ (forIn m.toArray _ _) _ _ s;rw[<-Dy];refine rT _ (λjF L p=>L.1=X0/\p=s/\ ∃left,(∀d∈left,d∈l)/\IH X H O left jF) _ ?_ ?_ _ _ ⟨rfl,rfl,l,λd h=>h,Y,r,by simpa using U⟩
   .rintro x jF L p ⟨k,rfl,left,hm,B⟩;obtain⟨d,left,rfl⟩:=B.cons_of;obtain⟨⟨y,h1,G⟩,J⟩:=B.cons;have w:=hm d jW;have R:=tj w;refine iX<|N d y x O A E _ h1 G (Ew b w) (by omega) ?_;simp -iota only[qt,ke,kB];exact jd ⟨rfl,rfl,left,λd h=>hm d<|jZ _ h,J⟩
   .rintro⟨Z,r2⟩ p ⟨k,rfl,_⟩;simp only at k;subst k;exact jd e
  |_=>simp[D.pr] at b
def acF{P:jw}{W:jm}(I:Inv X c f H s): ∀(n:Nat) (d:D) (v:V) (u:jg) (O:B7) (A:jn) (E:jJ) (Q:uh),Rep X.K H O d v->RelV v u->D.pr d=YP->d.dep<=n->Q ZB s->ah (aj P W) A (ca n u) Q E s:=by
 intro n
 induction n with
 |zero=>
  intro d v u O A E Q g j b hd e
  cases d with
  |int i=>have:=g.int;subst this;obtain⟨t,rfl⟩:=j;exact qv (show ca 0 (.int i t)=pure ZB by simp[ca]) e
  |tup l=>rw[D.dep] at hd;omega
  |_=>simp[D.pr] at b
 |succ n N=>
  intro d v u O A E Q g j b hd e
  cases d with
  |int i=>have:=g.int;subst this;obtain⟨t,rfl⟩:=j;exact qv (show ca (n+1) (.int i t)=pure ZB by simp[ca]) e
  |tup l=>
   rw[D.pr] at b;rw[D.dep] at hd;obtain⟨a,Y,rfl,q,r⟩:=g.tup;cases j;obtain⟨m,U,⟨o,B,M,R,L⟩,_⟩:=I.tuple q.sq;have J:s.TypeIs (.ref a) "tuple":=⟨o,B,M⟩
   unfold ca;refine iX<|uv J ?_;dsimp only;rw[jl<|by decide];refine iX<|jd ?_;simp -iota only[qt,ke,kB];refine iX<|rX B L ?_;dsimp only;refine iX ?_;show ah _ _ (forIn m.toArray _ _) _ _ s;rw[<-Dy];refine rT _ (λjF C p=>C.1=X0/\p=s/\ ∃left,(∀d∈left,d∈l)/\IH X H O left jF) _ ?_ ?_ _ _ ⟨rfl,rfl,l,λd h=>h,Y,r,by simpa using U⟩
   .rintro x jF C p ⟨k,rfl,left,hm,z⟩;obtain⟨d,left,rfl⟩:=z.cons_of;obtain⟨⟨y,h1,T⟩,G⟩:=z.cons;have w:=hm d jW;have F:=tj w;refine iX<|N d y x O A E _ h1 T (Ew b w) (by omega) ?_;simp -iota only[ke,kB];exact jd ⟨rfl,rfl,left,λd h=>hm d<|jZ _ h,G⟩
   .rintro⟨S,Z⟩ p ⟨k,rfl,_⟩;simp only at k;subst k;exact jd e
  |_=>simp[D.pr] at b
end
end PX
namespace TT
open PySem.SeqAt
def abf:hD u3 "set.__iter__"=Y aV.«frozenset.__iter__»:=B4 (id':="frozenset.__iter__") (by kernel_rfl) H (by decide+kernel) (by kernel_rfl)
def oP:Slot "set_iterator" "__next__" "set_iterator.__next__":= .of (owner:="set_iterator") (n:="__next__") (by rw[G0,GZ];kernel_rfl) (by decide+kernel) (by decide+kernel) (by decide+kernel) (by first|exact .inl (by decide+kernel)|exact .inr<|by decide+kernel) (by rw[Dx];kernel_rfl)
def xE:Slot "set_iterator" "__iter__" "set_iterator.__iter__":= .of (owner:="set_iterator") (n:="__iter__") (by rw[G0,GZ];kernel_rfl) (by decide+kernel) (by decide+kernel) (by decide+kernel) (by first|exact .inl (by decide+kernel)|exact .inr<|by decide+kernel) (by rw[Dx];kernel_rfl)
def wa:hD u3 "set_iterator.__next__"=Y aV.«set_iterator.__next__»:=entryFor_of_fast (by kernel_rfl)
def abk:hD u3 "set_iterator.__iter__"=Y aV.«dict_keyiterator.__iter__»:=B4 (id':="dict_keyiterator.__iter__") (by kernel_rfl) H (by decide+kernel) (by kernel_rfl)
def yx(a:jg):hH "set_iterator.__next__" ⟨[a],[]⟩:=by unfold hH;kernel_rfl
def abR(a:jg):hH "set_iterator.__iter__" ⟨[a],[]⟩:=by unfold hH;kernel_rfl
theorem tU{a:Type}: ∀(l:List a) {i:Nat} (h:i<A7 l),(l[i]::l.eraseIdx i).Perm l
 |x::l,0,_=>by simp
 |x::l,i+1,h=>by have:=tU l (i:=i) (by simpa using h);simp only[List.getElem_cons_succ,List.eraseIdx_cons_succ];exact(iP x _ _).trans (iQ x this)
def abE{d:Type}(next:Nat->Nat): ∀(a k:Nat) (left:List d) (b:Array d),A7 left<=a->(pickOrder.go next a k left b).toList.Perm (b.toList++left):=by
 intro f
 induction f with
 |zero=>intro k left b h;have:left=[]:=SU.mp (by lia);subst this;unfold pickOrder.go;simp
 |succ a e=>
  intro k left b h;unfold pickOrder.go
  cases left with
  |nil=>simp
  |cons y l=>have c:next k%(y::l).length<(y::l).length:=yF _ (by simp);rw[kK c];dsimp only;refine(e (k+1) _ _ (by rw[Dw,jl c];simp at h ⊢;lia)).trans ?_;rw[fK,tJ];refine Tk _ ?_;exact tU _ c
def aaN{b:Type}(next:Nat->Nat)(a:Array b):(gB next a).toList.Perm a.toList:=by unfold gB;have:=abE next a.size 0 a.toList #[] (by simp);simpa using this
noncomputable def oM(w:jm)(a:iW)(n:Nat)(b:vI):Array (Int×jg):=if w.params.followText "set-order"=J then gB (w.params.setOrder a n) b else b
def GJ(w:jm)(a:iW)(n:Nat)(b:vI):(oM w a n b).toList.Perm b.toList:=by
 unfold oM;split
 .exact aaN _ _
 .exact wk _
def pQ(w:jm)(a:iW)(n:Nat)(b:vI):(oM w a n b).size=b.size:=by rw[<-lh,(GJ w a n b).length_eq,lh]
noncomputable def Jp(t:mW):Nat->Nat
 |0=>0
 |i+1=>t.place.getD i 0+1
noncomputable def mS(w:jm)(t:mW)(i:Nat):Nat:=if w.params.followText "set-order"=J then 0 else Jp t i
structure Cb(w:jm)(h:jo)(a:iW)(es:vI)(n:Nat)(t:mW):Prop where
 at_:h.get? a=XV (ky es n t)
 tab:BX (es.toList.map (·.1)) t
 plain:t.plain=YP
 led:t.led=!w.params.followText "set-order"
def EB(w:jm)(h:jo)(c a:iW)(t:mW)(b n i:Nat):Prop:= ∃o,h.get? c=Y o/\o.cls= .type "set_iterator"/\o.data= .fields #[.int (mS w t i) 0,.int i 0,.ref a,.int b 0,.int n 0]
section
variable {prog:jw}{w:jm}{A:jn}{E:jJ}{s:iZ}
def Cb.fits{h a b n t}(S:Cb w h a b n t):t.fits b.size=J:=J2 S.tab (by simp)
def aca(c:t.place.toList.Pairwise (· < ·))(j:i<=t.place.size):ap t.place (Jp t i)=i:=by
 cases i with
 |zero=>
  obtain⟨h1,a,_⟩:=qm c 0
  cases g:ap t.place 0 with
  |zero=>exact g
  |succ k=>
   have h:0<t.place.size:=by lia
   have:=a 0 _ (by lia) (qu h)
   lia
 |succ i=>
  have hd:t.place.getD i 0=t.place[i]:=by simp[gx,show i<t.place.size by lia]
  show ap t.place (t.place.getD i 0+1)=i+1;rw[hd];have e:t.place[i]?=Y t.place[i]:=qu (by lia);obtain⟨h1,a,f⟩:=qm c<|t.place[i]+1;by_cases l:ap t.place (t.place[i]+1)<i+1
  .have:=f i _ (by lia) e;lia
  .by_cases b:i+1<ap t.place (t.place[i]+1)
   .have d:t.place[i+1]?=Y t.place[i+1]:=qu (by lia);have:=a (i+1) _ b d;have:=Eu c (se i) e d
    lia
   .lia
def AA{a:iW}{b:vI}{n:Nat}{t:mW}(S:Cb w s.heap a b n t){i:Nat}(q:i<=b.size){Q:Option (jg×Nat)->iZ->Prop}
  (h1: ∀e,(oM w a n b)[i]?=Y e->Q (Y (e.2,mS w t<|i+1)) s)(h:i=b.size->Q C s):ah (aj prog w) A (setNext a (mS w t i) i n) Q E s:=by
 have p:=S.tab.len;rw[kn,lh] at p;unfold setNext;refine iX<|ui S.at_ H S.fits ?_;dsimp only;unfold g9;refine iX<|iX<|uF<|jd ?_;by_cases c:w.params.followText "set-order"=J
 .have f:(aj prog w).w.params.followText "set-order"=J:=c;rw[jl f,jv<|by simp];unfold setWalk g9;refine iX<|iX<|ui S.at_ H S.fits ?_;dsimp only;refine iX<|iX<|uF<|jd ?_;rw[jl f];refine iX<|uF<|jd<|jd ?_;have g:oM w a n b=gB (w.params.setOrder a n) b:=by unfold oM;rw[jl c]
  have d: ∀k,mS w t k=0:=λk=>by unfold mS;rw[jl c]
  show Q (((gB (w.params.setOrder a n) b)[i]?).map λe=>(e.2,mS w t i)) s;rw[<-g];rw[d] at h1;rw[d]
  cases j:(oM w a n b)[i]? with
  |some e=>exact h1 e j
  |none=>have:=Array.getElem?_eq_none_iff.mp j;rw[pQ] at this;exact h (by lia)
 .have f: ¬(aj prog w).w.params.followText "set-order"=J:=c;rw[jv f];change ah _ _ (if(!t.plain&&decide (b.size>1))=J then _ else _) _ _ _;rw[jv<|by rw[S.plain];simp];have m:t.led=J:=by rw[S.led];simpa using c
  refine iX ?_;change ah _ _ (if(!t.led&&!b.isEmpty)=J then _ else _) _ _ _;rw[jv<|by rw[m];simp];refine jd ?_;have g:oM w a n b=b:=by unfold oM;rw[jv c]
  have d: ∀k,mS w t k=Jp t k:=λk=>by unfold mS;rw[jv c]
  have l:ap t.place (mS w t i)=i:=by rw[d];exact aca S.tab.ris (by lia)
  rw[l];rw[g] at h1;by_cases o:i<b.size
  .have g1:b[i]?=Y b[i]:=qu o;have g2:t.place[i]?=Y t.place[i]:=qu (by lia);rw[g1,g2];have:=h1 b[i] g1;rw[d] at this;rw[show Jp t (i+1)=t.place.getD i 0+1 from H] at this;have hd:t.place.getD i 0=t.place[i]:=by simp[gx,show i<t.place.size by lia]
   rw[hd] at this;exact jd this
  .rw[DA<|by lia];exact jd<|h (by lia)
def Cb.typeIs{a b n t}(S:Cb w s.heap a b n t):s.TypeIs (.ref a) "set":=⟨_,S.at_,rfl⟩
def EB.typeIs{it a t z n i}(S:EB w s.heap it a t z n i):s.TypeIs (.ref it) "set_iterator":=let⟨o,c,b,_⟩:=S;⟨o,c,b⟩
def OL(S:Cb w s.heap a d n t) 
  (f: ∀c,EB w c s.heap.objs.size a t d.size n 0->(∀b o,s.heap.get? b=Y o->c.get? b=Y o)->c.objs.size=s.heap.objs.size+1->Q (.ref s.heap.objs.size) {s with heap:=c}):
  ah (aj prog w) A (d5<|.ref a) Q E s:=by
 refine GY S.typeIs Mf<|nW Mf S.typeIs abf ?_<|PySem.F.args_set_iter_1 _;unfold aV.«frozenset.__iter__» q9 pp;simp -iota only[we,qt,ke,↓reduceIte,uq,rk,vN];unfold ce rc;refine iX<|jd ?_;dsimp only;refine iX<|jd ?_;refine iX<|iX<|GX S.at_ H S.fits<|jd ?_;unfold setDrawn g9;refine iX<|iX<|ui S.at_ H S.fits ?_;dsimp only;refine iX<|iX<|uF<|jd ?_;refine jd ?_;change ah _ _ (if(!w.params.followText "set-order"&&(!t.plain&&decide (d.size>1)))=J then _ else _) _ _ _;rw[jv<|by rw[S.plain];simp];refine iX<|jd ?_;unfold setEpoch;refine iX<|iX<|ui S.at_ H S.fits<|jd ?_;refine iX<|nV<|jd ⟨_,rfl,"set_iterator",_,⟨_,kG _ rfl,rfl⟩,oP.lookup,?_⟩;refine f _ ⟨_,kG _ rfl,rfl,?_⟩ (λb o e=>kg _ e) (rn _ _);have:mS w t 0=0:=by unfold mS;split<;>rfl
 rw[this];rfl
def aa9{c a:iW}{b:vI}{n:Nat}{t:mW}(S:Cb w s.heap a b n t){i:Nat}(f:EB w s.heap c a t b.size n i)(x:c≠a){e:Int×jg}(h:(oM w a n b)[i]?=Y e){Q:Cj}
  (p: ∀d,EB w d c a t b.size n (i+1)->aK c s.heap d->Q (Y e.2) {s with heap:=d}):ah (aj prog w) A (cn<|.ref c) Q E s:=by
 obtain⟨o,g,q,hd⟩:=id f;have r:i<b.size:=by have:=(Kp.mp h).1;rw[pQ] at this;exact this
 unfold cn;refine iX<|rW<|vQ (name:=bn "__next__") f.typeIs oP<|nW oP f.typeIs wa ?_<|yx _;unfold aV.«set_iterator.__next__» pp;simp only[we,qt,ke,↓reduceIte,uq,rk,vN];refine iX<|jd ?_;unfold fieldsOf;simp only[uq];refine iX<|yS g ?_;rw[hd];refine iX<|jd ?_;dsimp only;refine iX<|GX S.at_ H S.fits ?_;rw[jv<|by simp];have h1:((mS w t i:Nat):Int).toNat=mS w t i:=uw _;have l:((i:Nat):Int).toNat=i:=uw _;have m:((n:Nat):Int).toNat=n:=uw _;rw[h1,l,m];refine iX (AA S (uH r) (λv k=>?_) λz=>by lia);rw[h] at k;cases k;dsimp only;refine iX<|wz g hd (by simp) ?_;have j:=vO (gY λu=>u.setIfInBounds 0<|cE<|mS w t<|i+1) g<|DV<|qK hd _;refine iX<|wz j (qK hd _) (by simp)<|jd ⟨_,rfl,jd<|p _ ?_ ((tH ..).trans (tH ..))⟩;refine⟨_,vO _ j (DV<|qK (qK hd _) _),?_,?_⟩
 .rw[DU,DU];exact q
 .rw[qK<|qK hd _];simp[cE]
def abw(j:A.handled=C)(S:Cb w s.heap a c n t)(d:EB w s.heap it a t c.size n c.size)(p:it≠a) 
  (i: ∀e,eR it s.heap e->Q C {s with heap:=e}):ah (aj prog w) A (cn<|.ref it) Q E s:=by
 obtain⟨o,f,q,hd⟩:=id d;unfold cn;refine iX<|rW<|vQ (name:=bn "__next__") d.typeIs oP<|nW oP d.typeIs wa ?_<|yx _;unfold aV.«set_iterator.__next__» pp;simp only[we,qt,ke,↓reduceIte,uq,rk,vN];refine iX<|jd ?_;unfold fieldsOf;simp only[uq];refine iX<|yS f ?_;rw[hd];refine iX<|jd ?_;dsimp only;refine iX<|GX S.at_ H S.fits ?_;rw[jv<|by simp];have h1:((mS w t c.size:Nat):Int).toNat=mS w t c.size:=uw _;have g:((c.size:Nat):Int).toNat=c.size:=uw _;have h:((n:Nat):Int).toNat=n:=uw _;rw[h1,g,h];refine iX<|AA S (kh _) (λl k=>?_) λ_=>?_
 .have:=(Kp.mp k).1;rw[pQ] at this;omega
 dsimp only;refine iX<|wz f hd (by simp) ?_;show ah _ _ (lA (.type "StopIteration") []>>=_) _ _ _;refine iX ?_;simp -iota only[lA,px];refine iX<|nV ?_ (by size_fits);refine iX (m:=da _ _)<|qv (a:=ao) (by first|rfl|(simp -iota only[da];rfl)) ?_;refine nV ?_ (by size_fits);simp -iota only[B1];refine iX<|Hf ?_;rw[show A.in1.handled=C from j];refine iX<|jd<|He ?_;refine iX<|wy (T:="StopIteration") (b:=J) ⟨_,kG _ rfl,rfl⟩ DQ ?_;exact jd<|i _ (((tH ..).extBut.push _).push _)
def adq(b:EB w s.heap it a t z n i)(c:Q (.ref it) s):ah (aj prog w) A (d5<|.ref it) Q E s:=by refine GY b.typeIs xE<|nW xE b.typeIs abk ?_<|abR _;unfold aV.«dict_keyiterator.__iter__» pp;simp -iota only[we,qt,ke,↓reduceIte,uq,rk,vN];exact iX<|jd<|jd ⟨_,rfl,"set_iterator",_,b.typeIs,oP.lookup,c⟩
def Cb.BQ{a b n t}(S:Cb w h a b n t)(k: ∀o,h.get? a=Y o->c.get? a=Y o):Cb w c a b n t:=⟨k _ S.at_,S.tab,S.plain,S.led⟩
def ada(p:A.handled=C)(T a:iW)(g:T≠a)(c:vI)(n:Nat)(t:mW):
  Walks prog w A T [T,a] [T] c.size (λi v=> ∃e,(oM w a n c)[i]?=Y e/\v=e.2) (λi h=>EB w h T a t c.size n i/\Cb w h a c n t) where
 sub:=λb d=>by simp at d;simp[d]
 frame:=λ_ _ _ st hk=>⟨(by obtain⟨o,h1,m⟩:=st.1;exact⟨o,hk T (by simp) o h1,m⟩),st.2.BQ λo e=>hk a (by simp) o e⟩
 item:=λi s Q E q st f=>by
  have r:i<(oM w a n c).size:=by rw[pQ];exact q
  have l:(oM w a n c)[i]?=Y (oM w a n c)[i]:=qu r;refine aa9 st.2 st.1 g l λj x k=>?_;exact f _ j s.toks ⟨_,l,rfl⟩ ⟨x,st.2.BQ λo e=>k.extBut a o (λh=>g h.symm) e⟩ λb o d e=>k.extBut b o (λh=>d<|by simp[h]) e
 done:=λs Q E st f=>abw p st.2 st.1 g λj u=>f j s.toks λb o d e=>u b o (λh=>d<|by simp[h]) e
 self:=λ_ _ _ _ st f=>adq st.1 f
def Sw(hh:A.handled=X0)(S:Cb w s.heap a d n t)(hn:d.size<=sizeLine) 
  (hQ: ∀k tk,(∀b o,s.heap.get? b=XV o->k.get? b=XV o)->Q ((oM w a n d).toList.map (·.2)) {s with heap:=k,toks:=tk}):ah (aj prog w) A (gm<|.ref a) Q E s:=by
 have C:a<s.heap.objs.size:=kH S.at_;have r:a≠s.heap.objs.size:=kf C;have J:a≠s.heap.objs.size+1:=kf<|vM C;have B:s.heap.objs.size≠s.heap.objs.size+1:=kf<|se _;unfold gm;refine iX<|DX<|oZ Me ?_;rw[rm Md _];show ah _ A.in1 (lw []>>=λl=>again<|.builtin "list.__iadd__" ⟨[l,.ref a],[]⟩) _ _ s;refine iX<|nV ?_;refine jd ⟨uj Dv _,oZ Mc ?_⟩;rw[rm Dv _];show ah _ A.in1 (cc (.ref s.heap.objs.size) (.ref a)<|.ref s.heap.objs.size) _ _ _;generalize H:({cls:= .type "list",data:= .seq ([]:List jg).toArray}:fy)=g;have p:Cb w (s.heap.push g) a d n t:=S.BQ λo e=>kg _ e;unfold cc;refine iX<|uv (T:="set") (s:={s with heap:=s.heap.push g}) p.typeIs ?_;have h1:cw (.ref s.heap.objs.size) (.ref a)=ZB:=by simp only[cw,xo];exact r.symm
 have c:(bi "set"==bi "list")=ZB:=by decide
 have R:(bi "set"==bi "tuple")=ZB:=by decide
 simp -iota only[h1,c,R,gW,ke,kB];refine iX<|OL (s:={s with heap:=s.heap.push g}) p λc u q z2=>?_;have v:(s.heap.push g).objs.size=s.heap.objs.size+1:=rn _ _;have h:Cb w c a d n t:=p.BQ λo e=>q _ _ e;refine iX<|mv ?_;unfold fD;refine iX<|uz (T:="set") (s:={s with heap:=c}) h.typeIs PySem.F.slot_set_len.lookup ?_;generalize x:("set.__len__":String)=id0;dsimp only;rw[show splitId id0=XV ("set","__len__") from by subst x;decide+kernel];dsimp only;refine iX<|wy (T:="set") (s:={s with heap:=c}) (b:=YP) h.typeIs (by rw[Dx];kernel_rfl) ?_;simp -iota only[qt,ke,kB];change ah _ _ (if _=YP then _ else _) _ _ _;rw[jl<|by subst x;decide+kernel];refine iX<|uv (T:="set") (s:={s with heap:=c}) h.typeIs ?_;dsimp only;refine jd ?_;change ah _ _ (if _=YP then _ else _) _ _ _;rw[jl<|by decide+kernel];refine iX<|uo ?_;have z:c.get? s.heap.objs.size=XV g:=q _ _ (kG _ (by subst H;rfl));subst H;refine iX ?_;show ah _ A.in1 (i5 s.heap.objs.size (·.push .none)>>=λ_=>i5 s.heap.objs.size (·.pop)) _ _ _;refine iX<|Du (s:={s with heap:=c}) z AM ?_;have y:=vO (aL (·.push ao)) z AM;refine Du y AM ?_;have V:=vO (aL (·.pop)) y AM
 have B8: ∀b o,b≠s.heap.objs.size->c.get? b=XV o->((c.update s.heap.objs.size (aL (·.push ao))).update s.heap.objs.size (aL (·.pop))).get? b=XV o:=
  λb o f e=>(yP _ _ (qy f)).trans<|(yP _ _ (qy f)).trans e
 have W:=(ada (prog:=prog) (w:=w) (A:=A.in1) (by show A.handled=X0;exact hh) (s.heap.objs.size+1) a J.symm d n t).toS;rw[v] at u;refine jd ⟨uj Mb _,?_⟩;rw[v];refine Ma W hn s.heap.objs.size (by simp -iota only[lz,lY,mX,oY];exact⟨B,r.symm⟩) _ d.size 0 _ _ _ rfl (mf _) ?_ V (ItemsOf.nil _) λL i c' m Z X=>?_
 .refine⟨?_,h.BQ λo e=>B8 a o r e⟩;obtain⟨o,g1,g2⟩:=u;exact⟨o,B8 _ o B.symm g1,g2⟩
 show ah _ A (load s.heap.objs.size>>=_) _ _ L;refine iX<|yS Z ?_;obtain⟨k,K,M,y3,G⟩:=L;have Y:K=s.gens:=m.gens;have U:M=s.drawn:=m.drawn;have D:G=s.os:=m.os;subst Y;subst U;subst D
 have N:i.toList=(oM w a n d).toList.map (·.2):=by
  obtain⟨a1,O⟩:=X;apply wA
  .rw[kn,lh,lh,a1,pQ]
  .intro j g1 g2;have P:i[j]?=XV i.toList[j]:=by rw[<-mY];exact kK g1
   obtain⟨e,I,hv⟩:=O j _ P;rw[hv];rw[kn,lh] at g2;rw[Am];rw[<-mY,kK<|by rw[lh];exact g2] at I;cases I;rfl
 refine jd ?_;show Q i.toList _;rw[N];refine hQ k y3 λb o e=>?_;have f:=kH e;exact m.heap b o (by simp -iota only[lz,lY,mX,oY];exact⟨kf f,kf<|vM f⟩)<|B8 b o (kf f)<|q _ _ (kg _ e)
end
section
variable {a:jw}{w:jm}{A:jn}{R:mu->iZ->Prop}{I:iW}{d c:kN}{G:Array eL->Array eL->Prop}{n:Nat}{P:Nat->jg->Prop}{St:Nat->iZ->Prop}
def adS(W:WalksS a w A.in1 I d c G n P St)(S:iW)(z:S∉d)(s0:iZ)(j:Nat->jo->Prop)(BQ: ∀i h g,j i h->(∀o,h.get? S=Y o->g.get? S=Y o)->j i g)
  (step: ∀i v (f:iZ) (Q:uh) (E:jJ),i<n->P i v->j i f.heap->p7 (S::c) G s0 f->(∀r g y,f.toks<=y->aK S f.heap g->j (i+1) g->Q r {f with heap:=g,toks:=y})->ah (aj a w) A.in1 (s9 S v) Q E f):
  ∀(k i:Nat) (s:iZ),n-i=k->i<=n->St i s->j i s.heap->p7 (S::c) G s0 s->(∀f,p7 (S::c) G s0 f->j n f.heap->R (.ok<|.ret .none) f)->
   cC (aj a w) A (.builtin "set.update.loop" ⟨[.ref S,.ref I],[]⟩) R s:=by
 have C:S∉c:=λh=>z<|W.sub _ h;have H: ∀b∈c,b∈S::c:=λb l=>jZ _ l;intro k
 induction k with
 |zero=>
  intro i s hk N x t p q;have J:i=n:=by lia
  subst J;refine oZ L9 ?_;rw[rm GW _];show ah _ A.in1 (cn (.ref I)>>=_) _ _ s;refine iX<|W.done s _ _ x λf m=>?_;show ah _ A.in1 (ret ao) _ _ f;exact jd<|q f (Dt W.gtrans p<|m.mono H)<|BQ _ _ _ t λo e=>m.heap S o C e
 |succ k Y'=>
  intro i s hk N x t p q;have u:i<n:=by lia
  refine oZ L9 ?_;rw[rm GW _];show ah _ A.in1 (cn (.ref I)>>=_) _ _ s;refine iX<|W.item i s _ _ u x λv f M T m=>?_;have B:=Dt W.gtrans p<|m.mono H;show ah _ A.in1 (cB [v] (s9 S v)>>=_) _ _ f;refine iX<|mv<|step i v f _ _ u M (BQ _ _ _ t λo e=>m.heap S o C e) B λr g y O L U=>?_;refine jd ⟨uj GW _,Y' (i+1) _ (by lia) u (W.frame _ f _ _ T O λb l o e=>?_) U (B.then_heap O λb o l e=>?_) q⟩
  .rw[L.2 b λh:b=S=>z<|by rw[<-h];exact l];exact e
  .rw[L.2 b λh:b=S=>l<|by rw[h];exact jW];exact e
end
section
variable {f:jw}{w:jm}{A:jn}{E:jJ}{s:iZ}
def RG(a:jg)(h:Q₁ (.ref s.heap.objs.size) {s with heap:=s.heap.push (ky #[] 0 (.fresh 0 0 (!w.params.followText "set-order")))}):
  cC (aj f w) A (.call (.builtin "set.__new__") ⟨[.type "set",a],[]⟩) (o6 Q₁ E) s:=by
 refine uE ?_;show ah _ A.in1 (do dE "set.__new__" ⟨[.type "set",a],[]⟩;again (.builtin "set.__new__" ⟨[.type "set",a],[]⟩)) _ _ s;refine iX<|qv (PySem.F.newCall_set_1 a)<|jd ⟨uj Ds _,oZ L8 ?_⟩;rw[rm Ds _];unfold aV.«set.__new__» eP;have c:=O0;obtain⟨b,g,d,e,os⟩:=s;dsimp only
 wp_walk
 refine uF<|jd ?_;dsimp only;simp only[newObj];refine iX<|An<|jd ?_;exact jd h
noncomputable abbrev lD(w:jm):SetTable:= .fresh 0 0 (!w.params.followText "set-order")
def VI{h:jo}{a:iW}(e:h.get? a=Y (ky #[] 0 (lD w))):Cb w h a #[] 0 (lD w):=⟨e,BX.fresh _ _ _,rfl,rfl⟩
set_option maxHeartbeats 8000000 in
def V2{l:iW}{a:nv}{Q:jJ}(hh:A.handled=X0)(p:s.heap.IsList l a\/s.heap.IsTuple l a)(m:Nat->jo->Prop)
  (BQ: ∀i h d,m i h->(∀o,h.get? s.heap.objs.size=XV o->d.get? s.heap.objs.size=XV o)->m i d)
  (nY: ∀d,d.get? s.heap.objs.size=XV (ky #[] 0 (lD w))->m 0 d)
  (step: ∀i v (g:iZ) (B:jn) (Q:uh) (E:jJ),B.units<=A.units+20->a[i]?=XV v->m i g.heap->(∀b o,s.heap.get? b=XV o->g.heap.get? b=XV o)->g.gens=s.gens->g.drawn=s.drawn->g.os=s.os->
   (∀r d x,g.toks<=x->aK s.heap.objs.size g.heap d->m (i+1) d->Q r {g with heap:=d,toks:=x})->ah (aj f w) B (s9 s.heap.objs.size v) Q E g)
  (h: ∀(d:jo) (x:Nat),m a.size d->(∀b o,s.heap.get? b=XV o->d.get? b=XV o)->Q (.ref s.heap.objs.size) {s with heap:=d,toks:=x}):
  ah (aj f w) A (call (.type "set") [.ref l]) Q E s:=by
 obtain⟨c,tl,K⟩:=Fn.mro;have L:=Fn.made;have k9:=Fn.sub;refine yR<|uE ?_;show ah _ _ (Q1 (.type "set") _) _ _ _;refine jd ⟨Hd _ (by decide+kernel),oZ L7 ?_⟩;rw[Hc (Hb "set" [.ref l] []) AM];have h1:=Fn.notType;have h2:=Fn.canCreate;have dF:=PySem.F.typeCall_set_1<|.ref l
 repeat (any_goals (first|assumption|wp_step))
 refine qx (RG (.ref l) (E:=E) (Q₁:=λobj q=>obj= .ref s.heap.objs.size/\q={s with heap:=s.heap.push (ky #[] 0 (lD w))}) ⟨rfl,rfl⟩) λr q O=>?_
 cases r with
 |error e=>exact O
 |ok fl=>
  cases fl with
  |ret obj=>
   obtain⟨rfl,rfl⟩:=O;have D:(s.heap.push<|ky #[] 0 (lD w)).get? s.heap.objs.size=XV (ky #[] 0 (lD w)):=kG _ rfl;have hT:eX {s with heap:=s.heap.push (ky #[] 0 (lD w))} (.ref s.heap.objs.size) "set":=⟨_,D,rfl⟩
   have fQ:=Fn.init.lookup;have fW:=Fn.init.bind<|.ref s.heap.objs.size
   repeat (any_goals (first|assumption|wp_step))
   refine qx (DP (R:=o6 (λr t=>r= .none/\ ∃d x,t={s with heap:=d,toks:=x}/\m a.size d/\(∀b o,s.heap.get? b=XV o->d.get? b=XV o)) E) Fn.init.plain L6<|check_set_init_1 hT ?_) λz t C=>?_
   .obtain⟨c,hc,ol,N,X,nl,J⟩: ∃c,(c="list"\/c="tuple")/\ ∃o,s.heap.get? l=XV o/\o.cls= .type c/\ ∃n,o.data= .seq a n:=p.elim (λh=>⟨_,.inl AM,h⟩) (λh=>⟨_,.inr AM,h⟩)
    obtain⟨V,S,g8⟩:isSubtype (.type c) (.type "set")=pure ZB/\isSubtype (.type c) (.type "frozenset")=pure ZB/\(bi c==bi "dict")=ZB:=by
     rcases hc with rfl|rfl
     .exact⟨PySem.F.sub_list_set,PySem.F.sub_list_frozenset,by decide⟩
     .exact⟨PySem.F.sub_tuple_set,PySem.F.sub_tuple_frozenset,by decide⟩
    obtain⟨Z,u,T,k⟩:=ol;simp only at X J;subst X;subst J;have P:(s.heap.push<|ky #[] 0 (lD w)).get? l=XV {cls:= .type c,dict:=u,data:= .seq a nl,slots:=k}:=kg _ N;have Y:l<s.heap.objs.size:=kH N;have U:A.in1.in1.in1.handled=X0:=by simp[hh]
    have sz:(s.heap.push<|ky #[] 0 (lD w)).objs.size=s.heap.objs.size+1:=rn _ _;have M:l≠(s.heap.push<|ky #[] 0 (lD w)).objs.size:=by rw[sz];exact kf<|vM Y
    have bJ:s.heap.objs.size∉[(s.heap.push<|ky #[] 0 (lD w)).objs.size,l]:=by rw[sz];simp only[lz,lY,mX,oY];exact⟨kf<|se _,pk Y⟩
    obtain⟨St,W,o0,h0,H⟩: ∃St,Walks f w A.in1.in1.in1 (s.heap.push<|ky #[] 0 (lD w)).objs.size [(s.heap.push<|ky #[] 0 (lD w)).objs.size,l] [(s.heap.push<|ky #[] 0 (lD w)).objs.size] a.size (λi v=>a[i]?=XV v) St/\ ∃o0,St 0 ((s.heap.push<|ky #[] 0 (lD w)).push o0)/\
      ∀{A':jn} {Q:jJ} {E},Q (.ref (s.heap.push<|ky #[] 0 (lD w)).objs.size) {s with heap:=(s.heap.push<|ky #[] 0 (lD w)).push o0}->ah (aj f w) A' (d5<|.ref l) Q E {s with heap:=s.heap.push (ky #[] 0 (lD w))}:=by
     rcases p with p|p
     .exact⟨_,Walks.list U _ l M a,_,⟨⟨_,kG _ rfl,rfl,rfl⟩,(p.push _).push _⟩,λh=>Aq (p.push _) h⟩
     .exact⟨_,Walks.tuple U _ l M a,_,⟨⟨_,kG _ rfl,rfl,rfl⟩,(p.push _).push _⟩,λh=>Hx (p.push _) h⟩
    unfold aV.«set.__init__» noKeywords qs;generalize I:d5=PI
    wp_walk
    subst I;refine H ?_;refine iX<|DX ?_;refine adS W.toS s.heap.objs.size bJ _ m BQ (λi v g Q' E' hi hP iA j hk=>?_) (a.size-0) 0 _ (by lia) (mf _) h0 (nY _ (kg _ D)) (wE λ_=>rfl) ?hR
    .refine step i v g _ Q' E' ?_ hP iA (λb o e=>?_) j.gens j.drawn j.os hk
     .show A.units+1+1+1<=A.units+20;lia
     .have y:=kH e;exact j.heap b o (by rw[sz];simp only[lz,lY,mX,oY];exact⟨kf y,kf<|vM y⟩)<|kg _ (kg _ e)
    case hR=>intro g j G;obtain⟨d,g',d',y3,bq⟩:=g;have eg:g'=s.gens:=j.gens;have ed:d'=s.drawn:=j.drawn;have eo:bq=s.os:=j.os;subst eg;subst ed;subst eo;show ah _ _ _ _ _ _;refine jd ?_;show ah _ _ (ret ao) _ _ _;refine jd ⟨rfl,d,y3,rfl,G,λb o e=>?_⟩;have y:=kH e;exact j.heap b o (by rw[sz];simp only[lz,lY,mX,oY];exact⟨kf y,kf<|vM y⟩)<|kg _ (kg _ e)
   .cases z with
    |error e=>exact C
    |ok eT=>
     cases eT with
     |ret r=>
      obtain⟨rfl,d,x,rfl,G,eC⟩:=C
      repeat (any_goals (first|assumption|wp_step))
      exact h _ _ G eC
     |_=>exact C.elim
  |_=>exact O.elim
end
end TT
namespace PX
open L2 PySem.SeqAt TS
def Ca:D->Bool
 | .tup l=>D.Ja l&&decide (D.BJ l<=6)
 |_=>U
def qC(h:Ca d=J): ∃l,d= .tup l:=by cases d<;>first|exact⟨_,rfl⟩|(simp[Ca] at h)
def uO(h:Ca d=J):D.pr d=J:=by obtain⟨l,rfl⟩:=qC h;simp only[Ca,mP] at h;rw[D.pr];exact h.1
def sJ(h:Ca d=J):d.dep<=7:=by obtain⟨l,rfl⟩:=qC h;simp -iota only[Ca,mP,sd] at h;rw[D.dep];lia
def acf(h1:D.pr x=J)(a:D.pr y=J):D.BC x y=J↔x=y:=by
 rw[II x y h1 a];constructor
 .intro h;exact Bt x y h1 a (by simpa using h)
 .rintro rfl;rw[Ke];rfl
def pG(a:List D)(d:D):List D:=if a.any (D.BC · d)=J then a else a++[d]
def lS(l:List D):List D:=l.foldl pG []
def SJ(h1:b.all Ca=J)(a:Ca d=J):(pG b d).all Ca=J:=by
 unfold pG;split
 .exact h1
 .rw[List.all_append,h1];simp[a]
def PM(a:List D)(d:D):(pG a d).length<=A7 a+1:=by unfold pG;split<;>simp
def ni{d i:Type}(f:d->i){g m:List i}(h:g.Perm m): ∀l:List d,m=l.map f-> ∃c:List d,c.Perm l/\g=c.map f:=by
 induction h with
 |nil=>
  intro l e;have:l=[]:=by simpa using e.symm
  subst this;exact⟨[],.refl _,rfl⟩
 |cons x _ n=>
  intro l e
  cases l with
  |nil=>simp at e
  |cons y l=>simp -iota only[kc,yD] at e;obtain⟨c,p,q⟩:=n l e.2;exact⟨y::c,p.cons y,by rw[q,e.1];rfl⟩
 |swap x y w=>
  intro l e
  cases l with
  |nil=>simp at e
  |cons a l=>
   cases l with
   |nil=>simp at e
   |cons b l=>simp -iota only[kc,yD] at e;exact⟨b::a::l,.swap a b l,by rw[e.1,e.2.1,e.2.2];rfl⟩
 |trans _ _ k j=>intro l e;obtain⟨o,s,u⟩:=j l e;obtain⟨r,t,v⟩:=k o u;exact⟨r,t.trans s,v⟩
def zt{b d:Type}{F:b->d->Prop}{c m:List d}(h:c.Perm m): ∀{z:List b},Paired F z m-> ∃a:List b,Paired F a c/\a.Perm z:=by
 induction h with
 |nil=>intro z p;exact⟨z,p,.refl _⟩
 |cons x _ i=>
  intro z p
  cases p with
  |cons r t=>obtain⟨a,h1,g⟩:=i t;exact⟨_::a,.cons r h1,g.cons _⟩
 |swap x y s=>
  intro z p
  cases p with
  |cons r t=>
   cases t with
   |cons o t=>exact⟨_,.cons o<|.cons r t,.swap _ _ _⟩
 |trans _ _ f e=>intro z p;obtain⟨u,j,l⟩:=e p;obtain⟨q,k,n⟩:=f j;exact⟨q,k,n.trans l⟩
def AJ.zip{K T}{O:B7}: ∀{l:List D} {b:List V},AJ K T O l b-> ∀p∈l.zip b,Rep K T O p.1 p.2:=by
 intro f
 induction f with
 |nil=>intro b h p a;simp at a
 |cons d l e=>
  intro b h p a;rw[AJ] at h;obtain⟨v,r,rfl,h1,c⟩:=h;rw[wo] at a;rcases lz.mp a with rfl|a
  .exact h1
  .exact e c p a
def AJ.Lp{K T}{O:B7}: ∀{l:List (D×V)},(∀p∈l,Rep K T O p.1 p.2)->AJ K T O (l.map (·.1)) (l.map (·.2)):=by
 intro c
 induction c with
 |nil=>intro _;exact AJ.nil
 |cons p l b=>intro h;exact AJ.cons (h p jW)<|b λq a=>h q<|jZ _ a
abbrev hv(p:D×V):Int×V:=(D.hash p.1,p.2)
theorem As: ∀(b:List D) (a:List V),(D.GG b).zip a=(b.zip a).map hv
 |[],a=>by simp[D.GG]
 |d::b,[]=>by simp
 |d::b,u::a=>by rw[D.GG,wo,wo,kc,As b a]
section
variable {X:Cx}{pins:jK}{σ:L2.St}{H:Hp}{s:iZ}
structure Ce(X:Cx)(H:Hp)(O:B7)(h:jo)(a:iW)(vs:List D)(es:vI)(n:Nat)(t:mW)(l:List (D×V)):Prop where
 is:TT.Cb X.w h a es n t
 perm:(l.map (·.1)).Perm vs
 rep: ∀p∈l,Rep X.K H O p.1 p.2
 par:Paired (λ(z:Int×V) (e:Int×jg)=>z.1=e.1/\RelV z.2 e.2) (l.map hv) es.toList
def Ce.BQ{a c b n t l}(S:Ce X H O h a c b n t l)(k: ∀o,h.get? a=Y o->d.get? a=Y o):Ce X H O d a c b n t l:=⟨S.is.BQ k,S.perm,S.rep,S.par⟩
def acs{d c:Type}{F:d->c->Prop}{l:List d}{m:List c}(h:Paired F l m): ∀{i:Nat} {b:c},m[i]?=Y b-> ∃a,l[i]?=Y a/\F a b:=by
 induction h with
 |nil=>intro i b h;simp at h
 |cons r t f=>
  intro i b h
  cases i with
  |zero=>simp at h;subst h;exact⟨_,rfl,r⟩
  |succ i=>obtain⟨a,h1,e⟩:=f (i:=i) (b:=b) (by simpa using h);exact⟨a,by simpa using h1,e⟩
def acr{a b:Type}{F:a->b->Prop}: ∀{l:List a} {m:List b},Paired F l m->A7 l=(A7 m):=Ar
def AK{l:List (Int×V)}{m:List (Int×jg)}(h:Paired (λ(z:Int×V) (e:Int×jg)=>z.1=e.1/\RelV z.2 e.2) l m):l.map (·.1)=m.map (·.1):=by
 induction h with
 |nil=>rfl
 |cons r t a=>rw[kc,kc,r.1,a]
def Ce.N8(I:Inv X pins σ H s){O U:B7}{a:iW}{vs:List D}{G n t l}(S:Ce X H O s.heap a vs G n t l)(hok:vs.all Ca=YP){d:D}{v:V}{u:jg}(hd:kQ X.K H U d v)(ru:RelV v u)(N:Ca d=YP){A:jn}(hA:A.units+60<aQ):
  ∃b,u= .ref b/\TT.KY A s a G n t u d.hash (λi=>match l[i]? with|some p=>D.BC p.1 d|none=>ZB):=by
 obtain⟨ld,rfl⟩:=qC N;obtain⟨b,xs,rfl,q,r⟩:=lQ hd;cases ru;have hdp:=sJ N;have gF:=uO N;have h: ∀p∈l,Ca p.1=YP:=λp J=>mZ.mp hok _ (S.perm.mem_iff.mp<|rQ J)
 have at_: ∀(i:Nat) (e:Int×jg),G[i]?=XV e-> ∃p,l[i]?=XV p/\p∈l/\D.hash p.1=e.1/\RelV p.2 e.2:=λi e m=>by
  obtain⟨z,h1,f,C⟩:=acs S.par (i:=i) (b:=e) (by rw[mY];exact m);rw[ly] at h1
  cases Z:l[i]? with
  |none=>rw[Z] at h1;cases h1
  |some p=>rw[Z] at h1;cases h1;exact⟨p,rfl,mB Z,f,C⟩
 have M: ∀(e:D) (y:V) (T:jg) (x:B7) (B:jn) (P:jw) (W:jm) (Q:uh) (E:jJ),Ca e=YP->kQ X.K H x e y->RelV y T->Q YP s->ah (aj P W) B (wl 8 T) Q E s:=λe y T x B P W Q E L hv hr o=>by
  obtain⟨le,rfl⟩:=qC L;rcases hv with hv|⟨_,_,hv⟩
  .exact QN I 8 _ _ _ x B E Q hv hr (uO L) (by have:=sJ L;lia) o
  .exact hv.elim
 have l5: ∀(e:D) (y:V) (T:jg) (x:B7) (B:jn) (P:jw) (W:jm) (Q:uh) (E:jJ),Ca e=YP->kQ X.K H x e y->RelV y T->Q ZB s->ah (aj P W) B (ca 8 T) Q E s:=λe y T x B P W Q E L hv hr o=>by
  obtain⟨le,rfl⟩:=qC L;rcases hv with hv|⟨_,_,hv⟩
  .exact acF I 8 _ _ _ x B E Q hv hr (uO L) (by have:=sJ L;lia) o
  .exact hv.elim
 refine⟨b,rfl,⟨_,S.is.at_,rfl⟩,S.is.tab,λi e m=>?_,λi e m=>?_,λi e m o=>?_,λls g w E Q hls o=>?_⟩
 .obtain⟨p,h1,f,C,j⟩:=at_ i e m;obtain⟨lp,J⟩:=qC<|h p f;have:=S.rep p f;rw[J] at this;obtain⟨c,xs,F,_⟩:=this.tup;rw[F] at j;exact⟨c,j⟩
 .obtain⟨p,h1,f,C,j⟩:=at_ i e m;rw[h1];have:=sJ<|h p f;exact Bk I 50 p.1 (.tup ld) p.2 (.ref b) _ _ O U A (.inl<|S.rep p f) hd j rfl (by lia) (by lia) (by lia)
 .obtain⟨p,h1,f,C,j⟩:=at_ i e m;rw[h1] at o;rw[(acf (uO<|h p f) gF).mp o] at C;exact C.symm
 .unfold u6;refine iX ?_;refine rT _ (λjF rr s'=>rr.1=X0/\s'=s/\ ∀v∈jF,∃e∈G.toList,e.2=v) _ ?_ ?_ _ _ ⟨rfl,rfl,hls⟩
  .rintro y jF rr s' ⟨R,rfl,hm⟩;have k: ∀v∈jF,∃e∈G.toList,e.2=v:=λv hv=>hm v<|jZ _ hv;obtain⟨e,m,rfl⟩:=hm y jW;obtain⟨i,hi⟩:=um m;rw[mY] at hi;obtain⟨p,h1,f,C,j⟩:=at_ i e hi;obtain⟨lp,J⟩:=qC<|h p f;have Y:=S.rep p f
   obtain⟨c,ec⟩: ∃c,e.2= .ref c:=by rw[J] at Y;obtain⟨c,xs,F,_⟩:=Y.tup;rw[F] at j;exact⟨c,j⟩
   rw[ec] at j ⊢;dsimp only;split
   .exact jd ⟨rfl,rfl,k⟩
   .refine iX (M _ _ _ U A g w _ _ N hd rfl ?_);simp -iota only[qt,ke,kB];refine iX<|M _ _ _ O A g w _ _ (h p f) (.inl Y) j ?_;simp -iota only[qt,ke,kB];refine iX<|l5 _ _ _ U A g w _ _ N hd rfl ?_;simp -iota only[ke,kB];refine iX<|l5 _ _ _ O A g w _ _ (h p f) (.inl Y) j ?_;simp -iota only[ke,kB];exact jd ⟨rfl,rfl,k⟩
  .rintro⟨r1,r2⟩ s' ⟨R,rfl,_⟩;simp only at R;subst R;exact jd o
def E6.Le(T:Inv X pins σ H s)(h:E6 X.K (H a) .set o f us)(r:AJ X.K H O f us): ∃b n t l,Ce X H O s.heap a f b n t l:=by
 obtain⟨_,m,e,p⟩:=h;obtain⟨b,n,t,h1,c,g,i,j⟩:=(show AR X.prog X.w H s.heap a (.AV m) from T.hok a _ e)
 rw[As] at p;obtain⟨l,d,rfl⟩:=ni hv p _ rfl;refine⟨b,n,t,l,⟨h1,by rw[<-AK c];exact g,i,j⟩,?_,λq k=>r.zip q<|d.mem_iff.mp k,c⟩;have:=d.map (·.1);rw[n7<|by rw[r.length];exact kh _] at this;exact this
def Ce.KI{b n t l}(S:Ce X H O h a c b n t l):AR X.prog X.w H' h a (.AV<|l.map hv):=
 ⟨b,n,t,S.is.at_,S.par,by rw[AK S.par];exact S.is.tab,S.is.plain,S.is.led⟩
def Ce.MP{b n t l}(S:Ce X H O h a c b n t l):b.size=A7 c/\(A7 l)=(A7 c):=by
 have h1:=acr S.par;have d:=S.perm.length_eq;simp only[kn,lh] at h1 d
 lia
def Ce.B8{O:B7}{h:jo}{a:iW}{vs:List D}{f n t l}(S:Ce X H O h a vs f n t l){K H'}{O':B7}(j: ∀p∈l,Rep K H' O' p.1 p.2)(g:H' a=Y (.AV<|l.map hv)): ∃e,E6 K (H' a) .set [] vs e/\AJ K H' O' vs e:=by
 obtain⟨b,c,d⟩:=ni (·.1) S.perm.symm l AM;refine⟨b.map (·.2),⟨rfl,l.map hv,g,?_⟩,?_⟩
 .rw[d,As]
  have:(b.map (·.1)).zip (b.map (·.2))=b:=by
   clear c d
   induction b with
   |nil=>rfl
   |cons x l k=>rw[kc,kc,wo,k]
  rw[this];exact(c.map hv).symm
 .rw[d];exact AJ.Lp λp i=>j p<|c.mem_iff.mp i
def Ce.add(I:Inv X pins σ H s){B n t l}(S:Ce X H O s.heap a c B n t l)(T:c.all Ca=YP)(hd:kQ X.K H O' d v)(y:Rep X.K H O d v)(q:RelV v u)(o:Ca d=YP)(hz:(A7 c)<500)
  (hA:A.units+60<aQ) 
  (h: ∀r h' f g M t' G,s.toks<=f->aK a s.heap h'->Ce X H O h' a (pG c d) g M t' G->Q r {s with heap:=h',toks:=f}):ah (aj X.prog X.w) A (s9 a u) Q E s:=by
 obtain⟨bR,bB⟩:=S.MP;unfold s9;refine mv<|iX<|OU 50 I d v u O A E _ y q (uO o) (by have:=sJ o;lia) (by lia) λf F=>?_;have U:Inv X pins σ H {s with toks:=f}:=I.kept (h':=s.heap) (t':=f) λ_ _ e=>e;obtain⟨b,rfl,R⟩:=Ce.N8 (s:={s with toks:=f}) U S T hd q o hA;have J: ∀p∈l,p.1∈c:=λp j=>S.perm.mem_iff.mp<|rQ j;refine TT.Y1 R S.is.at_ S.is.plain (by lia) (λP k=>Yh U 8 d v _ O A E P y q (uO o) (by have:=sJ o;lia) k) (λ⟨i,C',k⟩=>?_) λay h' g M t' g1 g2 g3 g4 g5 g6=>?_
 .have:pG c d=c:=by
   unfold pG
   cases L:l[i]? with
   |none=>rw[L] at k;cases k
   |some p=>rw[L] at k;rw[jl<|on.mpr ⟨p.1,J p<|mB L,k⟩]
  exact h ZB s.heap f B n t l F (D1 a s.heap) (by rw[this];exact S)
 .have W:c.any (D.BC · d)=ZB:=by rw[nw];intro x hx;have Z:=S.perm.mem_iff.mpr hx;obtain⟨p,j,rfl⟩:=nC.mp Z;obtain⟨i,C'⟩:=um j;have:=ay i (by have:=(xj.mp C').1;lia);rw[C'] at this;simpa using this
  have m:pG c d=c++[d]:=by unfold pG;rw[W,jv kR]
  have N:Paired (λ(z:Int×V) (e:Int×jg)=>z.1=e.1/\RelV z.2 e.2) (((d,v)::l).map hv) ((d.hash,bf b)::B.toList):= .cons ⟨rfl,q⟩ S.par;obtain⟨z',p1,p2⟩:=zt g3 N;obtain⟨G,Y,rfl⟩:=ni hv p2 _ rfl;refine h YP h' f g M t' G F g1 ⟨⟨g2,g4,g5,g6.trans S.is.led⟩,?_,λp j=>?_,p1⟩
  .rw[m];refine(Y.map (·.1)).trans ?_;rw[kc];exact(S.perm.cons d).trans (Mi d c).symm
  .rcases lz.mp (Y.mem_iff.mp j) with rfl|j
   .exact y
   .exact S.rep p j
def VG:D->Option (D×Bool)
 | .lst l| .tup l=>if l.all Ca=J/\(A7 l)<500 then Y (.B8 .set []<|lS l,J) else C
 |_=>C
def Bm{l:List D}{i:Nat}{d:D}(h:l[i]?=Y d):lS (l.take<|i+1)=pG (lS<|l.take i) d:=by unfold lS;rw[DH,h,Hg];rfl
def Gx: ∀(l a:List D),l.all Ca=J->a.all Ca=J->(l.foldl pG a).all Ca=J:=by
 intro e
 induction e with
 |nil=>intro a _ h;exact h
 |cons d l c=>intro a h1 b;rw[wB,mP] at h1;exact c _ h1.2 (SJ b h1.1)
def adG: ∀(l a:List D),(l.foldl pG a).length<=A7 a+(A7 l):=by
 intro c
 induction c with
 |nil=>intro a;simp
 |cons d l b=>intro a;have:=b<|pG a d;have:=PM a d;simp only[uD,lg];lia
def GI{l:List D}(h:l.all Ca=J)(i:Nat):(l.take i).all Ca=J:=by rw[mZ] at h ⊢;exact λx a=>h x<|wq a
def C8(hc:X.calm=YP)(hu:X.A.units+90<aQ):lr X (.type "set") (IT X.K<|g1 VG):=oU λpins s σ H x u Q O d z I ru np hd f G=>by
 obtain⟨l,p,c,a,rfl,r,v,y,f⟩: ∃l p c a,x= .ref p/\AJ X.K H O l c/\Vals c a/\(s.heap.IsList p a.toArray\/s.heap.IsTuple p a.toArray)/\(if l.all Ca=YP/\l.length<500 then XV (D.B8 .set []<|lS l,YP) else X0)=XV z:=by
  cases d with
  |lst l=>obtain⟨p,c,rfl,q,r⟩:=ll hd;obtain⟨a,v,y,_⟩:=I.list q;exact⟨l,p,c,a,rfl,r,v,.inl y.isList,f⟩
  |tup l=>obtain⟨p,c,rfl,q,r⟩:=lQ hd;obtain⟨a,v,y,_⟩:=I.tuple q;exact⟨l,p,c,a,rfl,r,v,.inr y,f⟩
  |_=>cases f
 obtain⟨⟨m,hz⟩,rfl⟩:=jH f;cases ru;have e1:=r.length;have e2:=v.length;have hh:X.A.handled=X0:=I.ok.hd hc;have C:=I.fresh
 refine TT.V2 hh y (λi h=> ∃j n t g,Ce X H O h s.heap.objs.size (lS<|l.take i) j n t g) (λi h h' ⟨j,n,t,g,S⟩ k=>⟨j,n,t,g,S.BQ k⟩)
  (λh' e=>⟨#[],0,_,[],⟨TT.VI e,by simp[lS],λp T=>by simp at T,.nil⟩⟩) (λi w s' B Q' E' hB P L hk f Y W F=>?_) (λh' tk L hk=>?_)
 .obtain⟨j,n,t,g,S⟩:=L
  have cP:i<a.length:=by have:=(Kp.mp P).1;simpa using this
  have hw:a[i]?=XV w:=by simpa using P
  have N:c[i]?=XV c[i]:=kK (by lia);have U:l[i]?=XV l[i]:=kK (by lia);obtain⟨w',V,w2⟩:=v.get N;rw[hw] at V;cases V;have R:Rep X.K H O l[i] c[i]:=r.views U N;have n9:Ca l[i]=YP:=mZ.mp m _ (Dr _);obtain⟨h1,g1,dr1,dh,os1⟩:=s';dsimp only at hk f Y W F S;subst f;subst Y;subst W;have Z:Inv X pins σ H {s with heap:=h1,toks:=dh}:=I.kept hk;refine Ce.add Z S (Gx _ _ (GI m i) rfl) (.inl R) R w2 n9 ?_ (by lia) λrr h2 dO E n' t' gv a1 a2 M=>?_
  .have:=adG (l.take i) [];rw[tL] at this;unfold lS;simp only[rk] at this
   lia
  .rw[<-Bm U] at M;exact F rr h2 dO a1 a2 ⟨E,n',t',gv,M⟩
 .obtain⟨j,n,t,g,S⟩:=L;have J:a.toArray.size=l.length:=by simp;lia
  rw[J,GU] at S;refine⟨.ref s.heap.objs.size,upd H s.heap.objs.size<|.AV<|g.map hv,I.laid hk (kh _) S.KI,rfl,?_⟩;refine G s.heap.objs.size _ C (lG C) ?_;exact S.B8 (λp T=>Rep.mono (λb o e _=>lG C b o e) (λb hb z=>z.elim id λz=>absurd (z▸C) hb)<|S.rep p T) jr
def V4:aB "set"=Y (.type "set"):=by decide+kernel
def VL(I:Inv X pins σ H s){J' n t l}(S:Ce X H O s.heap a g J' n t l)(q:g.all Ca=J)(hd:kQ X.K H O d v)(z:RelV v u)(k:Ca d=J)(M:A.units+60<aQ) 
  (h: ∀c,Q (g.any (D.BC · d)) {s with toks:=c}):ah (aj X.prog X.w) A (TD a u) Q E s:=by
 obtain⟨Y,U⟩:=S.MP
 have G:Rep X.K H O d v:=by
  obtain⟨ld,rfl⟩:=qC k;rcases hd with hd|⟨_,_,hd⟩
  .exact hd
  .exact hd.elim
 unfold TD;refine mv<|iX<|OU 50 I d v u O A E _ G z (uO k) (by have:=sJ k;lia) (by lia) λc F=>?_;have B:Inv X pins σ H {s with toks:=c}:=I.kept (h':=s.heap) (t':=c) λ_ _ e=>e;obtain⟨b,rfl,C⟩:=Ce.N8 (s:={s with toks:=c}) B S q hd z k M;have y: ∀p∈l,p.1∈g:=λp r=>S.perm.mem_iff.mp<|rQ r;refine iX<|TT.Ys C S.is.at_ (λi m j=>?_) λT=>?_
 .have:g.any (D.BC · d)=J:=by
   cases o:l[i]? with
   |none=>rw[o] at j;cases j
   |some p=>rw[o] at j;exact on.mpr ⟨p.1,y p<|mB o,j⟩
  have f:=h c;rw[this] at f;exact jd f
 .have:g.any (D.BC · d)=ZB:=by rw[nw];intro x N;have L:=S.perm.mem_iff.mpr N;obtain⟨p,r,rfl⟩:=nC.mp L;obtain⟨i,m⟩:=um r;have:=T i (by have:=(xj.mp m).1;lia);rw[m] at this;simpa using this
  have f:=h c;rw[this] at f;exact jd f
def ach(T:Inv X pins σ H s){g n t l}(S:Ce X H O s.heap a f g n t l)(c:f.all Ca=J)(hd:kQ X.K H O d v)(j:RelV v u)(i:Ca d=J)(k:A.units+61<aQ) 
  (h: ∀e,Q (f.any (D.BC · d)) {s with toks:=e}):ah (aj X.prog X.w) A (Ch (.ref a) u) Q E s:=by
 have b:=S.is.typeIs;unfold Ch;refine mv<|iX<|uz b LN.lookup ?_;change ah _ _ (if(Y (gC "set.__contains__")==Y ao)=J then _ else _) _ E s;rw[jv<|by rw[wr];exact kR];refine iX<|wpAny_callSpecialUnlessNone?_slot (name:=bn "__contains__") b LN<|nW LN b entry_set_contains ?_<|PySem.F.args_set_contains_2 _ _;unfold aV.«frozenset.__contains__» cK;simp only[we,uq];unfold ce p8;refine iX<|jd ?_;dsimp only;refine iX<|jd ?_;dsimp only;refine iX<|A2 ?_;refine VL T S c hd j i (by show A.units+1+60<aQ;omega) λe=>?_;exact jd ⟨_,rfl,wD<|h e⟩
def Nr(d e:D):Option Bool:=match e with
 | .B8 .set [] a=>if a.all Ca=J/\Ca d=J then Y (a.any (D.BC · d)) else C
 |_=>inD d e
def EU(d e:D):Option (D×Bool):=(Nr d e).map λb=>(.bl (!b),U)
def acu(B:X.A.units+62<aQ):EC X (aM .NotIn) (rD X.K EU):=by
 intro pins s σ H x y v u Q N j k h;obtain⟨O,d,e,z,np,h1,g,m,G⟩:=h;obtain⟨b,c,rfl⟩:=jL m;by_cases i: ∃f,e= .B8 .set [] f
 .obtain⟨f,rfl⟩:=i;obtain⟨⟨o,hd⟩,rfl⟩:=jH (show(if f.all Ca=J/\Ca d=J then Y (f.any (D.BC · d)) else C)=Y b from c);obtain⟨a,T,rfl,q,r⟩:=pR g;cases k;obtain⟨w,n,t,l,S⟩:=q.Le N r;change ah _ _ (Ch (.ref a) v>>=λb=>pure<|dQ (!b)) _ _ s;refine iX<|ach N S o h1 j hd (by lia) λp=>?_;exact jd ⟨.bl _,H,N.kept (h':=s.heap) (t':=p) λ_ _ e=>e,rfl,G.bl⟩
 .have:inD d e=Y b:=by
   unfold Nr at c;split at c
   .exact absurd ⟨_,rfl⟩ i
   .exact c
  exact CC (by lia) pins s σ H x y v u Q N j k ⟨O,d,e,b,h1,g,this,G.bl⟩
end
def adN(a:l.Perm m)(b: ∀x∈l,D.pr x=J):nF EE l=nF EE m:=M4 (λx c=>b x<|a.mem_iff.mpr c) ((la EE l).trans a)<|rA l
def ac9{k:Nat}{l:List D}(h:I0 k l):oO l=J:=by
 unfold oO;rw[yI];right
 cases l with
 |nil=>rfl
 |cons x m=>simp only[mP,mZ,sd];refine⟨⟨by rw[h.hd x jW];rfl,λy a=>⟨⟨?_,h.pr y a⟩,h.dp y a⟩⟩,λy a z b=>h.cm y a z b⟩;rw[h.hd x jW,h.hd y a];simp
def abM(b:l.Perm m)(h:oO m=J):oO l=J:=by
 rcases Ct h with c|⟨k,B⟩
 .unfold oO;rw[yI];left;rw[b.length_eq];simpa using c
 .exact ac9 (k:=k) ⟨λx a=>B.hd x<|b.mem_iff.mp a,λx a=>B.pr x<|b.mem_iff.mp a,λx a=>B.dp x<|b.mem_iff.mp a,λx a y d=>B.cm x (b.mem_iff.mp a) y<|b.mem_iff.mp d⟩
def uS(d:D):Option (D×Bool):=match d with
 | .B8 .set [] a=>if a.all Ca=J then lE a else C
 |_=>ye d
section
variable {X:Cx}
def abp(hc:X.calm=YP)(L:X.A.units+62<aQ):lr X (.builtin "sorted") (IT X.K<|g1 uS):=oU λg s σ H x u Q O d z I M np hd C G=>by
 by_cases E: ∃h,d= .B8 .set [] h
 .obtain⟨h,rfl⟩:=E;have e:(if h.all Ca=YP then lE h else X0)=XV z:=C;split at e
  .rename_i y;obtain⟨a,us,rfl,q,r⟩:=pR hd;cases M;obtain⟨i,n,t,l,S⟩:=q.Le I r;obtain⟨N,bB⟩:=S.MP;have wp:=TT.GJ X.w a n i;obtain⟨z',o,T⟩:=zt wp S.par;obtain⟨c,B,rfl⟩:=ni hv T _ rfl;have J:AJ X.K H O (c.map (·.1)) (c.map (·.2)):=AJ.Lp λp R=>S.rep p (B.mem_iff.mp R)
   have vv:Vals (c.map (·.2)) ((TT.oM X.w a n i).toList.map (·.2)):=by
    clear T B J wp;generalize (TT.oM X.w a n i).toList=m at o;revert o;generalize f:c.map hv=zz;intro o
    induction o generalizing c with
    |nil=>
      have:c=[]:=by simpa using f
      subst this;exact .nil
    |cons r t ih=>
     cases c with
     |nil=>simp at f
     |cons p c=>simp only[kc,yD] at f;rw[kc,kc];refine .cons ?_<|ih c f.2;have:=r.2;rw[<-f.1] at this;exact this
   have v:(c.map (·.1)).Perm h:=(B.map (·.1)).trans S.perm
   have U:lE (c.map (·.1))=XV z:=by unfold lE at e ⊢;obtain⟨⟨h1,D⟩,rfl⟩:=jH e;rw[jl ⟨abM v h1,by rw[v.length_eq];exact D⟩,adN v λx V=>uO<|mZ.mp y x<|v.mem_iff.mp V]
   have P:X.A.handled=X0:=I.ok.hd hc
   have f:i.size<=sizeLine:=by unfold lE at e;rw[N];exact(jH e).1.2
   exact vn L I J vv U G λQ' E' A' W F=>TT.Sw (by rw[W];exact P) S.is f λY Z k=>F Y Z k
  .cases e
 .have e:g1 ye [d]=XV z:=by
   have:uS d=ye d:=by
    unfold uS;split
    .exact absurd ⟨_,rfl⟩ E
    .rfl
   show ye d=XV z;rw[<-this];exact C
  exact abQ L g s σ H [x] [u] Q I (.cons M .nil) ⟨O,[d],z,np,rfl,(λj d' v' a b=>by
   cases j with
   |zero=>simp at a b;subst a;subst b;exact hd
   |succ j=>simp at a),e,G⟩
end
end PX
namespace L2
section
variable {κ:Type}[DecidableEq κ]
def tX(a:List (κ×V))(k:κ):Option V:=(a.find? λb=>decide<|b.1=k).map (·.2)
def tY(a:List (κ×V))(k:κ)(v:V):List (κ×V):=
 if(a.any λb=>decide<|b.1=k)=J then a.map (λb=>if b.1=k then(b.1,v) else b) else a++[(k,v)]
theorem uI{p:κ×V}{r:List (κ×V)}{k:κ}(e:p.1=k):tX (p::r) k=Y p.2:=by simp[tX,yC,e]
theorem pT{p:κ×V}{r:List (κ×V)}{k:κ}(e: ¬p.1=k):tX (p::r) k=tX r k:=by simp[tX,yC,e]
theorem Fx(k:κ): ∀a:List (κ×V),(a.any λb=>decide<|b.1=k)=(tX a k).isSome
 |[]=>rfl
 |p::r=>by
  rw[uC];by_cases e:p.1=k
  .simp only[uI e,pe e,vw,iB]
  .rw[pT e,mD e,tz];exact Fx k r
theorem zB(a:List (κ×V))(k:κ)(v:V):(tY a k v).length<=A7 a+1:=by
 unfold tY;split
 .rw[kn];lia
 .rw[nB,lg,rk];lia
theorem IX.EL{o:Option V}{u:Option jg}(r:IX o u):o.isSome=u.isSome:=by
 cases o with
 |none=>cases u with
  |none=>rfl
  |some _=>exact(show False from r).elim
 |some _=>cases u with
  |none=>exact(show False from r).elim
  |some _=>rfl
theorem KV.val{kvs:List (κ×V)}{d:List (κ×jg)}(r:KV kvs d)(k:κ):IX (tX kvs k) (gl d k):=by
 unfold KV at r
 induction r with
 |nil=>exact be
 | @cons p q i c h t g=>
  obtain⟨h1,f⟩:=h;by_cases e:p.1=k
  .have a:q.1=k:=h1.symm.trans e;have b:gl (q::c) k=Y q.2:=by simp[gl,yC,a]
   rw[uI e,b];exact f
  .have a: ¬q.1=k:=λz=>e<|h1.trans z;have b:gl (q::c) k=gl c k:=by simp[gl,yC,a]
   rw[pT e,b];exact g
theorem KV.any{a:List (κ×V)}{vs:List (κ×jg)}(r:KV a vs)(k:κ):(a.any λb=>decide<|b.1=k)=vs.any λb=>decide (b.1=k):=by
 unfold KV at r
 induction r with
 |nil=>rfl
 |cons h t c=>rw[uC,uC,c,h.1]
theorem KV.M7{b:List (κ×V)}{c:List (κ×jg)}(r:KV b c)(k:κ){y:V}{u:jg}(g:RelV y u):
  KV (b.map λa=>if a.1=k then(a.1,y) else a) (c.map λa=>if a.1=k then(a.1,u) else a):=by
 unfold KV at r ⊢
 induction r with
 |nil=>exact .nil
 | @cons p q i j h t f=>
  rw[kc,kc];refine .cons ?_ f;obtain⟨h1,d⟩:=h;by_cases e:p.1=k
  .rw[jl e,jl<|h1.symm.trans e];exact⟨h1,g⟩
  .rw[jv e,jv λz=>e<|h1.trans z];exact⟨h1,d⟩
theorem KV.put{a:List (κ×V)}{b:List (κ×jg)}(r:KV a b)(k:κ){y:V}{u:jg}(c:RelV y u):KV (tY a k y) (stored b k u):=by
 unfold tY stored;rw[r.any k];by_cases e:(b.any λd=>decide<|d.1=k)=J
 .rw[jl e,jl e];exact r.M7 k c
 .rw[jv e,jv e];exact Paired.snoc r ⟨rfl,c⟩
theorem KV.length{a:List (κ×V)}{vs:List (κ×jg)}(r:KV a vs):(A7 a)=(A7 vs):=Ar r
end
def AZ{P:jw}{w:jm}{k:Key}{u:jg}(r:RelV (kV k) u):(lJ P w).is k u=J:=by
 cases k with
 |inl i=>obtain⟨t,e⟩:=(show ∃t,u=mi i t from r);subst e;exact abJ P w i t
 |inr x=>obtain⟨t,e⟩:=(show ∃t,u=me x t from r);subst e;exact abH P w x t
theorem CQ{P:jw}{w:jm}: ∀{a:List Key} {b:ku},Vals (a.map kV) b->ItemsAre (lJ P w) a b
 |[],_,r=>by rw[pL] at r;cases r;exact .nil
 |k::a,_,r=>by
  rw[kc] at r
  cases r with
  |cons h t=>exact .cons (AZ h)<|CQ t
abbrev KT(T:Hp):List (List Key×V)->List (List Key×iW×jg)->Prop:=Paired λp q=>p.1=q.1/\T q.2.1=Y (.tup<|p.1.map kV)/\RelV p.2 q.2.2
def KT.val{T:Hp}{kvs:List (List Key×V)}{d:List (List Key×iW×jg)}(r:KT T kvs d)(k:List Key):IX (tX kvs k) ((gM d k).map (·.2)):=by
 induction r with
 |nil=>exact be
 | @cons p q i c h t g=>
  obtain⟨h1,_,f⟩:=h;by_cases e:p.1=k
  .have a:q.1=k:=h1.symm.trans e;have b:gM (q::c) k=Y q.2:=by simp[gM,yC,a]
   rw[uI e,b];exact f
  .have a: ¬q.1=k:=λz=>e<|h1.trans z;have b:gM (q::c) k=gM c k:=by simp[gM,yC,a]
   rw[pT e,b];exact g
def KT.M7{T:Hp}{a:List (List Key×V)}{d:List (List Key×iW×jg)}(r:KT T a d)(k:List Key){y:V}{u:jg}(i:RelV y u):
  KT T (a.map λb=>if b.1=k then(b.1,y) else b) (d.map<|putAt k u):=by
 induction r with
 |nil=>exact .nil
 | @cons p q j l h t g=>
  rw[kc,kc];refine .cons ?_ g;obtain⟨h1,c,f⟩:=h;unfold putAt;by_cases e:p.1=k
  .rw[jl e,jl<|h1.symm.trans e];exact⟨h1,c,i⟩
  .rw[jv e,jv λz=>e<|h1.trans z];exact⟨h1,c,f⟩
def KT.put{T:Hp}{a:List (List Key×V)}{c:List (List Key×iW×jg)}(r:KT T a c)(k:List Key){b:iW}{y:V}{u:jg}(f:T b=Y (.tup<|k.map kV))(d:RelV y u):
  KT T (tY a k y) (storedH c k b u):=by
 have e:(a.any λg=>decide<|g.1=k)=(gM c k).isSome:=by rw[Fx,(r.val k).EL,GS]
 unfold tY storedH;rw[e];by_cases q:(gM c k).isSome=J
 .rw[jl q,jl q];exact r.M7 k d
 .rw[jv q,jv q];exact Paired.snoc r ⟨rfl,f,d⟩
def KT.keeps{T c:Hp}{a:List (List Key×V)}{d:List (List Key×iW×jg)}(r:KT T a d)(f: ∀b e,T b=Y (.tup e)->c b=Y (.tup e)):KT c a d:=
 Paired.NG r λ_ _ z=>⟨z.1,f _ _ z.2.1,z.2.2⟩
section
variable {P:jw}{w:jm}{H:Hp}{h:jo}{a:iW}
def Tb{u:HO}(ok:Fd P w H h)(e:Rd H a u):AR P w H h a u:=e.ok ok
def J9{b:List (Key×V)}(ok:Fd P w H h)(e:Rd H a (.dK b)):(A7 b)<=sizeLine/\(a==cj)=U/\ ∃c,KV b c/\h.DictOf (lJ P w) a c:=
 show AR P w H h a (.dK b) from Tb ok e
def TK{b:List (Key×V)}(ok:Fd P w H h)(e:H a=Y (.dK b)):(A7 b)<=sizeLine/\(a==cj)=U/\ ∃c,KV b c/\h.DictOf (lJ P w) a c:=J9 ok<|.inl e
def sN{c:List Key}(ok:Fd P w H h)(e:H a=Y (.tup<|c.map kV)):(c7<|lJ P w).is h c a:=by
 obtain⟨_,b,r,o,h1,d,n,f⟩:=(show AR P w H h a (.tup<|c.map kV) from ok a _ e)
 exact⟨o,b.toArray,n,h1,d,f,by simpa using CQ r⟩
def J8{b:List (List Key×V)}(ok:Fd P w H h)(e:Rd H a (.dT b)):(A7 b)<=sizeLine/\(a==cj)=U/\
  ∃d,KT H b d/\h.DictOfH (c7<|lJ P w) a d:=by
 obtain⟨z,y,d,r,o,i,g,h1,j,k,n,s⟩:=(show AR P w H h a (.dT b) from Tb ok e)
 refine⟨z,y,d,r,o,i,g,h1,j,k,n,λx c=>?_,s⟩
 have all: ∀{l:List (List Key×V)} {m:List (List Key×iW×jg)},KT H l m-> ∀x∈m,(c7<|lJ P w).is h x.1 x.2.1:=by
  intro l m q
  induction q with
  |nil=>intro x c;exact nomatch c
  | @cons p q v A f t u=>
   intro x c;rcases lz.mp c with e|c
   .subst e;exact sN ok (by rw[<-f.1];exact f.2.1)
   .exact u x c
 exact all r x c
def YA{b:List (List Key×V)}(ok:Fd P w H h)(e:H a=Y (.dT b)):(A7 b)<=sizeLine/\(a==cj)=U/\
  ∃c,KT H b c/\h.DictOfH (c7<|lJ P w) a c:=J8 ok<|.inl e
end
def HK(T:Hp)(a:iW)(y:V)(r:Option V):Prop:=
 (∃c k,Rd T a (.dK c)/\y=kV k/\r=tX c k)\/ ∃c k b,Rd T a (.dT c)/\y= .ref b/\T b=Y (.tup<|k.map kV)/\r=tX c k
def IY(T:Hp)(a:iW)(y v:V)(c:Hp):Prop:=
 (∃kvs k,T a=Y (.dK kvs)/\y=kV k/\(A7 kvs)<sizeLine/\c=upd T a (.dK<|tY kvs k v))\/
 ∃kvs k b,T a=Y (.dT kvs)/\y= .ref b/\T b=Y (.tup<|k.map kV)/\(A7 kvs)<sizeLine/\c=upd T a (.dT<|tY kvs k v)
def HK.k{T:Hp}{a:iW}{kvs:List (Key×V)}{k:Key}(e:T a=Y (.dK kvs)):HK T a (kV k) (tX kvs k):= .inl ⟨kvs,k,.inl e,rfl,rfl⟩
def HK.t{T:Hp}{a b:iW}{kvs:List (List Key×V)}{k:List Key}(e:T a=Y (.dT kvs))(c:T b=Y (.tup<|k.map kV)):HK T a (.ref b) (tX kvs k):= .inr ⟨kvs,k,b,.inl e,rfl,c,rfl⟩
def IY.k{T:Hp}{a:iW}{kvs:List (Key×V)}{k:Key}{v:V}(e:T a=Y (.dK kvs))(b:(A7 kvs)<sizeLine):IY T a (kV k) v (upd T a<|.dK<|tY kvs k v):= .inl ⟨kvs,k,e,rfl,b,rfl⟩
def IY.t{T:Hp}{a b:iW}{kvs:List (List Key×V)}{k:List Key}{v:V}(e:T a=Y (.dT kvs))(c:T b=Y (.tup<|k.map kV))(d:(A7 kvs)<sizeLine):
  IY T a (.ref b) v (upd T a<|.dT<|tY kvs k v):= .inr ⟨kvs,k,b,e,rfl,c,d,rfl⟩
section
variable {X:Cx}{d:jK}{f:St}{H:Hp}{s:iZ}{a:iW}{y v:V}{u r:jg}{o:Option V}{A:jn}{E:jJ}
def Inv.big(T:Inv X d f H s):cj<s.heap.objs.size:=by have h:aq<s.heap.objs.size:=(T.mod.glob.keeps T.bk).lt;exact D3 (by decide) h
def C3{Q:jJ}(O:A.units+1<aQ)(M:Inv X d f H s)(g:HK H a y (Y v))(t:RelV y u)(h: ∀i x,Inv X d f H x->RelV v i->Q i x):
  ah (aj X.prog X.w) A (el (.ref a) u) Q E s:=by
 rcases g with⟨n,k,e,j,l⟩|⟨n,k,b,e,j,N,l⟩
 .subst j;obtain⟨z,hd,T,c,dd⟩:=J9 M.hok e;obtain⟨i,m,q⟩:=IX.some_of (v:=v) (o:=gl T k) (by rw[l];exact c.val k);exact wpAny_getItem_of (AZ t) dd.mapOf m<|h i _ (M.tok _) q
 .subst j;cases(show u=bf b from t);obtain⟨z,hd,G,c,dd⟩:=J8 M.hok e;obtain⟨i,m,q⟩:=IX.some_of (v:=v) (o:=(gM G k).map (·.2)) (by rw[l];exact c.val k);obtain⟨p,L,B⟩:=d6.mp m;refine wpAny_getItem_heap (yB O) (sN M.hok N) dd L ?_;rw[B];exact h i _ (M.tok _) q
def YC{Q:jJ}(t:A.units+1<aQ)(T:Inv X d f H s)(g:HK H a y o)(m:RelV y u)(h: ∀n,Inv X d f H n->Q (.bool o.isSome) n):
  ah (aj X.prog X.w) A (aM .In u<|.ref a) Q E s:=by
 rcases g with⟨j,k,e,i,l⟩|⟨j,k,b,e,i,p,l⟩
 .subst i;obtain⟨z,hd,x,c,dd⟩:=J9 T.hok e;refine Tl (AZ m) hd dd.mapOf ?_;rw[<-(c.val k).EL,<-l];exact h _ (T.tok _)
 .subst i;cases(show u=bf b from m);obtain⟨z,hd,B,c,dd⟩:=J8 T.hok e;refine Fk (yB t) (sN T.hok p) hd dd ?_;have q:=(c.val k).EL;rw[GS] at q;rw[<-q,<-l];exact h _ (T.tok _)
def Ka{Q:jJ}(t:A.units+1<aQ)(T:Inv X d f H s)(g:HK H a y o)(m:RelV y u)(h: ∀n,Inv X d f H n->Q (.bool (!o.isSome)) n):
  ah (aj X.prog X.w) A (aM .NotIn u<|.ref a) Q E s:=by
 rcases g with⟨j,k,e,i,l⟩|⟨j,k,b,e,i,p,l⟩
 .subst i;obtain⟨z,hd,x,c,dd⟩:=J9 T.hok e;refine Bn (AZ m) hd dd.mapOf ?_;rw[<-(c.val k).EL,<-l];exact h _ (T.tok _)
 .subst i;cases(show u=bf b from m);obtain⟨z,hd,B,c,dd⟩:=J8 T.hok e;refine wT (yB t) (sN T.hok p) hd dd ?_;have q:=(c.val k).EL;rw[GS] at q;rw[<-q,<-l];exact h _ (T.tok _)
def vG{h':jo}{t':Nat}{c:HO}(T:Inv X d f H s)(j:NS (H a))(i:aK a s.heap h')(h: ∃q,h'.get? a=Y q)(new:AR X.prog X.w (upd H a c) h' a c):
  Inv X d f (upd H a c) {s with heap:=h',toks:=t'}:=
 T.write (x:=a) (e:=a) j (.inl AM) (λb q g z=>(i.2 b g).trans z) h new
def VY{P:jw}{w:jm}{h:Hp}{g:jo}{b:List (Key×V)}{e:List (Key×jg)}(z:(A7 b)<=sizeLine)(hd:(a==cj)=U)(c:KV b e)(dd:g.DictOf (lJ P w) a e):
  AR P w h g a (.dK b):=⟨z,hd,e,c,dd⟩
def zk{L:Hp}{Q:Unit->iZ->Prop}(hu:A.units+1<aQ)(I:Inv X d f H s)(g:IY H a y v L)(M:RelV y u)(J:RelV v r)(h: ∀N,Inv X d f L N->Q () N):
  ah (aj X.prog X.w) A (li (.ref a) u r) Q E s:=by
 rcases g with⟨i,k,e,t,l,p⟩|⟨i,k,b,e,t,O,l,p⟩
 .subst t p;obtain⟨z,hd,S,j,dd⟩:=TK I.hok e;have C:S.length<=sizeLine:=by rw[<-j.length];exact z
  have x:(tY i k v).length<=sizeLine:=by have:=zB i k v;lia
  refine wpAny_setItem_pairs (hsz:=C) (AZ M) dd λG m B=>h _ ?_;have R: ∃q,G.get? a=XV q:=let⟨q,_,_,n,_⟩:=m;⟨q,n⟩
  exact vG I (by rw[e];exact be) B R<|VY x hd (j.put k J) m
 .subst t p;cases(show u=bf b from M);obtain⟨z,hd,V,j,dd⟩:=YA I.hok e;have C:V.length<=sizeLine:=by rw[<-Ar j];exact z
  have x:(tY i k v).length<=sizeLine:=by have:=zB i k v;lia
  refine wpAny_setItem_heap (hsz:=C) (yB hu) (sN I.hok O) dd λG m B=>h _ ?_;obtain⟨q,Y,U,n,D,F,K,_,P⟩:=m;refine vG I (by rw[e];exact be) B ⟨q,n⟩ ⟨x,hd,_,(j.put k O J).keeps λc W T=>?_,q,Y,U,n,D,F,K,P⟩;rw[jA<|Tq T e (λz=>nomatch z)];exact T
end
def Po{P:jw}{w:jm}{T:Hp}(h:jo)(a:cj<h.objs.size):AR P w T (h.push {cls:= .type "dict",data:= .dict #[]}) h.objs.size (.dK []):=
 ⟨mf _,xo.mpr<|qy<|kf a,[],.nil,Heap.DictOf.new h⟩
def Ut:TE:=λ_ T Q=> ∀p,T p=C->Q (.ref p) (upd T p<|.dK [])
section
variable {X:Cx}{b:bO}
def aeo:PE X (.Dict [] [] b) Ut:=λc s d T Q O h=>wpAny_Dict_empty ⟨.ref s.heap.objs.size,_,O.laid (a:=s.heap.objs.size) (o:= .dK []) (t':=s.toks) (λ_ _ q=>kg _ q) (kh _)<|Po s.heap O.big,rfl,h _ (O.hok.fresh<|kh _)⟩
end
end L2
namespace PX
open L2 PySem.SeqAt TS
noncomputable def uR:D->Option Key
 | .int i=>Y<|.inl i
 | .str x=>Y<|.inr x
 |_=>C
noncomputable def BY:List D->Option (List Key)
 |[]=>Y []
 |d::l=>(uR d).bind λk=>(BY l).map (k:: ·)
noncomputable def zP:D->Option (List Key)
 | .tup l=>BY l
 |_=>C
def pJ(h:uR d=Y k):d=kI k:=by
 cases d<;>simp[uR] at h<;>subst h<;>rfl
def OH: ∀{l:List D} {a:List Key},BY l=Y a->l=a.map kI:=by
 intro e
 induction e with
 |nil=>intro a h;cases h;rfl
 |cons d l c=>intro a h;rw[BY] at h;obtain⟨k,h1,h⟩:=iU h;obtain⟨m,b,rfl⟩:=jL h;rw[pJ h1,c b];rfl
def uQ(h:zP d=Y a):d= .tup (a.map kI):=by
 cases d with
 |tup l=>rw[OH (show BY l=Y a from h)]
 |_=>cases h
def ym(a b:Key):D.BC (kI a) (kI b)=decide (a=b):=by
 cases a with
 |inl i=>cases b with
  |inl j=>simp only[kI,D.BC,OG]
  |inr y=>simp only[kI,D.BC,OF]
 |inr x=>cases b with
  |inl j=>simp only[kI,D.BC,OE]
  |inr y=>simp only[kI,D.BC,OD];rfl
theorem vF: ∀a b:List Key,D.Cf (a.map kI) (b.map kI)=decide (a=b)
 |[],[]=>by simp[D.Cf]
 |[],_::_=>by simp[D.Cf]
 |_::_,[]=>by simp[D.Cf]
 |x::a,y::b=>by simp only[kc];rw[D.Cf,ym,vF a b];simp only[yD,r9]
def lU:List D->List D->D->Option D
 |a::b,v::c,k=>if D.BC a k=J then Y v else lU b c k
 |_,_,_=>C
def rF:List D->List D->D->D->List D
 |b::c,v::a,k,w=>(if D.BC b k=J then w else v)::rF c a k w
 |_,a,_,_=>a
def sG(a b:List D)(k w:D):List D×List D:=if a.any (D.BC · k)=J then(a,rF a b k w) else(a++[k],b++[w])
noncomputable def rN(a:List D)(k:D):Bool:=((uR k).isSome&&a.all λx=>(uR x).isSome)||((zP k).isSome&&a.all λx=>(zP x).isSome)
section
variable {K:ju}{H:Hp}{O:B7}
def FQ(h:Rep K H O (kI k) v):v=kV k:=by
 cases k with
 |inl i=>exact Rep.int h
 |inr x=>exact Rep.str h
def acP: ∀{b:List Key} {a:List V},AJ K H O (b.map kI) a->a=b.map kV:=by
 intro e
 induction e with
 |nil=>intro a h;rw[pL,AJ] at h;exact h
 |cons k b d=>intro a h;rw[kc,AJ] at h;obtain⟨v,r,rfl,h1,c⟩:=h;rw[FQ h1,d c];rfl
def rq(hk:uR d=Y k)(h:kQ K H O d v):v=kV k:=by
 rw[pJ hk] at h;rcases h with h|⟨a,rfl,h⟩
 .exact FQ h
 .cases k<;>exact h.elim
def pH(hk:zP d=Y c)(h:kQ K H O d v): ∃b,v= .ref b/\H b=Y (.tup<|c.map kV):=by
 rw[uQ hk] at h;rcases h with h|⟨a,rfl,h⟩
 .obtain⟨b,xs,rfl,q,r⟩:=h.tup;rw[acP r] at q;exact⟨b,rfl,q.1⟩
 .exact h.elim
theorem Im{k:Key}: ∀{a:List (Key×V)} {b:List D},AJ K H O b (a.map (·.2))->(∀d,lU (a.map λp=>kI p.1) b (kI k)=Y d-> ∃v,tX a k=Y v/\Rep K H O d v)/\(lU (a.map λp=>kI p.1) b (kI k)=C->tX a k=C)
 |[],b,_=>⟨λd h=>by cases b<;>simp[lU] at h,λ_=>rfl⟩
 |(c,v)::a,[],h=>by rw[kc,AJ] at h;cases h
 |(c,v)::a,m::b,h=>by
  rw[kc,AJ] at h;obtain⟨w,r,e,h1,f⟩:=h;obtain⟨rfl,rfl⟩:=rV e;obtain⟨j,l⟩:=Im (k:=k) f;simp only[kc,lU,ym];by_cases hk:c=k
  .simp only[hk,decide_true,kO];exact⟨λd h=>by cases h;exact⟨v,uI (p:=(k,v)) AM,h1⟩,λh=>by cases h⟩
  .simp only[hk,decide_false,ke,kB];refine⟨λd h=>?_,λh=>?_⟩
   .obtain⟨u,g,i⟩:=j d h;exact⟨u,by rw[pT (p:=(c,v)) hk];exact g,i⟩
   .rw[pT (p:=(c,v)) hk];exact l h
theorem Il{k:List Key}: ∀{a:List (List Key×V)} {b:List D},AJ K H O b (a.map (·.2))->(∀d,lU (a.map λp=> .tup (p.1.map kI)) b (.tup<|k.map kI)=Y d-> ∃v,tX a k=Y v/\Rep K H O d v)/\(lU (a.map λp=> .tup (p.1.map kI)) b (.tup<|k.map kI)=C->tX a k=C)
 |[],b,_=>⟨λd h=>by cases b<;>simp[lU] at h,λ_=>rfl⟩
 |(c,v)::a,[],h=>by rw[kc,AJ] at h;cases h
 |(c,v)::a,m::b,h=>by
  rw[kc,AJ] at h;obtain⟨w,r,e,h1,f⟩:=h;obtain⟨rfl,rfl⟩:=rV e;obtain⟨j,l⟩:=Il (k:=k) f;simp only[kc,lU,D.BC,vF];by_cases hk:c=k
  .simp only[hk,decide_true,kO];exact⟨λd h=>by cases h;exact⟨v,uI (p:=(k,v)) AM,h1⟩,λh=>by cases h⟩
  .simp only[hk,decide_false,ke,kB];refine⟨λd h=>?_,λh=>?_⟩
   .obtain⟨u,g,i⟩:=j d h;exact⟨u,by rw[pT (p:=(c,v)) hk];exact g,i⟩
   .rw[pT (p:=(c,v)) hk];exact l h
end
section
variable {P:jw}{w:jm}{H H':Hp}{h:jo}{a:iW}
def TL(x:AR P w H h a (.dT [])):AR P w H' h a (.dK []):=by
 obtain⟨z,y,k,r,o,b,c,h1,d,f,g,j⟩:=x;cases r
 have:b= #[]:=by
  have:b.toList=[]:=by simpa using g
  exact Wj.mp this
 subst this;refine⟨z,y,[],.nil,o,#[],c,h1,d,f,?_,?_,nU⟩
 .first|exact λe i=>by simp at i|(intro;simp)
 .first|exact .nil|trivial|simp[Pairs]
def TM(x:AR P w H h a (.dK [])):AR P w H' h a (.dT []):=by
 obtain⟨z,y,n,r,o,c,d,h1,f,g,k,b,m⟩:=x;cases r
 have:c= #[]:=by
  have j:(A7 c.toList)=0:=by
   first
    |simpa using (A7 b)
    |simpa using(Ar b)
    |(
      cases i:c.toList with
      |nil=>rfl
      |cons e l=>rw[i] at b;cases b)
  exact Wj.mp<|SU.mp j
 subst this;exact⟨z,y,[],.nil,o,#[],d,h1,f,g,rfl,nU⟩
end
section
variable {X:Cx}{f:jK}{g:L2.St}{H:Hp}{s:iZ}
def adw{A:jn}{E:jJ}(T:Inv X f g H s){H':Hp}{a:iW}{k:Key}{u:jg}{Q:jJ}(x:AR X.prog X.w H' s.heap a (.dK []))(d:RelV (kV k) u)(b:Bool)(h: ∀e,Inv X f g H e->Q (.bool b) e):
  ah (aj X.prog X.w) A (aM (if b=J then .NotIn else .In) u<|.ref a) Q E s:=by
 obtain⟨z,hd,i,c,dd⟩:=x;cases c
 cases b with
 |false=>exact Tl (AZ d) hd dd.mapOf<|h _ (T.tok _)
 |true=>exact Bn (AZ d) hd dd.mapOf<|h _ (T.tok _)
def adu{A:jn}{E:jJ}(e:A.units+1<aQ)(T:Inv X f g H s){H':Hp}{a b:iW}{k:List Key}{Q:jJ}(x:AR X.prog X.w H' s.heap a (.dT []))(d:H b=Y (.tup<|k.map kV))(c:Bool)(h: ∀i,Inv X f g H i->Q (.bool c) i):
  ah (aj X.prog X.w) A (aM (if c=J then .NotIn else .In) (.ref b)<|.ref a) Q E s:=by
 obtain⟨z,hd,u,r,o,l,j,h1,m,n,p,q⟩:=x;cases r;have dd:s.heap.DictOfH (c7<|lJ X.prog X.w) a []:=⟨o,l,j,h1,m,n,p,(λx (t:x∈[])=>by simp at t),q⟩
 cases c with
 |false=>exact Fk (yB e) (sN T.hok d) hd dd<|h _ (T.tok _)
 |true=>exact wT (yB e) (sN T.hok d) hd dd<|h _ (T.tok _)
def rM(h:rN d k=J):(∃e,uR k=Y e/\ ∀x∈d,∃c,uR x=Y c)\/(∃i,zP k=Y i/\ ∀x∈d,∃c,zP x=Y c):=by
 unfold rN at h;rw[yI,mP,mP,mZ,mZ] at h;rcases h with⟨h1,a⟩|⟨h1,a⟩
 .exact .inl ⟨_,(MF.mp h1).choose_spec,λx b=>MF.mp<|a x b⟩
 .exact .inr ⟨_,(MF.mp h1).choose_spec,λx b=>MF.mp<|a x b⟩
def Ei{a:List Key}{c:Key}(h:uR (.tup<|a.map kI)=Y c):False:=by cases h
def AY(h:zP (kI k)=Y c):False:=by cases k<;>cases h
def YB(z:A.units+1<aQ)(I:Inv X f g H s)(q:E6 X.K (H a) .dct ks n us)(r:AJ X.K H O n us)(hk:rN ks k=J)(T:kQ X.K H O k y)(o:RelV y u)(l:Bool)
  (h: ∀j,Inv X f g H j->Q (.bool<|xor l (lU ks n k).isSome) j):ah (aj X.prog X.w) A (aM (if l=J then .NotIn else .In) u<|.ref a) Q E s:=by
 have nil: ∀n:List D,lU [] n k=C:=λn=>by cases n<;>rfl
 rcases q with⟨i,e,rfl,rfl⟩|⟨i,e,rfl,rfl⟩
 .rcases rM hk with⟨B,h1,_⟩|⟨C',h1,J'⟩
  .have:=rq h1 T;subst this;have P:=pJ h1;subst P;obtain⟨Y,F⟩:=Im (k:=B) r
   have U:(tX i B).isSome=(lU (i.map λp=>kI p.1) n<|kI B).isSome:=by
    cases x:lU (i.map λp=>kI p.1) n (kI B) with
    |none=>rw[F x];rfl
    |some d=>obtain⟨v,M,_⟩:=Y d x;rw[M];rfl
   rw[<-U] at h
   cases l with
   |false=>exact YC z I (HK.k e) o λj m=>by simpa using h j m
   |true=>exact Ka z I (HK.k e) o λj m=>by simpa using h j m
  .have G:i=[]:=by
    cases i with
    |nil=>rfl
    |cons p i=>obtain⟨c,N⟩:=J' (kI p.1) (by simp);exact(AY N).elim
   subst G;obtain⟨b,rfl,L⟩:=pH h1 T;cases o;rw[pL,nil] at h;exact adu z I (TM (H':=H)<|I.hok a _ e) L l λj m=>by simpa using h j m
 .rcases rM hk with⟨B,h1,J'⟩|⟨C',h1,_⟩
  .have G:i=[]:=by
    cases i with
    |nil=>rfl
    |cons p i=>obtain⟨c,N⟩:=J' (.tup<|p.1.map kI) (by simp);exact(Ei N).elim
   subst G;have:=rq h1 T;subst this;rw[pL,nil] at h;exact adw I (TL (H':=H)<|I.hok a _ e) o l λj m=>by simpa using h j m
  .obtain⟨b,rfl,L⟩:=pH h1 T;have P:=uQ h1;subst P;obtain⟨Y,F⟩:=Il (k:=C') r
   have U:(tX i C').isSome=(lU (i.map λp=> .tup (p.1.map kI)) n<|.tup<|C'.map kI).isSome:=by
    cases x:lU (i.map λp=> .tup (p.1.map kI)) n (.tup<|C'.map kI) with
    |none=>rw[F x];rfl
    |some d=>obtain⟨v,M,_⟩:=Y d x;rw[M];rfl
   rw[<-U] at h
   cases l with
   |false=>exact YC z I (HK.t e L) o λj m=>by simpa using h j m
   |true=>exact Ka z I (HK.t e L) o λj m=>by simpa using h j m
def VZ(G:A.units+1<aQ)(I:Inv X f g H s)(q:E6 X.K (H a) .dct J' m us)(r:AJ X.K H O m us)(hk:rN J' k=J)(j:lU J' m k=XV d)(N:kQ X.K H O k y)(M:RelV y u) 
  (h: ∀v w l,Inv X f g H l->Rep X.K H O d v->RelV v w->Q w l):ah (aj X.prog X.w) A (el (.ref a) u) Q E s:=by
 have nil: ∀m:List D,lU [] m k=X0:=λm=>by cases m<;>rfl
 rcases q with⟨i,e,rfl,rfl⟩|⟨i,e,rfl,rfl⟩
 .rcases rM hk with⟨T,h1,_⟩|⟨U',h1,o⟩
  .have:=rq h1 N;subst this;have L:=pJ h1;subst L;obtain⟨v,x,z⟩:=(Im (k:=T) r).1 d j;refine C3 G I (v:=v) (y:=kV T) ?_ M λw l n C=>h v w l n z C;rw[<-x];exact HK.k e
  .cases i with
   |nil=>rw[pL,nil] at j;cases j
   |cons p i=>obtain⟨c,B⟩:=o (kI p.1) (by simp);exact(AY B).elim
 .rcases rM hk with⟨T,h1,o⟩|⟨U',h1,_⟩
  .cases i with
   |nil=>rw[pL,nil] at j;cases j
   |cons p i=>obtain⟨c,B⟩:=o (.tup<|p.1.map kI) (by simp);exact(Ei B).elim
  .obtain⟨b,rfl,Y⟩:=pH h1 N;have L:=uQ h1;subst L;obtain⟨v,x,z⟩:=(Il (k:=U') r).1 d j;refine C3 G I (v:=v) (y:= .ref b) ?_ M λw l n C=>h v w l n z C;rw[<-x];exact HK.t e Y
end
def IC(d k:D):Option (D×Bool):=match d with
 | .B8 .dct a b=>if rN a k=J then(lU a b k).map λv=>(v,U) else C
 |_=>E9 d k
def R3(d e:D):Option Bool:=match e with
 | .B8 .dct a b=>if rN a d=J then Y (lU a b d).isSome else C
 |_=>Nr d e
def pE(d e:D):Option (D×Bool):=(R3 d e).map λb=>(.bl (!b),U)
section
variable {X:Cx}
def wO(p:X.A.units+62<aQ):EC X (aM .NotIn) (rD X.K pE):=by
 intro c s t T x y v u Q N l m h;obtain⟨O,d,e,z,np,h1,j,g,G⟩:=h;by_cases k: ∃f i,e= .B8 .dct f i
 .obtain⟨f,i,rfl⟩:=k;obtain⟨b,o,rfl⟩:=jL g;obtain⟨hk,rfl⟩:=jH (show(if rN f d=J then Y (lU f i d).isSome else C)=Y b from o);obtain⟨a,B,rfl,q,r⟩:=pR j;cases m;exact YB (by lia) N q r hk h1 l J λw n=>⟨.bl _,T,n,by simp[L2.RelV],G.bl⟩
 .have:pE d e=EU d e:=by
   unfold pE R3 EU;split
   .exact absurd ⟨_,_,rfl⟩ k
   .rfl
  rw[this] at g;exact acu p c s t T x y v u Q N l m ⟨O,d,e,z,np,h1,j,g,G⟩
def X9(L:X.A.units+1<aQ):NT X (rD X.K IC):=by
 intro b slice c s B H x y v u Q I o p h n;obtain⟨O,d,e,z,np,h1,l,i,G⟩:=h;by_cases hd: ∃g k,d= .B8 .dct g k
 .obtain⟨g,k,rfl⟩:=hd;have j:(if rN g e=YP then(lU g k e).map λv=>(v,ZB) else X0)=Y z:=i;split at j
  case isFalse=>cases j
  rename_i hk;obtain⟨w,T,rfl⟩:=jL j;obtain⟨a,N,rfl,q,r⟩:=pR h1;cases o;have m:s.TypeIs (.ref a) "dict":=AL I q;unfold iJ;refine iX ?_;rw[getitemInPython_of_ne m.not_modules];refine iX<|uz m PySem.F.slot_dict_getitem.lookup ?_
  have fin:ah (aj X.prog X.w) X.A (pc slice ZB (.ref a) u) (λr f=>ah (aj X.prog X.w) X.A (letTemporaryGo b (.ref a) r>>=λ_=>pure r) (EP X c B Q) X.xe f) X.xe s:=by rw[n];exact wpAny_operating<|VZ L I q r hk T l p λt U M C E J=>iX<|wpAny_letTemporaryGo<|jd ⟨t,H,C,J,G t H (λ_ _ e=>e) E⟩
  first
   |exact jd<|iX fin
   |exact iX<|jd<|iX fin
   |exact iX fin
 .have:IC d e=E9 d e:=by
   unfold IC;split
   .exact absurd ⟨_,_,rfl⟩ hd
   .rfl
  rw[this] at i;exact Tt b slice c s B H x y v u Q I o p ⟨O,d,e,z,np,h1,l,i,G⟩ n
noncomputable def Pl:F:=λa=>Y ((.B8 .dct [] [],J),a)
end
section
variable {K:ju}{T:B7}{d:L2.St}{c:Dn}{H:Hp}{i:Nat}{g d':D}{a:iW}{o:HO}
def B9.FY{j:Nat}{b:iW}(hd:c[i]?=Y (Y (g,J)))(h:B9 d (c.set i<|Y (d',J)) j b):B9 d c j b:=by
 obtain⟨e,h1,f⟩:=h;rcases mx h1 with⟨rfl,_,_⟩|⟨_,q⟩
 .exact⟨_,hd,f⟩
 .exact⟨e,q,f⟩
def ER.FY(E:ER K H T d c)(hd:c[i]?=Y (Y (g,J)))(p:d[i]?=Y (Y<|.ref a))(r:Cg K (upd H a o) (λb=>AO d c b\/T b) d' a):
  ER K (upd H a o) T d (c.set i<|Y (d',J))/\BU d c H (c.set i<|Y (d',J)) (upd H a o):=by
 have M:i<(A7 c):=(xj.mp hd).1;have s:AO d c a:=⟨i,_,hd,p⟩
 have B: ∀b,AO d (c.set i<|Y (d',J)) b->AO d c b:=λb a'=>by
  obtain⟨j,e,h1,m⟩:=a'
  obtain⟨I,t,v⟩:=B9.FY hd ⟨e,h1,m⟩;exact⟨j,I,t,v⟩
 have A: ∀b u,H b=Y u-> ¬(AO d c b\/T b)->upd H a o b=Y u:=λb u e n=>by rw[jA<|by intro z;subst z;exact n<|.inl s];exact e
 have C: ∀b,H b≠X0->upd H a o b≠X0:=λb z=>by
  by_cases y:b=a
  .subst y;rw[jr];simp
  .rw[jA y];exact z
 have sub: ∀b,(AO d (c.set i<|Y (d',J)) b\/T b)->AO d c b\/T b:=λb z=>z.imp (B b) id;refine⟨⟨by rw[ur];exact E.len,λj e h=>?_,λj e h=>?_,λj k e f b h hk h1 m=>?_,λb z=>E.nT b<|B b z,λb z=>by have ne:b≠a:=λe=>E.nT a s<|e▸z;rw[jA ne];exact E.dom b z⟩,⟨λb u e n=>by rw[jA<|by intro z;subst z;exact n s];exact e,λj b z=>B9.FY hd z,C⟩⟩
 .rcases mx h with⟨_,_,q⟩|⟨_,q⟩
  .cases q
  .obtain⟨w,l,x⟩:=E.val j e q;exact⟨w,l,Rep.mono A (λb _ z=>sub b z) x⟩
 .rcases mx h with⟨rfl,_,q⟩|⟨ne,q⟩
  .cases q;exact⟨a,p,r.mono (λ_ _ e _=>e) (λb _ z=>sub b z) λ_ e=>e⟩
  .obtain⟨b,l,x⟩:=E.own j e q;refine⟨b,l,x.mono A (λb _ z=>sub b z) λu Q=>?_⟩;rw[jA]
   .exact Q
   .intro z;subst z;exact ne<|E.inj i j _ _ _ hd q p l
 .obtain⟨L,t,v⟩:=B9.FY hd ⟨e,h,h1⟩;obtain⟨O,G,N⟩:=B9.FY hd ⟨f,hk,m⟩;exact E.inj j k L O b t G v N
end
section
variable {X:Cx}{c:jK}{d:L2.St}{H:Hp}{s:iZ}{a:iW}
def UG(T:Inv X c d H s)(e:H a=Y (.dT [])):Inv X c d (upd H a<|.dK []) s:=by have:=vG (t':=s.toks) (h':=s.heap) T (by rw[e];exact be) (D1 a s.heap) (by obtain⟨z,y,g,r,o,f,b,h1,_⟩:=(show AR X.prog X.w H s.heap a (.dT []) from T.hok a _ e);exact⟨o,h1⟩)<|TL (H':=upd H a<|.dK [])<|T.hok a _ e;exact this
def UE(T:Inv X c d H s)(e:H a=Y (.dK [])):Inv X c d (upd H a<|.dT []) s:=by have:=vG (t':=s.toks) (h':=s.heap) T (by rw[e];exact be) (D1 a s.heap) (by obtain⟨z,y,g,r,o,f,b,h1,_⟩:=(show AR X.prog X.w H s.heap a (.dK []) from T.hok a _ e);exact⟨o,h1⟩)<|TM (H':=upd H a<|.dT [])<|T.hok a _ e;exact this
def XG:SO:=λo i v H Q=> ∃a,o= .ref a/\((∃e,IY H a i v e/\Q e)\/(∃f,H a=Y (.dT [])/\i=kV f/\Q (upd H a<|.dK [(f,v)]))\/
 (∃g b,H a=Y (.dK [])/\i= .ref b/\H b=Y (.tup<|g.map kV)/\Q (upd H a<|.dT [(g,v)])))
def aer(j:X.A.units+1<aQ):We X XG:=by
 intro c s d H o i v E T u Q O x l m h;obtain⟨a,rfl,h⟩:=h;cases x;rcases h with⟨r,g,q⟩|⟨y,e,rfl,q⟩|⟨B,b,e,rfl,n,q⟩
 .exact zk j O g l m λp f=>⟨r,f,q⟩
 .refine zk j (UG O e) (IY.k (k:=y) (v:=v) jr<|by rw[jY];decide) l m λp f=>⟨_,f,?_⟩
  rw[Jl];exact q
 .have w:b≠a:=Tq n e (λz=>nomatch z);refine zk j (UE O e) (IY.t (k:=B) (v:=v) (b:=b) jr (by rw[jA w];exact n)<|by rw[jY];decide) l m λp f=>⟨_,f,?_⟩
  rw[Jl];exact q
end
section
variable {K:ju}{H:Hp}{O:B7}
theorem Ni{k:Key}{w:D}{v:V}(d:Rep K H O w v): ∀{a:List (Key×V)} {b:List D},AJ K H O b (a.map (·.2))->AJ K H O (rF (a.map λp=>kI p.1) b (kI k) w) ((a.map λc=>if c.1=k then(c.1,v) else c).map (·.2))
 |[],b,h=>by cases b<;>simpa[rF] using h
 |(f,u)::a,[],h=>by rw[kc,AJ] at h;cases h
 |(f,u)::a,i::b,h=>by
  rw[kc,AJ] at h;obtain⟨x,r,e,h1,g⟩:=h;obtain⟨rfl,rfl⟩:=rV e;simp only[kc,rF,ym];refine AJ.cons ?_<|Ni d g;by_cases hk:f=k
  .simp only[hk,decide_true,kO];exact d
  .simp only[hk,decide_false,ke,kB];exact h1
theorem Nh{k:List Key}{w:D}{v:V}(d:Rep K H O w v): ∀{a:List (List Key×V)} {b:List D},AJ K H O b (a.map (·.2))->AJ K H O (rF (a.map λp=> .tup (p.1.map kI)) b (.tup<|k.map kI) w) ((a.map λc=>if c.1=k then(c.1,v) else c).map (·.2))
 |[],b,h=>by cases b<;>simpa[rF] using h
 |(f,u)::a,[],h=>by rw[kc,AJ] at h;cases h
 |(f,u)::a,i::b,h=>by
  rw[kc,AJ] at h;obtain⟨x,r,e,h1,g⟩:=h;obtain⟨rfl,rfl⟩:=rV e;simp only[kc,rF,D.BC,vF];refine AJ.cons ?_<|Nh d g;by_cases hk:f=k
  .simp only[hk,decide_true,kO];exact d
  .simp only[hk,decide_false,ke,kB];exact h1
def Ti(a:Rep K H O w v)(h:AJ K H O b (kvs.map (·.2))):
  (sG (kvs.map λp=>kI p.1) b (kI k) w).1=(tY kvs k v).map (λp=>kI p.1)/\AJ K H O (sG (kvs.map λp=>kI p.1) b (kI k) w).2 ((tY kvs k v).map (·.2)):=by
 have c:(kvs.map λp=>kI p.1).any (D.BC · (kI k))=kvs.any λd=>decide (d.1=k):=by rw[DZ];congr 1;funext p;exact ym _ _
 unfold sG tY;rw[c];split
 .refine⟨?_,Ni a h⟩;rw[kM];apply qr;intro p _;simp only[bG];split<;>rfl
 .exact⟨by simp,by rw[oX];exact h.append<|AJ.one a⟩
def Th{k:List Key}{w:D}{v:V}(b:Rep K H O w v){kvs:List (List Key×V)}{a:List D}(h:AJ K H O a (kvs.map (·.2))):
  (sG (kvs.map λp=> .tup (p.1.map kI)) a (.tup<|k.map kI) w).1=(tY kvs k v).map (λp=> .tup (p.1.map kI))/\AJ K H O (sG (kvs.map λp=> .tup (p.1.map kI)) a (.tup<|k.map kI) w).2 ((tY kvs k v).map (·.2)):=by
 have c:(kvs.map λp=>D.tup<|p.1.map kI).any (D.BC · (.tup<|k.map kI))=kvs.any λd=>decide (d.1=k):=by rw[DZ];congr 1;funext p;simp only[bG,D.BC,vF]
 unfold sG tY;rw[c];split
 .refine⟨?_,Nh b h⟩;rw[kM];apply qr;intro p _;simp only[bG];split<;>rfl
 .exact⟨by simp,by rw[oX];exact h.append<|AJ.one b⟩
end
def Cy(i:Nat)(f:F)(g:FO):FS:=λc=>(f c).bind λp=>match p.2[i]? with
 |some (Y _)=>(g p.2).bind λq=>match res q.2 q.1,q.2[i]? with
  |some k,Y (Y (.B8 .dct a b,J))=>if rN a k=J/\(A7 a)<10000 then Y (.nx<|q.2.set i<|Y (.B8 .dct (sG a b k p.1.1).1 (sG a b k p.1.1).2,J)) else C
  |_,_=>C
 |_=>C
section
variable {X:Cx}{e c:je}{f:F}{g:FO}{b h a d:bO}{i:Nat}{x:aG}{A:kz}{L:LL}{j:Hp}
end
end PX
namespace TT
open PySem.SeqAt
structure HV(h:jo)(d:iW)(es:Array gD)(ep:Nat):Prop where
 at_: ∃o,h.get? d=XV o/\o.ExactDict/\o.data= .dict es ep
def HV.BQ{d b a}(x:HV h d b a)(k: ∀o,h.get? d=Y o->c.get? d=Y o):HV c d b a:=let⟨o,h1,r⟩:=x.at_;⟨o,k _ h1,r⟩
section
variable {prog:jw}{w:jm}{A:jn}{E:jJ}{s:iZ}
def HV.typeIs{d b a}(x:HV s.heap d b a):s.TypeIs (.ref d) "dict":=let⟨o,h1,r,_⟩:=x.at_;⟨o,h1,r.1⟩
def ads(hd:(d==cj)=U)(c:HV s.heap d g f)
  (h:Q (.ref s.heap.objs.size) {s with heap:=s.heap.push {cls:= .type "dict_keyiterator",data:= .fields #[.ref d,.int 0 0,.int g.size 0,.int f 0]}}):ah (aj prog w) A (d5<|.ref d) Q E s:=by
 have a:=c.typeIs;obtain⟨o,e,i,b⟩:=c.at_;refine GY a L5<|nW L5 a PySem.F.entry_dict_iter ?_<|PySem.F.args_dict_iter_1 _;unfold aV.«dict.__iter__»;refine iX ?_;unfold y6;refine iX<|L4 a ?_;change ah _ _ (pure<|bf d) _ _ s;refine jd ?_;change ah _ _ (gf d>>=_) _ _ s;unfold gf;rw[jv<|by rw[hd];exact kR];refine iX<|jd ?_;refine iX<|GR e b ?_;refine iX<|GQ e b ?_;refine iX<|nV<|jd ⟨_,rfl,"dict_keyiterator",_,⟨_,kG _ rfl,rfl⟩,Ck.lookup,?_⟩;simpa[cE] using h
def aaT{b d:iW}{i f:Nat}{c:Array gD}{e:gD}{Q:Cj}(a:s.heap.IsKeyIter b d i c.size f)(q:HV s.heap d c f)(r:c[i]?=Y e)
  (n: ∀g,g.IsKeyIter b d (i+1) c.size f->aK b s.heap g->Q (Y e.key) {s with heap:=g}):ah (aj prog w) A (cn<|.ref b) Q E s:=by
 obtain⟨o,h,p,hd⟩:=id a;obtain⟨u,k,t,j⟩:=q.at_;unfold cn;refine iX<|rW<|vQ (name:=bn "__next__") a.typeIs Ck<|nW Ck a.typeIs L3 ?_<|L0 _;refine iX<|jd ?_;refine iX ?_;refine iX ?_;refine iX<|Dq a.typeIs<|jd ?_;refine iX<|BB h hd ?_;have m:Builtin.Dict_items.ownsTuple "dict_keyiterator"=U:=by decide
 simp only[m,ke,kB];change ah _ _ (if(bf d==ao)=J then _ else _) _ _ s;rw[jv (show ¬((bf d==ao)=J) from kR)];refine iX<|jd ?_;refine iX<|GR k j ?_;rw[jv<|by simp];refine iX<|jd ?_;refine iX<|GQ k j ?_;rw[jv<|by simp];refine jd ?_;simp only[show ¬((i:Int)<0) from by lia,kB,uw,r];refine iX ?_;refine iX<|Dq a.typeIs<|jd ?_;refine iX<|LZ a.typeIs ?_;change ah _ _ (pw (.ref b) 1 (cE<|(i:Int)+1)>>=_) _ _ s;refine iX<|wz h hd (by simp) ?_
 have l:(s.heap.update b (gY (·.setIfInBounds 1 (cE<|(i:Int)+1)))).IsKeyIter b d (i+1) c.size f:=
  ⟨_,vO _ h (DV<|qK hd _),(DU ..).trans p,by rw[qK hd];simp[cE]⟩
 refine iX<|mv ?_;refine iX (LZ (s:={s with heap:=s.heap.update b (gY (·.setIfInBounds 1 (cE<|(i:Int)+1)))}) l.typeIs ?_);change ah _ _ (pure e.key) _ _ _;exact jd<|jd ⟨_,rfl,jd<|n _ l (tH ..)⟩
def aba(n:A.handled=C)(c:s.heap.IsKeyIter it d e.size e.size k)(p:HV s.heap d e k)
  (l: ∀h,eR it s.heap h->Q C {s with heap:=h}):ah (aj prog w) A (cn<|.ref it) Q E s:=by
 obtain⟨o,i,q,hd⟩:=id c;obtain⟨t,g,r,f⟩:=p.at_;unfold cn;refine iX<|rW<|vQ (name:=bn "__next__") c.typeIs Ck<|nW Ck c.typeIs L3 ?_<|L0 _;refine iX<|jd ?_;refine iX ?_;refine iX ?_;refine iX<|Dq c.typeIs<|jd ?_;refine iX<|BB i hd ?_;have j:Builtin.Dict_items.ownsTuple "dict_keyiterator"=U:=by decide
 simp only[j,ke,kB];change ah _ _ (if(bf d==ao)=J then _ else _) _ _ s;rw[jv (show ¬((bf d==ao)=J) from kR)];refine iX<|jd ?_;refine iX<|GR g f ?_;rw[jv<|by simp];refine iX<|jd ?_;refine iX<|GQ g f ?_;rw[jv<|by simp];refine jd ?_;simp only[show ¬((e.size:Int)<0) from by lia,kB,uw,DA<|kh e.size];refine iX ?_;refine iX<|Dq c.typeIs<|jd ?_;change ah _ _ (pw (.ref it) 0 .none>>=_) _ _ s;refine iX<|wz i hd (by simp) ?_;change ah _ _ (lA (.type "StopIteration") []>>=_) _ _ _;refine iX ?_;simp -iota only[lA,px];refine iX<|nV ?_ (by size_fits);refine iX (m:=da _ _)<|qv (a:=ao) (by first|rfl|(simp -iota only[da];rfl)) ?_;refine nV ?_ (by size_fits);simp -iota only[B1];refine iX<|Hf ?_;rw[show A.in1.handled=C from n];refine iX<|jd<|He ?_;refine iX<|wy (T:="StopIteration") (b:=J) ⟨_,kG _ rfl,rfl⟩ DQ ?_;exact jd<|l _ (((tH ..).extBut.push _).push _)
def acg(n:A.handled=C)(T d:iW)(m:T≠d)(a:Array gD)(k:Nat):Walks prog w A T [T,d] [T] a.size (λi v=> ∃e,a[i]?=Y e/\v=e.key) (λi h=>h.IsKeyIter T d i a.size k/\HV h d a k) where
 sub:=λb c=>by simp at c;simp[c]
 frame:=λ_ _ _ st hk=>⟨st.1.at λo e=>hk T (by simp) o e,st.2.BQ λo e=>hk d (by simp) o e⟩
 item:=λi s Q E p st f=>by have l:a[i]?=Y a[i]:=qu p;refine aaT st.1 st.2 l λg r j=>?_;exact f _ g s.toks ⟨_,l,rfl⟩ ⟨r,st.2.BQ λo e=>j.extBut d o (λh=>m h.symm) e⟩ λb o c e=>j.extBut b o (λh=>c<|by simp[h]) e
 done:=λs Q E st f=>aba n st.1 st.2 λg q=>f g s.toks λb o c e=>q b o (λh=>c<|by simp[h]) e
 self:=λ_ _ _ _ st f=>wpAny_pyIter_keyiter st.1 f
def P5(hd:(a==cj)=ZB)(hh:A.handled=X0)(S:HV s.heap a d n)(hn:d.size<=sizeLine) 
  (hQ: ∀k tk,(∀b o,s.heap.get? b=XV o->k.get? b=XV o)->Q (d.toList.map (·.key)) {s with heap:=k,toks:=tk}):ah (aj prog w) A (gm<|.ref a) Q E s:=by
 have C:a<s.heap.objs.size:=let⟨_,h1,_⟩:=S.at_;kH h1;have t:a≠s.heap.objs.size:=kf C;have J:a≠s.heap.objs.size+1:=kf<|vM C;have B:s.heap.objs.size≠s.heap.objs.size+1:=kf<|se _;unfold gm;refine iX<|DX<|oZ Me ?_;rw[rm Md _];show ah _ A.in1 (lw []>>=λl=>again<|.builtin "list.__iadd__" ⟨[l,.ref a],[]⟩) _ _ s;refine iX<|nV ?_;refine jd ⟨uj Dv _,oZ Mc ?_⟩;rw[rm Dv _];show ah _ A.in1 (cc (.ref s.heap.objs.size) (.ref a)<|.ref s.heap.objs.size) _ _ _;generalize H:({cls:= .type "list",data:= .seq ([]:List jg).toArray}:fy)=f;have p:HV (s.heap.push f) a d n:=S.BQ λo e=>kg _ e;unfold cc;refine iX<|uv (T:="dict") (s:={s with heap:=s.heap.push f}) p.typeIs ?_;have h1:cw (.ref s.heap.objs.size) (.ref a)=ZB:=by simp only[cw,xo];exact t.symm
 have c:(bi "dict"==bi "list")=ZB:=by decide
 have R:(bi "dict"==bi "tuple")=ZB:=by decide
 simp -iota only[h1,c,R,gW,ke,kB];refine iX<|ads (s:={s with heap:=s.heap.push f}) hd p ?_;obtain⟨c,q⟩: ∃c,c=(s.heap.push f).push {cls:= .type "dict_keyiterator",data:= .fields #[.ref a,.int 0 0,.int d.size 0,.int n 0]}:=⟨_,rfl⟩
 have u:c.IsKeyIter (s.heap.push f).objs.size a 0 d.size n:=by rw[q];exact⟨_,kG _ rfl,rfl,rfl⟩
 have r: ∀b o,(s.heap.push f).get? b=XV o->c.get? b=XV o:=λb o e=>by rw[q];exact kg _ e
 rw[<-q];have v:(s.heap.push f).objs.size=s.heap.objs.size+1:=rn _ _;have h:HV c a d n:=p.BQ λo e=>r _ _ e;refine iX<|mv ?_;unfold fD;refine iX<|uz (T:="dict") (s:={s with heap:=c}) h.typeIs PySem.F.slot_dict_len.lookup ?_;generalize x:("dict.__len__":String)=id0;dsimp only;rw[show splitId id0=XV ("dict","__len__") from by subst x;decide+kernel];dsimp only;refine iX<|wy (T:="dict") (s:={s with heap:=c}) (b:=YP) h.typeIs (by rw[Dx];kernel_rfl) ?_;simp -iota only[qt,ke,kB];change ah _ _ (if _=YP then _ else _) _ _ _;rw[jl<|by subst x;decide+kernel];refine iX<|uv (T:="dict") (s:={s with heap:=c}) h.typeIs ?_;dsimp only;refine jd ?_;change ah _ _ (if _=YP then _ else _) _ _ _;rw[jl<|by decide+kernel];refine iX<|uo ?_;have z:c.get? s.heap.objs.size=XV f:=r _ _ (kG _ (by subst H;rfl));subst H;refine iX ?_;show ah _ A.in1 (i5 s.heap.objs.size (·.push .none)>>=λ_=>i5 s.heap.objs.size (·.pop)) _ _ _;refine iX<|Du (s:={s with heap:=c}) z AM ?_;have y:=vO (aL (·.push ao)) z AM;refine Du y AM ?_;have V:=vO (aL (·.pop)) y AM
 have B8: ∀b o,b≠s.heap.objs.size->c.get? b=XV o->((c.update s.heap.objs.size (aL (·.push ao))).update s.heap.objs.size (aL (·.pop))).get? b=XV o:=
  λb o g e=>(yP _ _ (qy g)).trans<|(yP _ _ (qy g)).trans e
 have W:=(acg (prog:=prog) (w:=w) (A:=A.in1) (by show A.handled=X0;exact hh) (s.heap.objs.size+1) a J.symm d n).toS;rw[v] at u;refine jd ⟨uj Mb _,?_⟩;rw[v];refine Ma W hn s.heap.objs.size (by simp -iota only[lz,lY,mX,oY];exact⟨B,t.symm⟩) _ d.size 0 _ _ _ rfl (mf _) ?_ V (ItemsOf.nil _) λL i c' m Z X=>?_
 .refine⟨?_,h.BQ λo e=>B8 a o t e⟩;obtain⟨o,g1,g2⟩:=u;exact⟨o,B8 _ o B.symm g1,g2⟩
 show ah _ A (load s.heap.objs.size>>=_) _ _ L;refine iX<|yS Z ?_;obtain⟨k,K,M,y3,G⟩:=L;have Y:K=s.gens:=m.gens;have U:M=s.drawn:=m.drawn;have D:G=s.os:=m.os;subst Y;subst U;subst D
 have N:i.toList=d.toList.map (·.key):=by
  obtain⟨a1,O⟩:=X;apply wA
  .rw[kn,lh,lh,a1]
  .intro j g1 g2;have P:i[j]?=XV i.toList[j]:=by rw[<-mY];exact kK g1
   obtain⟨e,I,hv⟩:=O j _ P;rw[hv];rw[kn,lh] at g2;rw[Am];rw[<-mY,kK<|by rw[lh];exact g2] at I;cases I;rfl
 refine jd ?_;show Q i.toList _;rw[N];refine hQ k y3 λb o e=>?_;have g:=kH e;exact m.heap b o (by simp -iota only[lz,lY,mX,oY];exact⟨kf g,kf<|vM g⟩)<|B8 b o (kf g)<|r _ _ (kg _ e)
end
end TT
namespace PX
open L2 PySem.SeqAt TS
def lF(d:D):Option (D×Bool):=match d with
 | .B8 .dct a b=>if(a.all λk=>(uR k).isSome)=J/\a≠[] then lE a else C
 |_=>uS d
section
variable {X:Cx}
def ac4{P:jw}{w:jm}{e:List gD}{f:List (Key×jg)}{a:List (Key×V)}(h:Pairs (lJ P w) e f)(q:KV a f):Vals (a.map λp=>kV p.1) (e.map (·.key)):=by
 induction h generalizing a with
 |nil=>cases q;exact .nil
 |cons h1 j t g=>
  obtain _|⟨r,q⟩:=q;refine .cons ?_<|g q;dsimp only;rw[r.1];rcases lL (show AX _ _=J from h1) with⟨i,d,b,c⟩|⟨x,d,b,c⟩
  .rw[b,c];exact⟨d,rfl⟩
  .rw[b,c];exact⟨d,rfl⟩
theorem Cz{K:ju}{T:Hp}{O:B7}: ∀(a:List (Key×V)),AJ K T O (a.map λp=>kI p.1)<|a.map λp=>kV p.1
 |[]=>AJ.nil
 |(k,v)::a=>by
  refine AJ.cons ?_<|Cz a
  cases k with
  |inl i=>exact Rep.mkInt
  |inr x=>exact Rep.mkStr
def XT{X:Cx}{id:String}{g f:D->Option (D×Bool)}(i:lr X (.builtin id) (IT X.K<|g1 f)){c:jK}{s:iZ}{e:L2.St}{T:Hp}{x:V}{u:jg}{Q:VK}{O:B7}{d:D}{z:D×Bool}(N:Inv X c e T s)(k:L2.RelV x u)(np: ∀p,¬Ow (T p)-> ¬O p)(hd:kQ X.K T O d x)(h:f d=Y z)(G:Gen X.K T O z Q):
  ah (aj X.prog X.w) X.A (call (.builtin id) [u]) (EP X c e Q) X.xe s:=
 i c s e T [x] [u] Q N (.cons k .nil) ⟨O,[d],z,np,rfl,(λj l m a b=>by
   cases j with
   |zero=>simp at a b;subst a;subst b;exact hd
   |succ j=>simp at a),h,G⟩
def nO(j:X.calm=YP)(n:X.A.units+62<aQ):lr X (.builtin "sorted") (IT X.K<|g1 lF):=oU λt s σ H x u Q O d z I v np hd l G=>by
 by_cases m: ∃f w,d= .B8 .dct f w
 .obtain⟨f,w,rfl⟩:=m;have h:(if(f.all λk=>(uR k).isSome)=YP/\f≠[] then lE f else X0)=XV z:=l;split at h
  .rename_i c;obtain⟨a,us,rfl,q,r⟩:=pR hd;cases v;rcases q with⟨b,e,rfl,rfl⟩|⟨b,e,rfl,rfl⟩
   .obtain⟨zl,B,D,i,o,V,S,h1,E,L,W,T,Z⟩:=TK I.hok e;have y:=ac4 T i;have N:=y.length;simp only[kn,lh] at N;have M:X.A.handled=X0:=I.ok.hd j;exact vn n I (Cz (O:=O) b) y h G λR P F U J=>TT.P5 B (by rw[U];exact M) ⟨o,h1,E,L⟩ (by lia) λC Y k=>J C Y k
   .exfalso
    cases b with
    |nil=>exact c.2 AM
    |cons p b=>have:=mZ.mp c.1 (.tup<|p.1.map kI) (by simp);simp[uR] at this
  .cases h
 .have:lF d=uS d:=by
   unfold lF;split
   .exact absurd ⟨_,_,rfl⟩ m
   .rfl
  exact XT (g:=lF) (abp j n) I v np hd (by rw[<-this];exact l) G
def QZ(a:Gl X x)(b:X.mg x=Y (.int i t))(hd:(x==("__debug__":aG))=U):PX X (.Name x pos) (fC<|.int i):=PX.imp (Rm (v:= .int i) a b ⟨t,rfl⟩ hd) λf O Q h=>by obtain⟨d,T,r,c,E,e,k⟩:=h;cases e;exact k _ _ (BO.val .refl E Rep.mkInt)
noncomputable def HS:FS:=λ_=>C
end
noncomputable def Ac(i:Nat)(f:F):F:=λδ=>match δ[i]? with
 |some (Y (.lst _,J))=>(f δ).bind λp=>match p.1,p.2[i]? with
  |(.lst m,J),Y (Y (.lst l,J))=>if (A7 l)+A7 m<=sizeLine then Y ((.Ax,U),p.2.set i<|Y (.lst<|l++m,J)) else C
  |_,_=>C
 |_=>C
section
variable {X:Cx}{e:je}{f:F}{b d a c:bO}{i:Nat}{x:aG}
end
structure PXs(X:Cx)(es:kL)(fs:List F):Prop where
 pa:PA X es (tA X.K<|fs.map jk)
section
variable {X:Cx}{e:je}{b:kL}{f:F}{fs:List F}{a:bO}
end
structure QX(X:Cx)(e:je)(f:F):Prop where
 h:PX X e f
structure QO(X:Cx)(e:je)(f:FO):Prop where
 h:PX.PO X e f
structure QA(X:Cx)(es:kL)(fs:List FO):Prop where
 h:PA X es (tA X.K fs)
structure QL(X:Cx)(es:kL)(fs:List F):Prop where
 h:PXs X es fs
structure QT(X:Cx)(e:je)(f:FT):Prop where
 h:PTX X e f
structure QW(X:Cx)(e:je)(f:FT):Prop where
 h:PWX X e f
structure QG(X:Cx)(A:kz)(e:je)(t:Tg):Prop where
 h:Ll X A e t
structure QI(X:Cx)(B:SB)(tg e:je)(f:EV):Prop where
 h:Lb X B tg e f
structure QF(X:Cx)(es:kL)(f:FT):Prop where
 h:K8 X es (tT X.K f)
structure QB(X:Cx)(A:kz)(d:iW)(e:je)(n:Nat)(f:FB):Prop where
 h:PB X (jT e n (.ref d) X.env) (Ic ZB X.K A d f)
structure QS(X:Cx)(A:kz)(L:LL)(H0:Hp)(st:bc)(f:FS):Prop where
 h:MY X A L H0 st f
structure QQ(X:Cx)(A:kz)(L:LL)(H0:Hp)(st:List bc)(f:FS):Prop where
 h:Fl X A L H0 st f
structure QC(X:Cx)(v:jg)(g:List D->Option (D×Bool)):Prop where
 h:lr X v (IT X.K g)
structure QP(X:Cx)(o:zp)(g:D->D->Option (D×Bool)):Prop where
 h:EC X o (rD X.K g)
abbrev SE(X:Cx)(e:je)(a:kL):Prop:=ac (e::a) X.env=(U,aT e X.env)::ac a X.env
abbrev BA(X:Cx)(p:bO)(a:kL):Prop:=(aH p<|ac a X.env).any (·.1)=U
abbrev DB(x:aG):Prop:=(x==("__debug__":aG))=U
abbrev un(A:jn)(n:Nat):Prop:=A.units+n<aQ
structure ZZ where
 P:jw
 w:jm
 K:ju
 mg:aG->Option jg
 base:jo
def Oz(Z:ZZ)(k:Nat)(x:aG)(b:jq)(c:BP):Prop:= ∃f a,EZ Z.P Z.w Z.K Z.mg Z.base FH k f a b (IW Z.K c)/\Z.mg x=Y (.ref f)/\cG Z.K (.ref f)=J/\Binds Z.K a b []
def Oz.up{Z:ZZ}{k j:Nat}{x:aG}{d:jq}{c:BP}(o:Oz Z k x d c)(h:autoParam (k<=j) Bb):Oz Z j x d c:=let⟨f,e,a,b⟩:=o;⟨f,e,a.mono h,b⟩
noncomputable abbrev zX(X:Cx):ZZ:=⟨X.prog,X.w,X.K,X.mg,X.base⟩
noncomputable def KU:List (aG×jg):=[("len",.builtin "len"),("abs",.builtin "abs"),("int",.type "int"),("tuple",.type "tuple"),("list",.type "list"),("bool",.type "bool"),("max",.builtin "max"),("min",.builtin "min"),("all",.builtin "all"),("any",.builtin "any"),("sorted",.builtin "sorted"),("set",.type "set")]
def btA{c:mz}(T:Tx c): ∀p∈KU,c p.1=C/\aB p.1=Y p.2:=by
 have h: ∀p∈KU,aB p.1=Y p.2:=by decide+kernel
 intro p b;refine⟨?_,h p b⟩;have a:p∈KU:=b;unfold KU at a;simp only[lz,lY,mX] at a;rcases a with rfl|rfl|rfl|rfl|rfl|rfl|rfl|rfl|rfl|rfl|rfl|rfl
 .exact T.n_len
 .exact T.n_abs
 .exact T.n_int
 .exact T.n_tuple
 .exact T.n_list
 .exact T.n_bool
 .exact T.n_max
 .exact T.n_min
 .exact T.n_all
 .exact T.n_any
 .exact T.n_sorted
 .exact T.n_set
theorem Io{z:aG}{v:jg}: ∀{l:List (aG×jg)},l.lookup z=Y v->(z,v)∈l
 |[],h=>by cases h
 |(y,u)::l,h=>by
  rw[pd] at h;split at h
  .rename_i q;cases h;rw[vP q];exact .head _
  .exact .tail _ (Io h)
def Lu{a:mz}{z:aG}{v:jg}(T:Tx a)(h:KU.lookup z=Y v):a z=C:=(btA T _ (Io h)).1
def MX{z:aG}{v:jg}(h:KU.lookup z=Y v):aB z=Y v:=(show ∀p∈KU,aB p.1=Y p.2 from by decide+kernel) _ (Io h)
section
variable {X:Cx}{x z:aG}{e a b c st lo J:je}{M:kL}{Y fb fc fo fl fh:FO}{f g:F}{ft fu:FT}{p p2 p3 G U apos:bO}{A:kz}{L:LL}{B:SB}{H0:Hp}{fs:List FO}{dM:List F}{i j k:Nat}{tg:je}{S:bc}{Ss Ts:List bc}{u v:FS}
def xV(h1:autoParam (X.N[i]?=XV x) AQ)(l:autoParam (Ij X.env.scope x) uao)(m:autoParam (DB x) Bb)(n:autoParam ((x==("__classdict__":aG))=ZB) Bb):QO X (.Name x G) (jb i):=⟨PE.imp' (wN h1 l m n) λw O Q h=>by
 obtain⟨r,T,o,s,E,e,k⟩:=h;unfold jb at e
 cases J:r[i]? with
 |none=>rw[J] at e;cases e
 |some q=>
  cases q with
  |none=>rw[J] at e;cases e
  |some p=>obtain⟨d,b⟩:=p;rw[J] at e;obtain⟨rfl,rfl⟩:=jz e;obtain⟨t,v,h1,l⟩:=E.freeze J;exact⟨v,h1,k v O ⟨.refl,E,h1⟩⟩⟩
def xW(h1:autoParam (X.N[i]?=XV x) AQ)(l:autoParam (Ij X.env.scope x) uao)(n:autoParam (DB x) Bb)(q:autoParam ((x==("__classdict__":aG))=ZB) Bb):QX X (.Name x G) (lu i):=⟨PX.imp (wN h1 l n q) λw O Q h=>by
 obtain⟨s,T,r,t,E,e,k⟩:=h;unfold lu at e
 cases J:s[i]? with
 |none=>rw[J] at e;cases e
 |some o=>
  cases o with
  |none=>rw[J] at e;cases e
  |some p=>obtain⟨d,b⟩:=p;rw[J] at e;cases e;obtain⟨m,v,h1,l⟩:=E.freeze J;exact⟨v,h1,k v O<|BO.val .set m l⟩⟩
def xO(h:QX X e f):QO X e (jk f):=⟨PX.po h.h⟩
def x1{j}:QX X (.Constant .none j G) (fC .Ax):=⟨PX.imp Va λl O Q h=>by obtain⟨δ,T,r,d,E,e,k⟩:=h;cases e;exact k _ _ (BO.val .refl E (by first|exact Rep.mkInt|exact Rep.Ii|exact Rep.HM|exact Rep.mkStr))⟩
def x2{i j}:QX X (.Constant (.bool i) j G) (fC<|.bl i):=⟨XJ⟩
def x3{i j}:QX X (.Constant (.int i) j G) (fC<|.int i):=⟨PX.imp NV λl O Q h=>by obtain⟨δ,T,r,d,E,e,k⟩:=h;cases e;exact k _ _ (BO.val .refl E (by first|exact Rep.mkInt|exact Rep.Ii|exact Rep.HM|exact Rep.mkStr))⟩
def x4{i j}:QX X (.Constant (.str i) j G) (fC<|.str i):=⟨PX.imp U7 λl O Q h=>by obtain⟨δ,T,r,d,E,e,k⟩:=h;cases e;exact k _ _ (BO.val .refl E (by first|exact Rep.mkInt|exact Rep.Ii|exact Rep.HM|exact Rep.mkStr))⟩
def x5{i:Int}(h: ∃t,X.mg x=XV (.int i t))(g:autoParam (Gl X x) AQ)(d:autoParam (DB x) Bb):QX X (.Name x G) (fC<|.int i):=let⟨_,h⟩:=h;⟨QZ g h d⟩
def x7:QX X (.Dict [] [] G) Pl:=⟨PX.imp aeo λo O Q h=>by obtain⟨n,T,m,l,E,e,k⟩:=h;cases e;intro p d;have B:=Ops.nil E;exact(B.done k) p _ d (lG d) ⟨[],.inl ⟨[],jr,rfl,rfl⟩,AJ.nil⟩⟩
def lO{d:Operator}{g:D->D->Option (D×Bool)}(o:QP X (b3 d) g)(l:QO X a Y)(m:QO X b fb):QX X (.BinOp a d b G) (jx g Y fb):=⟨Nk<|XQ o.h l.h m.h⟩
def zL(d:QO X a Y):QX X (.UnaryOp .USub a G) (ou zR Y):=⟨px1<|XO Qo d.h⟩
def Za(q:QX X a f):QX X (.UnaryOp .Not a G) (VU f):=⟨PX.imp (U9 q.h) λI O Q s=>by obtain⟨w,T,r,y,E,e,k⟩:=s;obtain⟨p,h1,e⟩:=iU e;obtain⟨⟨c,N⟩,n,m⟩:=iU e;obtain⟨o,rfl⟩:=By n;obtain⟨rfl,rfl⟩:=jz m;refine⟨w,T,_,_,E,h1,λv l P=>?_⟩;obtain⟨d,t⟩:=P.rep E;exact⟨c,t.bl,k _ l (BO.val P.1 d Rep.Ii)⟩⟩
def Au{d:dz}{g:D->D->Option (D×Bool)}(o:QP X (aM d) g)(l:QO X a Y)(m:QO X b fb)(n:autoParam (dH d b=ZB) uaq):QX X (.Compare a [d] [b] G) (jx g Y fb):=⟨Nk<|Ro o.h l.h m.h n⟩
def Br{d:dz}{g:D->D->Option (D×Bool)}(o:QP X (aM d) g)(l:QO X a Y)(m:QO X b fb)(n:autoParam (dH d b=ZB) uaq):QT X (.Compare a [d] [b] G) (fT<|jx g Y fb):=⟨
 PT.imp' (Q7 o.h l.h m.h n) λr T Q q=>RA XH<|S8 q⟩
def xCh{d l:dz}(m:QO X a Y)(n:QO X b fb)(o:QO X c fc)(s:autoParam (A5 d) uas)(t:autoParam (A5 l) uas)(q:autoParam (lastMarks [d,l] [b,c]=ZB) uam):QX X (.Compare a [d,l] [b,c] G) (Bh d l Y fb fc):=⟨
 PX.imp (aep (JD s) (JD t) m.h n.h o.h q) λw T Q r=>adK r⟩
def MU{op}(d:QX X a f):QX X (.BoolOp op [a] G) f:=⟨U8 d.h⟩
def HG(C:QX X a f)(I:QX X (.BoolOp .And (b::M) G) g):QX X (.BoolOp .And (a::b::M) G) (Cc f g):=⟨PX.imp (Vd C.h I.h) λF H Q O=>by
 obtain⟨D,T,r,l,E,e,k⟩:=O;obtain⟨p,h1,e⟩:=iU e;obtain⟨⟨c,m⟩,y,d⟩:=iU e;obtain⟨o,rfl⟩:=By y;refine⟨D,T,_,_,E,h1,λv q P=>?_⟩;obtain⟨n,N⟩:=P.rep E;refine⟨c,N.bl,?_⟩
 cases c with
 |true=>rw[jl AM] at d;rw[jl AM];exact⟨m,T,r,l,n,d,λw s t=>k w s<|t.pre P.1⟩
 |false=>rw[jv kR] at d;rw[jv kR];obtain⟨rfl,rfl⟩:=jz d;exact k _ q (BO.val P.1 n Rep.Ii)⟩
def Xg(w:QT X a ft)(y:QW X (.BoolOp .And (b::M) G) fu):QW X (.BoolOp .And (a::b::M) G) (zF ft fu):=⟨PW.imp' (UW w.h y.h) λO N Q C=>by
 obtain⟨I,T,c,l,E,e,k⟩:=C;obtain⟨⟨o,d⟩,h1,e⟩:=iU e;refine⟨I,T,o,d,E,h1,λr n m=>?_⟩
 cases o with
 |true=>rw[jl H] at e;rw[jl H];exact⟨d,T,c,l,m,e,λs t q=>k s (n.trans t) q⟩
 |false=>rw[jv kR] at e;rw[jv kR];obtain⟨rfl,rfl⟩:=jz e;exact k r n m⟩
def wOr(w:QT X a ft)(y:QW X (.BoolOp .Or (b::M) G) fu):QW X (.BoolOp .Or (a::b::M) G) (Sn ft fu):=⟨PW.imp' (XM w.h y.h) λO N Q C=>by
 obtain⟨I,T,c,l,E,e,k⟩:=C;obtain⟨⟨o,d⟩,h1,e⟩:=iU e;refine⟨I,T,o,d,E,h1,λr n m=>?_⟩
 cases o with
 |true=>rw[jl H] at e;rw[jl H];obtain⟨rfl,rfl⟩:=jz e;exact k r n m
 |false=>rw[jv kR] at e;rw[jv kR];exact⟨d,T,c,l,m,e,λs t q=>k s (n.trans t) q⟩⟩
def S6(d:QT X a ft):QW X (.BoolOp .And [a] G) ft:=⟨Q5 d.h⟩
def Xf(d:QT X a ft):QW X (.BoolOp .Or [a] G) ft:=⟨UU d.h⟩
def tW{op}(h:QW X (.BoolOp op M G) ft):QT X (.BoolOp op M G) ft:=⟨PW.pt h.h⟩
def KO(m:QT X a ft):QT X (.UnaryOp .Not a G) (zE ft):=⟨PT.imp' (U0 m.h) λr O Q n=>by obtain⟨o,T,c,q,E,e,k⟩:=n;obtain⟨⟨l,d⟩,h1,e⟩:=iU e;obtain⟨rfl,rfl⟩:=jz e;exact⟨o,T,l,d,E,h1,k⟩⟩
def Ek(h:QX X e f)(l:autoParam (∀d,isTrue e X.env d=(do let v <-d;c9 e.pos;cB [v] (truthy v))) Kt):QT X e (fT f):=⟨PT.imp' (UZ h.h l) λn T Q m=>S8 m⟩
def N4(y:QT X c ft)(s:QX X a f)(t:QX X b g):QX X (.IfExp c a b G) (LI ft f g):=⟨PX.imp (aen y.h s.h t.h) λN H Q C=>by
 obtain⟨I,T,r,l,E,e,k⟩:=C;obtain⟨⟨c,d⟩,h1,e⟩:=iU e;refine⟨I,T,c,d,E,h1,λO q o=>?_⟩
 cases c with
 |true=>rw[jl AM] at e;rw[jl AM];exact⟨d,T,r,l,o,e,λw m n=>k w m<|n.pre q⟩
 |false=>rw[jv kR] at e;rw[jv kR];exact⟨d,T,r,l,o,e,λw m n=>k w m<|n.pre q⟩⟩
def FK(d:QO X a Y)(l:QO X b fb)(m:autoParam (Fj b) uau):QX X (.Subscript a b G) (jx E9 Y fb):=⟨Nk<|Tn Tt d.h l.h m⟩
def Zb(n:un X.A 1)(d:QO X a Y)(l:QO X b fb)(m:autoParam (Fj b) uau):QX X (.Subscript a b G) (jx IC Y fb):=⟨Nk<|Tn (X9 n) d.h l.h m⟩
def W9(r:QO X a Y)(s:QO X J fh):QX X (.Subscript a (.Slice X0 (XV J) X0 p2) G) (CZ Y fh):=⟨
 PX.imp (aek Zp r.h Rf<|Rc s.h) λP H Q w=>by
  obtain⟨O,T,K,N,E,e,k⟩:=w;unfold CZ at e;obtain⟨⟨o,d⟩,h1,e⟩:=iU e;obtain⟨⟨I,m⟩,q,e⟩:=iU e;dsimp only at e;split at e
  .rename_i i J;obtain⟨x,y,e⟩:=iU e;obtain⟨z,C,e⟩:=iU e;obtain⟨rfl,rfl⟩:=jz e;refine⟨O,T,o,d,E,h1,λv D l=>⟨d,Fi T o v,I,m,l.er E,q,λu F n=>?_⟩⟩;have B:=Ops.cons E l<|Ops.cons (l.er E) n<|Ops.nil<|n.er<|l.er E;exact⟨i,jX<|B.view (j:=1) AM AM J,_,x,z,λp t=>B.np t,B.view (j:=0) AM AM y,C,B.done k⟩
  .cases e⟩
def ED:QL X [] []:=⟨⟨xH⟩⟩
def xL(d:QX X e f)(l:QL X M dM)(m:autoParam (SE X e M) AQ):QL X (e::M) (f::dM):=⟨⟨rH (PX.po d.h) l.h.pa m⟩⟩
def B6:QA X [] []:=⟨xH⟩
def xA(d:QO X e Y)(l:QA X M fs)(m:autoParam (SE X e M) AQ):QA X (e::M) (Y::fs):=⟨rH d.h l.h m⟩
def qL{k}(h:QL X M dM):QX X (.Tuple M k G) (qV dM):=⟨UN h.h.pa⟩
def qM(h:QL X M dM):QX X (.List M G) (sY dM):=⟨US h.h.pa⟩
def xB{id:String}{g:List D->Option (D×Bool)}(T:Tx X.mg)(hv:KU.lookup z=XV (.builtin id))(m:QC X (.builtin id) g)(l:QA X (e::M) fs)(o:autoParam (Gl X z) AQ)(q:autoParam (z≠"__name__") Bb)(r:autoParam (DB z) Bb)(n:autoParam (SE X e M) AQ)(d:autoParam (BA X G M) AQ):QX X (.Call (.Name z p) (e::M) [] G) (jy g fs):=⟨Q4 m.h o (Lu T hv) (MX hv) l.h q r n d⟩
def xT{id:String}{g:List D->Option (D×Bool)}(T:Tx X.mg)(hv:KU.lookup z=XV (.type id))(m:QC X (.type id) g)(l:QA X (e::M) fs)(o:autoParam (Gl X z) AQ)(q:autoParam (z≠"__name__") Bb)(r:autoParam (DB z) Bb)(n:autoParam (SE X e M) AQ)(d:autoParam (BA X G M) AQ):QX X (.Call (.Name z p) (e::M) [] G) (jy g fs):=⟨Jw m.h o (Lu T hv) (MX hv) l.h q r n d⟩
def xI{t:Ty}(T:Tx X.mg)(d:KU.lookup z=XV (.type t.n))(o:QO X e Y)(q:autoParam (Gl X "isinstance") AQ)(l:autoParam (Gl X z) AQ)(r:autoParam (z≠"__name__") Bb)(s:autoParam (DB z) Bb)
  (s1:autoParam (SE X e [.Name z p2]) AQ)(w:autoParam (SE X (.Name z p2) []) AQ)(m:autoParam (BA X G [.Name z p2]) AQ):
  QX X (.Call (.Name "isinstance" p) [e,.Name z p2] [] G) (ou (wV [t]) Y):=⟨UT o.h q T.n_isinstance l (Lu T d) (MX d) r s wd s1 w m⟩
def xI2{t r:Ty}{d:aG}{m:bO}{l}(T:Tx X.mg)(q:KU.lookup z=XV (.type t.n))(o:KU.lookup d=XV (.type r.n))(H:QO X e Y)(I:autoParam (Gl X "isinstance") AQ)(w:autoParam (Gl X z) AQ)(O:autoParam (z≠"__name__") Bb)(Q:autoParam (DB z) Bb)(s:autoParam (Gl X d) AQ)(E:autoParam (d≠"__name__") Bb)(y:autoParam (DB d) Bb)
  (s1:autoParam (SE X e [.Tuple [.Name z p2,.Name d p3] l m]) AQ)(N:autoParam (SE X (.Tuple [.Name z p2,.Name d p3] l m) []) AQ)
  (s3:autoParam (SE X (.Name z p2) [.Name d p3]) AQ)(s4:autoParam (SE X (.Name d p3) []) AQ)
  (C:autoParam (BA X G [.Tuple [.Name z p2,.Name d p3] l m]) AQ):
  QX X (.Call (.Name "isinstance" p) [e,.Tuple [.Name z p2,.Name d p3] l m] [] G) (ou (wV [t,r]) Y):=⟨QY H.h I T.n_isinstance w (Lu T q) (MX q) O Q s (Lu T o) (MX o) E y wd s1 N s3 s4 C⟩
def xU{k:Nat}{y:jq}{d:BP}(O:Oz (zX X) k x y d)(s:BN k X.A)(n:QA X (e::M) fs)(q:autoParam (Gl X x) AQ)(t:autoParam (DB x) Bb)
  (o:autoParam (SE X e M) AQ)(m:autoParam (BA X G M) AQ):QX X (.Call (.Name x p) (e::M) [] G) (jI d fs):=
 let⟨_,_,ok,r,w,l⟩:=O;⟨QR ok s q r w l n.h t o m⟩
def Uh{T:String}{mk:List D->D}{o:Bool}(d:Tx X.mg)(hv:KU.lookup z=XV (.type T))(r:QA X [a,b] [Y,fb])(q:(T="list"/\mk= .lst/\o=YP)\/(T="tuple"/\mk= .tup/\o=ZB):=by first|exact .inl ⟨rfl,rfl,rfl⟩|exact .inr ⟨rfl,rfl,rfl⟩)(s:autoParam (X.calm=YP) AQ)(t:autoParam (Gl X z) AQ)(w:autoParam (z≠"__name__") Bb)(y:autoParam (DB z) Bb)(m:autoParam (Gl X "range") AQ)
  (s1:autoParam (SE X (.Call (.Name "range" p2) [a,b] [] p3) []) AQ)(Q:autoParam (SE X a [b]) AQ)
  (n:autoParam (BA X G []) AQ)(l:autoParam (BA X p3 [b]) AQ):
  QX X (.Call (.Name z p) [.Call (.Name "range" p2) [a,b] [] p3] [] G) (jy (LA mk o) [Y,fb]):=⟨UP q s t (Lu d hv) (MX hv) w y m d.n_range r.h s1 Q n l⟩
def HF(hv:QO X (.Name x U) (jb i))(he:QX X e f)(j7:autoParam (dI (.Name x U) "append" X.env (aT (.Name x U) X.env)=aT (.Name x U) X.env) AQ)
  (m8:autoParam (((aH G<|ac [e] X.env).all (λx=>!x.1)&&(cJ G<|bW [] X.env).all (λx=>x.1.isSome)&&decide ([e].length+([]:List cM).length+(if([]:List cM).isEmpty then 0 else 1)<30))=YP) AQ)
  (j6:autoParam ((apos.endLine==G.line)=YP) AQ)(C:autoParam (SE X e []) AQ)(d8:autoParam (BA X G []) AQ):QX X (.Call (.Attribute (.Name x U) "append" apos) [e] [] G) (nr i f):=⟨
 PX.imp (N0 GP PySem.F.slot_list_append PySem.F.type_list_append acJ hv.h (mw he.h pZ C) j7 m8 j6 C d8) λσ H Q V=>by
 obtain⟨n,T,rr,δ',E,e,k⟩:=V;unfold nr at e;split at e
 .rename_i l0 t;obtain⟨⟨r,o⟩,h1,e⟩:=iU e;dsimp only at e;split at e
  .rename_i l w;obtain⟨W,e⟩:=jH e;obtain⟨rfl,rfl⟩:=uk e;refine⟨n,T,.slot i,n,E,by unfold jb;rw[t],λv H1 P=>?_⟩;obtain⟨D,m,d⟩:=P;obtain⟨a,g1,R,g2,g3⟩:=m.own i _ t;rw[d] at g1;cases g1;refine⟨.inl ⟨rfl,R,Gm.of g2⟩,n,T,r,o,m,h1,λy H2 s=>?_⟩;obtain⟨q,ry⟩:=s.rep m;obtain⟨a',I,xs,Z,O⟩:=q.own i _ w;rw[d] at I;cases I;refine⟨_,xs,y,rfl,rfl,Z,by rw[O.length];exact W,?_⟩;obtain⟨N,K⟩:=q.write w d<|O.append<|AJ.one ry;exact k _ _ (BO.val ((D.trans s.1).trans K) N Rep.HM)
  .cases e
 .cases e⟩
def Zc(hv:QO X (.Name x U) (jb i))(he:QX X e f)(j7:autoParam (dI (.Name x U) "extend" X.env (aT (.Name x U) X.env)=aT (.Name x U) X.env) AQ)
  (m8:autoParam (((aH G<|ac [e] X.env).all (λx=>!x.1)&&(cJ G<|bW [] X.env).all (λx=>x.1.isSome)&&decide ([e].length+([]:List cM).length+(if([]:List cM).isEmpty then 0 else 1)<30))=YP) AQ)
  (j6:autoParam ((apos.endLine==G.line)=YP) AQ)(I:autoParam (SE X e []) AQ)(d8:autoParam (BA X G []) AQ):QX X (.Call (.Attribute (.Name x U) "extend" apos) [e] [] G) (Ac i f):=⟨
 PX.imp (N0 GP PySem.F.slot_list_extend PySem.F.type_list_extend acI hv.h (mw he.h pZ I) j7 m8 j6 I d8) λσ H Q hw=>by
 obtain⟨s,T,rr,δ',E,e,k⟩:=hw;unfold Ac at e;split at e
 .rename_i l0 w;obtain⟨⟨r,n⟩,h1,e⟩:=iU e;dsimp only at e;split at e
  .rename_i m l C;obtain⟨hz,e⟩:=jH e;obtain⟨rfl,rfl⟩:=uk e;refine⟨s,T,.slot i,s,E,by unfold jb;rw[w],λv H1 P=>?_⟩;obtain⟨Z,o,d⟩:=P;obtain⟨a,g1,dN,g2,g3⟩:=o.own i _ w;rw[d] at g1;cases g1;refine⟨.inl ⟨rfl,dN,Gm.of g2⟩,s,T,_,n,o,h1,λy W q=>?_⟩;obtain⟨t,ry⟩:=q.rep o;obtain⟨p,rfl,hp,eY,R,o1,O⟩:=q.2;obtain⟨a',N,xs,q2,D⟩:=t.own i _ C;rw[d] at N;cases N;have gE:AJ X.K W (λb=>AO σ n b\/T b) m R:=AJ.mono (λ_ _ e _=>e) (λb _ z=>z.elim bb λz=>bP<|bb z) O;refine⟨_,p,xs,R,rfl,rfl,q2,o1,by rw[D.length,O.length];exact hz,?_⟩;obtain⟨V,K3⟩:=t.write C d<|D.append gE;exact k _ _ (BO.val ((Z.trans q.1).trans K3) V Rep.HM)
  .cases e
 .cases e⟩
def Y9(hv:QO X (.Name x U) (jb i))(he:QO X e fo)(j7:autoParam (dI (.Name x U) "pop" X.env (aT (.Name x U) X.env)=aT (.Name x U) X.env) AQ)
  (m8:autoParam (((aH G<|ac [e] X.env).all (λx=>!x.1)&&(cJ G<|bW [] X.env).all (λx=>x.1.isSome)&&decide ([e].length+([]:List cM).length+(if([]:List cM).isEmpty then 0 else 1)<30))=YP) AQ)
  (j6:autoParam ((apos.endLine==G.line)=YP) AQ)(hs:autoParam (SE X e []) AQ)(d8:autoParam (BA X G []) AQ):QX X (.Call (.Attribute (.Name x U) "pop" apos) [e] [] G) (Bf i fo):=⟨
 PX.imp (N0 GP PySem.F.slot_list_pop PySem.F.type_list_pop Of hv.h (mw he.h pZ hs) j7 m8 j6 hs d8) λσ H Q hw=>by
 obtain⟨C,T,rr,δ',E,e,k⟩:=hw;unfold Bf at e;split at e
 .rename_i l0 N;obtain⟨⟨o,q⟩,h1,e⟩:=iU e;dsimp only at e;split at e
  .rename_i V l hk D;split at e
   case isFalse=>cases e
   rename_i R;obtain⟨j,hj,e⟩:=iU e;obtain⟨d,hd,e⟩:=iU e;obtain⟨rfl,rfl⟩:=jz e;refine⟨C,T,.slot i,C,E,by unfold jb;rw[N],λv H1 P=>?_⟩;obtain⟨K1,r,m⟩:=P;obtain⟨a,g1,dN,g2,g3⟩:=r.own i _ N;rw[m] at g1;cases g1;refine⟨.inl ⟨rfl,dN,Gm.of g2⟩,C,T,o,q,r,h1,λy H2 O=>?_⟩;have B:=Ops.cons r O<|Ops.nil<|O.er r;have vy:=jX<|B.view (j:=0) AM AM hk;have I:ER X.K H2 T σ q:=B.er.mono (λ_ _ e _=>e) (λb _ z=>B.tt b z) λa z=>B.er.dom a<|B.tt a z;obtain⟨a',W,Z,q2,t⟩:=I.own i _ D;rw[m] at W;cases W;obtain⟨w,w1,w2⟩:=t.get hd;have hl:=t.length;have eD:HY Z.length V=XV j:=by rw[hl];exact hj
   obtain⟨s1,s2,s3,s4⟩:=EM eD;obtain⟨E3,s⟩:=I.write D m<|AJ.erase j t;refine⟨_,Z,V,j,w,rfl,by rw[vy],q2,R.1,R.2,s1,w1,?_⟩;exact k _ _ (BO.val ((K1.trans B.keep).trans s) E3<|Rep.mono (λb o e n=>s.kp b o e λz=>n<|.inl z) (λb _ z=>z.imp (s.ow b) id) w2)
  .cases e
 .cases e⟩
def MQ(T:Tx X.mg)(t:QA X [a] [Y])(w:autoParam (Gl X "range") AQ)(C:autoParam (ac [a] X.env=[(ZB,aT a X.env)]) AQ):QI X B tg (.Call (.Name "range" p) [a] [] G) (yc Y):=⟨PI.imp' (acY w T.n_range t.h C) λF H R I=>by
 obtain⟨O,T,D,Q,E,e,k⟩:=I;obtain⟨⟨os,l⟩,h1,e⟩:=iU e;refine⟨O,T,os,l,E,h1,λn o N B=>?_⟩;dsimp only at e;split at e
 .rename_i j m;obtain⟨⟨q,s⟩,e⟩:=jH e;obtain⟨rfl,rfl⟩:=uk e;have hv:=vg B m (j:=0) AM;obtain⟨y,_⟩:=pY m
  have:n=[.int j]:=by
   have d:=B.len
   cases n with
   |nil=>simp at hv
   |cons v r=>
    cases r with
    |nil=>simp at hv;rw[hv]
    |cons _ _=>simp at y d;lia
  exact⟨j,this,q,s,k _ o B.keep (B.er.mono (λ_ _ e _=>e) (λb _ z=>B.tt b z) λa z=>B.er.dom a<|B.tt a z) (A4 0 j.toNat)⟩
 .cases e⟩
def iR2(T:Tx X.mg)(w:QA X [a,b] [Y,fb])(C:autoParam (Gl X "range") AQ)(O:autoParam (ac [a,b] X.env=[(ZB,aT a X.env),(ZB,aT b X.env)]) AQ)(s:autoParam (ac [b] X.env=[(ZB,aT b X.env)]) AQ):QI X B tg (.Call (.Name "range" p) [a,b] [] G) (A0 Y fb):=⟨PI.imp' (acX C T.n_range w.h O s) λP H R Q=>by
 obtain⟨N,T,K,D,E,e,k⟩:=Q;obtain⟨⟨os,n⟩,h1,e⟩:=iU e;refine⟨N,T,os,n,E,h1,λo q F B=>?_⟩;dsimp only at e;split at e
 .rename_i i j m;obtain⟨t,e⟩:=jH e;obtain⟨rfl,rfl⟩:=uk e;have hv:=vg B m (j:=0) AM;have l:=vg B m (j:=1) AM;obtain⟨I,_⟩:=pY m
  have:o=[.int i,.int j]:=by
   have d:=B.len
   match o,hv,l with
   |[x,y],hv,l=>simp at hv l;rw[hv,l]
   |x::y::z::r,_,_=>simp at I d;lia
  exact⟨i,j,this,t,k _ q B.keep (B.er.mono (λ_ _ e _=>e) (λb _ z=>B.tt b z) λa z=>B.er.dom a<|B.tt a z) (A4 i (j-i).toNat)⟩
 .cases e⟩
def iE{d:kL}{q:Nat}{r:bO}(T:Tx X.mg)(l:QX X a f)(m:autoParam (Gl X "enumerate") AQ)(n:autoParam (ac [a] X.env=[(ZB,aT a X.env)]) AQ)(s0:autoParam (SE X a []) AQ):QI X B (.Tuple d q r) (.Call (.Name "enumerate" p) [a] [] G) (zg 0 f):=⟨PI.imp' (aeg m T.n_enumerate (rH (PX.po l.h) xH s0) n) λs Q R o=>Gw o⟩
def iS(h:QX X e f):QI X B tg e (kP f):=⟨PI.imp' (aed (B:=B) (PX.po h.h) Qt) λq T R l=>by
 have:kP f=Iz (jk f):=funext λm=>by
  unfold kP Iz jk
  cases f m with
  |none=>rfl
  |some p=>obtain⟨⟨d,o⟩,n⟩:=p;cases d<;>rfl
 rwa [this] at l⟩
def iZV{d:kL}{w:Nat}{y:bO}(T:Tx X.mg)(q:QO X a (jb i))(r:QO X b (jb j))(l:autoParam (B i) Bb)(m:autoParam (B j) Bb)(s:autoParam (Gl X "zip") AQ)(t:autoParam (SE X a [b]) AQ)(n:autoParam (SE X b []) AQ)(o:autoParam (BA X G [b]) AQ):
  QI X B (.Tuple d w y) (.Call (.Name "zip" p) [a,b] [] G) (Iy (jb i)<|jb j):=⟨aec s T.n_zip q.h r.h (Jq l) (Jq m) t n o⟩
def gN(l:X.N.Nodup)(J:autoParam (X.N[i]?=XV x) AQ)(q:autoParam (Loc X.env.scope x) uaw)(n:autoParam (X.fn x=YP\/X.env.scope.names.lookup x=XV .local) uaw)(m:autoParam (A i) Bb):QG X A (.Name x G) (ja i):=⟨PG.imp' (Jy l J q n) λv w O Q o=>by obtain⟨t,T,d,s,E,r,e,k⟩:=o;obtain⟨J,rfl⟩:=jH e;obtain⟨h1,h⟩:=xy (A:=A) (r:=(d,ZB)) (v:=v) E (BO.val .refl E r) J m;exact k _ h1 h⟩
def gT{d l:Tg}{k:Nat}(h1:QG X A a d)(m:QG X A b l)(n:autoParam (X.calm=YP) AQ)(r:autoParam ((aZ [a,b] X.env).map (·.2)=cW a X.env::(aZ [b] X.env).map (·.2)) AQ)(s:autoParam ((aZ [b] X.env).map (·.2)=cW b X.env::(aZ [] X.env).map (·.2)) AQ)
  (o:autoParam ((aZ [a,b] X.env).length=2) AQ)(q:autoParam ((aZ [a,b] X.env).findIdx? (·.1)=C) AQ):QG X A (.Tuple [a,b] k G) (Cp [d,l]):=⟨Rj n (CB h1.h (CB m.h aeh s) r) o H q⟩
def f0:QF X [] kx:=⟨λd s m O Q N h=>by obtain⟨n,T,b,l,E,e,k⟩:=h;cases e;exact Rh d s m O Q N<|k O .refl E⟩
def f1(h:QT X e ft):QF X [e] ft:=⟨Rg h.h⟩
def bE{m:oV}{sc:jQ}{d:iW}{n:Nat}(he:QX X e f)(hn:autoParam (m[n+1]?=X0) AQ):QB X A d (.ListComp e m sc p) n (kZ f):=⟨PB.imp' (Rt hn he.h) λw H N D=>by
 obtain⟨I,T,Q,Z,W,B,e,k⟩:=D;obtain⟨⟨r,l⟩,h1,e⟩:=iU e;obtain⟨K,e⟩:=jH e;obtain⟨rfl,rfl⟩:=uk e;refine⟨I,T,r,l,B.er,h1,λv q P=>?_⟩;obtain⟨y,V⟩:=P.rep B.er;have C:SK A w I H w l q:=P.1.sk;have O:=B.step C y;obtain⟨t,F,E⟩:=O.at';refine⟨t,F,by rw[E.length];exact K,k w _ ?_ ?_⟩
 .have:KL A d w l q w l (upd q d<|.lst<|t++[v]):=⟨λa o e n R=>by rw[jA R];exact e,λi a z=> .inl z,λa z=>by
   by_cases s:a=d
   .subst s;rw[jr];simp
   .rw[jA s];exact z,λ_ _=>rfl⟩
  exact C.Lm.trans this
 .have hk: ∀b o,q b=XV o-> ¬T b->upd q d (.lst<|t++[v]) b=XV o:=λb o e n=>by rw[jA<|by intro z;subst z;exact n B.td];exact e
  have hd: ∀a,T a->Ow (upd q d (.lst<|t++[v]) a):=λa z=>by
   by_cases s:a=d
   .subst s;rw[jr];trivial
   .rw[jA s];exact y.dom a z
  refine⟨y.mono hk (λ_ _ z=>z) hd,B.td,t++[v],jr,?_⟩;exact AJ.mono (λb o e n=>hk b o e λz=>n<|.inr z) (λ_ _ z=>z)<|E.append<|AJ.one V⟩
def bF{l:oV}{q:jQ}{d:iW}{n:Nat}{c:nS}{o:EV}{tt:Tg}{fb:FB}(y:l[n+1]?=XV c)(O:QI X (λ_=>False) c.target c.iter o)(N:QG X A c.target tt)(r:QF X c.ifs ft)(T:QB X A d (.ListComp e l q p) (n+1) fb)(s:autoParam (X.xe=λ_ _=>False) AQ)(w:autoParam (X.calm=YP) AQ)
  (t:autoParam (c.is_async=0) AQ)(E: ∀m,l[n+1+1]?=XV m->m.is_async=0:=by intro m h;cases h;try rfl)(Q:autoParam (∀x,aA c.iter X.env x=pure x) Kt):QB X A d (.ListComp e l q p) n (Fc o tt ft fb):=⟨Rr s w (bb ⟨_,_,_,_,rfl⟩) y t E Q O.h N.h r.h T.h⟩
def Ia{N P:jq}{l scope:jQ}{N':jq}{d:kj}(S:AN N P l)(h:autoParam (E7 N l scope N' d k=YP) NZ)(m:autoParam (X.N=N) AQ)(n:autoParam (X.env.scope=l) AQ):Ba X N' scope d k:=IS m n h
def xC{c:nS}{jF:oV}{s:je}{scope:jQ}{w:EV}{tt:Tg}{y:FT}{fb:FB}{m:kj}{N':jq}(C:Ba X N' scope m k)(T:N'.Nodup)(pi:QI X (λi=>i∉m) c.target c.iter w)
  (Q: ∀(o:kF) (C:iW) (r:iZ) (n:Hp) (q:kN) (l:jK),(X.comp N' scope o C r n q l).N.Nodup->
   QG (X.comp N' scope o C r n q l) (λi=>A7 m<=i) c.target tt/\QF (X.comp N' scope o C r n q l) c.ifs y/\ ∀d,QB (X.comp N' scope o C r n q l) (λi=>A7 m<=i) d (.ListComp s (c::jF) scope G) 0 fb)
  (H:autoParam (X.calm=YP) AQ)(E:autoParam (c.is_async=0) AQ)(O:autoParam (∀t,jF[0]?=XV t->t.is_async=0) uay)(I:autoParam (∀x,aA c.iter X.env x=pure x) Kt):QX X (.ListComp s (c::jF) scope G) (ki m k w tt y fb):=⟨Q0 C H E O I pi.h λo C r n q l=>let⟨a,b,c⟩:=Q o C r n q l T;⟨a.h,b.h,λd=>(c d).h⟩⟩
def sC{c:nS}{jF:oV}{n:je}{scope:jQ}{y:EV}{tt:Tg}{H:FT}{fb:FB}{m:kj}{N':jq}{E w:bO}(Q:X.N.Nodup)(C:Ba X N' scope m k)(nd:N'.Nodup)(pi:QI X (λi=>i∉m) c.target c.iter y)
  (l9: ∀(q:kF) (C:iW) (s:iZ) (o:Hp) (r:kN) (l:jK),(X.comp N' scope q C s o r l).N.Nodup->
   QG (X.comp N' scope q C s o r l) (λi=>A7 m<=i) c.target tt/\QF (X.comp N' scope q C s o r l) c.ifs H/\ ∀d,QB (X.comp N' scope q C s o r l) (λi=>A7 m<=i) d (.ListComp n (c::jF) scope G) 0 fb)
  (I:autoParam (dB (.ListComp n (c::jF) scope G) (XV<|.Name x E) w.line X.env=pure YP) AQ)(J:autoParam (X.N[i]?=XV x) AQ)(hx:autoParam (X.env.scope.names.lookup x=XV .local) AQ)(hf:autoParam (X.fn x=YP) AQ)(O:autoParam (A i) Bb)
  (hc:autoParam (X.calm=YP) AQ)(T:autoParam (c.is_async=0) AQ)(i9:autoParam (∀t,jF[0]?=XV t->t.is_async=0) uay)(hs:autoParam (∀x,aA c.iter X.env x=pure x) Kt):QS X A L H0 (.Assign [.Name x E] (.ListComp n (c::jF) scope G) w) (lH i<|ki m k y tt H fb):=⟨aez I C hc T i9 hs pi.h (Jy Q J (bb hx)<|bb hf) O λq C s o r l=>let⟨a,b,c⟩:=l9 q C s o r l nd;⟨a.h,b.h,λd=>(c d).h⟩⟩
def s0:QQ X A L H0 [] jG:=⟨IJ.imp' Ra λD l Q d=>by obtain⟨δ,T,h,E,m,e,k⟩:=d;cases e;exact k l Q .refl E⟩
def s1(h:QS X A L H0 S u)(C:QQ X A L H0 Ss v):QQ X A L H0 (S::Ss) (ji u v):=⟨IJ.imp' (aeB h.h C.h) λD N H I=>by
 obtain⟨δ,T,s,E,t,e,k⟩:=I;obtain⟨o,y,e⟩:=iU e;refine⟨δ,T,o,E,t,y,?_⟩
 cases o with
 |nx δ1=>
  intro O Q q w;refine⟨δ1,T,s,w,t.step q,e,?_⟩
  cases s with
  |nx δ2=>exact λd l m n=>k d l (q.trans m) n
  |bk δ2=>exact λd l m n=>k d l (q.trans m) n
  |ct δ2=>exact λd l m n=>k d l (q.trans m) n
  |rt r δ2=>exact λv d l m R2=>k v d l (q.trans m) R2
 |rt r δ1=>cases e;exact k
 |bk δ1=>cases e;exact k
 |ct δ1=>cases e;exact k⟩
def sX:QS X A L H0 S HS:=⟨λd s o Q D O h=>by obtain⟨n,T,l,E,m,e,k⟩:=h;cases e⟩
def sR(h:QX X e f):QS X A L H0 (.Return (XV e) G) (lZ f):=⟨PS.imp' (Nz h.h) λD O Q s=>by
 obtain⟨w,T,t,E,n,e,k⟩:=s;obtain⟨p,l,e⟩:=iU e;cases e;refine⟨w,T,p.1,p.2,E,l,λv m P=>k v O m P.1.sk ?_⟩;obtain⟨⟨d,o⟩,y⟩:=p
 cases o with
 |false=>exact P.2
 |true=>obtain⟨q,h1,r,l⟩:=P.2;exact⟨q,h1,n.fresh r,l⟩⟩
def Ln(hl: ¬L.p i)(h1:autoParam (X.N[i]?=XV x) AQ)(r:Ij X.env.scope x:=by first|exact bb rfl|exact bP (bb AM)|exact bP<|bP AM)(h3:autoParam (DB x) Bb)(h4:autoParam ((x==("__classdict__":aG))=ZB) Bb):QS X A L H0 (.Return (XV<|.Name x p) G) (pD i):=⟨PS.imp' (Nz<|wN h1 r h3 h4) λD o H R=>by
 obtain⟨n,T,V,E,P,e,k⟩:=R;unfold pD at e
 cases J:n[i]? with
 |none=>rw[J] at e;cases e
 |some q=>
  cases q with
  |none=>rw[J] at e;cases e
  |some p=>
   obtain⟨d,b⟩:=p;have cP:i<(A7 n):=(xj.mp J).1
   cases b with
   |false=>rw[J] at e;cases e;obtain⟨v,h1,r⟩:=E.val i d J;exact⟨v,h1,k v o H .refl ⟨E,r⟩⟩
   |true=>
    rw[J] at e;cases e;obtain⟨a,h1,r⟩:=E.own i d J
    have h: ∀j b,B9 o (n.set i X0) j b->i≠j/\B9 o n j b:=λj b a'=>by
     obtain⟨m,g1,g2⟩:=a'
     rcases mx g1 with⟨_,_,q⟩|⟨ne,q⟩
     .cases q
     .exact⟨ne,m,q,g2⟩
    have l: ∀b,AO o (n.set i X0) b->AO o n b/\b≠a:=λb a'=>by
     obtain⟨j,m,g1,g2⟩:=a'
     obtain⟨ne,y,g3,O⟩:=h j b ⟨m,g1,g2⟩;exact⟨⟨j,y,g3,O⟩,λz=>ne<|by subst z;exact E.inj i j d y _ J g3 h1 O⟩
    have Q:AO o n a:=⟨i,d,J,h1⟩
    have sub: ∀b,H b≠X0->(AO o (n.set i X0) b\/(T b\/b=a))->(AO o n b\/T b):=λb _ z=>by
     rcases z with z|z|z
     .exact .inl (l b z).1
     .exact .inr z
     .subst z;exact .inl Q
    refine⟨.ref a,h1,k (.ref a) o H ⟨λ_ _ e _=>e,λj b z=> .inl (h j b z).2,λ_ z=>z,λ_ _=>rfl⟩ ⟨a,rfl,?_,?_,r.mono (λ_ _ e _=>e) sub λ_ e=>e⟩⟩
    .rcases P.ow i a ⟨d,J,h1⟩ with z|z
     .exact absurd z hl
     .exact z
    .refine⟨by rw[ur];exact E.len,λj m s=>?_,λj m s=>?_,λj k m K b s hk g1 g2=>?_,λb z t=>?_,λb z=>?_⟩
     .rcases mx s with⟨_,_,q⟩|⟨ne,q⟩
      .cases q
      .obtain⟨w,C,I⟩:=E.val j m q;exact⟨w,C,Rep.mono (λ_ _ e _=>e) sub I⟩
     .rcases mx s with⟨_,_,q⟩|⟨ne,q⟩
      .cases q
      .obtain⟨w,C,I⟩:=E.own j m q;exact⟨w,C,I.mono (λ_ _ e _=>e) sub λ_ e=>e⟩
     .obtain⟨_,y,W,Z⟩:=h j b ⟨m,s,g1⟩;obtain⟨_,F,q3,q4⟩:=h k b ⟨K,hk,g2⟩;exact E.inj j k y F b W q3 Z q4
     .obtain⟨z1,z2⟩:=l b z;rcases t with t|t
      .exact E.nT b z1 t
      .exact z2 t
     .rcases z with z|z
      .exact E.dom b z
      .subst z;exact E.KH Q⟩
def sE(h:QX X e f)(m:autoParam (dB e C G.line X.env=pure ZB) AQ):QS X A L H0 (.Expr e G) (pv f):=⟨PS.imp' (Rb h.h m) λD r Q n=>by obtain⟨q,T,o,E,s,e,k⟩:=n;obtain⟨p,l,e⟩:=iU e;cases e;exact⟨q,T,p.1,p.2,E,l,λv d P=>k r d P.1.sk (P.rep E).1⟩⟩
def sI(m:QT X c ft)(d:QQ X A L H0 Ss u)(l:QQ X A L H0 Ts v):QS X A L H0 (.If c Ss Ts G) (F7 ft u v):=⟨U1 m.h d.h l.h⟩
def sW{n:Nat}(l:QT X c ft)(d:QQ X A L H0 Ss u)(m:autoParam (fL (aj X.prog X.w) X.A X.env X.xe) uaA):QS X A L H0 (.While c Ss [] G) (qf ft u n):=⟨acS m l.h d.h⟩
def sF{d:EV}{t:Tg}(J:QI X (λ_=>False) tg e d)(n:QG X A tg t)(l:QQ X A L H0 Ss u)(o:autoParam (fL (aj X.prog X.w) X.A X.env X.xe) uaA)(m:autoParam (X.calm=YP) AQ)(q:autoParam (∀x,aA e X.env x=pure x) Kt):QS X A L H0 (.For tg e Ss [] G) (nh d t u):=⟨Q8 o m J.h n.h l.h q⟩
def sS(o:X.N.Nodup)(s:QX X e f)(J:autoParam (X.N[i]?=XV x) AQ)(C:autoParam (Loc X.env.scope x) uaC)(t:autoParam (X.fn x=YP\/X.env.scope.names.lookup x=XV .local) uaC)(q:autoParam (A i) Bb)(w:autoParam (dB e (XV<|.Name x p) G.line X.env=pure ZB) AQ):QS X A L H0 (.Assign [.Name x p] e G) (lH i f):=⟨PS.imp' (Ny o J C s.h w t) λD F H y=>by obtain⟨O,T,I,E,Q,e,k⟩:=y;obtain⟨⟨r,d⟩,n,e⟩:=iU e;obtain⟨J,rfl⟩:=jH e;refine⟨O,T,r,d,E,n,λv l P=>?_⟩;obtain⟨h1,m⟩:=xy (A:=A) E P J q;exact k _ l h1 m⟩
def sT{t:Tg}{pt:bO}(y:QX X e f)(C:QG X A (.Tuple M k pt) t)(I:autoParam (f3 [.Tuple M k pt] e G.line X.env=pure ZB) AQ)(d:autoParam (f4 [.Tuple M k pt] e X.env=pure X0) AQ)(h1:autoParam ((aZ [.Tuple M k pt] X.env).map (·.2)=[cW (.Tuple M k pt) X.env]) AQ):QS X A L H0 (.Assign [.Tuple M k pt] e G) (UA t f):=⟨PS.imp' (HZ y.h C.h I d h1) λD F H d=>by obtain⟨δ,T,O,E,N,e,k⟩:=d;obtain⟨⟨r,δ1⟩,h1,e⟩:=iU e;obtain⟨l,w,e⟩:=iU e;cases e;refine⟨δ,T,r,δ1,E,h1,λv q P=>?_⟩;obtain⟨o,Q⟩:=P.rep E;exact⟨δ1,T,r.1,l,o,Q,w,λm s n=>k m q (P.1.sk.trans s) n⟩⟩
def BR{m:bO}(hv:QO X (.Name x U) (jb i))(he:QX X e f)(J:QO X a fo)
  (ha:autoParam (∀v,cW (.Subscript (.Name x U) a m) X.env v=(do
   let w <-cB [v] (aT (.Name x U) X.env)
   let C' <-cB [v,w] (aT a X.env)
   c9 m
   cB [v,w,C'] (li w C' v)
   O2 [v,w,C'] [])) Kt)
  (hs:autoParam (f3 [.Subscript (.Name x U) a m] e G.line X.env=pure ZB) AQ)(y:autoParam (f4 [.Subscript (.Name x U) a m] e X.env=pure C) AQ)
  (h1:autoParam ((aZ [.Subscript (.Name x U) a m] X.env).map (·.2)=[cW (.Subscript (.Name x U) a m) X.env]) AQ):QS X A L H0 (.Assign [.Subscript (.Name x U) a m] e G) (qT i f fo):=⟨PS.imp' (HZ he.h (NO hv.h J.h adP ha) hs y h1) λD I H y=>by
 obtain⟨P,T,out,E,fi,e,k⟩:=y;obtain⟨⟨r,d⟩,h1,e⟩:=iU e;dsimp only at e;split at e
 case h_2=>cases e
 rename_i y0 h0;obtain⟨⟨o,t⟩,h2,e⟩:=iU e;dsimp only at e;split at e
 .rename_i kk l hk Q;obtain⟨j,hj,e⟩:=iU e;cases e;refine⟨P,T,r,d,E,h1,λv V n=>⟨d,Lv T r v,.slot i,d,n.er E,by unfold jb;rw[h0],λv2 H2 q=>⟨d,Lv T r v,o,t,q.er<|n.er E,h2,λv3 W P3=>?_⟩⟩⟩;have iO:FA X.K T I P H (.val r) d v V:=n;have B:=Ops.cons E iO<|Ops.cons (n.er E) q<|Ops.cons (q.er<|n.er E) P3<|Ops.nil<|P3.er<|q.er<|n.er E;have O:ER X.K W T I t:=B.er.mono (λ_ _ e _=>e) (λb _ z=>B.tt b z) λa z=>B.er.dom a<|B.tt a z;have s:I[i]?=XV (XV v2):=q.2.2;obtain⟨a,N,xs,q2,F⟩:=O.own i _ Q;rw[s] at N;cases N;have vk:=jX<|B.view (j:=2) AM AM hk;have rv:=B.rep E (j:=0) (r:=r) AM AM;refine⟨a,xs,kk,j,rfl,vk,q2,by rw[F.length];exact hj,?_⟩;obtain⟨R,Z⟩:=O.write Q s<|AJ.set rv j F;exact k _ _ (B.keep.trans Z).sk R
 .cases e⟩
def sDP{s:bO}(hu:un X.A 1)(hv:QO X (.Name x U) (jb i))(he:QX X e f)(J:QO X a fo)
  (ha:autoParam (∀v,cW (.Subscript (.Name x U) a s) X.env v=(do
   let ov <-cB [v] (aT (.Name x U) X.env)
   let iv <-cB [v,ov] (aT a X.env)
   c9 s
   cB [v,ov,iv] (li ov iv v)
   O2 [v,ov,iv] [])) Kt)
  (hs:autoParam (f3 [.Subscript (.Name x U) a s] e G.line X.env=pure ZB) AQ)(hw:autoParam (f4 [.Subscript (.Name x U) a s] e X.env=pure X0) AQ)
  (h1:autoParam ((aZ [.Subscript (.Name x U) a s] X.env).map (·.2)=[cW (.Subscript (.Name x U) a s) X.env]) AQ):QS X A L H0 (.Assign [.Subscript (.Name x U) a s] e G) (Cy i f fo):=⟨PS.imp' (HZ he.h (NO hv.h J.h (aer hu) ha) hs hw h1) λD O H hw=>by
 obtain⟨δ,T,out,E,fi,e,k⟩:=hw;obtain⟨⟨r,d⟩,h1,e⟩:=iU e;dsimp only at e;split at e
 case h_2=>cases e
 rename_i y0 h0;obtain⟨⟨o,l⟩,h2,e⟩:=iU e;dsimp only at e;split at e
 .rename_i R V W hk h3;obtain⟨⟨P,m⟩,e⟩:=jH e;cases e;refine⟨δ,T,r,d,E,h1,λv H1 Q=>⟨d,Lv T r v,.slot i,d,Q.er E,by unfold jb;rw[h0],λv2 H2 F=>⟨d,Lv T r v,o,l,F.er<|Q.er E,h2,λv3 N P3=>?_⟩⟩⟩;have iO:FA X.K T O δ H (.val r) d v H1:=Q;have B:=Ops.cons E iO<|Ops.cons (Q.er E) F<|Ops.cons (F.er<|Q.er E) P3<|Ops.nil<|P3.er<|F.er<|Q.er E;have E3:ER X.K N T O l:=B.er.mono (λ_ _ e _=>e) (λb _ z=>B.tt b z) λa z=>B.er.dom a<|B.tt a z;have y:O[i]?=XV (XV v2):=F.2.2;obtain⟨a,q1,us,q2,q3⟩:=E3.own i _ h3;rw[y] at q1;cases q1;have vk:=B.view (j:=2) AM AM hk;have rv:=B.rep E (j:=0) (r:=r) AM AM;have oa:AO O l a:=⟨i,_,h3,y⟩
  have kp: ∀(q:HO) b u,N b=XV u-> ¬(AO O l b\/T b)->upd N a q b=XV u:=λq b u e n=>by rw[jA<|by intro z;subst z;exact n<|.inl oa];exact e
  have ks10:10000<sizeLine:=by rw[jY];decide
  have fin: ∀q Z,E6 X.K (XV q) .dct (sG V W R r.1).1 (sG V W R r.1).2 Z->AJ X.K N (λa=>AO O l a\/T a) (sG V W R r.1).2 Z->D.nx O (upd N a q):=λq Z g1 g2=>by obtain⟨E4,K4⟩:=E3.FY (o:=q) (d':= .B8 .dct (sG V W R r.1).1 (sG V W R r.1).2) h3 y ⟨Z,by rw[jr];exact g1,AJ.mono (kp q) (λ_ _ z=>z) g2⟩;exact k _ _ (B.keep.trans K4).sk E4
  refine⟨a,rfl,?_⟩;rcases q2 with⟨kvs,eH,rfl,rfl⟩|⟨kvs,eH,rfl,rfl⟩
  .rw[kn] at m;rcases rM P with⟨κ,g1,_⟩|⟨τ,g1,g2⟩
   .have w:=rq g1 vk;have I:=pJ g1;subst I;obtain⟨C,p2⟩:=Ti (k:=κ) rv q3;refine .inl ⟨_,by rw[w];exact IY.k eH<|by lia,fin _ _ (.inl ⟨_,rfl,C,rfl⟩) p2⟩
   .have cO:kvs=[]:=by
     cases kvs with
     |nil=>rfl
     |cons p kvs=>obtain⟨c,hc⟩:=g2 (kI p.1) (by simp);exact(AY hc).elim
    subst cO;obtain⟨b,w,eb⟩:=pH g1 vk;have I:=uQ g1;subst I;obtain⟨C,p2⟩:=Th (k:=τ) (kvs:=[]) rv q3;exact .inr<|.inr ⟨τ,b,eH,w,eb,fin _ _ (.inr ⟨[(τ,v)],rfl,C,rfl⟩) p2⟩
  .rw[kn] at m;rcases rM P with⟨κ,g1,g2⟩|⟨τ,g1,_⟩
   .have cO:kvs=[]:=by
     cases kvs with
     |nil=>rfl
     |cons p kvs=>obtain⟨c,hc⟩:=g2 (.tup<|p.1.map kI) (by simp);exact(Ei hc).elim
    subst cO;have w:=rq g1 vk;have I:=pJ g1;subst I;obtain⟨C,p2⟩:=Ti (k:=κ) (kvs:=[]) rv q3;exact .inr<|.inl ⟨κ,eH,w,fin _ _ (.inl ⟨[(κ,v)],rfl,C,rfl⟩) p2⟩
   .obtain⟨b,w,eb⟩:=pH g1 vk;have I:=uQ g1;subst I;obtain⟨C,p2⟩:=Th (k:=τ) rv q3;refine .inl ⟨_,by rw[w];exact IY.t eH eb<|by lia,fin _ _ (.inr ⟨_,rfl,C,rfl⟩) p2⟩
 .cases e⟩
end
def Fz(K:ju)(b:mz)(x:aG)(st:bc):Prop:= ∃f a,b x=Y (.ref f)/\KA K x x st f a
def fz{K:ju}{h:jo}{e:mz}{x:aG}{st:bc}{f:iW}{i:jg}{j g:Option iW}{n:ug}{kV b m d ct:jg}(X:K.In h)(G:h.Ns aq e)(a:aU K aq x=Y (Y<|.ref f))
  (l:K.lookup f=Y ⟨i,j,.func<|cz x x (tu st) (lW st) (iY st) .none kV b m g d ct,n⟩)(c:eE K d x=J)(k:cG K (.ref f)=J):Fz K e x st:=⟨f,_,PySem.W.mg_of X G a,Pc l c k⟩
def Ky(x:aG)(st:bc)(c:jq):Prop:= ∀(kV a f:jg) (d:Option iW) (e ct:jg) (b:ku),A7 b=A7 c->fJ (cz x x (tu st) (lW st) (iY st) .none kV a f d e ct) ⟨b,[]⟩=pure (c.zip b)
def Eo{N P:jq}{a:jQ}(h1:autoParam (a.kind= .function) AQ)(b:autoParam (a.isCoroutine=U) AQ)(c:autoParam (a.isGenerator=U) AQ)(d:autoParam N.Nodup NZ)(e:autoParam (N.take P.length=P) AQ)(f:autoParam (∀x∈P,a.names.lookup x=Y .local\/a.names.lookup x=Y .cell) NZ)(g:autoParam (∀y∈a.names,y.2≠ .free) NZ):AN N P a:=⟨h1,b,c,d,e,f,g⟩
def Bd(Z:ZZ)(k:Nat)(x:aG)(st:bc)(N d:jq)(c:kj)(fs:FS):Prop:= ∀(f:iW) (b:jg) (A:jn) (a:List ek) (s:iZ) (T:Hp) (E:XK) (L:LL),(∀i,L.p i->i<A7 d)->BN k (A.deeper<|aY x (iY st) s.heap.objs.size f b)->
 un (A.deeper<|aY x (iY st) s.heap.objs.size f b) 60->un (A.deeper<|aY x (iY st) s.heap.objs.size f b) 1->un (A.deeper<|aY x (iY st) s.heap.objs.size f b) 62->un (A.deeper<|aY x (iY st) s.heap.objs.size f b) 90->N.Nodup->
 QQ (qp FH Z.P Z.w Z.K Z.mg Z.base N x (iY st) f b A a s T E).Ig (λi=>i∈c) L T (lW st) fs
def fnB{Z:ZZ}{k:Nat}{x:aG}{st:bc}{N c:jq}{b:kj}{fs:FS}{f:iW}{d:mV}(F:KA Z.K x x st f d)(S:AN N c (iY st))(j:Bd Z k x st N c b fs):EZ Z.P Z.w Z.K Z.mg Z.base FH (k+1) f d c (IW Z.K<|BM (A7 N) (A7 c) b fs):=
 VH F S λg A a s T E L i e=>by have:=e.un;exact(j f g A a s T E L i e (by unfold un;omega) (by unfold un;omega) (by unfold un;omega) (by unfold un;omega) S.nd).h
def ozB{Z:ZZ}{k:Nat}{x:aG}{st:bc}{N c:jq}{asg:kj}{fs:FS}(a:Fz Z.K Z.mg x st)(S:AN N c (iY st))(b:Ky x st c)(e:Bd Z k x st N c asg fs):Oz Z (k+1) x c (BM (A7 N) (A7 c) asg fs):=
 let⟨f,d,m,F⟩:=a;⟨f,d,fnB F S e,m,F.kp,F.binds b⟩
def Lz{P:List jg->Prop}(h:P []): ∀b:List jg,A7 b=0->P b:=λb e=>by cases b with|nil=>exact h|cons a l=>cases e
def Lc{P:List jg->Prop}{n:Nat}(h: ∀a,∀b:List jg,A7 b=n->P (a::b)): ∀b:List jg,A7 b=n+1->P b:=λb e=>by cases b with|nil=>cases e|cons a l=>exact h a l<|Nat.succ.inj e
def oz0{Z:ZZ}{x:aG}{st:bc}{c:jq}(a:Fz Z.K Z.mg x st)(b:Ky x st c):Oz Z 0 x c (λ_=>C):=
 let⟨f,d,m,F⟩:=a;⟨f,d,R7,m,F.kp,F.binds b⟩
def fzL{K:ju}{h:mz}{x y:aG}{st:bc}{g:iW}(a:Fz K h x st)(i:h x=Y (.ref g))(b:Ky x st [y]): ∃c,KA K x x st g c/\ ∀(s:iZ) (v:jg),gr s c ⟨[v],[]⟩ [(y,v)]:=by obtain⟨f,c,m,F⟩:=a;have e:=i.symm.trans m;cases e;obtain⟨n,o,kV,d,l,j,k,ct,p,e,_⟩:=F.ex;exact⟨c,F,λs v=>by subst e;exact .of_eq<|b kV d l j k ct [v] H⟩
def txK{K:ju}{h:jo}{g:mz}(X:K.In h)(G:h.Ns aq g)(i:aU K aq "len"=Y C)(j:aU K aq "abs"=Y C)(k:aU K aq "int"=Y C)(l:aU K aq "tuple"=Y C)(m:aU K aq "list"=Y C)(n:aU K aq "range"=Y C)(o:aU K aq "isinstance"=Y C)(p:aU K aq "bool"=Y C)(q:aU K aq "max"=Y C)(r:aU K aq "min"=Y C)(a:aU K aq "all"=Y C)(b:aU K aq "any"=Y C)(c:aU K aq "sorted"=Y C)(d:aU K aq "enumerate"=Y C)(e:aU K aq "zip"=Y C)(f:aU K aq "set"=Y C):Tx g:=⟨oW X G i,oW X G j,oW X G k,oW X G l,oW X G m,oW X G n,oW X G o,oW X G p,oW X G q,oW X G r,oW X G a,oW X G b,oW X G c,oW X G d,oW X G e,oW X G f⟩
noncomputable abbrev MT(i:Int):Int:=if i<0 then -i else i
section
variable {d:jw}{w:jm}{A:jn}{E:jJ}{s:iZ}
def adM{a:iW}{f:ku}{r:jh}{n:Nat}{P:x6->iZ->Prop}(M:s.heap.get? a=XV (bt "list" f.toArray n))(hi:fe f r)(Y:f.length<64)
  (h: ∀g y G c,(∀b o,b≠a->s.heap.get? b=XV o->g.get? b=XV o)->g.get? a=XV (bt "list" G c)->KskOut ZB (r.map MT) f G.toList->P (.done<|.ret .none) {s with heap:=g,toks:=y}):
  ah (aj d w) A (ksk_tree a (.builtin "abs") ZB) P E s:=by
 have ha:a<s.heap.objs.size:=kH M;have Z:=hi.length;have O: ∀k,k<=f.length->k<=sizeLine:=λk hk=>by rw[jY];omega
 unfold ksk_tree;refine iX<|G8 M AM<|iX<|wm M AM ?_ (O _ (by simp))<|mf _;obtain⟨C,n8⟩: ∃C,(s.heap.update a<|aL λ_=>(#[]:Array jg)).get? a=XV (bt "list" #[] C):=⟨_,yJ M λ_=> #[]⟩
 refine iX<|Ah n8 AM<|iX<|DT ?_<|O _ (by simp);refine iX<|DE ?_<|mf _;refine mv ?_
 let h1:=qA s.heap a f
 let m:Addr:=((s.heap.update a<|aL λ_=>(#[]:Array jg)).push<|bt "tuple" f.toArray 0).objs.size
 have hk:m=s.heap.objs.size+1:=by show _=_;simp -iota only[m];rw[size_push',Heap.size_update]
 have I:a≠m:=by rw[hk];exact kf<|vM ha
 have V: ∀b o,b≠a->s.heap.get? b=XV o->h1.get? b=XV o:=λb o z e=>kg _ (kg _ (by rw[G7 _ _ _ _ z];exact e));have F:h1.get? a=XV (bt "list" #[] C):=kg _ (kg _ n8);have dv:h1.get? m=XV (bt "list" #[] 0):=kG _ rfl;show ah (aj d w) A (ksk_rest a (.builtin "abs") ZB f.toArray C<|.ref m) P E {s with heap:=h1};unfold ksk_rest;refine iX<|uo ?_;rw[List.forIn_toArray];refine iX<|ksk_fold (λi U=> ∃g y l e,U={s with heap:=g,toks:=y}/\(∀b o,b≠m->h1.get? b=XV o->g.get? b=XV o)/\g.get? m=XV (bt "list" l e)/\fe l.toList ((r.map MT).take i)) f 0 _ ⟨h1,s.toks,#[],0,rfl,λ_ _ _ e=>e,dv,.nil⟩ (λj x U hx D=>?_) λU D=>?_
 .obtain⟨g,y,l,e,rfl,N,T,p⟩:=D;have X:j<f.length:=(xj.mp hx).1;obtain⟨t,ht⟩:=hi.get j r[j]<|kK (by omega);rw[hx] at ht;cases ht
  have q:l.size<=f.length:=by have:=p.length;rw[lh,tL] at this;omega
  refine iX<|rW<|SI λu dO=>?_;dsimp only;have s1:=tH g m (aL (·.push (.int (MT r[j]) u)));refine iX<|wm (s:={s with heap:=g,toks:=dO}) T AM ?_ (O _ q)<|mC (w9 (Array.size_push ..)) (by rw[jY];omega);refine jd ⟨rfl,_,_,l.push<|.int (MT r[j]) u,_,rfl,λb o z e=>(s1.2 b z).trans<|N b o z e,yJ T _,?_⟩;rw[wx,List.take_add_one,ly,kK (show j<r.length by omega),fK];rw[wx] at p;exact p.append<|.cons _ _ .nil
 .obtain⟨g,y,l,e,rfl,N,T,p⟩:=D;have p:fe l.toList (r.map MT):=by rwa [wx,ew<|by simp;omega] at p
  have q:l.size=f.length:=by have:=p.length;rw[lh,kn] at this;omega
  have J:(l.zip f.toArray).size=f.length:=by rw[sa,q,kd,Nat.min_self]
  refine iX<|G8 (s:={s with heap:=g,toks:=y}) T AM ?_
  have v: ∀st:uf,(gb st).Perm (l.zip f.toArray)->SortedTo (gb st) (gb st).size->gw st=X0->ah (aj d w) A (ksk_tail a ZB C (.ref m) st) P E {s with heap:=g,toks:=y}:=λst L R K=>by
   have s1:=tH g m<|aL λ_=>(#[]:Array jg);have S:(g.update m<|aL λ_=>(#[]:Array jg)).get? a=XV (bt "list" #[] C):=(s1.2 a I).trans<|N a _ I F;have s2:=tH (g.update m<|aL λ_=>(#[]:Array jg)) a (aL λ_=>(gb st).map (·.2));unfold ksk_tail;simp -iota only[ke,kB];refine iX<|wm (s:={s with heap:=g,toks:=y}) T AM ?_ (O _ (by omega))<|mf _;refine iX (DS (iX (Ah S AM (iX (wm S AM ?_ (mf _) (n5 (show((gb st).map (·.2)).size<=sizeLine from O _ (by rw[sm,L.size_eq,J];exact kh _))))))));rw[K];simp -iota only[vN,ke,kB];refine jd<|h _ _ _ _ (λb o z e=>?_) (yJ S _) (ksk_out (b:=ZB) p L R);have W:b≠m:=by rw[hk];exact kf<|vM<|kH e
   exact(s2.2 b z).trans ((s1.2 b W).trans<|N b o W<|V b o z e)
  unfold ksk_end;simp -iota only[ke,kB];by_cases H:f.toArray.size<2
  .rw[jl H,jl H];refine iX<|jd ?_;rw[Ha];refine iX<|jd<|v _ (Array.Perm.refl _) (λi j p9 X=>?_) rfl;have dw:j<(l.zip f.toArray).size:=X;rw[J] at dw;rw[kd] at H;have:i=j:=by omega
   subst this;exact Int.le_refl _
  .rw[jv H,jv H];rw[kd] at H;rw[ksk_kind p<|by rw[q];omega];refine iX (jd ?_)
   refine iX (nX (wpS_sortRuns (a₀:=l.zip f.toArray) (st:=SortSt.mk' Ev (l.zip f.toArray) #[] 7 X0) (Q:=λ_ B=>(gb B).Perm (l.zip f.toArray)/\gw B=X0/\SortedTo (gb B) (l.zip f.toArray).size)
    (ksk_intKeys p) ⟨Array.Perm.refl _,rfl,rfl,rfl⟩ (by rw[J];omega) (by rw[J];exact Y) λB a1 a2 a3=>⟨a1,a2,a3⟩) ?_ λ_ _ e=>e)
   rintro⟨⟨⟩,B⟩ U ⟨rfl,L,K,R⟩;exact v B L (by rw[L.size_eq];exact R) K
end
noncomputable def aD:D->Int
 | .int i=>MT i
 |_=>0
noncomputable def NJ:D->Bool
 | .int _=>J
 |_=>U
noncomputable def K0(x y:D):Bool:=decide<|aD x<aD y
noncomputable def zh:D->Option (D×Bool)
 | .lst l=>if l.all NJ=J/\(l.map aD).Nodup/\(A7 l)<64 then Y (.lst<|nF K0 l,J) else C
 |_=>C
def OR{x:D}: ∀{l:List D},l.Pairwise (λa b=>aD a<=aD b)->(EN K0 x l).Pairwise λa b=>aD a<=aD b:=by
 intro g
 induction g with
 |nil=>intro _;simp[EN]
 |cons y l f=>
  intro h;obtain⟨h1,e⟩:=Fq.mp h;unfold EN;by_cases d:aD y<aD x
  .rw[jl<|by simpa[K0] using d];refine Fq.mpr ⟨λz c=>?_,f e⟩;rcases lz.mp ((vB K0 x l).mem_iff.mp c) with rfl|c
   .omega
   .exact h1 z c
  .rw[jv<|by simpa[K0] using d];refine Fq.mpr ⟨λz c=>?_,h⟩;rcases lz.mp c with rfl|c
   .omega
   .have:=h1 z c;omega
def Cu: ∀l:List D,(nF K0 l).Pairwise λa b=>aD a<=aD b:=by
 intro d
 induction d with
 |nil=>exact .nil
 |cons _ l c=>exact OR<|c
theorem CH: ∀{l:List D},(l.map aD).Nodup-> ∀a∈l,∀b∈l,aD a=aD b->a=b
 |x::l,h,a,d,b,f,e=>by
  rw[kc,yT] at h;rcases lz.mp d with h1|h1<;>rcases lz.mp f with c|c
  .rw[h1,c]
  .exact absurd (h1▸e▸rQ c) h.1
  .exact absurd (c▸e▸rQ h1) h.1
  .exact CH h.2 a h1 b c e
def adO{l m:List D}(c:m.Perm l)(g:m.Pairwise λa b=>aD a<=aD b)(f:(l.map aD).Nodup):m=nF K0 l:=by refine(c.trans (la K0 l).symm).eq_of_pairwise (le:=λa b=>aD a<=aD b) (λa b d e x y=>CH f a (c.mem_iff.mp d) b ((la K0 l).mem_iff.mp e)<|by omega) g (Cu l)
section
variable {X:Cx}{f:jK}{g:L2.St}{H:Hp}{s:iZ}
def Zr{O:B7}: ∀{l:List D} {j:List V} {c:ku},l.all NJ=J->AJ X.K H O l j->Vals j c-> ∃e:List Int,l=e.map .int/\fe c e:=by
 intro n
 induction n with
 |nil=>intro j c _ r v;rw[AJ] at r;subst r;cases v;exact⟨[],rfl,.nil⟩
 |cons d l m=>
  intro j c h r v;rw[AJ] at r;obtain⟨x,q,rfl,o,p⟩:=r;rw[wB,mP] at h
  cases d with
  |int i=>
   cases v with
   |cons a b=>obtain⟨e,rfl,k⟩:=m h.2 p b;rw[jX<|.inl o] at a;obtain⟨t,rfl⟩:=a;exact⟨i::e,rfl,.cons _ _ k⟩
  |_=>exact absurd h.1 (by simp[NJ])
theorem Wn: ∀{l:List D} {a:jh} {xs:List V} {its:ku},l=a.map .int->A7 xs=A7 l->A7 its=A7 l->(a.map MT).zip its=(l.zip<|xs.zip its).map λt=>(aD t.1,t.2.2)
 |[],[],_,_,_,_,_=>by simp
 |d::l,i::a,x::xs,u::its,h,h1,b=>by obtain⟨rfl,c⟩:=rV h;have:=Wn (xs:=xs) (its:=its) c (by simpa using h1) (by simpa using b);simp -iota only[kc,wo,this];rfl
def ab2{u:jg}{Q:VK}{O:B7}{d:D}{z:D×Bool}{x:V}(I:Inv X f g H s)(ru:RelV x u)(np: ∀p,¬Ow (H p)-> ¬O p)(hd:kQ X.K H O d x)(N:zh d=XV z)(G:Gen X.K H O z Q):
  ah (aj X.prog X.w) X.A (call (.builtin "sorted") [u] [(bn "key",.builtin "abs")]) (EP X f g Q) X.xe s:=by
 cases d with
 |lst l=>
  obtain⟨⟨hI,hn,hz⟩,rfl⟩:=jH N;obtain⟨p,xs,rfl,q,L⟩:=ll hd;cases ru;obtain⟨j,v,pl,_⟩:=I.list q;have e1:=L.length;have e2:=v.length;obtain⟨ns,W,r⟩:=Zr hI L v;have hl:j.length<=sizeLine:=by rw[jY];omega
  obtain⟨o,ho,hc,n,S⟩:=pl.isList;refine call_function_entry_kw W1 Sc Sr (ksk_s1 _ _) ?_;unfold aV.«sorted»;refine iX (m:=checkCount "sorted" 1 1 _)<|jd ?_;refine iX<|G6 p (.inl AM) ho hc S (λh1 k1=>?_) (by rw[kd];omega);rw[List.toList_toArray];refine iX<|DE ?_ hl;have J:(h1.push<|bt "list" j.toArray 0).get? h1.objs.size=XV (bt "list" j.toArray 0):=kG _ rfl;have T:Inv X f g H {s with heap:=h1}:=I.kept k1;refine iX<|mv<|wpAny_call_entry_kw (s:={s with heap:=h1.push (bt "list" j.toArray 0)}) Do ⟨_,J,rfl⟩ z7 ?body<|ksk_l1 _ _
  case body=>
   show ah _ _ (aV.«list.sort» ⟨[.ref h1.objs.size],[(bn "key",.builtin "abs")]⟩) _ _ _;rw[ksk_t4];refine adM (s:={s with heap:=h1.push (bt "list" j.toArray 0)}) J r (by omega) λh' tk E c k2 k3 ko=>⟨_,rfl,jd ⟨_,rfl,?_⟩⟩
   obtain⟨ps,Y,k,F⟩:=ko;rw[Wn W (by omega)<|by omega] at Y;obtain⟨a,P,rfl⟩:=ni _ Y _ rfl;rw[kM] at k
   have Z: ∀t∈a,Rep X.K H O t.1 t.2.1/\RelV t.2.1 t.2.2:=λt hm=>by obtain⟨i,hi⟩:=um<|P.mem_iff.mp hm;obtain⟨B,fS⟩:=Fo.mp hi;obtain⟨y,C⟩:=Fo.mp fS;obtain⟨w,R,w2⟩:=v.get y;rw[C] at R;cases R;exact⟨L.views B y,w2⟩
   have M:a.map (·.1)=nF K0 l:=by
    refine adO ?_ (by rw[ue] at F ⊢;exact F.imp λh=>by simpa using h) hn;have:=P.map (·.1)
    rwa [n7<|by simp;omega] at this
   have hR: ∀a:List (D×V×jg),(∀t∈a,Rep X.K H O t.1 t.2.1/\RelV t.2.1 t.2.2)->AJ X.K H O (a.map (·.1)) (a.map (·.2.1))/\Vals (a.map (·.2.1)) (a.map (·.2.2)):=λa=>by
    induction a with
    |nil=>exact λ_=>⟨.nil,.nil⟩
    |cons t a ih=>intro h;obtain⟨i1,i2⟩:=ih λx hx=>h x<|jZ _ hx;exact⟨.cons (h t jW).1 i1,.cons (h t jW).2 i2⟩
   obtain⟨r1,r2⟩:=hR a Z;have keep: ∀b o,h1.get? b=XV o->h'.get? b=XV o:=λb o e=>k2 b o (kf<|kH e)<|kg _ e;have U:a.length=l.length:=by have:=nE dq M;rw[(la K0 l).length_eq,kn] at this;exact this
   refine⟨.ref h1.objs.size,_,T.laid (t':=tk) keep (kh _) (show AR X.prog X.w _ _ _ (.lst (a.map (·.2.1))) from⟨by rw[kn,jY];omega,E.toList,c,?_,?_⟩),rfl,?_⟩
   .rw[k];exact r2
   .rw[Array.toArray_toList];exact k3
   .refine G.lst T.fresh ?_;rw[<-M];exact r1
 |_=>cases N
def aej{a:je}{i:TA}{p b w v:bO}(c:Gl X "sorted")(r:X.mg "sorted"=C)(l:Gl X "abs")(m:X.mg "abs"=C)(n:PA X [a] i)
  (o:aH b (ac [a] X.env)=(U,aT a X.env)::aH b (ac [] X.env))(j:(aH b<|ac [a] X.env).any (·.1)=U):
  PE X (.Call (.Name "sorted" p) [a] [⟨Y "key",.Name "abs" w,v⟩] b) (N7 (IT X.K<|g1 zh) i):=by
 intro f s g H Q N h;refine vR<|qd N c r adi<|callWith_kw (BI (n b f s g H _ N h) λT s1 ⟨E,B,e,y,t⟩=>kws_cons<|qd e l m V6<|kws_nil ?_) o j AM AM;obtain⟨O,k,z,np,q,hv,c,G⟩:=t
 match k,c with
 |[d],c=>obtain⟨x,rfl⟩:=JE q AM;obtain⟨u,rfl,A⟩:=qz y;exact ab2 e A np (hv 0 d x AM AM) c G
def aex{a:je}{c:FO}{p b n m:bO}(k:Gl X "sorted")(l:X.mg "sorted"=C)(e:Gl X "abs")(h:X.mg "abs"=C)(i:PA X [a] (tA X.K [c]))
  (j:aH b (ac [a] X.env)=(U,aT a X.env)::aH b (ac [] X.env))(d:(aH b<|ac [a] X.env).any (·.1)=U):
  PX X (.Call (.Name "sorted" p) [a] [⟨Y "key",.Name "abs" n,m⟩] b) (jy (g1 zh) [c]):=pxn<|aej k l e h i j d
end
noncomputable def MR(i:Nat):F:=λa=>match a[i]? with
 |some (Y (.lst l,J))=>(l[A7 l-1]?).bind λd=>Y ((d,U),a.set i<|Y (.lst l.dropLast,J))
 |_=>C
section
variable {X:Cx}{x:aG}{i:Nat}{c a b:bO}
end
section
variable {X:Cx}
variable {a:je}{c:FO}{p b e f g d:bO}{x:aG}{i:Nat}
def xSA(T:Tx X.mg)(l:QA X [a] [c])(n:autoParam (Gl X "sorted") AQ)(k:autoParam (Gl X "abs") AQ)(m:autoParam (aH b (ac [a] X.env)=(U,aT a X.env)::aH b (ac [] X.env)) AQ)(j:autoParam (BA X b [a]) AQ):
  QX X (.Call (.Name "sorted" p) [a] [⟨Y "key",.Name "abs" e,f⟩] b) (jy (g1 zh) [c]):=⟨aex n (Lu T (z:="sorted") H) k (Lu T (z:="abs") H) l.h m j⟩
end
section
variable {X:Cx}{a:jK}{b:L2.St}{H:Hp}{s:iZ}
end
section
variable {X:Cx}
end
section
variable {a:jw}{w:jm}{A:jn}{E:jJ}{I:iW}{c b:kN}{n:Nat}{P:Nat->jg->Prop}{St:Nat->jo->Prop}
end
section
variable {X:Cx}{A:kz}{a:bO}{c:kL}{b:List Tg}
end
section
variable {X:Cx}{A:kz}{a b:je}{g:bO}
variable {e j:je}{f:F}{x z:aG}{p o l m:bO}{i k:Nat}{L:LL}{q:Hp}
def xLS{c:nS}{scope:jQ}{y:EV}{tt:Tg}{B:FT}{r:kj}{N':jq}{s:bO}(T:Tx X.mg)(C:Ba X N' scope r k)(J:N'.Nodup)(M:QI X (λi=>i∉r) c.target c.iter y)
  (G: ∀(u:kF) (C:iW) (w:iZ) (t:Hp) (v:kN) (n:jK),(X.comp N' scope u C w t v n).N.Nodup->
   QG (X.comp N' scope u C w t v n) (λi=>A7 r<=i) c.target tt/\QF (X.comp N' scope u C w t v n) c.ifs B/\QX (X.comp N' scope u C w t v n) j f)
  (I:autoParam (X.calm=YP) AQ)(H:autoParam (c.is_async=0) AQ)(Q:autoParam (∀x,aA c.iter X.env x=pure x) Kt)(O:autoParam (Gl X "len") AQ)
  (h1:autoParam (ac [.SetComp j [c] scope g] X.env=(ZB,aT (.SetComp j [c] scope g) X.env)::ac [] X.env) AQ)(E:autoParam ((aH s<|ac [] X.env).any (·.1)=ZB) AQ):
  QX X (.Call (.Name "len" p) [.SetComp j [c] scope g] [] s) (vE r k y tt B<|Bx f):=
 ⟨acR C I H (by intro U h;cases h) Q M.h (λu C w t v n=>let⟨a,b,c⟩:=G u C w t v n J;⟨a.h,b.h,λd=>ac0 AM c.h⟩) O T.n_len V5 (by decide) (by decide) h1 E⟩
def iE1{B:SB}{d:kL}{w:Nat}{y:bO}{c:Int}{n:Nat}(T:Tx X.mg)(s:QX X a f)(t:autoParam (bv c=J) Bb)(v:autoParam (Gl X "enumerate") AQ)(s0:autoParam (SE X a []) AQ)
  (u:autoParam (aH g (ac [a] X.env)=(U,aT a X.env)::aH g (ac [] X.env)) AQ)(r:autoParam ((aH g<|ac [a] X.env).any (·.1)=U) AQ):
  QI X B (.Tuple d w y) (.Call (.Name "enumerate" p) [a] [⟨Y "start",.Constant (.int c) n l,m⟩] g) (zg c f):=⟨acW v T.n_enumerate s.h t s0 u r⟩
end
section
variable {X:Cx}{a:jK}{b:L2.St}{H:Hp}{s:iZ}
end
end PX
namespace TT
open PySem.SeqAt
def C2:hD u3 "dict.update.loop"=Y aV.«dict.update.loop»:=entryFor_of_tree (by kernel_rfl)
def vq:plainId "dict.update.loop"=J:=by decide+kernel
section
variable {prog:jw}{w:jm}{A:jn}{R:mu->iZ->Prop}{I:iW}{c a:kN}{G:Array eL->Array eL->Prop}{n:Nat}{P:Nat->jg->Prop}{St:Nat->iZ->Prop}
def adF(W:WalksS prog w A.in1 I c a G n P St)(S:iW)(B:S∉c)(s0:iZ)(j:Nat->jo->Prop)(BQ: ∀i h f,j i h->(∀o,h.get? S=XV o->f.get? S=XV o)->j i f)
  (step: ∀i v (d:iZ),i<n->P i v->j i d.heap->p7 (S::a) G s0 d-> ∃p k x,v= .ref p/\d.heap.IsTuple p #[k,x]/\ ∀(Q:Unit->iZ->Prop) (E:jJ),(∀f z,d.toks<=z->aK S d.heap f->j (i+1) f->Q () {d with heap:=f,toks:=z})->ah (aj prog w) A.in1 (Ps S k x) Q E d):
  ∀(k i:Nat) (s:iZ),n-i=k->i<=n->St i s->j i s.heap->p7 (S::a) G s0 s->(∀d,p7 (S::a) G s0 d->j n d.heap->R (.ok<|.ret .none) d)->
   cC (aj prog w) A (.builtin "dict.update.loop" ⟨[.ref S,.ref I,cE i,.none],[]⟩) R s:=by
 have H:S∉a:=λh=>B<|W.sub _ h;have T: ∀b∈a,b∈S::a:=λb l=>jZ _ l;intro k
 induction k with
 |zero=>
  intro i s hk V y t q r;have Y:i=n:=by lia
  subst Y;refine oZ C2 ?_;rw[rm vq _];show ah _ A.in1 (cn (.ref I)>>=_) _ _ s;refine iX<|W.done s _ _ y λd m=>?_;show ah _ A.in1 (y8 S []>>=λ_=>ret ao) _ _ d;exact iX<|jd<|jd<|r d (Dt W.gtrans q<|m.mono T)<|BQ _ _ _ t λo e=>m.heap S o H e
 |succ k ih=>
  intro i s hk V y t q r;have u:i<n:=by lia
  refine oZ C2 ?_;rw[rm vq _];show ah _ A.in1 (cn (.ref I)>>=_) _ _ s;refine iX<|W.item i s _ _ u y λv d D U m=>?_;have C:=Dt W.gtrans q<|m.mono T;obtain⟨p,O,x,rfl,X,g⟩:=step i v d u D (BQ _ _ _ t λo e=>m.heap S o H e) C;show ah _ A.in1 (cB [.ref p] _>>=_) _ _ d;refine iX<|mv ?_;obtain⟨o,L,K,n',N⟩:=X;have F:d.TypeIs (.ref p) "tuple":=⟨o,L,K⟩
  refine iX<|A2 ?_;unfold y4;refine iX<|uv F ?_;show ah _ _ (seqItems? (.ref p)>>=_) _ _ _;refine iX<|rX L N ?_;refine jd ?_;show ah _ _ (cB [O,x]<|Ps S O x) _ _ _;refine mv<|g _ _ λf z M J Z=>?_;refine jd ⟨uj vq _,ih (i+1) _ (by lia) u (W.frame _ d _ _ U M λb l o e=>?_) Z (C.then_heap M λb o l e=>?_) r⟩
  .rw[J.2 b λh:b=S=>B<|by rw[<-h];exact l];exact e
  .rw[J.2 b λh:b=S=>l<|by rw[h];exact jW];exact e
end
end TT
namespace PX
open L2 PySem.SeqAt TS
section
variable {prog:jw}{w:jm}{A:jn}{E:jJ}{s:iZ}
def RF:g7 (.type "list") "keys"=pure C:=by rw[G0,GZ];kernel_rfl
def Vr{a:iW}{o:fy}{p:nv}{k:Nat}{Q:Cj}(m:s.heap.get? a=Y o)(l:o.cls= .type "list")(f:o.data= .seq p k)(hd:o.dict=C)(t:A.handled=C)
  (h: ∀b n e,Heap.NewExcOf s.heap b e "AttributeError"->Q C {s with heap:=b,toks:=n}):ah (aj prog w) A (getAttr? (.ref a) "keys") Q E s:=by
 obtain⟨c,dct,r,v⟩:=o;simp only at l f hd;subst l f hd;obtain⟨u,g,d,n,os⟩:=s;have j: ∀q,(⟨u,g,d,q,os⟩:iZ).TypeIs (.ref a) "list":=λ_=>⟨_,m,rfl⟩
 have f1:=sub_AttributeError;have x:=P6.lookup;have y:=P6.bind<|.ref a;have z:=am_list_getattr_none;unfold getAttr? getAttrBy? getAttrBy
 repeat (any_goals (first|assumption|exact j _|((with_reducible show ah _ _ (call (gC "list.__getattribute__") _ _) _ _ _);refine Ao P6 (j _) am_entry_list_getattribute (F.args_list_getattribute_2 _ _) (meets_getattribute_miss_list a p k v "keys" _ RF (by decide+kernel)) ⟨m,t,λb q e i=>?_⟩)|wp_step))
 obtain⟨O,T,B⟩:=i.there;show ah _ _ (ta _ _ _ _ _ _ _) _ _ _;unfold ta
 repeat (any_goals (first|assumption|wp_step))
 exact h _ _ _ i.of
end
end PX
namespace TT
open PySem.SeqAt
section
variable {prog:jw}{w:jm}{A:jn}{E:jJ}{s:iZ}
noncomputable abbrev IL:Obj:={cls:= .type "dict",data:= .dict #[]}
def TN{l:iW}{a:nv}{n:Nat}{r:fy}{Q:jJ}(T:A.handled=X0)(J:s.heap.get? l=XV r)(y:r.cls= .type "list")(H:r.data= .seq a n)(gK:r.dict=X0)(j:Nat->jo->Prop)
  (BQ: ∀i h d,j i h->(∀o,h.get? s.heap.objs.size=XV o->d.get? s.heap.objs.size=XV o)->j i d)
  (nY: ∀d,d.get? s.heap.objs.size=XV IL->j 0 d)
  (step: ∀i v (c:iZ) (B:jn),B.units<=A.units+20->a[i]?=XV v->j i c.heap->(∀b o,s.heap.get? b=XV o->c.heap.get? b=XV o)->c.gens=s.gens->c.drawn=s.drawn->c.os=s.os->
   ∃p k x,v= .ref p/\c.heap.IsTuple p #[k,x]/\ ∀(Q:Unit->iZ->Prop) (E:jJ),(∀d t,c.toks<=t->aK s.heap.objs.size c.heap d->j (i+1) d->Q () {c with heap:=d,toks:=t})->ah (aj prog w) B (Ps s.heap.objs.size k x) Q E c)
  (h: ∀(d:jo) (t:Nat),j a.size d->(∀b o,s.heap.get? b=XV o->d.get? b=XV o)->Q (.ref s.heap.objs.size) {s with heap:=d,toks:=t}):
  ah (aj prog w) A (call (.type "dict") [.ref l]) Q E s:=by
 refine Db (Q₁:=λobj g=>obj= .ref s.heap.objs.size/\g={s with heap:=s.heap.push IL}) F.kt_called_dict (F.kt_typeCall_dict_1 _) F.entry_dict_init (kt_code_dict_new _ ⟨rfl,rfl⟩) ?_;rintro obj g ⟨rfl,rfl⟩;have I:(s.heap.push IL).get? s.heap.objs.size=XV IL:=kG _ rfl;have O:eX {s with heap:=s.heap.push IL} (.ref s.heap.objs.size) "dict":=⟨_,I,rfl⟩
 have u:(s.heap.push IL).get? l=XV r:=kg _ J;have C:eX {s with heap:=s.heap.push IL} (.ref l) "list":=⟨_,u,y⟩
 refine⟨O,F.args_dict_init_2 _ _,?_⟩;unfold aV.«dict.__init__»;refine iX ?_;unfold x8;refine iX<|L4 O ?_;show ah _ _ (pure (s.heap.objs.size,[bf l])) _ _ _;refine jd ?_;show ah _ _ (fZ "dict.__init__" s.heap.objs.size (.ref l) [] .none) _ _ _;unfold fZ;refine iX<|uv C ?_;rw[jl<|by decide];refine iX<|PX.Vr u y H gK (by simp[T]) λh1 dh e1 z=>?_;have m:h1.IsList l a:=⟨_,z.keeps _ _ u,y,n,H⟩
 have q:=z.keeps _ _ I;have gL:l<s.heap.objs.size:=kH J;have L:s.heap.objs.size<h1.objs.size:=kH q;have M:l≠h1.objs.size:=by lia
 have N:s.heap.objs.size∉[h1.objs.size,l]:=by simp only[lz,lY,mX,oY];lia
 have R:A.in1.in1.handled=X0:=by simp[T]
 have W:=Walks.list (prog:=prog) (w:=w) R h1.objs.size l M a;show ah _ _ (rule _>>=λ_=>d5 (.ref l)>>=λit=>again<|.builtin "dict.update.loop" ⟨[.ref s.heap.objs.size,it,cE 0,.none],[]⟩) _ _ _;refine iX<|uo ?_;refine iX<|Aq m ?_;refine jd ⟨uj vq _,?_⟩
 have ext: ∀{G:Array eL->Array eL->Prop} {s0 c:iZ},(∀b o,h1.get? b=XV o->s0.heap.get? b=XV o)->p7 (s.heap.objs.size::[h1.objs.size]) G s0 c-> ∀b o,s.heap.get? b=XV o->c.heap.get? b=XV o:=λ{G s0 c} V f b o e=>by have hb:=kH e;exact f.heap b o (by simp only[lz,lY,mX,oY];lia)<|V _ _ (z.keeps _ _ (kg _ e))
 refine adF W.toS s.heap.objs.size N _ j BQ ?st (a.size-0) 0 _ (by lia) (mf _) ⟨⟨_,kG _ rfl,rfl,rfl⟩,m.push _⟩ (nY _ (kg _ q)) (wE λ_=>rfl) ?hR
 case st=>exact λi v c hi X Z f=>step i v c _ (by show A.units+1+1<=A.units+20;lia) X Z (ext (λ_ _ e=>kg _ e) f) f.gens f.drawn f.os
 case hR=>intro c f t8;have ex:=ext (λ_ _ e=>kg _ e) f;obtain⟨d,S,Y,y3,U⟩:=c;have K:S=s.gens:=f.gens;have D:Y=s.drawn:=f.drawn;have P:U=s.os:=f.os;subst K;subst D;subst P;exact⟨rfl,h d y3 t8 ex⟩
end
end TT
namespace PX
open L2 PySem.SeqAt
noncomputable def kyT:D->Option (List Key)
 | .tup [k,.bl J]=>zP k
 |_=>C
noncomputable def La:List D->Option (List<|List Key)
 |[]=>Y []
 |d::l=>(kyT d).bind λk=>(La l).map (k:: ·)
def A6:D->Option (D×Bool)
 | .lst l=>(La l).bind λa=>if (A7 a)<=1000/\a.Nodup then Y (.B8 .dct (a.map λk=> .tup (k.map kI))<|a.map λ_=> .bl J,J) else C
 |_=>C
noncomputable abbrev NH(a:List (List Key)):List (List Key×V):=a.map λk=>(k,V.bl J)
def RU: ∀{l:List D} {a:List (List Key)},La l=Y a->A7 l=A7 a/\ ∀(i:Nat) k,a[i]?=Y k-> ∃d,zP d=Y k/\l[i]?=Y (.tup [d,.bl J]):=by
 intro j
 induction j with
 |nil=>intro a h;cases h;exact⟨rfl,λi p h=>by simp at h⟩
 |cons d l g=>
  intro a h;obtain⟨p,h1,h⟩:=iU h;obtain⟨m,f,rfl⟩:=jL h;obtain⟨c,e⟩:=g f;refine⟨by simp[c],λi q b=>?_⟩
  cases i with
  |zero=>
   simp at b;subst b;unfold kyT at h1;split at h1
   .exact⟨_,h1,rfl⟩
   .cases h1
  |succ i=>simpa using e i q (by simpa using b)
def X8{P:jw}{w:jm}{T:Hp}{h:jo}(ok:Fd P w T h): ∀{l:List (List Key×V)} {m:List (List Key×iW×jg)},L2.KT T l m-> ∀x∈m,(c7<|lJ P w).is h x.1 x.2.1:=by
 intro l m q
 induction q with
 |nil=>intro x a;exact nomatch a
 | @cons p q d f b t c=>
  intro x a;rcases lz.mp a with e|a
  .subst e;exact sN ok (by rw[<-b.1];exact b.2.1)
  .exact c x a
def JS{T:Hp}{l:List (List Key×V)}{m:List (List Key×iW×jg)}(q:L2.KT T l m):m.map (·.1)=l.map (·.1):=by
 induction q with
 |nil=>rfl
 |cons a t b=>rw[kc,kc,b,a.1]
def RW{T:Hp}{l:List (List Key×V)}{m:List (List Key×iW×jg)}{p q}(h:L2.KT T l m)(a:p.1=q.1/\T q.2.1=Y (.tup<|p.1.map kV)/\RelV p.2 q.2.2):L2.KT T (l++[p]) (m++[q]):=by
 induction h with
 |nil=>exact .cons a .nil
 |cons h t b=>exact .cons h b
def RX{T b:Hp}{l:List (List Key×V)}{m:List (List Key×iW×jg)}(c: ∀a u,T a=Y u->b a=Y u)(h:L2.KT T l m):L2.KT b l m:=by
 induction h with
 |nil=>exact .nil
 |cons h t d=>exact .cons ⟨h.1,c _ _ h.2.1,h.2.2⟩ d
def UH{K:ju}{T:Hp}{O:B7}: ∀a:List (List Key),AJ K T O (a.map λ_=> .bl J) ((NH a).map (·.2)):=by
 intro c
 induction c with
 |nil=>exact AJ.nil
 |cons _ a b=>exact AJ.cons Rep.Ii<|b
def DIs(P:jw)(w:jm)(T:Hp)(S:iW)(c:List (List Key))(h:jo):Prop:= ∃m:List (List Key×iW×jg),L2.KT T (NH c) m/\ ∃o a b,h.get? S=Y o/\o.ExactDict/\o.data= .dict a b/\a.toList=m.map (entryOfKey<|c7<|lJ P w)/\(m.map (·.1)).Nodup
section
variable {X:Cx}
def acp(hu:X.A.units+62<aQ)(hc:X.calm=YP):lr X (.type "dict") (IT X.K<|g1 A6):=oU λE s σ H x u Q O d z I ru np hd L G=>by
 cases d with
 |lst l=>
  obtain⟨f,F,L⟩:=iU L;obtain⟨⟨hz,fP⟩,rfl⟩:=jH L;obtain⟨p,xs,rfl,q,r⟩:=ll hd;cases ru;obtain⟨n,v,⟨ol,nn,dr,et,gK,fR⟩,_⟩:=I.list q;obtain⟨e0,y⟩:=RU F;have e1:=r.length;have e2:=v.length;have hh:X.A.handled=X0:=I.ok.hd hc;have R:=I.fresh
  refine TT.TN hh dr et fR gK (λi h=>DIs X.prog X.w H s.heap.objs.size (f.take i) h)
   (λi h h' ⟨m,k,o,N,M,e,c⟩ st=>⟨m,k,o,N,M,st _ e,c⟩) (λh' e=>⟨[],.nil,_,#[],0,e,⟨rfl,rfl,rfl⟩,rfl,rfl,nU⟩) (λi w s' B hB hi ⟨m,hk,hd⟩ T eg ed eo=>?_) (λh' tk ⟨m,hk,hd⟩ T=>?_)
  .have cP:i<n.length:=by have:=(Kp.mp hi).1;simpa using this
   have hw:n[i]?=XV w:=by simpa using hi
   have C:f[i]?=XV f[i]:=kK (by lia);have W:xs[i]?=XV xs[i]:=kK (by lia);obtain⟨w',w1,w2⟩:=v.get W;rw[hw] at w1;cases w1;obtain⟨dk,Y,fQ⟩:=y i _ C;have u9:Rep X.K H O (.tup [dk,.bl YP]) xs[i]:=r.views fQ W;obtain⟨h1,g1,dr1,dh,os1⟩:=s';dsimp only at T eg ed eo hd;subst eg;subst ed;subst eo;have J:Inv X E σ H {s with heap:=h1,toks:=dh}:=I.kept T;obtain⟨a,ys,ea,sq,g⟩:=lQ<|.inl u9;rw[ea] at w2;cases w2;obtain⟨b8,v2,cu,_⟩:=J.tuple sq;rw[AJ] at g;obtain⟨y1,r1,rfl,p1,g⟩:=g;rw[AJ] at g;obtain⟨y2,r2,rfl,p2,g⟩:=g;rw[AJ] at g;subst g;obtain⟨b,rfl,hb⟩:=pH Y<|.inl p1;rw[Rep] at p2;subst p2;obtain⟨u1,u2,rfl,S,V⟩:=zq v2;cases S;refine⟨a,_,_,rfl,cu,λQ' E' hq=>?_⟩;obtain⟨o,N,M,g1,g2,g3,g4,g5⟩:=hd
   have hm:f[i]∉m.map (·.1):=by rw[JS hk];intro Z;rw[kM] at Z;obtain⟨x,hx,e⟩:=nC.mp Z;obtain⟨j,D,e3⟩:=DK hx;rw[tL] at D;rw[List.getElem_take] at e3;have g8:=PZ.mp fP j i (by lia) (by lia) (by lia);exact g8<|e3.trans e
   have ip:gM m f[i]=X0:=atKey_none_of_get λj p' D=>hm<|nC.mpr ⟨_,mB D,rfl⟩
   have hml:m.length<=1000:=by have:=nE dq<|JS hk;simp at this;lia
   refine wpAny_dictSet_heap (knd:=c7<|lJ X.prog X.w) (k:=f[i]) (show(c7<|lJ X.prog X.w).room B from(by show B.units<aQ;lia)) (sN J.hok hb) (xs:=m) ⟨o,N,M,g1,g2,g3,g4,X8 J.hok hk,g5⟩ (λh2 t m5=>hq h2 _ (Nat.le_add_right _ _) m5 ?_) (by rw[jY];lia);rw[storedH_new ip] at t;obtain⟨o',U,eV,k1,k2,k3,k4,_,k5⟩:=t;refine⟨_,?_,o',U,eV,k1,k2,k3,k4,k5⟩;rw[DH,C];show L2.KT H (cN _ (f.take i++[f[i]])) _;rw[oX];exact RW hk ⟨rfl,hb,V⟩
  .have P:n.toArray.size=f.length:=by simp;lia
   rw[P,GU] at hk;refine⟨.ref s.heap.objs.size,upd H s.heap.objs.size<|.dT<|NH f,I.laid T (kh _) ⟨?_,?_,m,RX (λa u e=>by rw[jA<|ma e R];exact e) hk,hd⟩,rfl,?_⟩
   .rw[kn,jY];lia
   .have:=I.big;simp only[xo,ne_eq]
    lia
   .refine G s.heap.objs.size _ R (lG R) ⟨(NH f).map (·.2),.inr ⟨NH f,jr,?_,rfl⟩,?_⟩
    .rw[kM];rfl
    .exact UH _
 |_=>cases L
variable {a:je}{g:FO}{p f:bO}
def Zd(k:X.A.units+62<aQ)(j:X.mg "dict"=C)(c:QA X [a] [g])(d:autoParam (X.calm=J) AQ)(i:autoParam (Gl X "dict") AQ)(e:autoParam (SE X a []) AQ)(b:autoParam (BA X f []) AQ):QX X (.Call (.Name "dict" p) [a] [] f) (jy (g1 A6) [g]):=
 ⟨Jw (acp k d) i j (by decide+kernel) c.h (by decide) (by decide) e b⟩
end
end PX
namespace L2
open PySem.W
section
variable {P:jw}{w:jm}{a:List ek}{H f:Hp}{s b:iZ}{C e:iW}{c B d:jo}{F:kN}
end
section
variable {X:Cx}{b:jK}{c:St}{H:Hp}{s d:iZ}{C e:iW}
variable {P:jw}{w:jm}{a:List ek}{f:Hp}{s0:iZ}{E:XK}
end
section
variable {X:Cx}{P:jw}{w:jm}{b:List ek}{f:Hp}{s0:iZ}{E:XK}{x:aG}{C:iW}{a:je}{d:TE}{np e c:bO}
end
def zf(q:aG):HO:= .tbl #[.str q 0]
structure Ly(TB:List (iW×aG))(H:Hp):Prop where
 one: ∀b,H b=X0\/(∃o xs,H b=XV (.EY o<|.lst xs))\/ ∃q,(b,q)∈TB/\H b=XV (zf q)
 all: ∀p∈TB,H p.1=XV (zf p.2)
def acL{P:jw}{w:jm}{K:ju}{C mb:mz}{CX:KD}{k:Nat}{fa a:iW}{fd:mV}{x:aG}{sp:Sp}{c:iZ}{O:ku}{Q:jh}{TB:List (iW×aG)}
  (KX:K.In c.heap)(ax:c.heap.Ns aq C)(g:c.heap.Ns hG mb)(hbb: ∀x:aG,x≠"__name__"->mb x=aB x)(Y:c.heap.NoLimit)(hg:c.gens= #[])
  (M: ∀p∈TB,c.heap.get? p.1=XV (tabObj #[]))(fY: ∀p∈TB,K.lookup p.1=X0)(fX: ∀p∈TB,isCodeTable c.heap p.1)(eO:(TB.map (·.1)).Nodup)(U: ∀p∈TB,c.heap.BuiltinsAt C p.1)
  (N:c.heap.get? a=XV {cls:= .type "list",data:= .seq O.toArray})(hi:fe O Q)(hl:Q.length<=sizeLine)(hr:BN k gq)
  (F: ∀base:jo,K.In base->base.Ns aq C->(∀p∈TB,base.BuiltinsAt C p.1)->EZ P w K C base CX k fa fd [x] sp)(n4: ∀(s:iZ) (u:jg),gr s fd ⟨[u],[]⟩ [(x,u)])
  (aX: ∀H8:Hp,Ly TB H8->Gm K H8 a (Q.map V.int)->sp [.ref a] H8 (λv H'=>v= .bl YP/\ ∀p∈TB,H' p.1=XV (zf p.2)) λ_ _ _=>False)
  (hCX: ∀H8 e j,CX [] H8 c (λ_ _ _=>False) e j->False):
  cC (aj P w) gq (.call (.ref fa) ⟨[.ref a],[]⟩) (λr j=>r= .ok (.ret<|.bool YP)/\OldK c.heap j.heap/\j.os=c.os/\fg j.gens) c:=by
 have rv:=ac5 hi;have R:=hi.length
 have Z: ∀p∈TB,p.1≠a:=λp f e=>by have:=M p f;rw[e,N] at this;cases this
 have t: ∀H8:Hp,Ly TB H8->Gm K H8 a (Q.map V.int)->Fd P w H8 c.heap->(∀b,H8 b≠X0->b=a\/ ∃p∈TB,b=p.1)->(H8 a≠X0->K.lookup a=X0)->
   cC (aj P w) gq (.call (.ref fa) ⟨[.ref a],[]⟩) (λr j=>r= .ok (.ret<|.bool YP)/\OldK c.heap j.heap/\j.os=c.os/\fg j.gens) c:=by
  intro H8 hO hS D hA hK;have r6: ∀{b:iW} {o:fy},c.heap.get? b=XV o->H8 b=X0->(BZ c.heap H8).get? b=XV o:=λe n=>OT e n
  have aW: ∀{b:iW} {o:fy},c.heap.get? b=XV o->(∀its n,o.data≠ .seq its n)->(∀I,o.data≠ .fields I)->H8 b=X0:=λ{b o} e d d2=>by
   cases q:H8 b with
   |none=>rfl
   |some u=>
    rcases hA b (by rw[q];simp) with rfl|⟨p,f,rfl⟩
    .rw[N] at e;cases e;exact absurd H<|d _ _
    .rw[M p f] at e;cases e;exact absurd H<|d2 _
  have X: ∀{b:iW} {m:mz},c.heap.Ns b m->(BZ c.heap H8).Ns b m:=λ{b m} ⟨o,es,ep,e,d,r⟩=>⟨o,es,ep,r6 e (aW e (λ_ _ z=>by rw[d] at z;cases z) λ_ z=>by rw[d] at z;cases z),d,r⟩
  have J:K.In (BZ c.heap H8):=λb o e=>r6 (KX b o e) (by
   cases q:H8 b with
   |none=>rfl
   |some u=>
    rcases hA b (by rw[q];simp) with rfl|⟨p,f,rfl⟩
    .rw[hK<|by rw[q];simp] at e;cases e
    .rw[fY p f] at e;cases e)
  have hBA: ∀p∈TB,(BZ c.heap H8).BuiltinsAt C p.1:=λp f=>by obtain⟨bm,o,h1,h2,h3,h4,h5,h6,h7,h8⟩:=U p f;exact⟨bm,o,h1,h2,h3,h4,r6 h5 (aW h5 (λ_ _ z=>by rw[h8] at z;cases z) λ_ z=>by rw[h8] at z;cases z),h6,h7,h8⟩
  have hM:Mod K C (BZ c.heap H8):=⟨J,X ax,⟨mb,X g,hbb⟩,let⟨mc,h1,h2⟩:=Y;⟨mc,X h1,h2⟩⟩
  have e0:KC P w K C (BZ c.heap H8) gq [] c H8:=⟨rfl,hM,λb o e=>RE e,w9<|adx _ _,trivial,λb g=>absurd (show b∈([]:List iW) from g)<|by simp,D,.of_eq hg⟩
  refine qx ((F _ J (X ax) hBA).run gq [] c H8 ⟨[.ref a],[]⟩ [.ref a] [.ref a] _ _ hr e0 (n4 c<|.ref a) (.cons H .nil) (aX H8 hO hS)) λr j h=>?_
  cases r with
  |error e=>exact(hCX H8 e j h).elim
  |ok fl=>
   cases fl with
   |next=>exact ba h
   |brk=>exact ba h
   |cont=>exact ba h
   |ret u=>
    obtain⟨v,H',os,T,un,B,r',q,L⟩:=h;subst q;obtain rfl:u=dQ YP:=r'
    have W: ∀p∈TB,∃I,j.heap.get? p.1=XV (tabObj I):=λp f=>by
     obtain⟨_,_,I,_,e,_⟩:=(show AR P w H' j.heap p.1 (.tbl #[.str p.2 0]) from B _ _ (L p f))
     exact⟨I,e⟩
    have keep: ∀b o,c.heap.get? b=XV o->(∀p∈TB,b≠p.1)->j.heap.get? b=XV o:=λb o e n=>by
     cases q:H8 b with
     |none=>exact un.keep b o e q (by intro z;exact absurd (show b∈([]:List iW) from z)<|by simp) (by simp)
     |some u=>
      rcases hO.one b with z|⟨ob,xs,z⟩|⟨qq,hm,z⟩
      .rw[q] at z;cases z
      .have z2:=un.frzs b ob _ z;obtain⟨e1,_⟩:=D b _ z;obtain⟨G,_⟩:=B b _ z2;rw[e] at e1;cases e1;exact G
      .exact absurd H (n _ hm)
    refine⟨rfl,⟨λb o e=>?_,λb o e=>?_⟩,os,T⟩
    .by_cases g: ∃p∈TB,b=p.1
     .obtain⟨p,f,rfl⟩:=g;obtain⟨I,G⟩:=W p f;rw[M p f] at e;cases e;refine .inr<|.inl ⟨fX p f,rfl,#[],I,rfl,?_⟩;rw[G];simp
     .exact .inl (keep b o e λp f z=>g ⟨p,f,z⟩)
    .by_cases g: ∃p∈TB,b=p.1
     .obtain⟨p,f,rfl⟩:=g;obtain⟨I,G⟩:=W p f;exact⟨_,G⟩
     .exact⟨o,keep b o e λp f z=>g ⟨p,f,z⟩⟩
 have A: ∀{b q},TB.lookup b=XV q->(b,q)∈TB:=λh=>by
  revert h;generalize TB=l
  induction l with
  |nil=>intro h;simp at h
  |cons x l ih=>
   intro h;rw[pd] at h;split at h
   .rename_i g;cases h;rw[beq_iff_eq.mp g];exact jW
   .exact jZ _ (ih h)
 have S: ∀p∈TB,TB.lookup p.1=XV p.2:=by
  clear A t Z aX fY fX U F M
  induction TB with
  |nil=>intro p f;simp at f
  |cons x l ih=>
   intro p f;rw[kc,yT] at eO;rw[pd];rcases lz.mp f with rfl|f
   .simp
   .have:(p.1==x.1)=ZB:=by rw[xo];exact λe=>eO.1 (e▸rQ f)
    rw[this];exact ih eO.2 p f
 have E: ∀(H8:Hp) (b:iW) (q:aG),(b,q)∈TB->AR P w H8 c.heap b (zf q):=λH8 b q hm=>⟨q,0,#[],rfl,M _ hm,trivial,λpos cv z=>by simp[eK] at z⟩
 cases hk:K.lookup a with
 |some o=>
  have e:=KX a o hk;rw[N] at e;cases e;refine t (λb=>(TB.lookup b).map zf) ⟨λb=>?_,λp f=>by rw[S p f];rfl⟩ (.inr ⟨_,O.toArray,_,hk,rfl,rfl,rfl,by rw[kd,R];exact hl,by simpa using rv⟩) (λb u z=>?_) (λb z=>?_) λz=>?_
  .cases q:TB.lookup b with
   |none=>exact .inl H
   |some y=>exact .inr<|.inr ⟨y,A q,rfl⟩
  .have i:(TB.lookup b).map zf=XV u:=z
   cases q:TB.lookup b with
   |none=>rw[q] at i;cases i
   |some y=>rw[q] at i;cases i;exact E _ b y (A q)
  .have i:(TB.lookup b).map zf≠X0:=z
   cases q:TB.lookup b with
   |none=>rw[q] at i;exact absurd H i
   |some y=>exact .inr ⟨_,A q,rfl⟩
  .have i:(TB.lookup a).map zf≠X0:=z
   cases q:TB.lookup a with
   |none=>rw[q] at i;exact absurd H i
   |some y=>exact absurd H<|Z _ (A q)
 |none=>
  have ip: ∀p∈TB,(if p.1=a then XV (HO.EY {cls:= .type "list",data:= .seq O.toArray}<|.lst<|Q.map V.int) else(TB.lookup p.1).map zf)=XV (zf p.2):=λp f=>by rw[jv<|Z p f,S p f];rfl
  refine t (λb=>if b=a then XV (.EY {cls:= .type "list",data:= .seq O.toArray}<|.lst<|Q.map V.int) else(TB.lookup b).map zf) ⟨λb=>?_,ip⟩ (.inl<|.inr ⟨{cls:= .type "list",data:= .seq O.toArray},jl H⟩) (λb u z=>?_) (λb z=>?_) λ_=>hk
  .by_cases g:b=a
   .exact .inr (.inl ⟨_,_,jl g⟩)
   .cases q:TB.lookup b with
    |none=>exact .inl (by simp[g,q])
    |some y=>exact .inr<|.inr ⟨y,A q,by simp[g,q]⟩
  .by_cases g:b=a
   .have i:=(jl g).symm.trans z;cases i;subst g;exact⟨N,by rw[kn];exact hl,O,_,rv,N⟩
   .have i:=(jv g).symm.trans z
    cases q:TB.lookup b with
    |none=>rw[q] at i;cases i
    |some y=>rw[q] at i;cases i;exact E _ b y (A q)
  .by_cases g:b=a
   .exact .inl g
   .cases q:TB.lookup b with
    |none=>exact absurd (by simp[g,q]) z
    |some y=>exact .inr ⟨_,A q,rfl⟩
end L2
namespace PX
open L2
def RQ{TB:List (iW×aG)}{K:ju}{k:BP}{T:Hp}{a:iW}{f:jh}(m: ∀p∈TB,T p.1=Y (zf p.2))(l:Gm K T a (f.map V.int)){o:Bool}{c:Dn}(h:k [(.lst<|f.map .int,U)]=Y ((.bl J,o),c)):IW K k [.ref a] T (λv g=>v= .bl J/\ ∀p∈TB,g p.1=Y (zf p.2)) λ_ _ _=>False:=by
 have no: ∀b,¬AO [Y<|V.ref a] [Y (D.lst<|f.map .int,U)] b:=λb Q=>by
  obtain⟨i,d,h1,q⟩:=Q
  cases i with
  |zero=>simp at h1
  |succ i=>simp at h1
 refine⟨λ_=>False,[(.lst<|f.map .int,U)],_,c,⟨rfl,λi d hd=>?_,λi d hd=>?_,λi j d e b h1=>?_,λb z=>absurd z<|no b,λb z=>z.elim⟩,h,λv g P=>?_⟩
 .cases i with
  |zero=>simp at hd;subst hd;refine⟨_,rfl,Rep.NF (a:=a) (xs:=f.map V.int) ?_<|acO f⟩;exact l.imp (λz=>⟨z,λz=>z.elim (no a) id⟩) id
  |succ i=>simp at hd
 .cases i with
  |zero=>simp at hd
  |succ i=>simp at hd
 .cases i with
  |zero=>simp at h1
  |succ i=>simp at h1
 .refine⟨?_,λp n=>P.1.kp _ _ (m p n) (no _)⟩
  cases o with
  |false=>exact P.2.2.bl
  |true=>obtain⟨p,_,_,_,ok⟩:=P.2;exact ok.elim
end PX
namespace L2
open PySem.W
theorem xv{a b:Int}{t u:Nat}{c:jg}: ∀l:List jg,j8 l->j8 (l++[.int a t,.int b u,c])
 |[],_=>trivial
 | .int _ _:: .int _ _::_::jF,h=>xv jF h
theorem Bz{a b:Int}{t u:Nat}{e:bO}{c f:jg}: ∀l:List jg,j8 l->eK e (l++[.int a t,.int b u,c])=Y f->eK e l=Y f\/f=c
 |[],_,h=>by
  simp only[tD,eK] at h;split at h
  .exact .inr (lj h).symm
  .cases h
 | .int i _:: .int j _::d::jF,h0,h=>by
  simp only[yA,eK] at h ⊢;split at h
  .rename_i q;rw[jl q];exact .inl h
  .rename_i q;rw[jv q];exact Bz jF h0 h
section
variable {X:Cx}{d:jK}{i:St}{H:Hp}{s:iZ}{P c:iW}{b:bA}{f:je}{scope:jQ}{j:kF}{g:bO}
def Tp{h:jo}{a:iW}(e:h.objs.size<=a):h.get? a=C:=by
 cases q:h.get? a with
 |none=>rfl
 |some o=>exact absurd (kH q)<|SW.mpr e
end
def EX(q:aG)(scope:jQ)(L fl:iW)(cd:jg)(a:kF):Env:=
 newEnv scope L aq a (q++".<locals>.") (Y fl) cd C hG
def zG(CX:KD)(P:jw)(w:jm)(K:Frag)(d:mz)(base:jo)(N:jq)(q:aG)(scope:jQ)(fl:iW)(cd:jg)(b:kF)(A:jn)(a:List ek)(s:iZ)(T:Hp)(E:XK):Cx where
 prog:=P
 w:=w
 K:=K
 mg:=d
 base:=base
 A:=A.deeper<|EX q scope s.heap.objs.size fl cd b
 N:=N
 s₀:=s
 H₀:=T
 env:=EX q scope s.heap.objs.size fl cd b
 outer:=a
 stack:=EX q scope s.heap.objs.size fl cd b::a
 ex:=[]
 calm:=J
 fn:=λ_=>U
 pn:=[]
 xe:=λe h=>ah (aj P w) (A.deeper<|EX q scope s.heap.objs.size fl cd b) (leaving (EX q scope s.heap.objs.size fl cd b) e) (λ_ c=>CX a T s E e c) (λg c=>CX a T s E g c) h
structure F0(scope:jQ):Prop where
 kind:scope.kind= .function
 co:scope.isCoroutine=ZB
 gen:scope.isGenerator=ZB
 cell: ∀y∈scope.names,y.2≠ .cell
structure Cd(N:jq)(scope:jQ)(b6:kF)(σ:St)(H:Hp)(h:jo):Prop where
 inj: ∀x y c,b6.lookup x=XV c->b6.lookup y=XV c->x=y
 has: ∀x,scope.names.lookup x=XV .free-> ∃c,b6.lookup x=XV c
 cell: ∀x c,b6.lookup x=XV c->(∃v,h.IsCell c v)/\H c=X0
 val: ∀(i:Nat) (x:aG) (v:V),N[i]?=XV x->σ[i]?=XV (XV v)->scope.names.lookup x=XV .free/\ ∃c u,b6.lookup x=XV c/\h.IsCell c (XV u)/\RelV v u
 len:(A7 σ)=(A7 N)
section
variable {f:KD}{P:jw}{w:jm}{K:Frag}{c:mz}{base:jo}{N:jq}{q:aG}{scope:jQ}{d:iW}{cd:jg}{e:kF}{A:jn}{a:List ek}{s:iZ}{H:Hp}{E:XK}{b:St}
end
open PySem.Calls Builtin Builtin.ObjectAttr Builtin.Getset_descriptor
section
variable {K:Frag}{C x:iW}{o:fy}
end
section
variable {X:Cx}{b:jK}{d c:St}{H:Hp}{s:iZ}{a:iW}{o:fy}{e:jo}
end
section
variable {X:Cx}{a:jK}{b:St}{H h:Hp}{s c:iZ}{C f:iW}{d B e:jo}{F:kN}{g:jg}
end
end L2
namespace PX
open L2 PySem.SeqAt PySem.W
abbrev XS:=Dn->Option aG
def J1{b:List (D×Bool)}(h:(b.all λa=>!a.2)=J): ∀a∈b,a=(a.1,U):=λa c=>by
 have:=mZ.mp h a c;obtain⟨d,f⟩:=a
 cases f with
 |false=>rfl
 |true=>cases this
theorem uX: ∀(os:List Bl) (b:List (D×Bool)),(∀a∈b,a=(a.1,U))->jB os b=[]
 |[],b,_=>by cases b<;>simp[jB]
 |o::os,[],_=>by simp[jB]
 |o::os,a::b,h=>by have c:=h a jW;obtain⟨d,f⟩:=a;cases c;cases o<;>simp[jB,uX os b λa e=>h a<|jZ _ e]
section
variable {X:Cx}{P:jw}{w:jm}{c:List ek}{l:Hp}{s0:iZ}{E:XK}{A:kz}{st:bc}{KP a b:List bc}{x y:XS}{e:je}{d:bO}
variable {k:Nat}{f:iW}{i:mV}{h:jq}{g:List D->Option aG}{j:kL}{fs:List FO}{z:aG}{p:bO}
end
end PX
namespace L2
open PySem.W
def Yr{CX:KD}{P:jw}{w:jm}{K:Frag}{B:mz}{base:jo}{k:Nat}{f:iW}{j qual:aG}{c:bA}{d:List bc}{scope:jQ}{dV kV p pm l ct oc:jg}{Y od:Option iW}
  {t6:ug}{N C:jq}{A:jn}{a:List ek}{s:iZ}{H:Hp}{i:Args}{M:ku}{vs:List V}{Q:VK}{E:XK}(lk:K.lookup f=XV ⟨oc,od,.func<|fnOf j qual c d scope dV kV p pm Y l ct,t6⟩)(l7:codeIn K l qual=YP)(S:AN N C scope)
  (L:BN (k+1) A)(z:KC P w K B base A a s H)(hb:gr s (fnOf j qual c d scope dV kV p pm Y l ct) i (C.zip M))(r:Vals vs M)(hl:(A7 vs)=A7 C)
  (m9:BN k (A.deeper<|aY qual scope s.heap.objs.size f l)-> ∃t,IJ (qp CX P w K B base N qual scope f l A a s H E) d t/\t {nx:=λ_ h=>Q .Ax h,rt:=Q} (nY N vs) H):
  cC (aj P w) A (.call (.ref f) i) (CR CX a P w H s Q E) s:=by
 have U:K.In s.heap:=z.mod.kin.keeps λb o e=>(z.bs b o e).1;have O:s.heap.NoLimit:=z.mod.nolimit.keeps λb o e=>(z.bs b o e).1
 have D: ∀y∈C.zip M,scope.names.lookup y.1=XV .local\/(scope.names.lookup y.1=XV .cell/\((bz (s.heap.objs.size+1) scope.names []).lookup y.1).isSome=YP):=λ⟨n,v⟩ hy=>by
  rcases S.par n (D8 hy).1 with q|q
  .exact .inl q
  .exact .inr ⟨q,cellsFrom_some _ _ _ (.inl q)⟩
 refine Ht L.depth (U _ _ lk) AM S.co S.gen AM (codeRec_of U l7)<|hb _ _ _ _ ?_;refine MC S.kind D λF R s1 x=>?_;subst R;refine⟨O.keeps x.toInCall.keep,Hs ?_⟩;obtain⟨t,X,W⟩:=m9<|L.deeper _;have I:Inv (qp CX P w K B base N qual scope f l A a s H E) [] (nY N vs) H s1:=CT S L.hd z hl r x;refine nX (X [] s1 (nY N vs) H _ I W) (λfl G m=>?_) λe G m=>m
 have fin: ∀{g:St} {h:Hp} {v:V} {u:jg},Inv (qp CX P w K B base N qual scope f l A a s H E) [] g h G->RelV v u->Q v h->CE a P w H s Q u G:=
  λ{g h v u} J T q=>⟨v,h,J.os,J.bare,J.base,J.hok,T,q⟩
 cases fl with
 |ret u=>obtain⟨v,g,h,J,T,q⟩:=m;exact fin J T q
 |next=>obtain⟨g,h,J,q⟩:=m;exact fin (v:=V.Ax) (u:=ao) J AM q
 |brk=>obtain⟨_,_,_,q⟩:=m;exact ba q
 |cont=>obtain⟨_,_,_,q⟩:=m;exact ba q
section
variable {fs:kN}{N:jq}{scope:jQ}{b:kF}{d:St}{H g:Hp}{h h':jo}{q:aG}{a:bA}{f:je}{j:iW}
def Cd.keep(T:Cd N scope b d H h)(u:Un fs [] H g h h')(n: ∀x c,b.lookup x=Y c->c∉fs):Cd N scope b d g h':=by
 have p: ∀{x c v},b.lookup x=Y c->h.IsCell c v->h'.IsCell c v:=λ{x c v} e z=>by obtain⟨o,k,l⟩:=z;exact⟨o,u.keep c o k (T.cell x c e).2 (n x c e)<|by simp,l⟩
 refine⟨T.inj,T.has,λx c e=>?_,λi x v h1 s=>?_,T.len⟩
 .obtain⟨⟨v,o,k,l⟩,y⟩:=T.cell x c e;exact⟨⟨v,p e ⟨o,k,l⟩⟩,u.free c o k y<|by simp⟩
 .obtain⟨t,c,w,m,A,r⟩:=T.val i x v h1 s;exact⟨t,c,w,m,p m A,r⟩
end
section
variable {X:Cx}{N:jq}{scope:jQ}{e:kF}{c:St}{q:aG}{a:bA}{b:je}{d:iW}{k:Nat}{t:XK->TE}
end
end L2
namespace PX
open L2 PySem.SeqAt PySem.W
def VJ{b:List (D×Bool)}(h: ∀a∈b,a=(a.1,U))(f:L2.St)(a:iW): ¬AO f (b.map Y) a:=λT=>by
 obtain⟨i,d,h1,_⟩:=T
 rw[ly] at h1;obtain⟨p,c,e⟩:=jL h1;cases e;have:=h _ (mB c);simp at this
section
variable {X:Cx}
def GC{T:B7}{k:L2.St}{m:Dn}{Q:Hp}{d:kj}{f:List (D×Bool)}{K:Frag}(n:ER K Q T k m)(s:km m (d.map .slot)=Y f):
  ∃vs:List V,tZ d 0 k=vs.map Y/\Ops K T k m Q (d.map Bl.slot) vs m Q T:=by
 obtain⟨w,t⟩:=qo s
 have g: ∀(i j:Nat),d[i]?=Y j-> ∃v,k[j]?=Y (Y v):=λi j e=>by
  have u:i<(A7 f):=by have:=(xj.mp e).1;simp at w;lia
  obtain⟨o,r,l⟩:=t i _ (kK u);rw[ly,e] at r;cases r;have p:=oo l;generalize f[i]=y at p;obtain⟨x,b⟩:=y
  cases b with
  |false=>obtain⟨v,h,_⟩:=n.val j x p;exact⟨v,h⟩
  |true=>obtain⟨a,h,_⟩:=n.own j x p;exact⟨_,h⟩
 refine⟨d.map λj=>((k[j]?).join).getD .Ax,?_,by simp,.refl,n,λ_ z=>z,λj x v e=>?_,λj x v e=>?_,λj i v e hv=>?_⟩
 .unfold tZ;rw[Af,sf];apply DY;intro i;rw[ly,ly,ly]
  cases e:d[i]? with
  |none=>rfl
  |some j=>obtain⟨v,hv⟩:=g i j e;simp[hv]
 .rw[ly] at e;obtain⟨_,_,z⟩:=jL e;cases z
 .rw[ly] at e;obtain⟨_,_,z⟩:=jL e;cases z
 .rw[ly] at e;obtain⟨c,q,z⟩:=jL e;cases z;obtain⟨A,l⟩:=g j i q;rw[ly,q] at hv;simp[l] at hv;rw[l,hv]
end
section
variable {X:Cx}{u c:iW}{a:bA}{e:je}{scope:jQ}{f b p:bO}{d:kj}{w v:jq}{r:F}{xB:XS}{t:FS}{x:aG->Option Nat}{g:kj}{st:bc}{q:iW}{s:mV}{n o l h m:aG}{CR:iW}{i j k:Nat}
end
section
variable {X:Cx}
variable {b f a e c:bO}{i:Nat}{x:aG}{d:Nat}
end
section
variable {X:Cx}{e:je}{h:FO}{c p d:bO}{z:aG}{l:kj}{k:Nat}
variable {x:aG}{i g:Nat}{j b:bO}{a:je}{f:F}
end
section
variable {X:Cx}{P:jw}{w:jm}{d:List ek}{o:Hp}{s0:iZ}{E:XK}{A:kz}{st:bc}{KP b:List bc}{x y:XS}{e:je}{g p j:bO}{f:FS}{z:aG}{a:je}{m:F}{k:Nat}{i:jq}{h:List D->Option aG}{n:kL}{fs:List FO}{l:FT}{c:je}
end
def Wc(q:aG)(a:iW)(T:Hp):Prop:= ∃more,T a=Y (.tbl (#[.str q 0]++more))
def spT(TB:List (iW×aG))(a:Sp):Sp:=λb T Q E=>(∀p∈TB,Wc p.2 p.1 T)/\a b T Q E
def Iu(scope:jQ):Bool:=decide (scope.kind= .function)&&!scope.isCoroutine&&!scope.isGenerator&&(scope.names.all λy=>y.2 != .cell)
def X7{scope:jQ}(h:Iu scope=J):F0 scope:=by unfold Iu at h;simp only[mP,mZ,sd,fU,bne_iff_ne] at h;exact⟨h.1.1.1,h.1.1.2,h.1.2,h.2⟩
def walkT{l:OpenLaw}{q:jw}{m:jq}{XP:(aG->Option jg)->jo->Prop}{E:jm->jo->Prop}{d:DefRec}{K:Params->Frag}{LV:Nat}{x:aG}{Q:BP}{TB:List (iW×aG)}(hk:BN LV gq)(hn:l.most=XV 63)(cS:d.params.defaults=[])(hY: ∀(w:jm) (h:jo),E w h->(K w.params).In h)
  (L: ∀(w:jm) (h:jo),E w h-> ∀p∈TB,h.get? p.1=XV (tabObj #[]))(fY: ∀(w:jm),∀p∈TB,(K w.params).lookup p.1=X0)(eO:(TB.map (·.1)).Nodup)
  (F: ∀(w:jm) (n:mz) (v:iW) (h:jo),(K w.params).In h->h.Ns aq n->n d.name=XV (.ref v)-> ∃I':mV,(∀(s:iZ) (u:jg),gr s I' ⟨[u],[]⟩ [(x,u)])/\(∀p∈TB,∃c,codeHdIn (K w.params) c p.1=YP)/\ ∀base:jo,(K w.params).In base->base.Ns aq n->(∀p∈TB,base.BuiltinsAt n p.1)->EZ l.prog w (K w.params) n base FH LV v I' [x] (spT TB<|IW (K w.params) Q))
  (M: ∀A:List Int,A7 A<=63-> ∃o j,Q [(.lst<|A.map .int,ZB)]=XV ((.bl YP,o),j)):WalkO q m XP E l.row.toRowW d [] (λf B=>wn f B):=by
 refine Att.SF hn cS λw U D n mb v o pm cd S a B A G Y ho hd l7 O R k i hg=>?_;have C:=hY w _ Y;obtain⟨I',hb,fX,hF⟩:=F w n v _ C G.T.g O;have N:=L w _ Y;refine acL (TB:=TB) C G.T.g G.T.b G.T.builtins G.T.nolimit hg N (fY w) (λp t=>?_) eO (λp t=>?_) R k (mC i<|by decide) hk hF hb (λH J hS=>?_) λH e s' z=>z
 .obtain⟨c,hc⟩:=fX p t;obtain⟨o,B,_,_,_,_,_,_,_,V,W,X,Z,_⟩:=codeHd_of_K C hc;exact⟨c,o,B,V,W,X,Z⟩
 .obtain⟨P,ob,h1,h2,r,h4,h5,y⟩:=G.T.bmain;refine⟨P,ob,h1,h2,λz=>?_,λz=>?_,r,h4,h5,y⟩
  .obtain⟨o',es,ep,e,dd,_⟩:=G.T.g;rw[z,e] at r;cases r;rw[dd] at y;cases y
  .rw[z,N p t] at r;cases r;cases y
 .obtain⟨o,j,e⟩:=M A i;exact⟨λp t=>⟨#[],by rw[J.all p t];rfl⟩,RQ J.all hS e⟩
def SN(TB:List (iW×aG))(T:Hp):Prop:= ∀p∈TB,Wc p.2 p.1 T
def fnU{Z:ZZ}{k:Nat}{x:aG}{st:bc}{N c:jq}{asg:kj}{fs:FS}{f:iW}{d:mV}{TB:List (iW×aG)}(F:KA Z.K x x st f d)(S:AN N c (iY st))
  (l: ∀(b:jg) (A:jn) (a:List ek) (s:iZ) (T:Hp) (E:XK) (L:LL),(∀i,L.p i->i<A7 c)->BN k (A.deeper<|aY x (iY st) s.heap.objs.size f b)->
   un (A.deeper<|aY x (iY st) s.heap.objs.size f b) 60->un (A.deeper<|aY x (iY st) s.heap.objs.size f b) 1->un (A.deeper<|aY x (iY st) s.heap.objs.size f b) 62->un (A.deeper<|aY x (iY st) s.heap.objs.size f b) 90->N.Nodup->
   b=d.code->SN TB T->QQ (qp FH Z.P Z.w Z.K Z.mg Z.base N x (iY st) f b A a s T E).Ig (λi=>i∈asg) L T (lW st) fs):
  EZ Z.P Z.w Z.K Z.mg Z.base FH (k+1) f d c (spT TB<|IW Z.K<|BM (A7 N) (A7 c) asg fs):=by
 obtain⟨q,r,kV,g,t,o,b,ct,u,rfl,lk,m⟩:=F.ex;refine TC lk m S (λn T Q E h=>Jo h.2) λA a s T n Q E e h=>?_;obtain⟨L,h1,j⟩:=HL h.2;have:=e.un;exact⟨_,((l b A a s T E L h1 e (by unfold un;omega) (by unfold un;omega) (by unfold un;omega) (by unfold un;omega) S.nd H h.1).h).Ig,j⟩
def Lw(Z:ZZ)(TB:List (iW×aG))(k:Nat)(x:aG)(b:jq)(c:BP):Prop:= ∃f a,EZ Z.P Z.w Z.K Z.mg Z.base FH k f a b (spT TB<|IW Z.K c)/\Z.mg x=Y (.ref f)/\keepIn Z.K (.ref f)=J/\Binds Z.K a b []
def Lw.up{Z:ZZ}{TB:List (iW×aG)}{k j:Nat}{x:aG}{d:jq}{c:BP}(o:Lw Z TB k x d c)(h:autoParam (k<=j) Bb):Lw Z TB j x d c:=let⟨f,e,a,b⟩:=o;⟨f,e,a.mono h,b⟩
def TbK(Z:ZZ)(TB:List (iW×aG))(x:aG)(st:bc)(q:aG)(a:iW):Prop:= ∃f b c,Z.mg x=Y (.ref f)/\KA Z.K x x st f b/\b.code= .ref c/\CodeHd Z.base c a/\Z.base.BuiltinsAt Z.mg a/\aq≠a/\(a,q)∈TB
def N1(K:Frag)(d:mz)(x:aG)(st:bc)(b:iW):Prop:= ∃f a c,d x=Y (.ref f)/\KA K x x st f a/\a.code= .ref c/\codeHdIn K c b=J
def fzT{K:Frag}{h:jo}{g:mz}{x:aG}{st:bc}{f c d:iW}{m:jg}{n i:Option iW}{p:ug}{kV b o ct:jg}(X:K.In h)(G:h.Ns aq g)(a:nsIn K aq x=Y (Y<|.ref f))
  (l:K.lookup f=Y ⟨m,n,.func<|fnOf x x (tu st) (lW st) (iY st) .none kV b o i (.ref c) ct,p⟩)(e:codeIn K (.ref c) x=J)(k:keepIn K (.ref f)=J)(j:codeHdIn K c d=J):N1 K g x st d:=⟨f,_,c,mg_of X G a,Pc l e k,rfl,j⟩
def N1.tb{Z:ZZ}{x q:aG}{st:bc}{b:iW}{TB:List (iW×aG)}(a:N1 Z.K Z.mg x st b)(X:Z.K.In Z.base)(B: ∀p∈TB,Z.base.BuiltinsAt Z.mg p.1)(m:(b,q)∈TB)(i:autoParam (aq≠b) Bb):TbK Z TB x st q b:=
 let⟨f,d,c,h1,e,g,h⟩:=a
 ⟨f,d,c,h1,e,g,codeHd_of_K X h,B _ m,i,m⟩
def N1.cd{K:Frag}{d:mz}{x:aG}{st:bc}{b:iW}(a:N1 K d x st b): ∃c,codeHdIn K c b=J:=let⟨_,_,c,_,_,_,h⟩:=a;⟨c,h⟩
section
variable {X:Cx}{k:Nat}{f:iW}{i:mV}{d:jq}{x:aG}{p b:bO}{e a:je}{c:kL}{g:BP}{fs:List FO}{j:FO}{TB:List (iW×aG)}
def aeq{o:Sp}{t:TA}(F:EZ X.prog X.w X.K X.mg X.base FH k f i d (spT TB o))(T:SN TB X.H₀)(O:BN k X.A)(C:Gl X x)(E:X.mg x=Y (.ref f))(hk:keepIn X.K (.ref f)=J)(z:Binds X.K i d [])
  (y:PA X (e::c) t)(G:(x==("__debug__":aG))=U)(B:ac (e::c) X.env=(U,aT e X.env)::ac c X.env)(v:(aH b<|ac c X.env).any (·.1)=U):
  PE X (.Call (.Name x p) (e::c) [] b) (S9 o [] L2.E0 t):=by
 intro l s M H Q I h;refine vR<|zZ I C E ?_ G;refine hU (h₀:=X.base) I.ok.mod.kin hk (BI (y b l s M H _ I h) λU' s1 ⟨Y',N,n,r,q⟩=>⟨n.HI,?_⟩) B v;exact Nc F O z .nil To n r ⟨λp L=>let⟨m,e⟩:=T p L;let⟨J',u⟩:=n.base.tbls _ _ e;⟨m++J',by rw[u,HB]⟩,q⟩
def N2(O:Lw (zX X) TB k x d g)(M:SN TB X.H₀)(J:BN k X.A)(C:QA X (e::c) fs)(L:autoParam (Gl X x) AQ)(U:autoParam (DB x) Bb)
  (I:autoParam (SE X e c) AQ)(y:autoParam (BA X b c) AQ):QX X (.Call (.Name x p) (e::c) [] b) (jI g fs):=
 let⟨_,_,ok,G,Y',w⟩:=O;⟨PX.imp (aeq ok M J L G Y' w C.h U I y) λR H Q N=>by
 obtain⟨D,T,V,F,E,e,k⟩:=N;obtain⟨⟨os,n⟩,h1,e⟩:=iU e;obtain⟨l,o,e⟩:=iU e;dsimp only at e;split at e
 .rename_i q;obtain⟨⟨r,m⟩,z,e⟩:=iU e;obtain⟨rfl,rfl⟩:=jz e;refine⟨D,T,os,n,E,h1,λs u S B=>?_⟩;show IW X.K g (s++[]) u Q L2.E0;rw[sf];exact⟨Tc T R n s l,l,r,m,yt E B o q,z,λv t P=>k v t<|ql E B o q P⟩
 .cases e⟩
end
def aN{a:Type}{P:a->Prop}: ∀p∈([]:List a),P p:=λ_ h=>nomatch h
def aC{b:Type}{P:b->Prop}{a:b}{l:List b}(h:P a)(r: ∀p∈l,P p): ∀p∈a::l,P p:=List.forall_mem_cons.mpr ⟨h,r⟩
section
variable {Z:ZZ}{ct a:List (aG×Nat)}{CR:Nat}
end
section
variable {X:Cx}{x y a b c d:je}{u v z:aG}{t s r q:FO}{f l k j i h:bO}{p o n:Nat}{m g e:dz}
end
end PX
namespace TT
section
variable {a:jw}{w:jm}{A:jn}{E:jJ}{s:iZ}
def Od(h:Q₁ (.ref s.heap.objs.size) {s with heap:=s.heap.push (ky #[] 0 (lD w))}):
  cC (aj a w) A (.call (.builtin "set.__new__") ⟨[.type "set"],[]⟩) (o6 Q₁ E) s:=by
 refine uE ?_;change ah _ A.in1 (dE "set.__new__" ⟨[.type "set"],[]⟩>>=λ_=>again<|.builtin "set.__new__" ⟨[.type "set"],[]⟩) _ _ s;refine iX<|qv PySem.F.newCall_set_0<|jd ⟨uj Ds _,oZ L8 ?_⟩;rw[rm Ds _];unfold aV.«set.__new__» eP;have c:=O0;obtain⟨b,g,d,e,os⟩:=s;dsimp only
 wp_walk
 refine uF<|jd ?_;dsimp only;simp only[newObj];refine iX<|An<|jd ?_;exact jd h
set_option maxHeartbeats 8000000 in
def V1{Q:jJ}(h:Q (.ref s.heap.objs.size) {s with heap:=s.heap.push (ky #[] 0 (lD w))}):ah (aj a w) A (call (.type "set") []) Q E s:=by
 obtain⟨c,y,j⟩:=Fn.mro;have g:=Fn.made;have x:=Fn.sub;refine yR<|uE ?_;change ah _ _ (Q1 (.type "set") ⟨[],[]⟩) _ _ s;refine jd ⟨Hd _ (by decide+kernel),oZ L7 ?_⟩;rw[Hc (Hb "set" ([]:List jg) []) H];have h1:=Fn.notType;have u:=Fn.canCreate;have p:=PySem.F.typeCall_set_0
 repeat (any_goals (first|assumption|wp_step))
 refine qx (Od (E:=E) (Q₁:=λobj b=>obj= .ref s.heap.objs.size/\b={s with heap:=s.heap.push (ky #[] 0 (lD w))}) ⟨rfl,rfl⟩) λr b i=>?_
 cases r with
 |error e=>exact i
 |ok m=>
  cases m with
  |ret obj=>
   obtain⟨rfl,rfl⟩:=i;have n:(s.heap.push<|ky #[] 0 (lD w)).get? s.heap.objs.size=Y (ky #[] 0 (lD w)):=kG _ rfl;have o:eX {s with heap:=s.heap.push (ky #[] 0 (lD w))} (.ref s.heap.objs.size) "set":=⟨_,n,rfl⟩
   have q:=Fn.init.lookup;have t:=Fn.init.bind<|.ref s.heap.objs.size
   repeat (any_goals (first|assumption|wp_step))
   refine qx (DP (R:=o6 (λr z=>r= .none/\Q (.ref s.heap.objs.size) z) E) Fn.init.plain L6<|check_set_init o ?_) λd k f=>?_
   .unfold aV.«set.__init__» noKeywords
    wp_walk
    exact⟨rfl,h⟩
   .cases d with
    |error e=>exact f
    |ok l=>
     cases l with
     |ret r=>
      obtain⟨rfl,v⟩:=f
      repeat (any_goals (first|assumption|wp_step))
     |_=>exact f.elim
  |_=>exact i.elim
end
end TT
namespace PX
open L2 PySem.SeqAt
def Pj:F:=λa=>Y ((.B8 .set [] [],J),a)
def Gr(i:Nat)(f:F):F:=λb=>match b[i]? with
 |some (Y (.B8 .set _ _,J))=>(f b).bind λp=>match p.2[i]? with
  |some (Y (.B8 .set _ a,J))=>if a.all Ca=J/\Ca p.1.1=J/\(A7 a)<500 then Y ((.Ax,U),p.2.set i<|Y (.B8 .set []<|pG a p.1.1,J)) else C
  |_=>C
 |_=>C
section
variable {X:Cx}{e:je}{f:F}{m:FO}{c g d j p:bO}{i:Nat}{x:aG}
def QU(l:Gl X "set")(n:X.mg "set"=C):PX X (.Call (.Name "set" p) [] [] c) Pj:=λh s y O Q N r=>by obtain⟨w,T,v,t,E,e,k⟩:=r;cases e;refine vR<|qd N l n V4 ?_ (by decide) (by decide);refine z8<|TT.V1 ?_;have a:=N.hok.fresh<|kh s.heap.objs.size;refine⟨.ref s.heap.objs.size,upd O s.heap.objs.size<|.AV [],N.laid (t':=s.toks) (o:= .AV []) (λb u q=>kg _ q) (kh _) ?_,rfl,(Ops.nil E).done k _ _ a (lG a) ⟨[],⟨rfl,[],jr,.nil⟩,AJ.nil⟩⟩;exact⟨#[],0,_,kG _ rfl,.nil,TT.BX.fresh _ _ _,rfl,rfl⟩
def QV(hu:X.A.units+90<aQ)(hn:PO X (.Name x g) (jb i))(he:PX X e f)(j7:dI (.Name x g) "add" X.env (aT (.Name x g) X.env)=aT (.Name x g) X.env)
  (m8:((aH j<|ac [e] X.env).all (λx=>!x.1)&&(cJ j<|bW [] X.env).all (λx=>x.1.isSome)&&decide ([e].length+([]:List cM).length+(if([]:List cM).isEmpty then 0 else 1)<30))=J)
  (j6:(d.endLine==j.line)=J)(hs:ac [e] X.env=(U,aT e X.env)::ac [] X.env)(d8:(aH j<|ac [] X.env).any (·.1)=U):
  PX X (.Call (.Attribute (.Name x g) "add" d) [e] [] j) (Gr i f):=λC s L H Q I hw=>by
 obtain⟨G,T,rr,δ',E,q,k⟩:=hw;unfold Gr at q;split at q
 case h_2=>cases q
 rename_i k0 w0 Z;obtain⟨⟨r,h⟩,h1,q⟩:=iU q;dsimp only at q;split at q
 case h_2=>cases q
 rename_i k1 V D;obtain⟨⟨o1,o2,o3⟩,q⟩:=jH q;obtain⟨rfl,rfl⟩:=uk q;refine Mz j7 m8 j6 AM<|BI (hn C s L H (λv J'=>FA X.K T L G H (.slot i) G v J') I ⟨G,T,.slot i,G,E,by unfold jb;rw[Z],λ_ _ P=>P⟩) λv s1 b'=>?_;obtain⟨y,J',I1,r1,K1,U',B⟩:=b';obtain⟨a,g1,Lz,⟨_,zs,g2,_⟩,g3⟩:=U'.own i _ Z;rw[B] at g1;cases g1;cases r1;obtain⟨es,n,t,M,_⟩:=(show AR X.prog X.w J' s1.heap a (.AV zs) from I1.hok a _ g2)
 refine⟨"set","set.add",PySem.F.plainAttrs_set,GO,PySem.F.type_set_add,⟨_,M,rfl⟩,λb eb=>by cases eb;exact⟨_,M,rfl⟩,?_⟩;have hA:=mw he pZ hs j C s1 L J' (λV O=> ∃y,V=[y]/\BO X.K T L G J' r h y O) I1 ⟨G,T,r,h,U',h1,λy O P=>⟨y,rfl,P⟩⟩;rw[hs] at hA ⊢;refine My (by show(U||(aH j<|ac [] X.env).any (·.1))=U;rw[d8];rfl)<|Mx<|BI hA λus s2 b'=>?_;obtain⟨ws,O,Y',r2,y,hy,P2⟩:=b';subst hy;obtain⟨u,rfl,ru⟩:=r2.one;obtain⟨W,ry⟩:=P2.rep U';obtain⟨a',q1,us,q2,q3⟩:=W.own i _ D;rw[B] at q1;cases q1;obtain⟨es,n,t,l,S⟩:=E6.Le Y' q2 q3;refine nW GO ⟨_,S.is.at_,rfl⟩ LY ?_<|LX _ _;unfold aV.«set.add» cK;simp only[we,uq];unfold ce;refine iX<|jd ?_
 try dsimp only
 refine iX<|Ce.add Y' S o1 (.inl ry) ry ru o2 o3 (by show X.A.units+1+60<aQ;lia) λb h' tk es' n' t' R ht m5 N=>?_;show ah _ _ (ret ao) _ _ _;have rl: ∀p∈R,Rep X.K O (λa=>AO L h a\/T a) p.1 p.2:=N.rep;have oa:AO L h a:=⟨i,_,D,B⟩
 have kp: ∀(M:HO) b u,O b=Y u-> ¬(AO L h b\/T b)->upd O a M b=Y u:=λM b u e n=>by rw[jA<|by intro z;subst z;exact n<|.inl oa];exact e
 obtain⟨bM,z1,z2⟩:=N.B8 (K:=X.K) (H':=upd O a<|.AV<|R.map hv) (O':=λa=>AO L h a\/T a) (λp hp=>Rep.mono (kp _) (λ_ _ z=>z)<|rl p hp) jr;obtain⟨E4,K4⟩:=W.FY (o:= .AV (R.map hv)) (d':= .B8 .set [] (pG V r.1)) D B ⟨bM,z1,z2⟩;refine jd ⟨_,rfl,.Ax,_,?_,rfl,k _ _ (BO.val ((K1.trans P2.1).trans K4) E4 Rep.HM)⟩;obtain⟨gc,zs2,g4,_⟩:=q2;exact vG (t':=tk) Y' (by rw[g4];exact be) m5 ⟨_,N.is.at_⟩ N.KI
def Xb(n:X.A.units+90<aQ)(k:QO X (.Name x g) (jb i))(b:QX X e f)(q:autoParam (dI (.Name x g) "add" X.env (aT (.Name x g) X.env)=aT (.Name x g) X.env) AQ)
  (r:autoParam (((aH c<|ac [e] X.env).all (λx=>!x.1)&&(cJ c<|bW [] X.env).all (λx=>x.1.isSome)&&decide ([e].length+([]:List cM).length+(if([]:List cM).isEmpty then 0 else 1)<30))=J) AQ)
  (o:autoParam ((d.endLine==c.line)=J) AQ)(l:autoParam (SE X e []) AQ)(a:autoParam (BA X c []) AQ):QX X (.Call (.Attribute (.Name x g) "add" d) [e] [] c) (Gr i f):=⟨QV n k.h b.h q r o l a⟩
def Xa{p:bO}(b:X.mg "set"=C)(a:autoParam (Gl X "set") AQ):QX X (.Call (.Name "set" p) [] [] c) Pj:=⟨QU a b⟩
end
open PySem.W
def CS{d:Type}{c:Prop}[Decidable c]{a:Option d}{b:d}(h:(if c then a else C)=Y b):c/\a=Y b:=by
 split at h
 .rename_i q;exact⟨q,h⟩
 .cases h
section
variable {X:Cx}{E:XK}{A:kz}{c iter:je}{a:List bc}{d:EV}{t:Tg}{e:FS}{x:XS}{b:bO}
end
def ad3{c:L2.St}{b:Dn}{i j:Nat}{a:iW}(h:B9 c (b.set j C) i a):B9 c b i a/\i≠j:=by
 obtain⟨d,h1,f⟩:=h;by_cases e:j=i
 .subst e;rw[yM] at h1;split at h1
  .split at h1<;>cases h1
  .rename_i z;exact absurd H z
 .rw[mQ e] at h1;exact⟨⟨d,h1,f⟩,λz=>e z.symm⟩
section
variable {X:Cx}{P:jw}{w:jm}{a:List ek}{g:Hp}{s0:iZ}{E:XK}{k:Nat}{d:jq}{c:List D->Option aG}{e:je}{f:kL}{fs:List FO}{z:aG}{p b:bO}
end
section
variable {X:Cx}{t c:iW}{a:bA}{d:je}{scope:jQ}{e b o:bO}{p:Nat}{v u:jq}{xB:XS}{s:FS}{w:aG->Option Nat}{f:kj}{st:bc}{q:iW}{r:mV}{m n h g l:aG}{CR:iW}{i j k:Nat}
end
end PX
namespace L2
open PySem.W
structure IM(nm q:aG)(params:bA)(body:List bc)(scope:jQ)(b6:kF)(H:Hp)(h:jo)(fl:iW):Prop where
 fn: ∃doc pm c' l3,h.get? fl=XV (fnMade nm q params body scope b6 doc pm c' l3)/\ ∃ob u vs t,H c'=XV (.EY ob u)/\ob.data= .fields vs/\vs[1]?=XV (.str q t)
 un:H fl=X0
section
variable {X:Cx}{g:jK}{l:St}{H:Hp}{s:iZ}{P c:iW}{a:bA}{f:List bc}{h q:aG}{ln:Nat}{scope:jQ}{i:kF}{j:bO}
def Pq{M:h9}{A:jn}{E:jJ}{Q:jJ}(I:Inv X g l H s){more:nv}(hP:H P=XV (.tbl (#[.str q 0]++more)))(hc:X.env.code= .ref c)(C:CodeHd X.base c P)(hB:X.base.BuiltinsAt X.mg P)(gR:aq≠P)
  (l5:tc scope X.env=pure i)
  (k: ∀s1 N fl,Inv X g l N s1->(∀b o,H b=XV o->N b=XV o)->IM h q a f scope i N s1.heap fl->(∀b o,s.heap.get? b=XV o->H b=X0->s1.heap.get? b=XV o)->(∀b o,s.heap.get? b=XV o->H b=X0->N b=X0)->s.heap.get? fl=X0->Q (.ref fl) s1):
  ah M A (makeFunction h q a (.stmts f) scope X.env [] [] [] j ln) Q E s:=by
 obtain⟨qq,tq,ps,Y,O,F,hm⟩:=(show AR X.prog X.w H s.heap P (.tbl (#[.str q 0]++more)) from I.hok P _ hP)
 have hqq:q=qq:=by rw[Array.getElem?_append_left<|by simp] at Y;simp at Y;exact Y.1
 subst hqq;have l6:s.heap.BuiltinsAt X.mg P:=let⟨bm,o,h1,R,S,V,h5,h6⟩:=hB;⟨bm,o,h1,R,S,V,I.bk _ _ h5,h6⟩
 have hg:s.heap.Ns aq X.mg:=I.ok.mod.glob.keeps I.bk
 cases W:eK j ps.toList with
 |some cv=>refine makeFunction_hit l5 I.ok.glob hg hc (C.keeps I.bk) O F W l6 λr m y K v sz=>?_;obtain⟨p,ob,u,vs,t,rfl,R,S,V⟩:=hm j cv W;have br: ∀b o,s.heap.get? b=XV o->(y.push<|fnMade h q a f scope i m ((X.mg "__name__").getD .none) p r).get? b=XV o:=λb o e=>kg _ (v b o e);exact k _ H _ (I.kept (t':=K) br) (λ_ _ e=>e) ⟨⟨m,_,p,r,kG _ rfl,ob,u,vs,t,R,S,V⟩,I.hok.fresh sz⟩ (λb o e _=>br b o e) (λ_ _ _ n=>n) (Tp sz)
 |none=>
  refine makeFunction_K l5 I.ok.glob hg hc (C.keeps I.bk) O F W gR l6 λp r m y K ex U B cr tb=>?_;obtain⟨c0,x,vs,t,ec,eh,G,hq⟩:=cr;cases ec;have nc:H p=X0:=I.hok.fresh U;have v: ∀b o,b≠P->s.heap.get? b=XV o->(y.push<|fnMade h q a f scope i m ((X.mg "__name__").getD .none) p r).get? b=XV o:=λb o n e=>kg _ (ex b o n e);have up: ∀b o,H b=XV o->upd H p (.EY x<|.own 0) b=XV o:=λb o e=>by rw[jA<|ma e nc];exact e
  have nP: ∀b,H b=X0->b≠P:=λb n z=>by rw[z,hP] at n;cases n
  have L:=kg (fnMade h q a f scope i m ((X.mg "__name__").getD .none) p r) tb
  have un:Un (K2 X.stack) [] H (upd H p<|.EY x<|.own 0) s.heap (y.push<|fnMade h q a f scope i m ((X.mg "__name__").getD .none) p r):=
   ⟨λb o e n _ _=>v b o (nP b n) e,λb o e n _ _=>⟨o.slots,v b o (nP b n) e⟩,λb o e n _=>by rw[jA<|kf<|oG (kH e) U];exact n,λb o e _=>by
    by_cases z:b=P
    .subst z;exact⟨_,L⟩
    .exact⟨o,v b o z e⟩,λb xs e=>up b _ e,λb o xs e=>up b _ e,λb ps e=>⟨#[],by rw[up b _ e];simp⟩⟩
  have Z:Fd X.prog X.w (upd H p<|.EY x<|.own 0) (y.push<|fnMade h q a f scope i m ((X.mg "__name__").getD .none) p r):=λb u e=>by
   by_cases D:b=p
   .subst D;rw[jr] at e;cases e;exact⟨kg _ eh,⟨x,kg _ eh⟩⟩
   .rw[jA D] at e;by_cases T:b=P
    .subst T;rw[hP] at e;cases e;refine⟨_,tq,_,Y,L,?_,λJ cv z=>?_⟩
     .rw[LW];exact xv _ F
     .rw[LW] at z;rcases Bz _ F z with z|z
      .obtain⟨B,ob,u,vs,t,r1,r2,r3,r4⟩:=hm J cv z;exact⟨B,ob,u,vs,t,r1,up _ _ r2,r3,r4⟩
      .exact⟨p,x,_,vs,t,z,jr,G,hq⟩
    .refine(I.hok b u e).BQ (λd w hd q=>v d w (λz=>?_) q) (λd q=>up d _ q) (λd xs q=>up d _ q) λd _ _ q=>up d _ q;subst z;rcases hd with z|z
     .exact T z.symm
     .rw[hP] at z;cases z
  have I1:Inv X g l (upd H p<|.EY x<|.own 0) {s with heap:=y.push<|fnMade h q a f scope i m ((X.mg "__name__").getD .none) p r,toks:=K}:=I.call (g':=s.gens) (d':=s.drawn) (t':=K) un Z I.bare λb D=>absurd D (by simp);refine k _ _ _ I1 up ⟨⟨m,_,p,r,kG _ rfl,x,_,vs,t,jr,G,hq⟩,?_⟩ (λb o e n=>v b o (nP b n) e) (λb o e n=>un.free b o e n<|by simp) (Tp<|uH<|GN U B);rw[jA<|pk B];exact I.hok.fresh<|uH<|GN U B
end
section
variable {CX:KD}{P:jw}{w:jm}{K:Frag}{j:mz}{base:jo}{N:jq}{d m q:aG}{scope:jQ}{fl:iW}{cd:jg}{g:kF}{A:jn}{a:List ek}{s:iZ}{H:Hp}{E:XK}{l:St}{v:V}{u:jg}
def R0(S:F0 scope)(n:scope.names.lookup d=Y .local)(hd:A.handled=C)(e:KC P w K j base A a s H)(M:Cd N scope g l H s.heap)(O:RelV v u){h1:jo}{t1:Nat}(x:h1.Ns s.heap.objs.size (λy=>[(d,u)].reverse.lookup y))(hk: ∀b o,s.heap.get? b=Y o->h1.get? b=Y o):
  Inv (zG CX P w K j base (d::N) q scope fl cd g A a s H E) [] (Y v::l) H {s with heap:=h1,toks:=t1}:=by
 have k: ∀b:iW,b∉(zG CX P w K j base (d::N) q scope fl cd g A a s H E).ex:=λb z=>absurd (show b∈([]:List iW) from z) (by simp)
 refine⟨⟨e.mod,S.kind,rfl,rfl,kh _,M.inj,λy f=>?_,λy c z _=>absurd z<|by simp[zG],λ_=>hd,MD e.frames,.inr ⟨rfl,rfl⟩,λb z=>absurd z<|k b,e.bs,e.bsz,λb _ _=>k b,λb z=>absurd z<|k b,e.GH,e.frf⟩,
  rfl,e.bare,Un.kept hk,⟨_,x,λi y T h1 t _=>?_⟩,λy c h=>?_,e.hok.fresh<|kh _,λy c h=>(M.cell y c h).2,λp n=>absurd (show p∈([]:List (iW×fy)) from n)<|by simp,e.hok.kept hk,nE (· +1) M.len⟩
 .have f:scope.names.lookup y=Y .cell\/scope.names.lookup y=Y .free:=f;rcases f with f|f
  .exact absurd AM (S.cell _ (tK f))
  .exact M.has y f
 .cases i with
  |zero=>
   cases h1;cases t;exact⟨u,O,.inl ⟨n,by simp⟩⟩
  |succ i=>obtain⟨G,c,Q,B,L,r⟩:=M.val i y T h1 t;exact⟨Q,r,.inr ⟨.inr G,c,B,L.keeps hk⟩⟩
 .obtain⟨⟨v,hv⟩,_⟩:=M.cell y c h;exact⟨v,hv.keeps hk⟩
def Sx{c:bA}{h:List bc}{k:Nat}{Q:VK}(S:F0 scope)(hp:scope.names.lookup d=XV .local)(G:BN (k+1) A)(T:KC P w K j base A a s H)(C:Cd N scope g l H s.heap)(L:IM m q c h scope g H s.heap fl)
  (n4: ∀z pm i l3,fJ (fnX m q c h scope g .none .none z pm X0 (.ref i) l3) ⟨[u],[]⟩=pure [(d,u)])(O:RelV v u)
  (hb: ∀i:iW,BN k (A.deeper<|EX q scope s.heap.objs.size fl (.ref i) g)-> ∃t,IJ (zG CX P w K j base (d::N) q scope fl (.ref i) g A a s H E) h t/\t {nx:=λ_ p=>Q .Ax p,rt:=Q} (XV v::l) H):
  cC (aj P w) A (.call (.ref fl) ⟨[u],[]⟩) (CR CX a P w H s Q E) s:=by
 obtain⟨z,pm,i,l3,Z,ob,u',vs,tk,h1,W,X⟩:=L.fn;have l7:s.heap.CodeRec (.ref i) q:=⟨i,ob,vs,tk,rfl,(T.hok i _ h1).1,W,X⟩
 have U:s.heap.NoLimit:=T.mod.nolimit.keeps λb o e=>(T.bs b o e).1;refine Ht G.depth Z AM S.co S.gen AM l7 ?_;rw[n4];refine jd<|wpAny_newFunctionEnv S.cell (by intro y D;simp at D;subst D;exact hp) (λB R F=>⟨U.fresh _ F,Hs ?_⟩) S.kind;have r: ∀b o,s.heap.get? b=XV o->B.get? b=XV o:=λb o e=>F.extBut b o (kf<|kH e)<|kg _ e;have I:=R0 (CX:=CX) (q:=q) (fl:=fl) (cd:= .ref i) (E:=E) (t1:=s.toks+([(d,u)]:List (aG×jg)).length) S hp G.hd T C O R r;obtain⟨t,M,ht⟩:=hb i<|G.deeper _;refine nX (M [] _ (XV v::l) H _ I ht) (λf Y x=>?_) λe Y x=>x
 have fin: ∀{n:St} {p:Hp} {v:V} {u:jg},Inv (zG CX P w K j base (d::N) q scope fl (.ref i) g A a s H E) [] n p Y->RelV v u->Q v p->CE a P w H s Q u Y:=
  λ{n p v u} J O q=>⟨v,p,J.os,J.bare,J.base,J.hok,O,q⟩
 cases f with
 |ret u=>obtain⟨v,n,p,J,O,q⟩:=x;exact fin J O q
 |next=>obtain⟨n,p,J,q⟩:=x;exact fin (v:=V.Ax) (u:=ao) J AM q
 |brk=>obtain⟨_,_,_,q⟩:=x;exact ba q
 |cont=>obtain⟨_,_,_,q⟩:=x;exact ba q
end
section
variable {fs:kN}{N:jq}{d q:aG}{scope:jQ}{f:kF}{H g:Hp}{h h':jo}{a:bA}{b:List bc}{c:iW}
def IM.keep(L:IM d q a b scope f H h c)(u:Un fs [] H g h h')(n:c∉fs):IM d q a b scope f g h' c:=by obtain⟨i,o,j,l,e,m,w,p,t,h1,k⟩:=L.fn;exact⟨⟨i,o,j,l,u.keep c _ e L.un n (by simp),m,w,p,t,u.frzs _ _ _ h1,k⟩,u.free c _ e L.un (by simp)⟩
end
structure IP(X:Cx)(N:jq)(xp nm q:aG)(scope:jQ)(b6:kF)(vs:List V)(params:bA)(body:List bc)(fl:iW)(k:Nat)(sp:Sp):Prop where
 sc:F0 scope
 par:scope.names.lookup xp=XV .local
 cel:Cd N scope b6 (vs.map XV) X.H₀ X.s₀.heap
 df:IM nm q params body scope b6 X.H₀ X.s₀.heap fl
 nfl:fl∉X.fs
 ncl: ∀x c,b6.lookup x=XV c->c∉X.fs
 bnd: ∀doc pm c' l3 u,fJ (fnX nm q params body scope b6 .none .none doc pm X0 (.ref c') l3) ⟨[u],[]⟩=pure [(xp,u)]
 run: ∀(c':iW) (s:iZ) (H:Hp) (v:V) (Q:VK),BN k (X.A.deeper<|EX q scope s.heap.objs.size fl (.ref c') b6)->sp (v::vs) H Q E0->
  ∃t,IJ (zG FH X.prog X.w X.K X.mg X.base (xp::N) q scope fl (.ref c') b6 X.A X.stack s H E0) body t/\t {nx:=λ_ H'=>Q .Ax H',rt:=Q} (XV v::vs.map XV) H
def Vc{X:Cx}{N:jq}{xp T q n:aG}{scope:jQ}{t:kF}{B:List V}{a:bA}{h:List bc}{m:iW}{k j:Nat}{G:Sp}{e:je}{M:TE}{p i:bO}(g:IP X N xp T q scope t B a h m k G)(hex:X.ex=[])(hr:BN (k+1) X.A)
  (hj:X.N[j]?=XV n)(vj:Ij X.env.scope n)(hd:(n==("__debug__":aG))=ZB)(l7:(n==("__classdict__":aG))=ZB)(he:PE X e M)(O:ac [e] X.env=(ZB,aT e X.env)::ac [] X.env)(e9:(aH i<|ac [] X.env).any (·.1)=ZB):
  PE X (.Call (.Name n p) [e] [] i) λl H' Q=>l[j]?=XV (XV<|.ref m)/\M l H' λv r=>G (v::B) r Q E0:=by
 intro b s l H' Q I ⟨hl,hte⟩;refine vR ?_;refine nX (wN hj vj hd l7 b s l H' (λv r=>v= .ref m/\r=H') I ⟨.ref m,hl,rfl,rfl⟩) (λf s1 K=>?_) λ_ _ z=>z;obtain⟨v,U,C,W,rfl,rfl⟩:=K;cases W
 have at_: ∀{d:Hp} {c:iZ},Inv X b l d c->IM T q a h scope t d c.heap m/\Cd N scope t (B.map XV) d c.heap:=λ{d c} J=>by
  have un:Un X.fs [] X.H₀ d X.s₀.heap c.heap:=by have:=J.base;rwa [hex] at this
  exact⟨g.df.keep un g.nfl,g.cel.keep un g.ncl⟩
 have L: ∀{d:Hp} {c:iZ},Inv X b l d c->FnAt m c.heap:=λJ=>by obtain⟨_,_,_,_,e,_⟩:=(at_ J).1.fn;exact⟨_,_,_,_,e⟩
 refine callWith_F (L C) ?_ O e9;rw[O];show ah _ _ (lf ((ZB,aT e X.env)::aH i (ac [] X.env))) _ _ s1;refine D9<|BI (he b s1 l U _ C hte) λu c ⟨v,d,o,r2,q2⟩=>Hw ⟨L o,?_⟩;obtain⟨F,D⟩:=at_ o;refine yR<|qx (Sx (CX:=FH) (E:=E0) (Q:=Q) (v:=v) (u:=u) g.sc g.par hr o.MS D F (λx R w P=>g.bnd x R w P u) r2 λw Y=>g.run w c d v Q Y q2) λS Z y=>?_
 cases S with
 |error e=>exact ba y
 |ok f=>
  cases f with
  |ret u=>exact o.after y
  |_=>exact ba y
end L2
namespace PX
open L2 PySem.SeqAt PySem.W
def Nb(i:Nat)(os:kj)(d:BP):FS:=λc=>(km c<|os.map .slot).bind λb=>if(b.all λa=>!a.2)=J/\i<(A7 c) then(d b).bind λq=>Y (.nx<|c.set i<|Y q.1) else C
theorem Pd: ∀(os:List Bl) (c:List (D×Bool)) (b e:Dn),(∀a∈c,a=(a.1,U))->wb os c b e=e
 |[],c,_,_,_=>by simp[wb]
 |o::os,[],_,_,_=>by cases o<;>simp[wb]
 |o::os,a::c,[],e,h=>by have g:=h a jW;obtain⟨d,f⟩:=a;cases g;cases o<;>simp[wb]
 |o::os,a::c,x::b,e,h=>by have g:=h a jW;obtain⟨d,f⟩:=a;cases g;cases o<;>simp[wb,Pd os c b e λa i=>h a<|jZ _ i]
section
variable {X:Cx}{A:kz}{L:LL}{O:Hp}{N:jq}{C E q c d b:aG}{scope:jQ}{I:kF}{f:List V}{a:bA}{m:List bc}{w:iW}{k i j s:Nat}{o:kj}{y:BP}{z:L2.St}{p n u t l:bO}
def Q9(CI:IP X N C E q scope I f a m w k (IW X.K y))(hL:L.st=XV z)(hz:z[j]?=XV (XV<|.ref w))(hg:o.map (λg=>(z[g]?).join)=f.map XV)(nj: ¬A j)(ng: ∀g∈o,¬A g)(hex:X.ex=[])(hr:BN (k+1) X.A)
  (hj:X.N[j]?=XV c)(vj:Ij X.env.scope c)(hd:(c==("__debug__":aG))=ZB)(l7:(c==("__classdict__":aG))=ZB)(ht:X.N[s]?=XV b)(vt:Ij X.env.scope b)(ae:(b==("__debug__":aG))=ZB)(dF:(b==("__classdict__":aG))=ZB)
  (l4:ac [f8 b n] X.env=(ZB,aT (.Name b n) X.env)::ac [] X.env)(e9:(aH t<|ac [] X.env).any (·.1)=ZB)
  (hN:X.N.Nodup)(hi:X.N[i]?=XV d)(hx:Loc X.env.scope d)(hs:dB (.Call (.Name c p) [.Name b n] [] t) (XV<|.Name d u) l.line X.env=pure ZB)(hf:X.fn d=YP\/X.env.scope.names.lookup d=XV .local)(ai:A i):
  MY X A L O (.Assign [.Name d u] (.Call (.Name c p) [.Name b n] [] t) l) (Nb i (s::o) y):=PS.imp' (Ny hN hi hx (Vc CI hex hr hj vj hd l7 (wN ht vt ae dF) l4 e9) hs hf) λD σ H hw=>by
 obtain⟨δ,T,out,M,fi,e,kk⟩:=hw;obtain⟨G,F,e⟩:=iU e;obtain⟨⟨gS,cP⟩,e⟩:=CS e;obtain⟨⟨r,J⟩,R,e⟩:=iU e;cases e;have Y:=J1 gS;obtain⟨W,dY,B⟩:=GC M F;have Ec:=yt M B F (by rw[uX _ _ Y];exact nU);have gh:=fi.gh z hL
 have S:o.map (λg=>(σ[g]?).join)=f.map XV:=by rw[<-hg];exact qr λg h=>by rw[gh g<|ng g h]
 have U:(σ[s]?).join::f.map XV=W.map XV:=by rw[<-dY,<-S];simp[tZ]
 obtain⟨v,Q,rfl⟩: ∃v Q,W=v::Q:=by
  cases W with
  |nil=>simp at U
  |cons v Q=>exact⟨v,Q,rfl⟩
 simp only[kc,yD] at U
 have e2:f=Q:=by have:=nE (cN λx:Option V=>x.getD .Ax) U.2;simpa[kM,yL] using this
 subst e2;refine⟨(gh j nj).trans hz,v,oo U.1,_,G,r,J,Ec,R,λv' H' P=>?_⟩;have Z:=ql M B F (by rw[uX _ _ Y];exact nU) P;rw[Pd _ _ _ _ Y] at Z;obtain⟨h1,h2⟩:=xy (A:=A) M Z cP ai;exact kk _ H' h1 h2
end
end PX
namespace L2
open PySem.W
def Inv.ghost{X:Cx}{a:jK}{c b:St}{T:Hp}{s:iZ}(Q:Inv X a c T s)(j:(A7 b)=A7 c)(h: ∀(i:Nat) x,X.N[i]?=Y x->Ij X.env.scope x->b[i]?=c[i]?):Inv X a b T s:=by obtain⟨m,k,f⟩:=Q.loc;exact⟨Q.ok,Q.os,Q.bare,Q.base,⟨m,k,λi x v d g e=>f i x v d (by rw[<-h i x d e];exact g) e⟩,Q.cell,Q.free,Q.freeC,Q.pin,Q.hok,j.trans Q.len⟩
end L2
namespace PX
open L2 PySem.SeqAt PySem.W
def vb(a:D×Bool)(m:Nat)(b:List (D×Bool)):Dn:=Y a::C::(am m C++b.map Y)
def FP(i a:Nat)(c:kj)(m:Nat)(d:FS):FS:=λδ=>(km δ<|(a::c).map .slot).bind λb=>if(b.all λa=>!a.2)=J/\i∉a::c/\i<(A7 δ) then match b with
 |x::cs=>(match d (vb x m cs) with
  |some (.rt r _)=>Y<|.rt r<|δ.set i C
  |_=>C)
 |[]=>C else C
def ER.forget{K:Frag}{Q g:Hp}{T:B7}{f:L2.St}{c:Dn}{i:Nat}{v:V}(E:ER K Q T f c)(k: ∀b o,Q b=Y o->g b=Y o):ER K g T (f.set i<|Y v) (c.set i C):=by
 have ne: ∀{j:Nat} {p:D×Bool},(c.set i C)[j]?=Y (Y p)->c[j]?=Y (Y p)/\i≠j:=λ{j p} h=>by
  by_cases e:i=j
  .subst e;rw[yM] at h;split at h
   .split at h<;>cases h
   .rename_i z;exact absurd H z
  .rw[mQ e] at h;exact⟨h,e⟩
 have ow: ∀{b:iW},AO (f.set i<|Y v) (c.set i C) b->AO f c b:=λ{b} ⟨j,d,h1,a⟩=>⟨j,d,(ne h1).1,by rwa [mQ (ne h1).2] at a⟩
 have q: ∀b,Q b≠C->AO (f.set i<|Y v) (c.set i C) b\/T b->AO f c b\/T b:=λb _ z=>z.imp ow id;refine⟨by rw[ur,ur];exact E.len,λj x h=>?_,λj x h=>?_,λj l x y b h1 a m n=>?_,λb z=>E.nT b<|ow z,λb z=>(E.dom b z).up<|k b⟩
 .obtain⟨w,h1,a⟩:=E.val j x (ne h).1;exact⟨w,by rw[mQ (ne h).2];exact h1,Rep.mono (λb o e _=>k b o e) q a⟩
 .obtain⟨b,h1,a⟩:=E.own j x (ne h).1;exact⟨b,by rw[mQ (ne h).2];exact h1,a.mono (λb o e _=>k b o e) q<|k b⟩
 .rw[mQ (ne h1).2] at m;rw[mQ (ne a).2] at n;exact E.inj j l x y b (ne h1).1 (ne a).1 m n
def E5{x:D×Bool}{m:Nat}{a:List (D×Bool)}{j:Nat}{p:D×Bool}(h:(vb x m a)[j]?=Y (Y p)):(j=0/\p=x)\/ ∃l,j=m+2+l/\a[l]?=Y p:=by
 unfold vb at h
 match j,h with
 |0,h=>cases h;exact .inl ⟨rfl,rfl⟩
 |1,h=>cases h
 |j+2,h=>
  simp only[tE] at h;by_cases b:j<m
  .rw[qw<|by simpa using b,D6] at h;split at h<;>cases h
  .rw[pN<|by simpa using b,Hu,ly] at h;obtain⟨q,c,e⟩:=jL h;cases e;exact .inr ⟨j-m,by lia,c⟩
def pO(v:V)(fl:iW)(m:Nat)(vs:List V):L2.St:=Y v::Y (.ref fl)::(am m C++vs.map Y)
def J5{K:Frag}{Q:Hp}{T:B7}{v:V}{vs:List V}{x:D×Bool}{c:List (D×Bool)}{fl:iW}{m:Nat}(E:ER K Q T ((v::vs).map Y) ((x::c).map Y))(f: ∀a∈x::c,a=(a.1,U)):ER K Q T (pO v fl m vs) (vb x m c)/\ ∀b,¬AO (pO v fl m vs) (vb x m c) b:=by
 have no: ∀b,¬AO (pO v fl m vs) (vb x m c) b:=λb O=>by
  obtain⟨j,d,h1,_⟩:=O
  rcases E5 h1 with⟨_,e⟩|⟨l,_,e⟩
  .have:=f x jW;rw[<-e] at this;cases this
  .have:=f _ (jZ _ (mB e));cases this
 have len:(A7 vs)=(A7 c):=by have:=E.len;simpa using this
 refine⟨⟨by simp[pO,vb,len],λj d h=>?_,λj d h=>?_,λj l d e b h=>?_,λb z=>absurd z<|no b,E.dom⟩,no⟩
 .have i: ∀{w},Rep K Q (λa=>AO ((v::vs).map Y) ((x::c).map Y) a\/T a) d w->Rep K Q (λa=>AO (pO v fl m vs) (vb x m c) a\/T a) d w:=Rep.mono (λ_ _ e _=>e) λb _ z=>z.elim (λz=>absurd z<|no b) .inr;rcases E5 h with⟨rfl,e⟩|⟨l,rfl,e⟩
  .obtain⟨w,h1,g⟩:=E.val 0 d (by rw[<-e];rfl);cases h1;exact⟨v,rfl,i g⟩
  .obtain⟨w,h1,g⟩:=E.val (l+1) d (by simp[e]);refine⟨w,?_,i g⟩;unfold pO;rw[show m+2+l=(m+l)+2 by lia,tE,tE,pN<|by simp,Hu,DN];simpa using h1
 .rcases E5 h with⟨_,e⟩|⟨l,_,e⟩
  .have:=f x jW;rw[<-e] at this;cases this
  .have:=f _ (jZ _ (mB e));cases this
 .rcases E5 h with⟨_,e⟩|⟨l,_,e⟩
  .have:=f x jW;rw[<-e] at this;cases this
  .have:=f _ (jZ _ (mB e));cases this
def QD{K:Frag}{Q j:Hp}{T:B7}{A:kz}{v w:V}{vs:List V}{x:D×Bool}{c:List (D×Bool)}{fl:iW}{m:Nat}{r:D×Bool}{i:L2.St}{h:Dn}(E:ER K Q T ((v::vs).map Y) ((x::c).map Y))(k: ∀a∈x::c,a=(a.1,U))
  (S:SK A (pO v fl m vs) (vb x m c) Q i h j)(R:RV K T Q r i h w j):BO K T ((v::vs).map Y) ((x::c).map Y) Q r ((x::c).map Y) w j:=by
 have no:=(J5 (fl:=fl) (m:=m) E k).2;have g: ∀b,¬AO ((v::vs).map Y) ((x::c).map Y) b:=VJ k _;have up: ∀b o,Q b=Y o->j b=Y o:=λb o e=>S.kp b o e<|no b;obtain⟨d,f⟩:=r
 cases f with
 |false=>exact⟨.ext up,E.mono (λb o e _=>up b o e) (λ_ _ z=>z) λb z=>(E.dom b z).up<|up b,Rep.mono (λ_ _ e _=>e) (λb _ z=>z.elim (λz=>absurd z<|g b) .inr) R.2⟩
 |true=>
  obtain⟨p,rfl,l,q,ok⟩:=R;refine⟨.ext up,p,rfl,l,E.mono (λb o e _=>up b o e) (λb n z=>z.elim id λz=>absurd l<|z▸n) λb z=>?_,ok.mono (λ_ _ e _=>e) (λb _ z=>z.elim (λz=>absurd z<|g b) .inr) λ_ e=>e⟩;rcases z with z|z
  .exact(E.dom b z).up (up b)
  .subst z;exact ok.ow
theorem Dj{b:Dn}{i:Nat}{o:Sl}: ∀{a:kj},i∉a->km (b.set i o) (a.map .slot)=km b (a.map .slot)
 |[],_=>rfl
 |j::a,h=>by have h1:i≠j:=λe=>h (by rw[e];exact jW);simp only[kc,km,zK];rw[mQ h1,Dj λz=>h<|jZ _ z]
section
variable {X:Cx}{A:kz}{L:LL}{H0:Hp}{Pt c fr:iW}{g:bA}{O:List bc}{scope:jQ}{pos cb cp pf p1 p2:bO}{t J bK:kj}{N' U:jq}{bT bU:FS}{st:bc}{eU:mV}{M Y xp G q y1 y2:aG}{i a k m:Nat}
def aeA{more:nv}(F:KA X.K M M st fr eU)(il:Binds X.K eU [y1,y2] [])(SL:AN U [y1,y2] (iY st))(gQ:Gl X M)(gH:X.mg M=XV (.ref fr))(cS:(M==("__debug__":aG))=ZB)
  (bS: ∀x,X.fn x=YP)(hr:BN (k+2) X.A)(hTb:X.H₀ Pt=XV (.tbl (#[.str q 0]++more)))(l7:X.env.code= .ref c)(C:CodeHd X.base c Pt)(hB:X.base.BuiltinsAt X.mg Pt)(gR:aq≠Pt)(hq:qualnameIn X.env G G=q)
  (CO:Ba X N' scope t 0)(LS:F0 scope)(cF:scope.names.lookup xp=XV .local)(ie:g.defaults=[])(eA:g.kw_defaults=[])(iq:annTrees g X0 X.env=[])
  (n4: ∀b6 doc pm c' l3 u,fJ (fnX G q g O scope b6 .none .none doc pm X0 (.ref c') l3) ⟨[u],[]⟩=pure [(xp,u)])
  (hN:X.N.Nodup)(hi:X.N[i]?=XV G)(hx:Loc X.env.scope G)(ai:A i)(vi:Ij X.env.scope G)(hW:(G==("__debug__":aG))=ZB)(eM:(G==("__classdict__":aG))=ZB)
  (ha:X.N[a]?=XV Y)(va:Ij X.env.scope Y)(hX:(Y==("__debug__":aG))=ZB)(ig:(Y==("__classdict__":aG))=ZB)
  (he:ac [f8 Y p1,.Name G p2] X.env=(ZB,aT (.Name Y p1) X.env)::ac [.Name G p2] X.env)(hV:aH cp (ac [f8 G p2] X.env)=[(ZB,aT (.Name G p2) X.env)])(e9:(aH cp<|ac [f8 G p2] X.env).any (·.1)=ZB)
  (hm:(A7 U)=m+2+A7 t)(gP: ∀(j:Nat) x,m+2<=j->U[j]?=XV x-> ¬Ij (iY st) x)
  (hR: ∀(fl:iW) (b6:kF) (c':iW) (A:jn) (outer:List ek) (s:iZ) (H:Hp) (L:LL),(∀i,L.p i->i<A7 t+1)->BN k (A.deeper<|EX q scope s.heap.objs.size fl (.ref c') b6)->
   Fl (zG FH X.prog X.w X.K X.mg X.base (xp::N') q scope fl (.ref c') b6 A outer s H E0) (λi=>i∈J) L H O bT)
  (iD: ∀(b7:jg) (A:jn) (outer:List ek) (s:iZ) (H:Hp) (fl:iW) (b6:kF) (v:V) (vs:List V),A7 vs=A7 t->BN (k+1) (A.deeper<|aY M (iY st) s.heap.objs.size fr b7)->
   IP (qp FH X.prog X.w X.K X.mg X.base U M (iY st) fr b7 A outer s H E0).Ig N' xp G q scope b6 vs g O fl k (IW X.K<|BM (A7 t+1) (A7 t+1) J bT)->
   Fl (qp FH X.prog X.w X.K X.mg X.base U M (iY st) fr b7 A outer s H E0).Ig (λi=>i∈bK) ⟨λ_=>False,XV<|pO v fl m vs⟩ H (lW st) bU):
  Fl X A L H0 [.FunctionDef G g O [] X0 [] scope X0 G pos,.Return (XV<|.Call (.Name M pf) [.Name Y p1,.Name G p2] [] cp) cb] (FP i a t m bU):=by
 intro Z s σ H D I hw;obtain⟨δ,T,out,E1,fi,e,kk⟩:=hw;obtain⟨args,hargs,e⟩:=iU e;obtain⟨⟨gS,hni,cP⟩,e⟩:=CS e;have aa:=J1 gS
 obtain⟨x,cs,rfl⟩: ∃x cs,args=x::cs:=by
  cases args with
  |nil=>cases e
  |cons x cs=>exact⟨x,cs,rfl⟩
 simp only at e;split at e
 case h_2=>cases e
 rename_i r δL hfs;cases e;obtain⟨aF,hclo,i4,i6⟩:=qk X.env scope λx hx hf=>I.ok.has x.1<|CO.free x hx hf;obtain⟨more2,hP⟩:=I.base.tbls Pt _ hTb;rw[HB] at hP;refine Hz<|nestDef_K ie eA iq ?_;rw[hq];refine Pq I hP l7 C hB gR hclo λs1 H1 fl I1 up L1 kp fr0 new=>?_;refine Cq I1 hN hi hx (v:= .ref fl) AM (λs2 I2 ch=>?_)<|.inl<|bS _
 have fv:fl∉X.fs:=λz=>by obtain⟨_,o,ho,_⟩:=I.GH.mem z;rw[new] at ho;cases ho
 have nfl:fl∉K2 X.stack:=λz=>by obtain⟨_,o,ho,_⟩:=I.stack.mem z;rw[new] at ho;cases ho
 have nlo:fl≠X.env.locals:=λz=>by obtain⟨m,⟨o',es,ep,aw,_⟩,_⟩:=I.loc;rw[<-z,new] at aw;cases aw
 obtain⟨doc,pm,c',l3,hob,gU⟩:=L1.fn
 have hob2:s2.heap.get? fl=XV (fnMade G q g O scope aF doc pm c' l3):=by
  obtain⟨b,hs,hb⟩:=ch;refine hs.extBut fl _ (λz=>?_) hob;rcases hb with hb|hb
  .exact nlo (z.trans hb)
  .obtain⟨w,o,ho,_⟩:=I.cell G b hb;rw[<-z,new] at ho;cases ho
 have Ip:Inv X (Z++[(fl,fnMade G q g O scope aF doc pm c' l3)]) (σ.set i<|XV<|.ref fl) H1 s2:=I2.HX λp hp=>(tM.mp hp).elim (λz=>I2.pin p<|ph _ z) λz=>by
  cases Je.mp z;exact⟨hob2,L1.un,nlo,fv,λv h=>by cases h⟩
 have E2:=E1.forget (i:=i) (v:= .ref fl) up;have v9:km (δ.set i X0) ((a::t).map .slot)=XV (x::cs):=(Dj hni).trans hargs;obtain⟨ws,dY,B⟩:=GC E2 v9
 obtain⟨v,vs,rfl⟩: ∃v vs,ws=v::vs:=by
  cases ws with
  |nil=>simp[tZ] at dY
  |cons v vs=>exact⟨v,vs,rfl⟩
 have cy:((σ.set i<|XV<|.ref fl)[a]?).join=XV v/\tZ t 0 (σ.set i<|XV<|.ref fl)=vs.map XV:=by simp only[tZ,Af,sf,kc,yD] at dY ⊢;exact dY
 have Ec:=yt E2 B v9 (by rw[uX _ _ aa];exact nU);have hil2:i<(A7 σ):=by rw[E1.len];exact cP
 have gu:(A7 vs)=(A7 t):=by have:=nE dq cy.2;simpa[tZ] using this.symm
 refine Hz<|uu<|BI (Q:=EP X Z (σ.set i<|XV<|.ref fl) λw W=>BO X.K T (σ.set i<|XV<|.ref fl) (δ.set i X0) H1 r (δ.set i X0) w W) ?_ λw s3 ⟨y,H3,I3,r3,P3⟩=>?_
 .refine vR (zZ I2 gQ gH ?_ cS);refine callWith_K (h₀:=X.base) I2.ok.mod.kin F.kp ?_ he e9;rw[he];show ah _ _ (lf ((ZB,aT (.Name Y p1) X.env)::aH cp (ac [.Name G p2] X.env))) _ _ s2;rw[hV];refine D9<|BI (wN ha va hX ig _ s2 _ H1 (λw W=>w=v/\W=H1) Ip ⟨v,oo cy.1,rfl,rfl⟩) λu1 s3 a'=>?_;obtain⟨w,H3,I3,r3,e1,e2⟩:=a';subst e1 e2;refine D9<|BI (wN hi vi hW eM _ s3 _ H3 (λw' W=>w'= .ref fl/\W=H3) I3 ⟨.ref fl,ux hil2,rfl,rfl⟩) λu2 s4 ⟨w2,H4,I4,r4,e3,e4⟩=>Hw ⟨I4.HI,?_⟩;subst e3 e4;have hob4:=(I4.pin _ (ph _ (ph _ jW))).1;have I5:=I4.EF
  have LC:Cd N' scope aF (vs.map XV) H4 s4.heap:=by
   rw[<-cy.2];refine⟨λx y c h1 h2=>I.ok.inj x y c (i4 x c h1)<|i4 y c h2,λx hx=>i6 x<|tK hx,λx c h=>⟨I5.cell x c<|i4 x c h,I5.freeC x c<|i4 x c h⟩,λl x v h1 h2=>?_,CO.M6.len _⟩;obtain⟨hf,jj,hj,hv⟩:=CO.M6.pre _ l v x h2 h1;refine⟨hf,?_⟩;obtain⟨m,hn,hl⟩:=I5.loc;have j9:=CO.free (x,.free) (tK hf) AM;obtain⟨u,r,q⟩:=hl jj x v hj hv (by rcases j9 with z|z;exact .inr<|.inl z;exact .inr<|.inr z);rcases q with⟨eC,_⟩|⟨_,c,hc,i8⟩
   .have bD:X.env.scope.names.lookup x=XV .local:=eC;rcases j9 with z|z<;>(have z':X.env.scope.names.lookup x=_:=z;rw[bD] at z';cases z')
   .obtain⟨c',bg⟩:=i6 x<|tK hf;have:=i4 x c' bg;rw[hc] at this;cases this;exact⟨c,u,bg,i8,r⟩
  have nst: ∀x c,aF.lookup x=XV c->c∉K2 X.stack:=λx c e z=>by
   rcases lz.mp (I.I8 c z) with q|q
   .exact I.Ls x c (i4 x c e) q
   .obtain⟨_,o,ho,_⟩:=I.ok.GH.mem q;exact absurd (kH ho)<|SW.mpr<|I.ok.cab x c (bS x)<|i4 x c e
  obtain⟨oc,od,kV,doc2,pm2,an,b7,ct,t6,rfl,lkr,hcdr⟩:=F.ex;have hbt:=il s4 [u1,u2] I5.HI AM
  have CI:IP (qp FH X.prog X.w X.K X.mg X.base U M (iY st) fr b7 X.A X.stack s4 H4 E0).Ig N' xp G q scope aF vs g O fl k (IW X.K<|BM (A7 t+1) (A7 t+1) J bT):=
   ⟨LS,cF,LC,⟨⟨doc,pm,c',l3,hob4,gU⟩,L1.un⟩,nfl,nst,n4 aF,λc2 s' W w' Q bu aX=>by
    have iC:(xp::N').length=A7 t+1:=by have:=CO.M6.len<|σ.set i<|XV<|.ref fl;simp[tZ] at this ⊢;exact this.symm
    rw[<-iC] at aX;obtain⟨L',h1,h2⟩:=HL (N:=xp::N') aX;refine⟨_,hR fl aF c2 _ _ s' W L' (λi h=>by have:=h1 i h;rwa [iC] at this) bu,?_⟩
    have:L2.nY (xp::N') (w'::vs)=XV w'::vs.map XV:=by unfold L2.nY;rw[iC,lg,gu];simp
    rw[<-this];exact h2⟩
  refine yR<|qx (Yr (CX:=FH) (E:=E0) (Q:=λw W=>BO X.K T (σ.set i<|XV<|.ref fl) (δ.set i X0) H4 r (δ.set i X0) w W) (vs:=[w,.ref fl]) lkr hcdr SL hr I5.MS hbt (.cons r3<|.cons r4 .nil) AM λbu=>?_) λrr s5 hq=>?_
  .have nd0:(jB ((a::t).map Bl.slot) (x::cs)).Nodup:=by rw[uX _ _ aa];exact nU
   refine⟨λD σ' W=>tS X.K (λi=>i∈bK) ⟨λ_=>False,XV<|pO w fl m vs⟩ H4 bU D (σ'.take (m+2)++vs.map XV) W,IJ.Ig λZ s' σ' W D I' h=>?_,?_⟩
   .refine iD b7 X.A X.stack s4 H4 fl aF w vs gu bu CI Z s' _ W D (I'.ghost ?_ λj y h1 h2=>?_) h
    .have:=I'.len;have e:(A7 σ')=(A7 U):=this;simp[gu];omega
    .by_cases hj:j<m+2
     .have e:(A7 σ')=(A7 U):=I'.len;rw[qw<|by simp;omega,Hv hj]
     .exact absurd h2 (gP j y (by omega) h1)
   .have hz:(L2.nY U [w,.ref fl]).take (m+2)++vs.map XV=pO w fl m vs:=by unfold L2.nY pO;rw[show (A7 U)-[w,V.ref fl].length=m+(A7 t) by simp;omega];simp[List.take_replicate]
    show tS _ _ _ _ _ _ _ _;rw[hz];obtain⟨e1,no⟩:=J5 (fl:=fl) (m:=m) Ec aa;refine⟨_,_,_,e1,⟨λl b ⟨d,h1,h2⟩=>absurd ⟨l,d,h1,h2⟩<|no b,λ_ z=>z,λ_ _ z=>z,λz' e j _=>by cases e;rfl⟩,hfs,λw' σ' W S R=>?_⟩;have P:=ql E2 B v9 nd0<|QD Ec aa S R
    rwa [Pd _ _ _ _ aa] at P
  .cases rr with
   |error e=>exact ba hq
   |ok f=>
    cases f with
    |ret u=>exact I5.after hq
    |_=>exact ba hq
 .have S1:SK A σ δ H (σ.set i<|XV<|.ref fl) (δ.set i X0) H1:=⟨λb o q _=>up b o q,λl b z=>by
   obtain⟨⟨d,h1,h2⟩,n⟩:=ad3 z;rw[mQ<|qy n] at h2;exact .inl ⟨d,h1,h2⟩,λb q=>by
   cases hh:H b with
   |none=>exact absurd hh q
   |some o=>rw[up b o hh];simp,λl n=>mQ λ(z:i=l)=>n<|z▸ai⟩
  refine⟨y,_,H3,I3,r3,kk y _ H3 (S1.trans P3.1.sk) ?_⟩;obtain⟨d,f⟩:=r
  cases f with
  |false=>exact P3.2
  |true=>
   obtain⟨p,h1,h2,h3⟩:=P3.2;refine⟨p,h1,fi.fresh ?_,h3⟩
   cases hh:H p with
   |none=>rfl
   |some o=>rw[up p o hh] at h2;cases h2
end
open PySem.Builtin.Str
section
variable {X:Cx}
end
section
variable {X:Cx}{o e a:je}{k l:FO}{b v:aG}{d p c i h g f:bO}{j:Nat}
end
section
variable {K:ju}{T:B7}{b:L2.St}{c:Dn}{H:Hp}{A:kz}{i j:Nat}{d:D}{a:iW}
end
section
variable {X:Cx}{A:kz}{L:LL}{d:Hp}{b a c:bO}{i j:Nat}{x y:aG}
end
end PX
namespace TT
open PySem.SeqAt
section
variable {a:jw}{w:jm}{A:jn}{E:jJ}{s:iZ}
end
end TT
namespace PX
open L2 PySem.SeqAt TS
section
variable {X:Cx}{a:jK}{b:L2.St}{H:Hp}{s:iZ}
end
section
variable {X:Cx}
end
end PX
namespace TT
def Wg{a:jw}{w:jm}{A:jn}{E:jJ}{s:iZ}{Q:jJ}(h:Q (.ref s.heap.objs.size) {s with heap:=s.heap.push (ky #[] 0 (lD w))}):ah (aj a w) A (B2<|.type "set") Q E s:=by
 unfold B2 g9;obtain⟨b,g,d,c,os⟩:=s;dsimp only;refine iX<|iX<|uF<|jd ?_;dsimp only;simp only[newObj]
 first
  |exact iX<|An<|jd h
  |exact iX<|jd<|iX<|An<|jd h
end TT
namespace L2
def Rl{X:Cx}{e:je}{c:nS}{jF:oV}{scope:jQ}{f:bO}{u:jq}{pre:St->St}{O:TI}{g:TG}{ti:TT}{tb:iW->TB}
  (S:Bw X u scope pre)(hc:X.calm=J)(ha:c.is_async=0)(i9: ∀E,jF[0]?=XV E->E.is_async=0)
  (hs: ∀x,aA c.iter X.env x=pure x)(pi:PI X c.target c.iter O)
  (l9: ∀(z:kF) (C:iW) (L:iZ) (p:Hp) (B:kN) (a:jK),let j:=X.comp u scope z C L p B a
   PG j c.target g/\K8 j c.ifs ti/\ ∀d,PB j (jT (.SetComp e (c::jF) scope f) 0 (.ref d) j.env)<|tb d):
  PE X (.SetComp e (c::jF) scope f) (λi H' Q=>O i H' λJ' G=>FC (.AV []) J' g ti tb pre i G Q):=by
 intro a s i H' Q I h;obtain⟨n,y,l,U⟩:=c;obtain rfl:U=0:=ha;obtain⟨z,Z,V,W⟩:=qk X.env scope λx R F=>I.ok.has x.1<|S.free x R F;rw[wv];show ah _ X.A (f5 _ scope X.env _ (B2<|.type "set") ZB (aT y X.env)) _ _ s;refine D2 (use:=X0) (g:=⟨n,y,l,0⟩) (gs:=jF) H hs Z S.kind S.names<|BI (pi a s i H' _ I h) λv s1 h1=>BI h1 λck s2 D=>?_;obtain⟨it,B,tn,J',H2,rfl,r,T,u5,f2,P⟩:=D;refine TT.Wg ?_;refine vH (RR:=λk C=>p4 (aj X.prog X.w) X.A X.xe X0 (EP X a i Q) k C) (.inr ⟨_,_,_,_,rfl⟩) H S hc H i9 l9 V W r T u5 f2 (r.laid (t':=s2.toks) (o:= .AV []) (λb ob q=>kg _ q) (kh _) ⟨#[],0,_,kG _ rfl,.nil,TT.BX.fresh _ _ _,rfl,rfl⟩) P λd iM L p M σ' s4 N Y t q=>?_;obtain⟨m,K,_⟩:=id t.loc;exact⟨m,K,λh' m5=>⟨.ref d,M,yo N Y t m5,rfl,q⟩⟩
end L2
namespace PX
open L2 PySem.SeqAt
def Pk(caps:kj)(k:Nat)(b:EV)(c:Tg)(ti:FT)(a:FB):F:=IG C caps k b c ti a
section
variable {X:Cx}{A:kz}{d:iW}{e:je}{f:F}
variable {c:nS}{jF:oV}{scope:jQ}{b:bO}{n:jq}{a:kj}{k:Nat}{m:EV}{j:Tg}{ti:FT}{l:FB}
def UO(O:Ba X n scope a k)(v:X.calm=J)(u:c.is_async=0)(y: ∀q,jF[0]?=Y q->q.is_async=0)
  (w: ∀x,aA c.iter X.env x=pure x)(B:Lb X (λi=>i∉a) c.target c.iter m)
  (z: ∀(s:kF) (O:iW) (E:iZ) (r:Hp) (t:kN) (o:jK),let p:=X.comp n scope s O E r t o
   Ll p (λi=>A7 a<=i) c.target j/\K8 p c.ifs (tT X.K ti)/\ ∀d,PB p (jT (.SetComp e (c::jF) scope b) 0 (.ref d) p.env)<|Ic C X.K (λi=>A7 a<=i) d l):
  PX X (.SetComp e (c::jF) scope b) (Pk a k m j ti l):=PX.imp (Rl (g:=tG X.K (λi=>A7 a<=i) j) (ti:=tT X.K ti) (tb:=λd=>Ic C X.K (λi=>A7 a<=i) d l) O.M6 v u y w B z) λN T Q h=>zm (S:=C) h
end
section
variable {K:ju}{T g:B7}{d:L2.St}{e c:Dn}{H h i:Hp}{os:List Bl}{f:List V}{b:List (D×Bool)}{a:Dn}{r:D×Bool}{v:V}
end
section
variable {X:Cx}{e:je}{d:kL}{fs:List FO}{a p:bO}{k:Nat}{b:jq}{c:BP}{x:aG}
end
def xh(f:F):FB:=λa δ=>(f δ).bind λp=>if a.all Ca=J/\Ca p.1.1=J/\(A7 a)<500 then Y (pG a p.1.1,p.2) else C
section
variable {X:Cx}{A:kz}{d:iW}{c:je}{f:F}
def acZ{h:oV}{Y:jQ}{p:bO}{depth:Nat}(hu:X.A.units+90<aQ)(hn:h[depth+1]?=X0)(he:PX X c f):PB X (jT (.SetComp c h Y p) depth (.ref d) X.env) (Ic X0 X.K A d<|xh f):=by
 intro w s m H N I hw;obtain⟨Q,T,F,f6,δ',B,e,k⟩:=hw;obtain⟨⟨r,g⟩,h1,e⟩:=iU e;obtain⟨⟨o1,o2,o3⟩,e⟩:=jH e;obtain⟨rfl,rfl⟩:=uk e
 have V:jT (.SetComp c h Y p) depth (.ref d) X.env=(do let v <-aT c X.env;c9 c.pos;let _ <-call (.builtin "set.add") [.ref d,v]):=by unfold jT;simp -iota only[clausesOf.eq_def];rw[hn]
 rw[V];refine iX<|BI (he w s m H (λy j=>BO X.K T m Q H r g y j) I ⟨Q,T,r,g,B.er,h1,λv j P=>P⟩) λu s1 a'=>?_;obtain⟨y,j,E,ru,P⟩:=a';obtain⟨C,U⟩:=P.rep B.er;have G:SK A m Q H m g j:=P.1.sk;have D:=B.step G C;obtain⟨us,M,q3⟩:=D.at';obtain⟨es,n,t,l,S⟩:=E6.Le E M q3;refine iX<|uG<|iX ?_;refine nW GO ⟨_,S.is.at_,rfl⟩ LY ?_<|LX _ _;unfold aV.«set.add» cK;simp only[we,uq];unfold ce;refine iX<|jd ?_
 try dsimp only
 refine iX<|jd ?_
 try dsimp only
 refine iX<|Ce.add E S o1 (.inl U) U ru o2 o3 (by show X.A.units+1+60<aQ;lia) λb h' tk W n' t' L ht m5 x=>?_;show ah _ _ (ret ao) _ _ _;have O:T d:=B.td;have kp: ∀(J:HO) b u,j b=XV u-> ¬(AO m g b\/T b)->upd j d J b=XV u:=λJ b u e n=>by rw[jA<|by intro z;subst z;exact n<|.inr O];exact e
 obtain⟨R,z1,z2⟩:=x.B8 (K:=X.K) (H':=upd j d<|.AV<|L.map hv) (O':=λa=>AO m g a\/T a) (λp hp=>Rep.mono (kp _) (λ_ _ z=>z)<|x.rep p hp) jr;refine jd ⟨_,rfl,jd ⟨m,upd j d<|.AV<|L.map hv,?_,k m _ ?_ ?_⟩⟩
 .obtain⟨gc,zs2,Z,_⟩:=M;exact vG (t':=tk) E (by rw[Z];exact be) m5 ⟨_,x.is.at_⟩ x.KI
 .have:KL A d m g j m g (upd j d<|.AV<|L.map hv):=⟨λa o e n nd=>by rw[jA nd];exact e,λi a z=> .inl z,λa z=>by
   by_cases q:a=d
   .subst q;rw[jr];simp
   .rw[jA q];exact z,λ_ _=>rfl⟩
  exact G.Lm.trans this
 .refine⟨C.mono (λb o e n=>by rw[jA<|by intro z;subst z;exact n O];exact e) (λ_ _ z=>z) λa z=>?_,O,R,?_,?_⟩
  .by_cases q:a=d
   .subst q;rw[jr];trivial
   .rw[jA q];exact C.dom a z
  .exact z1
  .exact z2
end
def Y8{X:Cx}{o:je}{f:F}{k:Nat}{p:bO}{c:nS}{scope:jQ}{q:EV}{tt:Tg}{r:FT}{g:kj}{N':jq}(v:X.A.units+90<aQ)(T:Ba X N' scope g k)(y:N'.Nodup)(z:QI X (λi=>i∉g) c.target c.iter q)
  (w: ∀(l:kF) (T:iW) (n:iZ) (j:Hp) (m:kN) (e:jK),(X.comp N' scope l T n j m e).N.Nodup->
   QG (X.comp N' scope l T n j m e) (λi=>A7 g<=i) c.target tt/\QF (X.comp N' scope l T n j m e) c.ifs r/\QX (X.comp N' scope l T n j m e) o f)
  (t:autoParam (X.calm=J) AQ)(s:autoParam (c.is_async=0) AQ)(u:autoParam (∀x,aA c.iter X.env x=pure x) Kt):
  QX X (.SetComp o [c] scope p) (Pk g k q tt r<|xh f):=
 ⟨UO T t s (by intro B h;cases h) u z.h λl T n j m e=>let⟨a,b,c⟩:=w l T n j m e y;⟨a.h,b.h,λd=>acZ v H c.h⟩⟩
open PySem.W
structure NN(X:Cx)(q:aG)(Pt:iW):Prop where
 t:Wc q Pt X.H₀
 c: ∃c,X.env.code= .ref c/\CodeHd X.base c Pt
 b:X.base.BuiltinsAt X.mg Pt
 g:aq≠Pt
def ozQ{Z:ZZ}{k:Nat}{x q:aG}{st:bc}{N g:jq}{asg:kj}{fs:FS}{h:iW}{TB:List (iW×aG)}(a:TbK Z TB x st q h)(S:AN N g (iY st))(b:Ky x st g)
  (z: ∀(f:iW) (e:jg) (A:jn) (d:List ek) (s:iZ) (T:Hp) (E:XK) (L:LL),(∀i,L.p i->i<A7 g)->BN k (A.deeper<|aY x (iY st) s.heap.objs.size f e)->
   un (A.deeper<|aY x (iY st) s.heap.objs.size f e) 60->un (A.deeper<|aY x (iY st) s.heap.objs.size f e) 1->un (A.deeper<|aY x (iY st) s.heap.objs.size f e) 62->un (A.deeper<|aY x (iY st) s.heap.objs.size f e) 90->N.Nodup->
   NN (qp FH Z.P Z.w Z.K Z.mg Z.base N x (iY st) f e A d s T E).Ig q h->QQ (qp FH Z.P Z.w Z.K Z.mg Z.base N x (iY st) f e A d s T E).Ig (λi=>i∈asg) L T (lW st) fs):Lw Z TB (k+1) x g (BM (A7 N) (A7 g) asg fs):=
 let⟨f,n,c,m,F,h1,o,r,t,u⟩:=a
 ⟨f,n,fnU F S λe A d s T E L v M l j O G Q B y=>z f e A d s T E L v M l j O G Q ⟨y _ u,⟨c,B.trans h1,o⟩,r,t⟩,m,F.kp,F.binds b⟩
def ozU{Z:ZZ}{k:Nat}{x:aG}{st:bc}{N e:jq}{asg:kj}{fs:FS}{TB:List (iW×aG)}(a:Fz Z.K Z.mg x st)(S:AN N e (iY st))(b:Ky x st e)
  (o: ∀(f:iW) (d:jg) (A:jn) (c:List ek) (s:iZ) (T:Hp) (E:XK) (L:LL),(∀i,L.p i->i<A7 e)->BN k (A.deeper<|aY x (iY st) s.heap.objs.size f d)->
   un (A.deeper<|aY x (iY st) s.heap.objs.size f d) 60->un (A.deeper<|aY x (iY st) s.heap.objs.size f d) 1->un (A.deeper<|aY x (iY st) s.heap.objs.size f d) 62->un (A.deeper<|aY x (iY st) s.heap.objs.size f d) 90->N.Nodup->
   SN TB T->QQ (qp FH Z.P Z.w Z.K Z.mg Z.base N x (iY st) f d A c s T E).Ig (λi=>i∈asg) L T (lW st) fs):Lw Z TB (k+1) x e (BM (A7 N) (A7 e) asg fs):=
 let⟨f,j,m,F⟩:=a
 ⟨f,j,fnU F S λd A c s T E L l q h g t r u _ n=>o f d A c s T E L l q h g t r u n,m,F.kp,F.binds b⟩
def LtZ(Z:ZZ)(k:Nat)(x:aG)(st:bc)(N t:jq)(d:kj)(m g:Nat)(fs:BP->FS):Prop:= ∃f l,Z.mg x=Y (.ref f)/\KA Z.K x x st f l/\Binds Z.K l t []/\
 ∀(e:jg) (A:jn) (a:List ek) (s:iZ) (T:Hp) (n:iW) (p:kF) (v:V) (h:List V) (o:jq) (u r q:aG) (scope:jQ) (b:bA) (c:List bc) (j:BP),A7 h=g->BN (k+1) (A.deeper<|aY x (iY st) s.heap.objs.size f e)->
  IP (qp FH Z.P Z.w Z.K Z.mg Z.base N x (iY st) f e A a s T E0).Ig o u r q scope p h b c n k (IW Z.K j)->
  QQ (qp FH Z.P Z.w Z.K Z.mg Z.base N x (iY st) f e A a s T E0).Ig (λi=>i∈d) ⟨λ_=>False,Y<|pO v n m h⟩ T (lW st) (fs j)
def ltZ{Z:ZZ}{k:Nat}{x:aG}{st:bc}{N u:jq}{j:kj}{m g:Nat}{fs:BP->FS}(a:Fz Z.K Z.mg x st)(S:AN N u (iY st))(b:Ky x st u)
  (E: ∀(f:iW) (h:jg) (A:jn) (c:List ek) (s:iZ) (T:Hp) (o:iW) (r:kF) (v:V) (l:List V) (p:jq) (y t q:aG) (scope:jQ) (d:bA) (e:List bc) (n:BP),A7 l=g->BN (k+1) (A.deeper<|aY x (iY st) s.heap.objs.size f h)->
   un (A.deeper<|aY x (iY st) s.heap.objs.size f h) 60->un (A.deeper<|aY x (iY st) s.heap.objs.size f h) 1->un (A.deeper<|aY x (iY st) s.heap.objs.size f h) 62->un (A.deeper<|aY x (iY st) s.heap.objs.size f h) 90->N.Nodup->
   IP (qp FH Z.P Z.w Z.K Z.mg Z.base N x (iY st) f h A c s T E0).Ig p y t q scope r l d e o k (IW Z.K n)->
   QQ (qp FH Z.P Z.w Z.K Z.mg Z.base N x (iY st) f h A c s T E0).Ig (λi=>i∈j) ⟨λ_=>False,Y<|pO v o m l⟩ T (lW st) (fs n)):LtZ Z k x st N u j m g fs:=
 let⟨f,Q,h1,F⟩:=a
 ⟨f,Q,h1,F,F.binds b,λh A c s T o r v l p y t q scope d e n hv z B=>by have:=z.un;exact E f h A c s T o r v l p y t q scope d e n hv z (by unfold un;omega) (by unfold un;omega) (by unfold un;omega) (by unfold un;omega) S.nd B⟩
section
variable {X:Cx}{A:kz}{L:LL}{H0:Hp}{N:jq}{T f q E I y:aG}{scope:jQ}{n:kF}{J:List V}{d:bA}{l:List bc}{o:iW}{k i j jt:Nat}{U:kj}{ev:BP}{z:L2.St}{p r p3 Q B:bO}
def sCl(a:IP X N T f q scope n J d l o k (IW X.K ev))(u:U.map (λg=>(z[g]?).join)=J.map XV)(x:BN (k+1) X.A)(s:X.N.Nodup)(m:autoParam (L.st=XV z) AQ)(G:autoParam (z[j]?=XV (XV<|.ref o)) AQ)(nj:autoParam (¬A j) Bb)(ng:autoParam (∀g∈U,¬A g) Bb)(hex:autoParam (X.ex=[]) AQ)
  (w:autoParam (X.N[j]?=XV E) AQ)(vj:autoParam (Ij X.env.scope E) M1)(hd:autoParam (DB E) Bb)(Y:autoParam ((E==("__classdict__":aG))=ZB) Bb)(H:autoParam (X.N[jt]?=XV y) AQ)(vt:autoParam (Ij X.env.scope y) M1)(b:autoParam (DB y) Bb)(e:autoParam ((y==("__classdict__":aG))=ZB) Bb)
  (M:autoParam (SE X (.Name y r) []) AQ)(h:autoParam (BA X Q []) AQ)(v:autoParam (X.N[i]?=XV I) AQ)(O:autoParam (Loc X.env.scope I) M1)(C:autoParam (dB (.Call (.Name E p) [.Name y r] [] Q) (XV<|.Name I p3) B.line X.env=pure ZB) AQ)(t:autoParam (X.fn I=YP\/X.env.scope.names.lookup I=XV .local) M1)(c:autoParam (A i) Bb):
  QS X A L H0 (.Assign [.Name I p3] (.Call (.Name E p) [.Name y r] [] Q) B) (Nb i (jt::U) ev):=⟨Q9 a m G u nj ng hex x w vj hd Y H vt b e M h s v O C t c⟩
variable {Pt:iW}{cb pf p1:bO}{e asgR bK:kj}{N' M:jq}{bT:FS}{bU:BP->FS}{st:bc}{G C y1 Y:aG}{a m:Nat}
def sLo(O:LtZ (zX X) k G st M [y1,Y] bK m (A7 e) bU)(SL:AN M [y1,Y] (iY st))(tb:NN X q Pt)(hr:BN (k+2) X.A)(hN:X.N.Nodup)(CO:Ba X N' scope e 0)(LS:Iu scope=YP)
  (hR: ∀(o:iW) (n:kF) (c':iW) (A:jn) (outer:List ek) (s:iZ) (H:Hp) (L:LL),(∀i,L.p i->i<A7 e+1)->BN k (A.deeper<|EX q scope s.heap.objs.size o (.ref c') n)->
   QQ (zG FH X.prog X.w X.K X.mg X.base (T::N') q scope o (.ref c') n A outer s H E0) (λi=>i∈asgR) L H l bT)
  (hm:autoParam ((A7 M)=m+2+(A7 e)) AQ)(gP: ∀(j:Nat) x,m+2<=j->M[j]?=XV x-> ¬Ij (iY st) x)
  (gQ:autoParam (Gl X G) AQ)(cS:autoParam (DB G) Bb)(bS: ∀x,X.fn x=YP:=by exact λ_=>rfl)(hq:autoParam (qualnameIn X.env f f=q) AQ)(cF:autoParam (scope.names.lookup T=XV .local) AQ)(ie:autoParam (d.defaults=[]) AQ)(eA:autoParam (d.kw_defaults=[]) AQ)(iq:autoParam (annTrees d X0 X.env=[]) AQ)
  (n4: ∀n doc pm c' l3 u,fJ (fnX f q d l scope n .none .none doc pm X0 (.ref c') l3) ⟨[u],[]⟩=pure [(T,u)]:=by exact λ_ _ _ _ _ _=>rfl)
  (hi:autoParam (X.N[i]?=XV f) AQ)(hx:autoParam (Loc X.env.scope f) M1)(ai:autoParam (A i) Bb)(vi:autoParam (Ij X.env.scope f) M1)(hW:autoParam (DB f) Bb)(eM:autoParam ((f==("__classdict__":aG))=ZB) Bb)
  (ha:autoParam (X.N[a]?=XV C) AQ)(va:autoParam (Ij X.env.scope C) M1)(hX:autoParam (DB C) Bb)(ig:autoParam ((C==("__classdict__":aG))=ZB) Bb)
  (he:autoParam (SE X (.Name C p1) [.Name f r]) AQ)(hV:autoParam (aH Q (ac [f8 f r] X.env)=[(ZB,aT (.Name f r) X.env)]) AQ)(e9:autoParam (BA X Q [.Name f r]) AQ):
  QQ X A L H0 [.FunctionDef f d l [] X0 [] scope X0 f B,.Return (XV<|.Call (.Name G pf) [.Name C p1,.Name f r] [] Q) cb] (FP i a e m<|bU<|BM (A7 e+1) (A7 e+1) asgR bT):=by
 obtain⟨fr,eU,S,F,il,iD⟩:=O;obtain⟨more,ht⟩:=tb.t;obtain⟨c,Z,V⟩:=tb.c;exact⟨aeA F il SL gQ S cS bS hr ht Z V tb.b tb.g hq CO (X7 LS) cF ie eA iq n4 hN hi hx ai vi hW eM ha va hX ig he hV e9 hm gP (λo n c' A outer s H L W D=>(hR o n c' A outer s H L W D).h) λR A outer s H o n v J hv D P=>(iD R A outer s H o n v J _ _ _ _ _ _ _ _ hv D P).h⟩
end
def UC(i:Nat)(f:FS):FS:=λa=>match a[i]? with
 |some (Y (d,_))=>f<|a.set i<|Y (d,U)
 |_=>C
def Zq{X:Cx}{A:kz}{L:LL}{n:Hp}{KP:List bc}{f:FS}{i:Nat}(h:QQ X A L n KP f):QQ X A L n KP (UC i f):=⟨IJ.imp' h.h λD p Q t=>by
 obtain⟨o,T,m,E,s,e,k⟩:=t;unfold UC at e;split at e
 case h_2=>cases e
 rename_i d b hd;obtain⟨q,_⟩:=E.freeze hd;have S:SK A p o Q p (o.set i<|Y (d,U)) Q:=BU.set.sk;refine⟨_,T,m,q,s.step S,e,?_⟩
 cases m with
 |nx j=>exact λa c g l=>k a c (S.trans g) l
 |bk j=>exact λa c g l=>k a c (S.trans g) l
 |ct j=>exact λa c g l=>k a c (S.trans g) l
 |rt r j=>exact λv a c g R2=>k v a c (S.trans g) R2⟩
def aah{a:jq}{n:Nat}{b:jQ}(h:((a.drop n).all λx=>(b.names.lookup x).isNone)=J): ∀(j:Nat) x,n<=j->a[j]?=Y x-> ¬Ij b x:=λj x d e v=>by have c:x∈a.drop n:=mB (i:=j-n) (by rw[d0,show n+(j-n)=j by lia];exact e);have:=mZ.mp h x c;unfold Ij at v;rcases v with z|z|z<;>(rw[z] at this;cases this)
def JY:D->Option (D×Bool)
 | .lst l| .tup l=>if l.all Ca=J/\(lS l).length<500 then Y (.B8 .set []<|lS l,J) else C
 |_=>C
def Pr: ∀(l a:List D),A7 a<=(l.foldl pG a).length:=by
 intro l
 induction l with
 |nil=>intro a;exact kh _
 |cons d l b=>intro a;refine mC ?_<|b<|pG a d;unfold pG;split<;>simp
section
variable {X:Cx}
def ade(hc:X.calm=YP)(hu:X.A.units+90<aQ):lr X (.type "set") (IT X.K<|g1 JY):=oU λy s σ H x u Q O d z I ru np hd f G=>by
 obtain⟨l,p,c,a,rfl,r,v,C,f⟩: ∃l p c a,x= .ref p/\AJ X.K H O l c/\Vals c a/\(s.heap.IsList p a.toArray\/s.heap.IsTuple p a.toArray)/\(if l.all Ca=YP/\(lS l).length<500 then XV (D.B8 .set []<|lS l,YP) else X0)=XV z:=by
  cases d with
  |lst l=>obtain⟨p,c,rfl,q,r⟩:=ll hd;obtain⟨a,v,C,_⟩:=I.list q;exact⟨l,p,c,a,rfl,r,v,.inl C.isList,f⟩
  |tup l=>obtain⟨p,c,rfl,q,r⟩:=lQ hd;obtain⟨a,v,C,_⟩:=I.tuple q;exact⟨l,p,c,a,rfl,r,v,.inr C,f⟩
  |_=>cases f
 obtain⟨⟨m,hz⟩,rfl⟩:=jH f;cases ru;have e1:=r.length;have e2:=v.length;have hh:X.A.handled=X0:=I.ok.hd hc;have E:=I.fresh
 refine TT.V2 hh C (λi h=> ∃j n t g,Ce X H O h s.heap.objs.size (lS<|l.take i) j n t g) (λi h h' ⟨j,n,t,g,S⟩ k=>⟨j,n,t,g,S.BQ k⟩)
  (λh' e=>⟨#[],0,_,[],⟨TT.VI e,by simp[lS],λp J=>by simp at J,.nil⟩⟩) (λi w s' B Q' E' hB R T hk f F Z P=>?_) (λh' tk T hk=>?_)
 .obtain⟨j,n,t,g,S⟩:=T
  have cP:i<(A7 a):=by have:=(Kp.mp R).1;simpa using this
  have hw:a[i]?=XV w:=by simpa using R
  have U:c[i]?=XV c[i]:=kK (by lia);have Y:l[i]?=XV l[i]:=kK (by lia);obtain⟨w',W,w2⟩:=v.get U;rw[hw] at W;cases W;have V:Rep X.K H O l[i] c[i]:=r.views Y U;have n9:Ca l[i]=YP:=mZ.mp m _ (Dr _);obtain⟨h1,g1,dr1,dh,os1⟩:=s';dsimp only at hk f F Z P S;subst f;subst F;subst Z;have I':Inv X y σ H {s with heap:=h1,toks:=dh}:=I.kept hk;refine Ce.add I' S (Gx _ _ (GI m i) rfl) (.inl V) V w2 n9 ?_ (by lia) λrr h2 dO L n' t' gv a1 a2 N=>?_
  .have:=Pr (l.drop i)<|lS<|l.take i;unfold lS at this hz ⊢;rw[<-Hg,wt] at this
   lia
  .rw[<-Bm Y] at N;exact P rr h2 dO a1 a2 ⟨L,n',t',gv,N⟩
 .obtain⟨j,n,t,g,S⟩:=T;have M:a.toArray.size=(A7 l):=by simp;lia
  rw[M,GU] at S;refine⟨.ref s.heap.objs.size,upd H s.heap.objs.size<|.AV<|g.map hv,I.laid hk (kh _) S.KI,rfl,?_⟩;refine G s.heap.objs.size _ E (lG E) ?_;exact S.B8 (λp J=>Rep.mono (λb o e _=>lG E b o e) (λb hb z=>z.elim id λz=>absurd (z▸E) hb)<|S.rep p J) jr
end
def F5{Z:ZZ}{k:Nat}{x:aG}{st:bc}{N d:jq}{c:kj}{fs:FS}(a:Fz Z.K Z.mg x st)(S:AN N d (iY st))(e:Bd Z k x st N d c fs)(b:Ky x st d:=by intro _ _ _ _ _ _;repeat' (first|exact Lz rfl|refine Lc λ_=>?_)):Oz Z (k+1) x d (BM (A7 N) (A7 d) c fs):=ozB a S b e
end PX
set_option backward.eqns.nonrecursive true
namespace PV
open L2 PX
noncomputable abbrev YK:Nat:=100000
abbrev RD:Nat:=6
def zD:FS:=ji (lZ<|Cc (ou (wV [.int])<|jb 0)<|VU<|ou (wV [.bool])<|jb 0) jG
def oJ:BP:=BM 1 1 [] zD
def sU:FS:=ji (lZ<|Cc (jI oJ [jb 0])<|Bh .LtE .LtE (jb 1) (jb 0)<|jb 2) jG
def nN:BP:=BM 3 3 [] sU
abbrev nD:=jk<|fC<|.int 1
def A9:FS:=ji (lZ<|jI nN [jb 1,nD,jb 0]) jG
def tf:BP:=BM 2 2 [] A9
def wX:FS:=ji (lZ<|Cc (jI oJ [jb 1])<|jI tf [jb 0,jk<|jy (g1 zT) [jb 1]]) jG
def oz:BP:=BM 2 2 [] wX
abbrev tV:=kP<|lu 1
abbrev MJ:=ji (lZ<|fC<|.bl U) jG
def nk:FS:=ji (F7 (Sn (zE<|fT<|ou (wV [.tuple])<|jb 1)<|fT<|jx LH (jk<|jy (g1 uT) [jb 1])<|jb 0) MJ jG)<|ji (F7 (zE<|fT<|jy (g1 ID) [jk<|ki [0] 1 tV (ja 1) kx<|kZ<|jI oz [jb 0,jb 1]]) MJ jG)<|ji (lZ<|jx I9 (jk<|vE [] 1 tV (ja 0) kx<|Bx<|jy (g1 zT) [jb 0])<|jb 0) jG
def lN:BP:=BM 2 2 [] nk
abbrev yU:=jk<|fC<|.int 0
abbrev Wu:=jx (ud .Gt) (jb 1) yU
abbrev Wz:=fT Wu
def zC:FS:=ji (lZ<|LI Wz (jx E9 (jb 0)<|jk<|jx FZ (jb 1) nD)<|ou zR<|jk<|jx E9 (jb 0)<|jk<|jx FZ (jk<|ou zR<|jb 1) nD) jG
def oH:BP:=BM 2 2 [] zC
abbrev Qh:=jk<|jy (g1 uT) [jb 0]
def qe:FS:=ji (F7 (fT<|jx (ud .Lt) (jb 1) Qh) (ji (lZ<|jx E9 (jb 0)<|jb 1) jG) jG)<|ji (lZ<|fC<|.int 0) jG
def mG:BP:=BM 2 2 [] qe
abbrev MH:=fC<|.bl J
abbrev WI:=jk<|jx OW (jk<|fC<|.int 10)<|jk<|fC<|.int 18
def sP:FS:=ji (lH 2<|jI mG [jb 0,jb 1])<|ji (F7 (fT<|jx (ud .GtE) (jb 2) WI) (ji (lZ<|sY [jx FZ (jb 2) WI,MH]) jG) jG)<|ji (lZ<|sY [jx zS (jb 2)<|jk<|fC<|.int 2147483647,fC<|.bl U]) jG
def nL:BP:=BM 3 2 [2] sP
abbrev Qa:=ji (pD 2) jG
abbrev T4:=jx E9 (jb 0) nD
abbrev Ft:=jk<|jx E9 (jb 0) yU
def uV:FS:=ji (F7 (fT T4) (ji (lH 2<|jx zS Ft<|jb 1)<|ji (qT 0 (jx Pa Ft<|jb 1) yU) Qa) jG)<|ji (qT 0 (jx zS (jk<|jx nQ (jk<|jx uc Ft<|jk<|fC<|.int 48271)<|jk<|fC<|.int 29)<|jk<|fC<|.int 2147483647) yU)<|ji (lH 3<|jx zS (jk<|jx nQ (jk<|jx nQ (jk<|jx uc Ft Ft)<|jk<|jx uc (jk<|fC<|.int 39373) Ft)<|jk<|fC<|.int 7)<|jk<|fC<|.int 2147483629)<|ji (lH 3<|jx zS (jk<|jx nQ (jk<|jx uc (jb 3)<|jb 3)<|jk<|jx uc (jk<|fC<|.int 16807)<|jb 3)<|jk<|fC<|.int 2147483587)<|ji (lZ<|jx zS (jk<|jx Pa (jb 3)<|jk<|fC<|.int 8)<|jb 1) jG
def kE:BP:=BM 4 2 [2,3] uV
abbrev HE:=lH 3<|sY []
abbrev Kq:=jk<|fC<|.int 2
abbrev Qg:=ou zR nD
abbrev Qk:=jk<|jx nQ (jb 1) nD
abbrev Wx:=ji (lZ<|jy (g1 oq) [jb 3]) jG
abbrev WN:=Bf 2<|jk<|jI kE [jb 0,jk<|jy (g1 uT) [jb 2]]
abbrev WX:=jx E9 (jk<|sY [fC<|.int 1,Qg])<|jk<|jI kE [jb 0,Kq]
abbrev W0:=jk WX
def aaM:FS:=ji (lH 2<|jy (LA .lst J) [nD,Qk])<|ji HE<|ji (nh (yc<|jb 1) (ja 4)<|ji (pv<|nr 3<|jx uc (jk WN) W0) jG) Wx
def nK:BP:=BM 5 2 [2,3,4] aaM
abbrev Ww:=lH 5<|jI kE [jb 0,jb 2]
abbrev WD:=jk<|jI kE [jb 0,jk<|fC<|.int 3]
abbrev WY:=lH 2<|jx E9 (jk<|sY [fC<|.int 3,fC<|.int 4,fC<|.int 6]) WD
abbrev zC3:=ji Ww<|ji (F7 (fT<|jx (ud .Lt) (jb 5) Kq) (ji (pv<|nr 3<|jx E9 (jk<|sY [lu 4,ou zR<|jb 4])<|jb 5) jG) jG) jG
def abj:FS:=ji WY<|ji HE<|ji (nh (A0 nD Qk) (ja 4) zC3)<|ji (F7 (fT<|jx I9 (jb 3)<|jk<|sY []) (ji (pv<|nr 3<|jx uc W0<|jk<|jx nQ nD<|jk<|jI kE [jb 0,jb 1]) jG) jG) Wx
def oF:BP:=BM 6 2 [2,3,4,5] abj
abbrev WS:=jk<|jx E9 (jb 0)<|jk<|jx FZ (jk<|jy (g1 zT) [jb 1]) nD
def tR:FS:=ji (lZ<|jx uc WS<|jk<|jx E9 (jk<|sY [Qg,fC<|.int 1])<|jk<|jy (g1 OY) [jk Wu]) jG
def nu:BP:=BM 2 2 [] tR
abbrev TX:=jy (g1 zT) [jb 4]
abbrev WW:=ji (lH 4<|jI nu [jb 0,jb 3])<|ji (Cy 2 (lu 4)<|jk TX) jG
def yg:FS:=ji (lH 2 Pl)<|ji (nh tV (ja 3) WW)<|ji (lZ<|jy (g1 oq) [jk<|ki [2] 1 (kP<|jy (g1 lF) [jb 2]) (ja 1) kx<|kZ<|jx IC (jb 0)<|jb 1]) jG
def lC:BP:=BM 5 2 [2,3,4] yg
abbrev TV:=pv<|nr 2<|lu 5
abbrev WH:=ji (lH 3<|jx nQ (jb 3) nD) jG
abbrev WJ:=fT<|jx (ud .Lt) (jb 3)<|jk<|jy (g1 uT) [jb 2]
abbrev WM:=lH 5<|jI lC [jb 4,jk<|jx E9 (jb 2)<|jb 3]
abbrev zC7:=ji WM<|ji (F7 (fT<|jx oT (jb 5)<|jb 2) (ji TV jG) jG) jG
def abi:FS:=ji (lH 2<|jy (g1 CU) [jb 0])<|ji (lH 3<|fC<|.int 0)<|ji (qf WJ (ji (nh tV (ja 4) zC7) WH) YK) Qa
def rg:BP:=BM 6 2 [2,3,4,5] abi
abbrev Y3:=jk<|jy (g1 VG) [jb 6]
abbrev Wt:=jx (ud .Gt) (jb 4) yU
abbrev Ql:=jy (g1 lF) [Y3]
abbrev WE:=lH 4<|jI kE [jb 0,jk<|fC<|.int 4]
abbrev Uc:=fT<|jx (ud .Gt) (jk<|jy (g1 uT) [jb 6])<|jk<|fC<|.int 30
abbrev WO:=jk<|jx nQ nD<|jk<|jx zS (jb 4) Kq
abbrev Y7:=jk<|ki [] 1 (kP<|lu 0) (ja 0) kx<|kZ<|jy (g1 zT) [jb 0]
abbrev WR:=ji (lH 6<|CZ (jb 6)<|jk<|jI kE [jb 0,jk<|fC<|.int 30]) jG
abbrev Ud:=jy (g1 oq) [Y7]
abbrev WV:=kZ Ud
abbrev Ue:=jx E9 (jk<|sY [fC<|.int 4,fC<|.int 8,fC<|.int 13]) WD
abbrev W2:=lH 3<|jx nQ (jb 1)<|jk<|jI kE [jb 0,jk<|jx nQ (jk<|jx FZ (jb 2)<|jb 1) nD]
abbrev zC1:=F7 (fT<|jx I9 (jb 4)<|jk<|fC<|.int 3) (ji (lH 7<|ki [] 1 (kP<|lu 7) (ja 0) kx WV) jG) jG
abbrev zC0:=F7 (fT Wt) (ji (lH 7<|ki [0,3] 1 (yc WO) (ja 2) kx<|kZ<|jI nK [jb 0,jb 1])<|ji zC1<|ji (lH 6<|jI rg [jk<|CZ (jk Ql) Kq,jb 7]) jG) jG
def aaY:FS:=ji W2<|ji WE<|ji (F7 (fT<|jx I9 (jb 3) yU) (ji (lZ<|qV [fC<|.int 0,qV []]) jG) jG)<|ji (lH 5<|jI kE [jb 0,jk Ue])<|ji (lH 6<|ki [0,3] 1 (yc<|jb 5) (ja 2) kx<|kZ<|jI oF [jb 0,jb 1])<|ji zC0<|ji (lH 6 Ql)<|ji (F7 Uc WR jG)<|ji (lZ<|qV [lu 3,jy (g1 oq) [jb 6]]) jG
def qZ:BP:=BM 8 3 [3,4,5,6,7] aaY
def Gn:FS:=ji (lZ<|jx I9 WS<|jk<|LI Wz (fC<|.int 1)<|fC<|.int 0) jG
def yj:BP:=BM 2 2 [] Gn
abbrev Qb:=jk<|qV [lu 1]
abbrev Qd:=lH 1<|sY [qV []]
abbrev T3:=qV [fC<|.int 0,fC<|.int 1]
abbrev Qi:=kP T3
abbrev T8:=kZ<|jx nQ (jb 0) Qb
abbrev zC6:=ji (lH 1<|ki [] 2 tV (ja 0) kx<|Fc Qi (ja 1) kx T8) jG
def abe:FS:=ji Qd<|ji (nh (yc<|jb 0) (ja 2) zC6)<|ji (pD 1) jG
def qj:BP:=BM 3 1 [1,2] abe
abbrev Qe:=ji (lH 1<|lu 3) jG
abbrev W6:=ji (pv<|Ac 3<|ki [4] 1 Qi (ja 1) kx T8) jG
def wW:FS:=ji Qd<|ji (nh (yc<|jb 0) (ja 2)<|ji HE<|ji (nh tV (ja 4) W6) Qe)<|ji (pD 1) jG
def nA:BP:=BM 5 1 [1,2,3,4] wW
abbrev WB:=zE<|fT<|jI lN [jb 0,jb 1]
def ot:FS:=ji (F7 WB (ji HS jG) jG) jG
def mM:BP:=BM 2 2 [] ot
def aaW:FS:=ji (lZ<|jy (g1 oq) [jk<|jy (g1 zh) [jk<|ki [1] 1 (kP<|lu 0) (ja 1) kx<|kZ<|jI oH [jb 0,jb 1]]]) jG
def qY:BP:=BM 2 2 [] aaW
abbrev Qf:=Cp [ja 2,ja 3]
abbrev Ws:=jx (ud .Gt) (jb 3) yU
abbrev WK:=jx FZ (jk<|jy (g1 zT) [jb 3]) nD
abbrev zC8:=ji (qT 1 (LI (fT Ws) (lu 2)<|ou zR<|jb 2)<|jk WK) jG
def R6:FS:=ji (lH 1<|jy (g1 CU) [jb 0])<|ji (nh (zg 1<|lu 0) Qf zC8)<|ji (lZ<|jy (g1 oq) [jb 1]) jG
def yk:BP:=BM 4 1 [1,2,3] R6
def aaX:FS:=ji (pv<|jI mM [Qh,jb 1])<|ji (lZ<|jy (g1 oq) [jk<|ki [0] 1 (kP<|jI yk [jb 1]) (ja 1) kx<|kZ<|LI (fT<|jI yj [jb 0,jb 1]) (fC<|.int 1)<|fC<|.int 0]) jG
def oE:BP:=BM 2 2 [] aaX
abbrev Qc:=jk<|ou zR<|jb 0
abbrev Qj:=jk<|jx nQ (jb 0) nD
def aby:FS:=ji (lZ<|ki [] 1 (A0 Qc Qj) (ja 0) (fT<|jx LH (jb 0) yU)<|kZ<|lu 0) jG
def pF:BP:=BM 1 1 [] aby
abbrev TZ:=jx oT (jb 2)<|jb 1
abbrev Wq:=jx nQ (jb 1)<|jk<|qV [lu 2]
abbrev Y5:=jx oT (jk<|ou zR<|jb 2)<|jb 1
abbrev Ua:=fT Y5
def zi:FS:=ji (lZ<|ki [0] 2 tV (ja 1) kx<|Fc (kP<|jI pF [jb 0]) (ja 2) (zF (fT TZ) Ua)<|kZ Wq) jG
def ox:BP:=BM 2 2 [] zi
abbrev MI:=kZ<|lu 2
abbrev Wv:=jk<|jI qY [jb 2,jb 1]
abbrev T7:=kP<|jI ox [jb 2,jb 4]
abbrev WU:=jx I9 (jk<|jy (g1 zT) [jk<|jx E9 (jb 1)<|jk Qg])<|jb 0
abbrev W5:=fT<|jy (g1 ID) [jk<|ki [0,2] 1 tV (ja 2) kx<|kZ<|jx MW Wv<|jb 0]
abbrev zC9:=lH 6<|ki [5] 1 (kP<|lu 3) (ja 1) (fT WU)<|kZ<|lu 1
def zj:FS:=ji (UA Qf<|lu 0)<|ji (lH 4<|sY [qV []])<|ji (nh (A0 nD<|jk<|jx nQ (jb 2) nD) (ja 5)<|ji zC9<|ji (lH 4<|ki [1,6] 1 T7 (ja 2) W5 MI) jG)<|ji (pD 4) jG
def oy:BP:=BM 7 2 [2,3,4,5,6] zj
abbrev T6:=jk<|jx E9 (jb 1) nD
def abd:FS:=ji (lZ<|LI (fT<|jx I9 (jk<|jy (g1 uT) [jk T4])<|jk<|jy (g1 uT) [T6]) (jI oy [jb 0,T6])<|sY []) jG
def uY:BP:=BM 2 2 [] abd
def aaV:FS:=ji (lZ<|jI uY [jb 0,jb 0]) jG
def qX:BP:=BM 1 1 [] aaV
abbrev TY:=jx oT (jb 5)<|jb 4
abbrev Y4:=jx oT (jk<|ou zR<|jb 5)<|jb 4
abbrev T9:=fT Y4
abbrev zC5:=ji (F7 (zF (fT TY) T9) (ji (pv<|nr 3<|jx nQ (jb 4)<|jk<|qV [lu 5]) jG) jG) jG
def vL:FS:=ji Qd<|ji (nh (yc<|jb 0) (ja 2)<|ji HE<|ji (nh tV (ja 4)<|ji (nh (kP<|jx nQ (jk<|jy (LA .lst J) [Qc,yU])<|jk<|jy (LA .lst J) [nD,Qj]) (ja 5) zC5) jG) Qe)<|ji (pD 1) jG
def mT:BP:=BM 6 1 [1,2,3,4,5] vL
abbrev WL:=jx pE (jk<|jI lC [jb 0,jb 3])<|jb 2
abbrev WZ:=ji (F7 (fT WL) MJ jG) jG
def sQ:FS:=ji (nh tV (ja 3) WZ)<|ji (lZ MH) jG
def sZ:BP:=BM 4 3 [3] sQ
abbrev Wo:=kZ<|qV [lu 0,MH]
abbrev WQ:=jI sZ [jb 2,T6,jb 0]
def yf:FS:=ji (lH 1<|jy (g1 A6) [jk<|ki [] 1 (kP T4) (ja 0) kx Wo])<|ji (lZ<|ki [1,0] 1 (kP<|jI mT [Ft]) (ja 2) (fT WQ) MI) jG
def nM:BP:=BM 2 1 [1] yf
def mh(a:BP):FS:=ji (F7 (fT<|ou (wV [.list,.tuple])<|jb 1) (ji (F7 (Sn (fT<|jx LH (jk<|ou (wV [.list])<|jb 0)<|jk<|ou (wV [.list])<|jb 1)<|fT<|jx LH (jk<|ou (wV [.tuple])<|jb 0)<|jk<|ou (wV [.tuple])<|jb 1) MJ jG)<|ji (lZ<|Cc (jx I9 Qh<|jk<|jy (g1 uT) [jb 1])<|jy (g1 ID) [jk<|ki [] 2 (Iy (jb 0)<|jb 1) (Cp [ja 0,ja 1]) kx<|kZ<|jI a [jb 0,jb 1]]) jG) jG)<|ji (lZ<|Cc (jx I9 (jk<|ou (wV [.bool])<|jb 0)<|jk<|ou (wV [.bool])<|jb 1)<|jx I9 (jb 0)<|jb 1) jG
def mr:Nat->BP
 |0=>λ_=>C
 |m+1=>BM 2 2 []<|mh<|mr m
abbrev Y6:=jx FZ (jk TX) nD
abbrev Ub:=jk Y6
abbrev zC4:=jx E9 (jk<|sY [jx FZ nD<|jk<|jx E9 (jb 1)<|jb 3,jx E9 (jb 1)<|jb 3])<|jk<|jy (g1 OY) [jk Wt]
def yh:FS:=ji (lH 2<|jy (g1 CU) [jb 1])<|ji (nh (zg 0<|lu 0) (Cp [ja 3,ja 4])<|ji (qT 2 zC4 Ub) jG)<|ji (lZ<|jy (g1 oq) [jb 2]) jG
def my:BP:=BM 5 2 [2,3,4] yh
abbrev Y2:=jx pE (jb 4)<|jb 3
abbrev Kr:=fT Y2
def Ab(a:BP):FS:=ji (lH 2<|sY [])<|ji (lH 3 Pj)<|ji (nh (kP<|lu 0) (ja 4)<|ji (F7 Kr (ji (Nb 5 [4,7] a)<|ji TV<|ji (nh (kP<|lu 5) (ja 6)<|ji (pv<|Gr 3<|lu 6) jG) jG) jG) jG) Qa
abbrev T5:=jI oE [jb 0,jb 1]
def wY:FS:=ji (lZ<|jy (g1 lF) [jk<|Pk [0] 1 tV (ja 1) kx<|xh T5]) jG
def qi:BP:=BM 2 2 [] wY
def uU:FS:=ji (lZ<|jy (g1 oq) [jk<|jI qi [jb 0,jb 1]]) jG
def kr:BP:=BM 2 2 [] uU
def uW:FS:=ji (lH 2<|jI qX [jb 0])<|UC 2<|FP 3 1 [2] 5<|Ab kr
def qh:BP:=BM 4 2 [2,3] uW
def vY:FS:=ji (lZ<|jy (g1 uT) [jk<|jI qh [jb 0,jk<|jI qj [Ft]]]) jG
def lM:BP:=BM 1 1 [] vY
abbrev Wr:=ji (Cy 3 MH<|jb 6) jG
abbrev WA:=kZ<|jI my [jb 1,jb 0]
abbrev WG:=ji (pv<|nr 2<|jy (g1 oq) [jb 5]) jG
abbrev Ug:=jk<|jy (g1 JY) [jk<|ki [4] 1 tV (ja 1) kx WA]
abbrev W8:=lH 5<|jy (g1 lF) [Ug]
def abW:FS:=ji (lH 2<|sY [])<|ji (lH 3 Pl)<|ji (nh (kP<|lu 0) (ja 4)<|ji (F7 Kr (ji W8<|ji (nh (kP<|lu 5) (ja 6) Wr) WG) jG) jG) Qa
def oI:BP:=BM 7 2 [2,3,4,5,6] abW
abbrev Wy:=lH 2<|jI nL [jb 0,jb 1]
abbrev WC:=jk<|jy (g2 JZ) [jb 1,nD]
abbrev WT:=jx I9 (jk<|jI lM [jk<|qV [fC<|.int 0,qV []]]) nD
abbrev W3:=ji (F7 (zE<|fT<|jI (mr RD) [jk<|jI lM [jb 3],jb 4]) MJ jG) jG
abbrev W4:=jk<|jI oI [jk<|jI nA [jk<|jx E9 (jb 3) yU],jk<|jI nM [jb 3]]
abbrev W7:=lH 3<|jI qZ [jb 2,yU,jk<|jx FZ (jk<|fC<|.int 5) WC]
abbrev zC2:=Cc (jx I9 (jk<|jI lM [jk<|qV [fC<|.int 1,qV []]]) nD)<|jx I9 (jk<|jI lM [jk<|qV [fC<|.int 1,qV [qV [fC<|.int 1]]]]) Kq
def A8:FS:=ji (nh (yc<|jk<|jy (g2 OX) [nD,jk<|jy (g2 JZ) [Qh,jk<|fC<|.int 5]]) (ja 1)<|ji Wy<|ji W7<|ji (lH 4<|jy (g1 uT) [W4]) W3)<|ji (lZ<|Cc WT zC2) jG
def vZ:BP:=BM 5 1 [1,2,3,4] A8
end PV
namespace K34
open L2 PX PV
noncomputable def top(i:Nat):Stmt:=PySem.Challenge.pw_twinriddles_k34_kinds_of_all_answers.main.body.getD i<|.Pass ⟨0,0,0,0⟩
abbrev TB34:List (iW×aG):=[(158,"kinds_among.<locals>.reach")]
section
variable {Z:ZZ}{k:Nat}
noncomputable abbrev wK:Stmt:=top 4
abbrev wU(Z:ZZ)(k:Nat):Prop:=Oz Z k "is_whole" ["thing"] oJ
def abG(a:Fz Z.K Z.mg "is_whole" wK)(T:Tx Z.mg):wU Z (k+1):=by have S:AN ["thing"] ["thing"] (iY wK):=Eo;refine F5 a S λf c A b s Q E L e g h i d j l=>?_;exact(s1 (sR<|HG (xI T H xV)<|MU<|Za<|xI T H xV) s0)
noncomputable abbrev uL:Stmt:=top 5
abbrev zy(Z:ZZ)(k:Nat):Prop:=Oz Z k "is_number" ["thing","least","most"] nN
def abu(a:Fz Z.K Z.mg "is_number" uL)(T:Tx Z.mg)(d:wU Z k):zy Z (k+1):=by have S:AN ["thing","least","most"] ["thing","least","most"] (iY uL):=Eo;refine F5 a S λf e A b s Q E L h c i j g l m=>?_;exact(s1 (sR<|HG (xU d c<|xA xV B6)<|MU<|xCh xV xV xV) s0)
noncomputable abbrev yY:Stmt:=top 6
abbrev CF(Z:ZZ)(k:Nat):Prop:=Oz Z k "is_name" ["names","thing"] tf
def acx(a:Fz Z.K Z.mg "is_name" yY)(T:Tx Z.mg)(b:zy Z k):CF Z (k+1):=by have S:AN ["names","thing"] ["names","thing"] (iY yY):=Eo;refine F5 a S λf e A c s Q E L h d i j g l m=>?_;exact(s1 (sR<|xU b d<|xA xV<|xA (xO x3)<|xA xV B6) s0)
noncomputable abbrev yX:Stmt:=top 7
abbrev CD(Z:ZZ)(k:Nat):Prop:=Oz Z k "is_sign" ["names","thing"] oz
def acw(a:Fz Z.K Z.mg "is_sign" yX)(T:Tx Z.mg)(e:wU Z k)(b:CF Z k):CD Z (k+1):=by have S:AN ["names","thing"] ["names","thing"] (iY yX):=Eo;refine F5 a S λf g A c s Q E L i d j l h m n=>?_;exact(s1 (sR<|HG (xU e d<|xA xV B6)<|MU<|xU b d<|xA xV<|xA (xO<|xB T H ⟨mN⟩<|xA xV B6) B6) s0)
noncomputable abbrev Et:Stmt:=top 8
abbrev JG(Z:ZZ)(k:Nat):Prop:=Oz Z k "is_so" ["answer","sign"] yj
def ad6(a:Fz Z.K Z.mg "is_so" Et)(T:Tx Z.mg):JG Z (k+1):=by have S:AN ["answer","sign"] ["answer","sign"] (iY Et):=Eo;refine F5 a S λf d A b s Q E L g h c i e j l=>?_;exact(s1 (sR<|Au ⟨oj c⟩ (xO<|FK xV<|xO<|lO ⟨oD⟩ (xO<|xB T H ⟨mN⟩<|xA xV B6)<|xO x3)<|xO<|N4 (Br ⟨nI (.inr<|.inr<|.inl H) c⟩ xV<|xO x3) x3 x3) s0)
noncomputable abbrev qR:Stmt:=top 9
abbrev vW(Z:ZZ)(k:Nat):Prop:=Oz Z k "all_answers" ["names"] qj
def aaS(a:Fz Z.K Z.mg "all_answers" qR)(T:Tx Z.mg):vW Z (k+1):=by have S:AN ["names","begun","place"] ["names"] (iY qR):=Eo;refine F5 a S λf e A c s Q E L d i j l g m b=>?_;exact(s1 (sS b<|qM<|xL (qL ED) ED)<|s1 (sF (MQ T<|xA xV B6) (gN b)<|s1 (sC (N':=["begin","bit"]) b (Ia S) (by decide+kernel) (iS xW) λ_ _ _ _ _ _ b=>⟨gN b,f0,λ_=>bF H (iS<|qL<|xL x3<|xL x3 ED) (gN b) f0<|bE<|lO ⟨lI⟩ xV<|xO<|qL<|xL xW ED⟩) s0)<|s1 (Ln λh=>absurd (d _ h)<|by decide) s0)
noncomputable abbrev sD:Stmt:=top 11
abbrev xY(Z:ZZ)(k:Nat):Prop:=Oz Z k "is_turning" ["names","thing"] lN
def aa8(a:Fz Z.K Z.mg "is_turning" sD)(T:Tx Z.mg)(b:CD Z k):xY Z (k+1):=by have S:AN ["names","thing"] ["names","thing"] (iY sD):=Eo;refine F5 a S λf h A d s Q E L j g e l i m c=>?_;exact(s1 (sI (tW<|wOr (KO<|Ek<|xI T H xV)<|Xf<|Br ⟨Ez e⟩ (xO<|xB T H ⟨lP⟩<|xA xV B6) xV) (s1 (sR x2) s0) s0)<|s1 (sI (KO<|Ek<|xB T H ⟨zo H⟩<|xA (xO<|by exact xC (N':=["names","sign"]) (Ia S) (by decide+kernel) (iS xW) λ_ _ _ _ _ _ c=>⟨gN c,f0,λ_=>bE<|xU b g<|xA xV<|xA xV B6⟩) B6) (s1 (sR x2) s0) s0)<|s1 (sR<|Au ⟨oj e⟩ (xO<|by exact xLS (N':=["sign"]) T (Ia S) (by decide+kernel) (iS xW) λ_ _ _ _ _ _ c=>⟨gN c,f0,xB T H ⟨mN⟩<|xA xV B6⟩) xV) s0)
noncomputable abbrev oS:Stmt:=top 12
abbrev tQ(Z:ZZ)(k:Nat):Prop:=Oz Z k "check_turning" ["names","thing"] mM
def zd(a:Fz Z.K Z.mg "check_turning" oS)(T:Tx Z.mg)(b:xY Z k):tQ Z (k+1):=by have S:AN ["names","thing"] ["names","thing"] (iY oS):=Eo;refine F5 a S λf e A c s Q E L h d i j g l m=>?_;exact(s1 (sI (KO<|Ek<|xU b d<|xA xV<|xA xV B6) (s1 sX s0) s0) s0)
noncomputable abbrev wH:Stmt:=top 13
abbrev AS(Z:ZZ)(k:Nat):Prop:=Oz Z k "led_sign" ["turning","sign"] oH
def abO(a:Fz Z.K Z.mg "led_sign" wH)(T:Tx Z.mg):AS Z (k+1):=by have S:AN ["turning","sign"] ["turning","sign"] (iY wH):=Eo;refine F5 a S λf d A b s Q E L g h c i e j l=>?_;exact(s1 (sR<|N4 (Br ⟨nI (.inr<|.inr<|.inl H) c⟩ xV<|xO x3) (FK xV<|xO<|lO ⟨oD⟩ xV<|xO x3)<|zL<|xO<|FK xV<|xO<|lO ⟨oD⟩ (xO<|zL xV)<|xO x3) s0)
noncomputable abbrev sj:Stmt:=top 14
abbrev xP(Z:ZZ)(k:Nat):Prop:=Oz Z k "led_clause" ["clause","turning"] qY
def aa3(a:Fz Z.K Z.mg "led_clause" sj)(T:Tx Z.mg)(b:AS Z k):xP Z (k+1):=by have S:AN ["clause","turning"] ["clause","turning"] (iY sj):=Eo;refine F5 a S λf g A c s Q E L i e j l h m d=>?_;exact(s1 (sR<|xT T H ⟨lq⟩<|xA (xO<|xSA T<|xA (xO<|by exact xC (N':=["turning","sign"]) (Ia S) (by decide+kernel) (iS xW) λ_ _ _ _ _ _ d=>⟨gN d,f0,λ_=>bE<|xU b e<|xA xV<|xA xV B6⟩) B6) B6) s0)
noncomputable abbrev HR:Stmt:=top 16
abbrev Oa(Z:ZZ)(k:Nat):Prop:=Oz Z k "back" ["turning"] yk
def RC(a:Fz Z.K Z.mg "back" HR)(T:Tx Z.mg):Oa Z (k+1):=by have S:AN ["turning","whence","name","sign"] ["turning"] (iY HR):=Eo;refine F5 a S λf e A c s Q E L h i d j g l b=>?_;exact(s1 (sS b<|xT T H ⟨xg⟩<|xA xV B6)<|s1 (sF (iE1 T xW) (gT (gN b)<|gN b)<|s1 (BR xV (N4 (Br ⟨nI (.inr<|.inr<|.inl H) d⟩ xV<|xO x3) xW<|zL xV)<|xO<|lO ⟨oD⟩ (xO<|xB T H ⟨mN⟩<|xA xV B6)<|xO x3) s0)<|s1 (sR<|xT T H ⟨lq⟩<|xA xV B6) s0)
noncomputable abbrev su:Stmt:=top 15
abbrev xQ(Z:ZZ)(k:Nat):Prop:=Oz Z k "led_answer" ["answer","turning"] oE
def aa4(a:Fz Z.K Z.mg "led_answer" su)(T:Tx Z.mg)(b:tQ Z k)(d:Oa Z k)(c:JG Z k):xQ Z (k+1):=by have S:AN ["answer","turning"] ["answer","turning"] (iY su):=Eo;refine F5 a S λf i A g s Q E L l e m n j o h=>?_;exact(s1 (sE<|xU b e<|xA (xO<|xB T H ⟨lP⟩<|xA xV B6)<|xA xV B6)<|s1 (sR<|xT T H ⟨lq⟩<|xA (xO<|by exact xC (N':=["answer","sign"]) (Ia S) (by decide+kernel) (iS<|xU d e<|xA xV B6) λ_ _ _ _ _ _ h=>⟨gN h,f0,λ_=>bE<|N4 (Ek<|xU c e<|xA xV<|xA xV B6) x3 x3⟩) B6) s0)
abbrev uM:Stmt:=top 18
abbrev zA(Z:ZZ)(k:Nat):Prop:=Oz Z k "all_signs" ["names"] pF
def abv(a:Fz Z.K Z.mg "all_signs" uM)(T:Tx Z.mg):zA Z (k+1):=by have S:AN ["names"] ["names"] (iY uM):=Eo;refine F5 a S λf e A b s Q E L h i d j g l c=>?_;exact(s1 (sR<|by exact xC (N':=["sign"]) (Ia S) (by decide+kernel) (iR2 T<|xA (xO<|zL xV)<|xA (xO<|lO ⟨lI⟩ xV<|xO x3) B6) λ_ _ _ _ _ _ c=>⟨gN c,f1<|Br ⟨Ez d⟩ xV<|xO x3,λ_=>bE xW⟩) s0)
abbrev oQ:Stmt:=top 19
abbrev tN(Z:ZZ)(k:Nat):Prop:=Oz Z k "longer_by_one" ["names","begun"] ox
def zb(a:Fz Z.K Z.mg "longer_by_one" oQ)(T:Tx Z.mg)(b:zA Z k):tN Z (k+1):=by have S:AN ["names","begun"] ["names","begun"] (iY oQ):=Eo;refine F5 a S λf h A d s Q E L j g e l i m c=>?_;exact(s1 (sR<|by exact xC (N':=["names","begin","sign"]) (Ia S) (by decide+kernel) (iS xW) λ_ _ _ _ _ _ c=>⟨gN c,f0,λ_=>bF H (iS<|xU b g<|xA xV B6) (gN c) (f1<|tW<|Xg (Br ⟨rJ e⟩ xV xV)<|S6<|Br ⟨rJ e⟩ (xO<|zL xV) xV)<|bE<|lO ⟨lI⟩ xV<|xO<|qL<|xL xW ED⟩) s0)
abbrev oR:Stmt:=top 20
abbrev tP(Z:ZZ)(k:Nat):Prop:=Oz Z k "leading_among" ["riddle","others"] oy
def zc(a:Fz Z.K Z.mg "leading_among" oR)(T:Tx Z.mg)(b:tN Z k)(c:xP Z k):tP Z (k+1):=by have S:AN ["riddle","others","names","clauses","begun","name","ready"] ["riddle","others"] (iY oR):=Eo;refine F5 a S λf l A e s Q E L j g i n m o d=>?_;exact(s1 (sT xW<|gT (gN d)<|gN d)<|s1 (sS d<|qM<|xL (qL ED) ED)<|s1 (sF (iR2 T<|xA (xO x3)<|xA (xO<|lO ⟨lI⟩ xV<|xO x3) B6) (gN d)<|s1 (sS d<|by exact xC (N':=["name","clause"]) (Ia S) (by decide+kernel) (iS xW) λ_ _ _ _ _ _ d=>⟨gN d,f1<|Br ⟨oj i⟩ (xO<|xB T H ⟨mN⟩<|xA (xO<|FK xV<|xO<|zL<|xO x3) B6) xV,λ_=>bE xW⟩)<|s1 (sC (N':=["others","ready","begin"]) d (Ia S) (by decide+kernel) (iS<|xU b g<|xA xV<|xA xV B6) λ_ _ _ _ _ _ d=>⟨gN d,f1<|Ek<|xB T H ⟨zo H⟩<|xA (xO<|by exact xC (N':=["others","begin","clause"]) (IS H H<|by with_unfolding_all rfl) (by decide+kernel) (iS xW) λ_ _ _ _ _ _ d=>⟨gN d,f0,λ_=>bE<|Au ⟨Vf i⟩ (xO<|xU c g<|xA xV<|xA xV B6) xV⟩) B6,λ_=>bE xW⟩) s0)<|s1 (Ln λh=>absurd (j _ h)<|by decide) s0)
abbrev qQ:Stmt:=top 21
abbrev vV(Z:ZZ)(k:Nat):Prop:=Oz Z k "all_leading" ["one","other"] uY
def aaR(a:Fz Z.K Z.mg "all_leading" qQ)(T:Tx Z.mg)(b:tP Z k):vV Z (k+1):=by have S:AN ["one","other"] ["one","other"] (iY qQ):=Eo;refine F5 a S λf g A c s Q E L i d e j h l m=>?_;exact(s1 (sR<|N4 (Br ⟨oj e⟩ (xO<|xB T H ⟨lP⟩<|xA (xO<|FK xV<|xO x3) B6)<|xO<|xB T H ⟨lP⟩<|xA (xO<|FK xV<|xO x3) B6) (xU b d<|xA xV<|xA (xO<|FK xV<|xO x3) B6)<|qM ED) s0)
abbrev si:Stmt:=top 22
abbrev xN(Z:ZZ)(k:Nat):Prop:=Oz Z k "likenesses" ["riddle"] qX
def aa2(a:Fz Z.K Z.mg "likenesses" si)(T:Tx Z.mg)(b:vV Z k):xN Z (k+1):=by have S:AN ["riddle"] ["riddle"] (iY si):=Eo;refine F5 a S λf e A c s Q E L h d i j g l m=>?_;exact(s1 (sR<|xU b d<|xA xV<|xA xV B6) s0)
abbrev AD:Stmt:=top 23
def Jr:AN ["things","reach","found","seen","thing","lot","other","0"] ["things","reach"] (iY AD):=Eo
def SA:Ky "lots" AD ["things","reach"]:=λ_ _ _ _ _ _=>Lc λ_=>Lc λ_=>Lz H
abbrev OC(Z:ZZ)(k:Nat):Prop:=LtZ Z k "lots" AD ["things","reach","found","seen","thing","lot","other","0"] ["things","reach"] [2,3,4,5,6] 5 1 Ab
def RB(a:Fz Z.K Z.mg "lots" AD)(T:Tx Z.mg):OC Z k:=by have S:=Jr;refine ltZ a S SA λf x A d s Q g w v N u L E q scope c e y hv r B O n t b m=>?_;obtain⟨l,rfl⟩:=Wm.mp hv;have o: ∀i,(⟨λ_=>False,Y<|pO v g 5 [l]⟩:LL).p i->i<2:=λ_ h=>h.elim;exact(s1 (sS b<|qM ED)<|s1 (sS b<|Xa T.n_set)<|s1 (sF (iS xW) (gN b)<|s1 (sI (Br ⟨wO n⟩ xV xV) (s1 (sCl (j:=1) (z:=pO v g 5 [l]) m H r b)<|s1 (sE<|HF xV xW)<|s1 (sF (iS xW) (gN b)<|s1 (sE<|Xb t xV xW) s0) s0) s0) s0)<|s1 (Ln λh=>absurd (o _ h)<|by decide) s0)
abbrev nH:Stmt:=top 24
abbrev qE(Z:ZZ)(k:Nat):Prop:=Oz Z k "answers_reached" ["answer","turnings"] qi
def wR(a:Fz Z.K Z.mg "answers_reached" nH)(T:Tx Z.mg)(b:xQ Z k):qE Z (k+1):=by have S:AN ["answer","turnings"] ["answer","turnings"] (iY nH):=Eo;refine F5 a S λf i A c s Q E L j g l m e h d=>?_;exact(s1 (sR<|xB T H ⟨nO H e⟩<|xA (xO<|by exact Y8 (N':=["answer","turning"]) h (Ia S) (by decide+kernel) (iS xW) λ_ _ _ _ _ _ d=>⟨gN d,f0,xU b g<|xA xV<|xA xV B6⟩) B6) s0)
abbrev oB:Stmt:=top 25
def abh:Ky "kinds_among" oB ["riddle","some"]:=λ_ _ _ _ _ _=>Lc λ_=>Lc λ_=>Lz H
abbrev vS(Z:ZZ)(k:Nat):Prop:=Lw Z TB34 k "kinds_among" ["riddle","some"] qh
def aaQ(a:TbK Z TB34 "kinds_among" oB "kinds_among.<locals>.reach" 158)(T:Tx Z.mg)(d:xN Z k)(b:qE Z k)(g:OC Z k):vS Z (k+3):=by have S:AN ["riddle","some","turnings","reach"] ["riddle","some"] (iY oB):=Eo;have c:=d.up (j:=k+2) (by omega);have e:=b.up (j:=k+2) (by omega);refine ozQ (asg:=[2,3]) (fs:=uW) a S abh λf n A i s Q E L m h p q o r l tb=>?_;exact(s1 (sS l<|xU c h<|xA xV B6)<|Zq<|sLo (N':=["turnings"]) (asgR:=[]) g Jr tb h l (Ia S) (by decide+kernel) (λ_ _ _ _ _ _ _ L m h=>s1 (sR<|xT T H ⟨lq⟩<|xA (xO<|xU b h<|xA xV<|xA xV B6) B6) s0) H<|aah<|by decide+kernel)
abbrev pB:Stmt:=top 26
def abn:Ky "many_kinds" pB ["riddle"]:=λ_ _ _ _ _ _=>Lc λ_=>Lz H
abbrev xw(Z:ZZ)(k:Nat):Prop:=Lw Z TB34 k "many_kinds" ["riddle"] lM
def aa1(a:Fz Z.K Z.mg "many_kinds" pB)(T:Tx Z.mg)(b:vW Z k)(c:vS Z k):xw Z (k+1):=by have S:AN ["riddle"] ["riddle"] (iY pB):=Eo;refine ozU (asg:=[]) (fs:=vY) a S abn λf g A d s Q E L i e j l h m n tT=>?_;exact(s1 (sR<|xB T H ⟨lP⟩<|xA (xO<|N2 c tT e<|xA xV<|xA (xO<|xU b e<|xA (xO<|FK xV<|xO x3) B6) B6) B6) s0)
noncomputable abbrev qP:Stmt:=top 28
abbrev vU(Z:ZZ)(k:Nat):Prop:=Oz Z k "_law_cell_at" ["_law_script","_law_k"] mG
def aaP(a:Fz Z.K Z.mg "_law_cell_at" qP)(T:Tx Z.mg):vU Z (k+1):=by have S:AN ["_law_script","_law_k"] ["_law_script","_law_k"] (iY qP):=Eo;refine F5 a S λf d A b s Q E L g h c i e j l=>?_;exact(s1 (sI (Br ⟨nI (.inl H) c⟩ xV<|xO<|xB T H ⟨lP⟩<|xA xV B6) (s1 (sR<|FK xV xV) s0) s0)<|s1 (sR x3) s0)
noncomputable abbrev uJ:Stmt:=top 29
abbrev zv(Z:ZZ)(k:Nat):Prop:=Oz Z k "_law_state" ["_law_script","_law_k"] nL
def abr(a:Fz Z.K Z.mg "_law_state" uJ)(T:Tx Z.mg)(b:vU Z k):zv Z (k+1):=by have S:AN ["_law_script","_law_k","_law_cell"] ["_law_script","_law_k"] (iY uJ):=Eo;refine F5 a S λf h A c s Q E L j d e l i m g=>?_;exact(s1 (sS g<|xU b d<|xA xV<|xA xV B6)<|s1 (sI (Br ⟨nI (.inr<|.inr<|.inr H) e⟩ xV<|xO<|lO ⟨JB⟩ (xO x3)<|xO x3) (s1 (sR<|qM<|xL (lO ⟨oD⟩ xV<|xO<|lO ⟨JB⟩ (xO x3)<|xO x3)<|xL x2 ED) s0) s0)<|s1 (sR<|qM<|xL (lO ⟨sH⟩ xV<|xO x3)<|xL x2 ED) s0)
noncomputable abbrev wI:Stmt:=top 30
abbrev sL(Z:ZZ)(k:Nat):Prop:=Oz Z k "_law_take" ["_law_state_here","_law_many"] kE
def abP(a:Fz Z.K Z.mg "_law_take" wI)(T:Tx Z.mg):sL Z (k+1):=by have S:AN ["_law_state_here","_law_many","_law_found","_law_mixed"] ["_law_state_here","_law_many"] (iY wI):=Eo;refine F5 a S λf e A c s Q E L d i j l g m b=>?_;exact(s1 (sI (Ek<|FK xV<|xO x3) (s1 (sS b<|lO ⟨sH⟩ (xO<|FK xV<|xO x3) xV)<|s1 (BR xV (lO ⟨JC⟩ (xO<|FK xV<|xO x3) xV)<|xO x3)<|s1 (Ln λh=>absurd (d _ h)<|by decide) s0) s0)<|s1 (BR xV (lO ⟨sH⟩ (xO<|lO ⟨lI⟩ (xO<|lO ⟨qB⟩ (xO<|FK xV<|xO x3)<|xO x3)<|xO x3)<|xO x3)<|xO x3)<|s1 (sS b<|lO ⟨sH⟩ (xO<|lO ⟨lI⟩ (xO<|lO ⟨lI⟩ (xO<|lO ⟨qB⟩ (xO<|FK xV<|xO x3)<|xO<|FK xV<|xO x3)<|xO<|lO ⟨qB⟩ (xO x3)<|xO<|FK xV<|xO x3)<|xO x3)<|xO x3)<|s1 (sS b<|lO ⟨sH⟩ (xO<|lO ⟨lI⟩ (xO<|lO ⟨qB⟩ xV xV)<|xO<|lO ⟨qB⟩ (xO x3) xV)<|xO x3)<|s1 (sR<|lO ⟨sH⟩ (xO<|lO ⟨JC⟩ xV<|xO x3) xV) s0)
noncomputable abbrev sA:Stmt:=top 31
abbrev xX(Z:ZZ)(k:Nat):Prop:=Oz Z k "_law_clause" ["_law_state_here","_law_names"] oF
def aa7(a:Fz Z.K Z.mg "_law_clause" sA)(T:Tx Z.mg)(b:sL Z k):xX Z (k+1):=by have S:AN ["_law_state_here","_law_names","_law_far","_law_found","_law_name","_law_kind"] ["_law_state_here","_law_names"] (iY sA):=Eo;refine F5 a S λf h A e s Q E L j c g l i m d=>?_;exact(s1 (sS d<|FK (xO<|qM<|xL x3<|xL x3<|xL x3 ED)<|xO<|xU b c<|xA xV<|xA (xO x3) B6)<|s1 (sS d<|qM ED)<|s1 (sF (iR2 T<|xA (xO x3)<|xA (xO<|lO ⟨lI⟩ xV<|xO x3) B6) (gN d)<|s1 (sS d<|xU b c<|xA xV<|xA xV B6)<|s1 (sI (Br ⟨nI (.inl H) g⟩ xV<|xO x3) (s1 (sE<|HF xV<|FK (xO<|qM<|xL xW<|xL (zL xV) ED) xV) s0) s0) s0)<|s1 (sI (Br ⟨oj g⟩ xV<|xO<|qM ED) (s1 (sE<|HF xV<|lO ⟨qB⟩ (xO<|FK (xO<|qM<|xL x3<|xL (zL<|xO x3) ED)<|xO<|xU b c<|xA xV<|xA (xO x3) B6)<|xO<|lO ⟨lI⟩ (xO x3)<|xO<|xU b c<|xA xV<|xA xV B6) s0) s0)<|s1 (sR<|xT T H ⟨lq⟩<|xA xV B6) s0)
noncomputable abbrev qO:Stmt:=top 32
abbrev vT(Z:ZZ)(k:Nat):Prop:=Oz Z k "_law_turning" ["_law_state_here","_law_names"] nK
def aaO(a:Fz Z.K Z.mg "_law_turning" qO)(T:Tx Z.mg)(d:sL Z k):vT Z (k+1):=by have S:AN ["_law_state_here","_law_names","_law_rest","_law_found","_law_turn"] ["_law_state_here","_law_names"] (iY qO):=Eo;refine F5 a S λf g A c s Q E L i e j l h m b=>?_;exact(s1 (sS b<|Uh T H<|xA (xO x3)<|xA (xO<|lO ⟨lI⟩ xV<|xO x3) B6)<|s1 (sS b<|qM ED)<|s1 (sF (MQ T<|xA xV B6) (gN b)<|s1 (sE<|HF xV<|lO ⟨qB⟩ (xO<|Y9 xV<|xO<|xU d e<|xA xV<|xA (xO<|xB T H ⟨lP⟩<|xA xV B6) B6)<|xO<|FK (xO<|qM<|xL x3<|xL (zL<|xO x3) ED)<|xO<|xU d e<|xA xV<|xA (xO x3) B6) s0)<|s1 (sR<|xT T H ⟨lq⟩<|xA xV B6) s0)
noncomputable abbrev pW:Stmt:=top 33
abbrev uP(Z:ZZ)(k:Nat):Prop:=Oz Z k "_law_led_sign" ["_law_turning_here","_law_sign"] nu
def zN(a:Fz Z.K Z.mg "_law_led_sign" pW)(T:Tx Z.mg):uP Z (k+1):=by have S:AN ["_law_turning_here","_law_sign"] ["_law_turning_here","_law_sign"] (iY pW):=Eo;refine F5 a S λf d A b s Q E L g h c i e j l=>?_;exact(s1 (sR<|lO ⟨qB⟩ (xO<|FK xV<|xO<|lO ⟨oD⟩ (xO<|xB T H ⟨mN⟩<|xA xV B6)<|xO x3)<|xO<|FK (xO<|qM<|xL (zL<|xO x3)<|xL x3 ED)<|xO<|xT T H ⟨Dc⟩<|xA (xO<|Au ⟨nI (.inr<|.inr<|.inl H) c⟩ xV<|xO x3) B6) s0)
noncomputable abbrev oh:Stmt:=top 34
abbrev om(Z:ZZ)(k:Nat):Prop:=Oz Z k "_law_led_clause" ["_law_turning_here","_law_clause_here"] lC
def xK(a:Fz Z.K Z.mg "_law_led_clause" oh)(T:Tx Z.mg)(b:uP Z k):om Z (k+1):=by have S:AN ["_law_turning_here","_law_clause_here","_law_found","_law_sign","_law_there"] ["_law_turning_here","_law_clause_here"] (iY oh):=Eo;refine F5 a S λf i A d s Q E L j h l e g m c=>?_;exact(s1 (sS c x7)<|s1 (sF (iS xW) (gN c)<|s1 (sS c<|xU b h<|xA xV<|xA xV B6)<|s1 (sDP e xV xW<|xO<|xB T H ⟨mN⟩<|xA xV B6) s0)<|s1 (sR<|xT T H ⟨lq⟩<|xA (xO<|by exact xC (N':=["_law_found","_law_name"]) (Ia S) (by decide+kernel) (iS<|xB T H ⟨nO H g⟩<|xA xV B6) λ_ _ _ _ _ _ c=>⟨gN c,f0,λ_=>bE<|Zb e xV xV⟩) B6) s0)
noncomputable abbrev oi:Stmt:=top 35
abbrev rL(Z:ZZ)(k:Nat):Prop:=Oz Z k "_law_led_answer" ["_law_turning_here","_law_answer"] my
def xM(a:Fz Z.K Z.mg "_law_led_answer" oi)(T:Tx Z.mg):rL Z (k+1):=by have S:AN ["_law_turning_here","_law_answer","_law_found","_law_place","_law_sign"] ["_law_turning_here","_law_answer"] (iY oi):=Eo;refine F5 a S λf e A c s Q E L h i d j g l b=>?_;exact(s1 (sS b<|xT T H ⟨xg⟩<|xA xV B6)<|s1 (sF (iE T xW) (gT (gN b)<|gN b)<|s1 (BR xV (FK (xO<|qM<|xL (lO ⟨oD⟩ (xO x3)<|xO<|FK xV xV)<|xL (FK xV xV) ED)<|xO<|xT T H ⟨Dc⟩<|xA (xO<|Au ⟨nI (.inr<|.inr<|.inl H) d⟩ xV<|xO x3) B6)<|xO<|lO ⟨oD⟩ (xO<|xB T H ⟨mN⟩<|xA xV B6)<|xO x3) s0)<|s1 (sR<|xT T H ⟨lq⟩<|xA xV B6) s0)
noncomputable abbrev sy:Stmt:=top 36
abbrev xS(Z:ZZ)(k:Nat):Prop:=Oz Z k "_law_closed" ["_law_clauses","_law_turnings"] rg
def aa6(a:Fz Z.K Z.mg "_law_closed" sy)(T:Tx Z.mg)(e:om Z k):xS Z (k+1):=by have S:AN ["_law_clauses","_law_turnings","_law_found","_law_at","_law_turning_here","_law_there"] ["_law_clauses","_law_turnings"] (iY sy):=Eo;refine F5 a S λf j A c s Q E L g i d m l n b=>?_;exact(s1 (sS b<|xT T H ⟨xg⟩<|xA xV B6)<|s1 (sS b x3)<|s1 (sW (Br ⟨nI (.inl H) d⟩ xV<|xO<|xB T H ⟨lP⟩<|xA xV B6)<|s1 (sF (iS xW) (gN b)<|s1 (sS b<|xU e i<|xA xV<|xA (xO<|FK xV xV) B6)<|s1 (sI (Br ⟨rJ d⟩ xV xV) (s1 (sE<|HF xV xW) s0) s0) s0)<|s1 (sS b<|lO ⟨lI⟩ xV<|xO x3) s0)<|s1 (Ln λh=>absurd (g _ h)<|by decide) s0)
noncomputable abbrev sv:Stmt:=top 37
abbrev xR(Z:ZZ)(k:Nat):Prop:=Oz Z k "_law_riddle" ["_law_state_here","_law_least","_law_most"] qZ
def aa5(a:Fz Z.K Z.mg "_law_riddle" sv)(T:Tx Z.mg)(h:sL Z k)(c:xX Z k)(b:vT Z k)(d:xS Z k):xR Z (k+1):=by have S:AN ["_law_state_here","_law_least","_law_most","_law_names","_law_kind","_law_many","_law_clauses","_law_turnings"] ["_law_state_here","_law_least","_law_most"] (iY sv):=Eo;refine F5 a S λf n A j s Q E L o g i p l m e=>?_;exact(s1 (sS e<|lO ⟨lI⟩ xV<|xO<|xU h g<|xA xV<|xA (xO<|lO ⟨lI⟩ (xO<|lO ⟨oD⟩ xV xV)<|xO x3) B6)<|s1 (sS e<|xU h g<|xA xV<|xA (xO x3) B6)<|s1 (sI (Br ⟨oj i⟩ xV<|xO x3) (s1 (sR<|qL<|xL x3<|xL (qL ED) ED) s0) s0)<|s1 (sS e<|xU h g<|xA xV<|xA (xO<|FK (xO<|qM<|xL x3<|xL x3<|xL x3 ED)<|xO<|xU h g<|xA xV<|xA (xO x3) B6) B6)<|s1 (sC (N':=["_law_state_here","_law_names","_law_turn"]) e (Ia S) (by decide+kernel) (MQ T<|xA xV B6) λ_ _ _ _ _ _ e=>⟨gN e,f0,λ_=>bE<|xU c g<|xA xV<|xA xV B6⟩)<|s1 (sI (Br ⟨nI (.inr<|.inr<|.inl H) i⟩ xV<|xO x3) (s1 (sC (N':=["_law_state_here","_law_names","_law_turn"]) e (Ia S) (by decide+kernel) (MQ T<|xA (xO<|lO ⟨lI⟩ (xO x3)<|xO<|lO ⟨sH⟩ xV<|xO x3) B6) λ_ _ _ _ _ _ e=>⟨gN e,f0,λ_=>bE<|xU b g<|xA xV<|xA xV B6⟩)<|s1 (sI (Br ⟨oj i⟩ xV<|xO x3) (s1 (sC (N':=["_law_turning_here"]) e (Ia S) (by decide+kernel) (iS xW) λ_ _ _ _ _ _ e=>⟨gN e,f0,λ_=>bE<|xT T H ⟨lq⟩<|xA (xO<|by exact xC (N':=["_law_sign"]) (IS H H<|by with_unfolding_all rfl) (by decide+kernel) (iS xW) λ_ _ _ _ _ _ e=>⟨gN e,f0,λ_=>bE<|xB T H ⟨mN⟩<|xA xV B6⟩) B6⟩) s0) s0)<|s1 (sS e<|xU d g<|xA (xO<|W9 (xO<|xB T H ⟨nO H l⟩<|xA (xO (xT T H ⟨C8 H m⟩ (xA xV B6))) B6)<|xO x3)<|xA xV B6) s0) s0)<|s1 (sS e<|xB T H ⟨nO H l⟩<|xA (xO<|xT T H ⟨C8 H m⟩<|xA xV B6) B6)<|s1 (sI (Br ⟨nI (.inr<|.inr<|.inl H) i⟩ (xO<|xB T H ⟨lP⟩<|xA xV B6)<|xO x3) (s1 (sS e<|W9 xV<|xO<|xU h g<|xA xV<|xA (xO x3) B6) s0) s0)<|s1 (sR<|qL<|xL xW<|xL (xT T H ⟨lq⟩<|xA xV B6) ED) s0)
noncomputable abbrev nG:Stmt:=top 38
abbrev qD(Z:ZZ)(k:Nat):Prop:=Oz Z k "_law_all_answers" ["_law_names"] nA
def wQ(a:Fz Z.K Z.mg "_law_all_answers" nG)(T:Tx Z.mg):qD Z (k+1):=by have S:AN ["_law_names","_law_found","_law_place","_law_longer","_law_begun"] ["_law_names"] (iY nG):=Eo;refine F5 a S λf e A c s Q E L d i j l g m b=>?_;exact(s1 (sS b<|qM<|xL (qL ED) ED)<|s1 (sF (MQ T<|xA xV B6) (gN b)<|s1 (sS b<|qM ED)<|s1 (sF (iS xW) (gN b)<|s1 (sE<|Zc xV<|by exact xC (N':=["_law_begun","_law_bit"]) (Ia S) (by decide+kernel) (iS<|qL<|xL x3<|xL x3 ED) λ_ _ _ _ _ _ b=>⟨gN b,f0,λ_=>bE<|lO ⟨lI⟩ xV<|xO<|qL<|xL xW ED⟩) s0)<|s1 (sS b xW) s0)<|s1 (Ln λh=>absurd (d _ h)<|by decide) s0)
noncomputable abbrev ny:Stmt:=top 39
abbrev qb(Z:ZZ)(k:Nat):Prop:=Oz Z k "_law_all_turnings" ["_law_names"] mT
def vK(a:Fz Z.K Z.mg "_law_all_turnings" ny)(T:Tx Z.mg):qb Z (k+1):=by have S:AN ["_law_names","_law_found","_law_place","_law_longer","_law_begun","_law_sign"] ["_law_names"] (iY ny):=Eo;refine F5 a S λf g A c s Q E L e j d l i m b=>?_;exact(s1 (sS b<|qM<|xL (qL ED) ED)<|s1 (sF (MQ T<|xA xV B6) (gN b)<|s1 (sS b<|qM ED)<|s1 (sF (iS xW) (gN b)<|s1 (sF (iS<|lO ⟨lI⟩ (xO<|Uh T H<|xA (xO<|zL xV)<|xA (xO x3) B6)<|xO<|Uh T H<|xA (xO x3)<|xA (xO<|lO ⟨lI⟩ xV<|xO x3) B6) (gN b)<|s1 (sI (tW<|Xg (Br ⟨rJ d⟩ xV xV)<|S6<|Br ⟨rJ d⟩ (xO<|zL xV) xV) (s1 (sE<|HF xV<|lO ⟨lI⟩ xV<|xO<|qL<|xL xW ED) s0) s0) s0) s0)<|s1 (sS b xW) s0)<|s1 (Ln λh=>absurd (e _ h)<|by decide) s0)
noncomputable abbrev uK:Stmt:=top 40
abbrev zw(Z:ZZ)(k:Nat):Prop:=Oz Z k "_law_leads" ["_law_turning_here","_law_clauses","_law_there"] sZ
def abt(a:Fz Z.K Z.mg "_law_leads" uK)(T:Tx Z.mg)(c:om Z k):zw Z (k+1):=by have S:AN ["_law_turning_here","_law_clauses","_law_there","_law_clause_here"] ["_law_turning_here","_law_clauses","_law_there"] (iY uK):=Eo;refine F5 a S λf h A b s Q E L i e j l d m g=>?_;exact(s1 (sF (iS xW) (gN g)<|s1 (sI (Br ⟨wO d⟩ (xO<|xU c e<|xA xV<|xA xV B6) xV) (s1 (sR x2) s0) s0) s0)<|s1 (sR x2) s0)
noncomputable abbrev og:Stmt:=top 41
abbrev rK(Z:ZZ)(k:Nat):Prop:=Oz Z k "_law_likenesses" ["_law_riddle_here"] nM
def xJ(a:Fz Z.K Z.mg "_law_likenesses" og)(T:Tx Z.mg)(i:Z.mg "dict"=C)(b:qb Z k)(c:zw Z k):rK Z (k+1):=by have S:AN ["_law_riddle_here","_law_there"] ["_law_riddle_here"] (iY og):=Eo;refine F5 a S λf j A e s Q E L l g m n h o d=>?_;exact(s1 (sS d<|Zd h i<|xA (xO<|by exact xC (N':=["_law_clause_here"]) (Ia S) (by decide+kernel) (iS<|FK xV<|xO x3) λ_ _ _ _ _ _ d=>⟨gN d,f0,λ_=>bE<|qL<|xL xW<|xL x2 ED⟩) B6)<|s1 (sR<|by exact xC (N':=["_law_there","_law_riddle_here","_law_turning_here"]) (Ia S) (by decide+kernel) (iS<|xU b g<|xA (xO<|FK xV<|xO x3) B6) λ_ _ _ _ _ _ d=>⟨gN d,f1<|Ek<|xU c g<|xA xV<|xA (xO<|FK xV<|xO x3)<|xA xV B6,λ_=>bE xW⟩) s0)
abbrev wJ:Stmt:=top 42
abbrev AU(Z:ZZ)(k:Nat):Prop:=Oz Z k "_law_lots" ["_law_some","_law_likes"] oI
def abF(a:Fz Z.K Z.mg "_law_lots" wJ)(T:Tx Z.mg)(b:rL Z k):AU Z (k+1):=by have S:AN ["_law_some","_law_likes","_law_found","_law_gone","_law_answer","_law_lot","_law_one"] ["_law_some","_law_likes"] (iY wJ):=Eo;refine F5 a S λf m A d s Q E L g i n j e l c=>?_;exact(s1 (sS c<|qM ED)<|s1 (sS c x7)<|s1 (sF (iS xW) (gN c)<|s1 (sI (Br ⟨wO e⟩ xV xV) (s1 (sS c<|xB T H ⟨nO H e⟩<|xA (xO<|xT T H ⟨ade H l⟩<|xA (xO<|by exact xC (N':=["_law_answer","_law_turning_here"]) (Ia S) (by decide+kernel) (iS xW) λ_ _ _ _ _ _ c=>⟨gN c,f0,λ_=>bE<|xU b i<|xA xV<|xA xV B6⟩) B6) B6)<|s1 (sF (iS xW) (gN c)<|s1 (sDP j xV x2 xV) s0)<|s1 (sE<|HF xV<|xT T H ⟨lq⟩<|xA xV B6) s0) s0) s0)<|s1 (Ln λh=>absurd (g _ h)<|by decide) s0)
abbrev pV:Stmt:=top 43
abbrev acy(Z:ZZ)(k:Nat):Prop:=Oz Z k "_law_same" ["_law_found","_law_due"] (mr RD)
def zJ:Ky "_law_same" pV ["_law_found","_law_due"]:=λ_ _ _ _ _ _=>Lc λ_=>Lc λ_=>Lz H
def abq{c:BP}(a:Fz Z.K Z.mg "_law_same" pV)(T:Tx Z.mg)(h:Oz Z k "_law_same" ["_law_found","_law_due"] c):Oz Z (k+1) "_law_same" ["_law_found","_law_due"] (BM 2 2 []<|mh c):=by have S:AN ["_law_found","_law_due"] ["_law_found","_law_due"] (iY pV):=Eo;refine ozB (asg:=[]) (fs:=mh c) a S zJ λf i A e s Q E L l g b m j n d=>?_;exact(s1 (sI (Ek<|xI2 T H H xV) (s1 (sI (tW<|wOr (Br ⟨Ez b⟩ (xO<|xI T H xV)<|xO<|xI T H xV)<|Xf<|Br ⟨Ez b⟩ (xO<|xI T H xV)<|xO<|xI T H xV) (s1 (sR x2) s0) s0)<|s1 (sR<|HG (Au ⟨oj b⟩ (xO<|xB T H ⟨lP⟩<|xA xV B6)<|xO<|xB T H ⟨lP⟩<|xA xV B6)<|MU<|xB T H ⟨zo H⟩<|xA (xO<|by exact xC (N':=["_law_one","_law_other"]) (Ia S) (by decide+kernel) (iZV T xV xV) λ_ _ _ _ _ _ d=>⟨gT (gN d)<|gN d,f0,λ_=>bE<|xU h g<|xA xV<|xA xV B6⟩) B6) s0) s0)<|s1 (sR<|HG (Au ⟨oj b⟩ (xO<|xI T H xV)<|xO<|xI T H xV)<|MU<|Au ⟨oj b⟩ xV xV) s0)
theorem zu(a:Fz Z.K Z.mg "_law_same" pV)(T:Tx Z.mg): ∀m,Oz Z m "_law_same" ["_law_found","_law_due"] (mr m)
 |0=>oz0 a zJ
 |m+1=>abq a T<|zu a T m
noncomputable abbrev Js:Stmt:=top 44
def Wa:Ky "law" Js ["_law_script"]:=λ_ _ _ _ _ _=>Lc λ_=>Lz H
def Vo{f:iW}{m:mV}(F:KA Z.K "law" "law" Js f m)(T:Tx Z.mg)(d:zv Z k)(c:xR Z k)(a:qD Z k)(b:rK Z k)(e:AU Z k)(h:xw Z k)(n:acy Z k):EZ Z.P Z.w Z.K Z.mg Z.base FH (k+1) f m ["_law_script"] (spT TB34<|IW Z.K vZ):=by have S:AN ["_law_script","_law_k","_law_state_here","_law_riddle_here","_law_due"] ["_law_script"] (iY Js):=Eo;refine fnU (asg:=[1,2,3,4]) (fs:=A8) F S λo A l s Q E L q g j r p t i _ tT=>?_;exact(s1 (sF (MQ T<|xA (xO<|xB T H ⟨ack H⟩<|xA (xO x3)<|xA (xO<|xB T H ⟨Bs H⟩<|xA (xO<|xB T H ⟨lP⟩<|xA xV B6)<|xA (xO x3) B6) B6) B6) (gN i)<|s1 (sS i<|xU d g<|xA xV<|xA xV B6)<|s1 (sS i<|xU c g<|xA xV<|xA (xO x3)<|xA (xO<|lO ⟨oD⟩ (xO x3)<|xO<|xB T H ⟨Bs H⟩<|xA xV<|xA (xO x3) B6) B6)<|s1 (sS i<|xB T H ⟨lP⟩<|xA (xO<|xU e g<|xA (xO<|xU a g<|xA (xO<|FK xV<|xO x3) B6)<|xA (xO<|xU b g<|xA xV B6) B6) B6)<|s1 (sI (KO<|Ek<|xU n g<|xA (xO<|N2 h tT g<|xA xV B6)<|xA xV B6) (s1 (sR x2) s0) s0) s0)<|s1 (sR<|HG (Au ⟨oj j⟩ (xO<|N2 h tT g<|xA (xO<|qL<|xL x3<|xL (qL ED) ED) B6)<|xO x3)<|HG (Au ⟨oj j⟩ (xO<|N2 h tT g<|xA (xO<|qL<|xL x3<|xL (qL ED) ED) B6)<|xO x3)<|MU<|Au ⟨oj j⟩ (xO<|N2 h tT g<|xA (xO<|qL<|xL x3<|xL (qL<|xL (qL<|xL x3 ED) ED) ED) B6)<|xO x3) s0)
end
def all_mk{l:PySem.W.OpenLaw}{w:jm}{K:ju}{a:mz}{fa:iW}(aa:a "law"=XV (.ref fa))(T:Tx a)
  (a0:Fz K a "is_whole" wK)
  (a1:Fz K a "is_number" uL)
  (a2:Fz K a "is_name" yY)
  (a3:Fz K a "is_sign" yX)
  (a4:Fz K a "is_so" Et)
  (a5:Fz K a "all_answers" qR)
  (a6:Fz K a "is_turning" sD)
  (a7:Fz K a "check_turning" oS)
  (a8:Fz K a "led_sign" wH)
  (a9:Fz K a "led_clause" sj)
  (M:Fz K a "back" HR)
  (N:Fz K a "led_answer" su)
  (U:Fz K a "all_signs" uM)
  (Y:Fz K a "longer_by_one" oQ)
  (a14:Fz K a "leading_among" oR)
  (a15:Fz K a "all_leading" qQ)
  (a16:Fz K a "likenesses" si)
  (a17:Fz K a "lots" AD)
  (a18:Fz K a "answers_reached" nH)
  (d:N1 K a "kinds_among" oB 158)
  (a20:Fz K a "many_kinds" pB)
  (a21:Fz K a "_law_cell_at" qP)
  (a22:Fz K a "_law_state" uJ)
  (a23:Fz K a "_law_take" wI)
  (a24:Fz K a "_law_clause" sA)
  (a25:Fz K a "_law_turning" qO)
  (a26:Fz K a "_law_led_sign" pW)
  (a27:Fz K a "_law_led_clause" oh)
  (a28:Fz K a "_law_led_answer" oi)
  (a29:Fz K a "_law_closed" sy)
  (a30:Fz K a "_law_riddle" sv)
  (a31:Fz K a "_law_all_answers" nG)
  (a32:Fz K a "_law_all_turnings" ny)
  (a33:Fz K a "_law_leads" uK)
  (a34:Fz K a "_law_likenesses" og)
  (a35:Fz K a "_law_lots" wJ)
  (a36:Fz K a "_law_same" pV)
  (a37:Fz K a "law" Js)
  (w5:a "dict"=X0)
  : ∃e:mV,(∀(s:iZ) (v:jg),gr s e ⟨[v],[]⟩ [("_law_script",v)])/\(∀p∈TB34,∃c,PySem.W.codeHdIn K c p.1=YP)/\ ∀base:jo,K.In base->base.Ns aq a->(∀p∈TB34,base.BuiltinsAt a p.1)->EZ l.prog w K a base FH 13 fa e ["_law_script"] (spT TB34<|IW K vZ):=by
 obtain⟨e,F,hb⟩:=fzL a37 aa Wa;refine⟨e,hb,aC d.cd<|aN,λbase KB _ R=>?_⟩
 let z:ZZ:=⟨l.prog,w,K,a,base⟩
 have P:=abG (Z:=z) (k:=0) a0 T;have S:=abu (Z:=z) (k:=1) a1 T P.up;have V:=acx (Z:=z) (k:=2) a2 T S.up;have X:=acw (Z:=z) (k:=3) a3 T P.up V.up;have O4:=ad6 (Z:=z) (k:=0) a4 T;have O5:=aaS (Z:=z) (k:=0) a5 T;have O6:=aa8 (Z:=z) (k:=4) a6 T X.up;have O7:=zd (Z:=z) (k:=5) a7 T O6.up;have O8:=abO (Z:=z) (k:=0) a8 T;have O9:=aa3 (Z:=z) (k:=1) a9 T O8.up;have f:=RC (Z:=z) (k:=0) M T;have g:=aa4 (Z:=z) (k:=6) N T O7.up f.up O4.up;have h:=abv (Z:=z) (k:=0) U T;have i:=zb (Z:=z) (k:=1) Y T h.up;have j:=zc (Z:=z) (k:=2) a14 T i.up O9.up;have m:=aaR (Z:=z) (k:=3) a15 T j.up;have n:=aa2 (Z:=z) (k:=4) a16 T m.up;have o:=RB (Z:=z) (k:=8) a17 T;have q:=wR (Z:=z) (k:=7) a18 T g.up;have r:=aaQ (Z:=z) (k:=8) (d.tb KB R<|by decide) T n.up q.up o;have t:=aa1 (Z:=z) (k:=11) a20 T O5.up r.up;have u:=aaP (Z:=z) (k:=0) a21 T;have x:=abr (Z:=z) (k:=1) a22 T u.up;have D:=abP (Z:=z) (k:=0) a23 T;have y:=aa7 (Z:=z) (k:=1) a24 T D.up;have A:=aaO (Z:=z) (k:=1) a25 T D.up;have B:=zN (Z:=z) (k:=0) a26 T;have b:=xK (Z:=z) (k:=1) a27 T B.up;have C:=xM (Z:=z) (k:=0) a28 T;have E:=aa6 (Z:=z) (k:=2) a29 T b.up;have H:=aa5 (Z:=z) (k:=3) a30 T D.up y.up A.up E.up;have I:=wQ (Z:=z) (k:=0) a31 T;have L:=vK (Z:=z) (k:=0) a32 T;have O:=abt (Z:=z) (k:=2) a33 T b.up;have Q:=xJ (Z:=z) (k:=3) a34 T w5 L.up O.up;have G:=abF (Z:=z) (k:=1) a35 T C.up;have J:=zu (Z:=z) a36 T RD;exact Vo (Z:=z) (k:=12) F T x.up H.up I.up Q.up G.up t.up J.up
end K34
namespace PV
open L2 PX
@[simp] theorem aaJ(d:D)(a:Dn):fC d a=Y ((d,U),a):=rfl
@[simp] theorem ZM(f:F)(a:Dn):jk f a=(f a).bind λp=>Y (.val p.1,p.2):=rfl
@[simp] theorem YV(x:D×Bool)(a:Dn):jb 0 (Y x::a)=Y (.slot 0,Y x::a):=rfl
@[simp] theorem YU(a:Sl)(x:D×Bool)(b:Dn):jb 1 (a::Y x::b)=Y (.slot 1,a::Y x::b):=rfl
@[simp] theorem YT(a b:Sl)(x:D×Bool)(c:Dn):jb 2 (a::b::Y x::c)=Y (.slot 2,a::b::Y x::c):=rfl
@[simp] theorem YS(a b c:Sl)(x:D×Bool)(d:Dn):jb 3 (a::b::c::Y x::d)=Y (.slot 3,a::b::c::Y x::d):=rfl
@[simp] theorem YR(a b c d:Sl)(x:D×Bool)(e:Dn):jb 4 (a::b::c::d::Y x::e)=Y (.slot 4,a::b::c::d::Y x::e):=rfl
@[simp] theorem YQ(a b c d e:Sl)(x:D×Bool)(f:Dn):jb 5 (a::b::c::d::e::Y x::f)=Y (.slot 5,a::b::c::d::e::Y x::f):=rfl
@[simp] theorem YO(a b c d e f:Sl)(x:D×Bool)(g:Dn):jb 6 (a::b::c::d::e::f::Y x::g)=Y (.slot 6,a::b::c::d::e::f::Y x::g):=rfl
@[simp] theorem YN(a b c d e f g:Sl)(x:D×Bool)(h:Dn):jb 7 (a::b::c::d::e::f::g::Y x::h)=Y (.slot 7,a::b::c::d::e::f::g::Y x::h):=rfl
@[simp] theorem YM(a b c d e f g h:Sl)(x:D×Bool)(i:Dn):jb 8 (a::b::c::d::e::f::g::h::Y x::i)=Y (.slot 8,a::b::c::d::e::f::g::h::Y x::i):=rfl
@[simp] theorem AF(δ:Dn)(r:D×Bool):res δ (.val r)=Y r.1:=rfl
@[simp] theorem ZL(x:D×Bool)(a:Dn):res (Y x::a) (.slot 0)=Y x.1:=rfl
@[simp] theorem ZK(a:Sl)(x:D×Bool)(b:Dn):res (a::Y x::b) (.slot 1)=Y x.1:=rfl
@[simp] theorem ZJ(a b:Sl)(x:D×Bool)(c:Dn):res (a::b::Y x::c) (.slot 2)=Y x.1:=rfl
@[simp] theorem ZI(a b c:Sl)(x:D×Bool)(d:Dn):res (a::b::c::Y x::d) (.slot 3)=Y x.1:=rfl
@[simp] theorem ZH(a b c d:Sl)(x:D×Bool)(e:Dn):res (a::b::c::d::Y x::e) (.slot 4)=Y x.1:=rfl
@[simp] theorem ZG(a b c d e:Sl)(x:D×Bool)(f:Dn):res (a::b::c::d::e::Y x::f) (.slot 5)=Y x.1:=rfl
@[simp] theorem ZF(a b c d e f:Sl)(x:D×Bool)(g:Dn):res (a::b::c::d::e::f::Y x::g) (.slot 6)=Y x.1:=rfl
@[simp] theorem ZE(a b c d e f g:Sl)(x:D×Bool)(h:Dn):res (a::b::c::d::e::f::g::Y x::h) (.slot 7)=Y x.1:=rfl
@[simp] theorem ZD(a b c d e f g h:Sl)(x:D×Bool)(i:Dn):res (a::b::c::d::e::f::g::h::Y x::i) (.slot 8)=Y x.1:=rfl
@[simp] theorem ZW(g:D->Option (D×Bool))(a:FO)(b:Dn):ou g a b=(a b).bind λp=>(res p.2 p.1).bind λx=>(g x).bind λz=>Y (z,p.2):=rfl
@[simp] theorem ZV(g:D->D->Option (D×Bool))(a b:FO)(c:Dn):jx g a b c=(a c).bind λp=>(b p.2).bind λq=>(res q.2 p.1).bind λx=>(res q.2 q.1).bind λy=>(g x y).bind λz=>Y (z,q.2):=rfl
@[simp] theorem XC(a:Dn):kT [] a=Y ([],a):=rfl
@[simp] theorem YZ(f:FO)(fs:List FO)(a:Dn):kT (f::fs) a=(f a).bind λp=>(kT fs p.2).bind λq=>Y (p.1::q.1,q.2):=rfl
@[simp] theorem QJ(a:Dn):vJ a []=Y []:=rfl
@[simp] theorem UJ(a:Dn)(o:Bl)(os:List Bl):vJ a (o::os)=(res a o).bind λd=>(vJ a os).bind λl=>Y (d::l):=rfl
@[simp] theorem YY(g:List D->Option (D×Bool))(fs:List FO)(a:Dn):jy g fs a=(kT fs a).bind λp=>(vJ p.2 p.1).bind λb=>(g b).bind λz=>Y (z,p.2):=rfl
@[simp] theorem YL:qN []=Y []:=rfl
@[simp] theorem Zs(r:D×Bool)(os:List Bl):qN (.val r::os)=(qN os).map (r.1:: ·):=rfl
@[simp] theorem ZT(fs:List F)(b:Dn):qV fs b=(kT (fs.map jk) b).bind λp=>(qN p.1).bind λa=>if (A7 a)<=sizeLine then Y ((.tup a,U),p.2) else C:=rfl
@[simp] theorem UL(fs:List F)(b:Dn):sY fs b=(kT (fs.map jk) b).bind λp=>(qN p.1).bind λa=>if (A7 a)<=sizeLine then Y ((.lst a,J),p.2) else C:=rfl
@[simp] theorem aaC(b o:Bool)(a:Dn):LJ ((.bl b,o),a)=Y (b,a):=rfl
@[simp] theorem aaI(f:F)(a:Dn):fT f a=(f a).bind LJ:=rfl
@[simp] theorem Y0(f g:FT)(a:Dn):zF f g a=(f a).bind λp=>if p.1=J then g p.2 else Y (U,p.2):=rfl
@[simp] theorem ZU(f g:FT)(a:Dn):Sn f g a=(f a).bind λp=>if p.1=J then Y (J,p.2) else g p.2:=rfl
@[simp] theorem YX(f:FT)(a:Dn):zE f a=(f a).bind λp=>Y (!p.1,p.2):=rfl
@[simp] theorem ZY(f g:F)(a:Dn):Cc f g a=(f a).bind λp=>(LJ p).bind λq=>if q.1=J then g q.2 else Y ((.bl U,U),q.2):=rfl
@[simp] theorem aaA(f g:F)(a:Dn):fOr f g a=(f a).bind λp=>(LJ p).bind λq=>if q.1=J then Y ((.bl J,U),q.2) else g q.2:=rfl
@[simp] theorem ZX(f:F)(a:Dn):VU f a=(f a).bind λp=>(LJ p).bind λq=>Y ((.bl (!q.1),U),q.2):=rfl
@[simp] theorem Te(t:FT)(f g:F)(δ:Dn):LI t f g δ=(t δ).bind λp=>if p.1=J then f p.2 else g p.2:=rfl
@[simp] theorem Zz(a:Dn):jG a=Y (.nx a):=rfl
noncomputable def nxt(g:FS):Out->Option Out
 | .nx a=>g a
 |o=>Y o
@[simp] theorem ZO(g:FS)(a:Dn):nxt g (.nx a)=g a:=rfl
@[simp] theorem ZN(g:FS)(r:D×Bool)(a:Dn):nxt g (.rt r a)=Y (.rt r a):=rfl
@[simp] theorem Zx(f g:FS)(a:Dn):ji f g a=(f a).bind (nxt g):=by
 unfold ji
 cases f a with
 |none=>rfl
 |some o=>cases o<;>rfl
@[simp] theorem QH(f:F)(δ:Dn):pv f δ=(f δ).bind λp=>Y (.nx p.2):=rfl
@[simp] theorem Zy(f:F)(a:Dn):lZ f a=(f a).bind λp=>Y (.rt p.1 p.2):=rfl
@[simp] theorem aat(t:FT)(f g:FS)(a:Dn):F7 t f g a=(t a).bind λp=>if p.1=J then f p.2 else g p.2:=rfl
@[simp] theorem Zw(i:Nat)(f:F)(a:Dn):lH i f a=(f a).bind λp=>if i<(A7 p.2) then Y (.nx<|p.2.set i<|Y p.1) else C:=rfl
@[simp] theorem Zv(b:Tg)(f:F)(c:Dn):UA b f c=(f c).bind λp=>(b p.1.1 p.2).bind λa=>Y (.nx a):=rfl
@[simp] theorem aaH(g:D->Option (D×Bool))(d:D):g1 g [d]=g d:=rfl
@[simp] theorem aaG(g:D->D->Option (D×Bool))(d e:D):g2 g [d,e]=g d e:=rfl
@[simp] theorem XE(i j:Int):nQ (.int i) (.int j)=Y (.int<|i+j,U):=rfl
@[simp] theorem aas(i j:Int):PX.FZ (.int i) (.int j)=Y (.int<|i-j,U):=rfl
@[simp] theorem aau(i:Int):zR (.int i)=Y (.int (-i),U):=rfl
@[simp] theorem aaD(i:Int):zT (.int i)=Y (.int (if i<0 then -i else i),U):=rfl
@[simp] theorem UK(l:List D):uT (.tup l)=Y (.int<|A7 l,U):=rfl
@[simp] theorem Np(l:List D):uT (.lst l)=Y (.int<|A7 l,U):=rfl
@[simp] theorem Zu(l:List D):oq (.lst l)=Y (.tup l,U):=rfl
@[simp] theorem Zt(l:List D):oq (.tup l)=Y (.tup l,U):=rfl
@[simp] theorem ZP(l:List D):CU (.tup l)=Y (.lst l,J):=rfl
@[simp] theorem ZQ(l:List D):CU (.lst l)=Y (.lst l,J):=rfl
@[simp] theorem ZS(b:Bool):OY (.bl b)=Y (.int (if b then 1 else 0),U):=rfl
@[simp] theorem ZR(b:Int):OY (.int b)=Y (.int b,U):=rfl
@[simp] theorem aay(i j:Int):OX (.int i) (.int j)=Y (.int (if j>i then j else i),U):=rfl
@[simp] theorem aax(i j:Int):JZ (.int i) (.int j)=Y (.int (if j<i then j else i),U):=rfl
@[simp] theorem aaz(a:List Ty)(d:D):wV a d=Y (.bl<|a.any<|Iv d,U):=rfl
@[simp] theorem Tf(i j:Int):I9 (.int i) (.int j)=Y (.bl<|i==j,U):=by unfold I9;rw[jl<|by simp[D.dep]];simp[D.BC]
@[simp] theorem aav(i j:Int):LH (.int i) (.int j)=Y (.bl (!(i==j)),U):=by unfold LH;rw[jl<|by simp[D.dep]];simp[D.BC]
@[simp] theorem aaB(i j:Bool):I9 (.bl i) (.bl j)=Y (.bl<|i==j,U):=by unfold I9;rw[jl<|by simp[D.dep]];simp[D.BC]
@[simp] theorem aaw(i j:Bool):LH (.bl i) (.bl j)=Y (.bl (!(i==j)),U):=by unfold LH;rw[jl<|by simp[D.dep]];simp[D.BC]
@[simp] theorem XB(i j:Int):ud .Lt (.int i) (.int j)=Y (.bl<|decide<|i<j,U):=by simp[ud,nR,lR,D.dep]
@[simp] theorem aaE(i j:Int):ud .LtE (.int i) (.int j)=Y (.bl<|decide<|i<=j,U):=by simp[ud,nR,lR,D.dep]
@[simp] theorem Nq(i j:Int):ud .Gt (.int i) (.int j)=Y (.bl<|decide<|i>j,U):=by simp[ud,nR,lR,D.dep]
@[simp] theorem aaF(i j:Int):ud .GtE (.int i) (.int j)=Y (.bl<|decide<|i>=j,U):=by simp[ud,nR,lR,D.dep]
@[simp] theorem Jv(f:F)(δ:Dn):kP f δ=(f δ).bind λp=>match p.1.1 with| .lst l=>Y (l,p.2)| .tup l=>Y (l,p.2)|_=>C:=rfl
@[simp] theorem ZC(b:EV)(c:Tg)(a:FS)(d:Dn):nh b c a d=(b d).bind λp=>ml c a p.1 p.2:=rfl
@[simp] theorem vp(a:Dn):kx a=Y (J,a):=rfl
@[simp] theorem zV(f:F)(a:List D)(b:Dn):kZ f a b=(f b).bind λp=>if (A7 a)<sizeLine then Y (a++[p.1.1],p.2) else C:=rfl
def Er(h:n<=10000):n<=sizeLine:=by rw[jY];lia
def Ep(h:n<=10000):n<sizeLine:=by rw[jY];lia
noncomputable abbrev enc(t:jh):D×Bool:=(.tup<|t.map .int,U)
noncomputable abbrev ii(n:Int):Sl:=Y (.int n,U)
noncomputable abbrev eN(t:jh):Sl:=Y<|enc t
noncomputable abbrev pI(n:Int):D×Bool:=(.int n,U)
noncomputable abbrev pS(a:Int)(b:Bool):D×Bool:=(.lst [.int a,.bl b],J)
def Lf(i:Nat):([i]:List Nat).Nodup:=by simp
noncomputable abbrev AV(a:Int)(b:Bool):Sl:=Y (.lst [.int a,.bl b],J)
noncomputable abbrev BL(l:jh):Sl:=Y (.lst<|l.map .int,J)
@[simp] theorem YW(b:BP)(fs:List FO)(c:Dn):jI b fs c=(kT fs c).bind λp=>(km p.2 p.1).bind λa=>if(jB p.1 a).Nodup then(b a).bind λq=>Y (q.1,wb p.1 a q.2 p.2) else C:=rfl
@[simp] theorem yZ(a:Dn):km a []=Y []:=rfl
@[simp] theorem XD(b:Dn)(o:Bl)(os:List Bl):km b (o::os)=(zK b o).bind λa=>(km b os).bind λl=>Y (a::l):=rfl
@[simp] theorem Z0(a:Dn)(r:D×Bool):zK a (.val r)=Y (r.1,U):=rfl
@[simp] theorem Z1(a:Dn)(i:Nat):zK a (.slot i)=(a[i]?).join:=rfl
def yW(a:Int)(b:Bool)(m:Int)(c:0<m)(d:m<1073741824):
  ∃v e,0<=v/\v<m/\kE [pS a b,pI m]=Y ((.int v,U),[Y (.lst [.int e,.bl b],J),ii m]):=by
 cases b
 .have h1: ∀x:Int, -18446744073709551616<x%2147483647/\x%2147483647<18446744073709551616:=λx=>by lia
  have f: ∀x:Int, -18446744073709551616<x%2147483629/\x%2147483629<18446744073709551616:=λx=>by lia
  simp only[kE,uV];simp[BM,E9,J4,HY,zS,gI,Pa,uc,OW,qT,pD,jP,jB,wb,LM,Fm,Es,c,d,h1,f];exact⟨G2 _ (by lia),G3 _ c⟩
 .simp only[kE,uV];simp[BM,E9,J4,HY,zS,gI,Pa,uc,OW,qT,pD,jP,jB,wb,LM,Fm,Es,c,d];exact⟨G2 _ (by lia),G3 _ c⟩
theorem yw(x y:Int):(x==y)=decide (x=y):=rfl
def kX{g:List D->Option (D×Bool)}{fs:List FO}{δ a:Dn}{os:List Bl}{ds:List D}{z:D×Bool}(h1:kT fs δ=Y (os,a))(b:vJ a os=Y ds)(c:g ds=Y z):jy g fs δ=Y (z,a):=by unfold jy;rw[h1];simp only[jU];rw[b];simp only[jU];rw[c];rfl
def lK(h1:(A7 args)=np/\np<=n/\(args.zipIdx.all λp=>!(p.1.2&&asg.contains p.2))=J)(a:f (args.map Y++am (n-np) C)=Y (.rt r δ)):BM n np asg f args=Y (r,jP args δ):=by unfold BM;rw[jl h1,a]
def jc(h:f δ=Y (.nx δ1)):ji f g δ=g δ1:=by unfold ji;rw[h];rfl
def kD{r}(h:f δ=Y (.rt r δ1)):ji f g δ=Y (.rt r δ1):=by unfold ji;rw[h];rfl
def mH{r}(h:f δ=Y (r,δ1)):lZ f δ=Y (.rt r δ1):=by unfold lZ;rw[h];rfl
def kJ{r}(h:f δ=Y (r,δ1))(a:i<A7 δ1):lH i f δ=Y (.nx<|δ1.set i<|Y r):=by unfold lH;rw[h];simp only[jU];rw[jl a]
def mq(h:f δ=Y ((.bl b,o),δ1)):fT f δ=Y (b,δ1):=by unfold fT;rw[h];rfl
def jN{r}(h:f δ=Y (r,δ1)):jk f δ=Y (.val r,δ1):=by unfold jk;rw[h];rfl
def kW(h1:a δ=Y (o1,δ1))(c:b δ1=Y (o2,δ2))(d:res δ2 o1=Y x)(e:res δ2 o2=Y y)(f:g x y=Y z):jx g a b δ=Y (z,δ2):=by unfold jx;rw[h1];simp only[jU];rw[c];simp only[jU];rw[d,e];simp only[jU];rw[f];rfl
def mn{b:BP}{fs:List FO}{δ δ1:Dn}{os:List Bl}{args:List (D×Bool)}{r:D×Bool}{a:Dn}(h1:kT fs δ=Y (os,δ1))(c:km δ1 os=Y args)(d:(jB os args).Nodup)(e:b args=Y (r,a)):jI b fs δ=Y (r,wb os args a δ1):=by unfold jI;rw[h1];simp only[jU];rw[c];simp only[jU];rw[jl d,e];rfl
def Gs(h:f δ=Y (b,δ1)):zE f δ=Y (!b,δ1):=by unfold zE;rw[h];rfl
def rE(h:t δ=Y (U,δ1)):F7 t f g δ=g δ1:=by unfold F7;rw[h];rfl
def uN(h:t δ=Y (J,δ1)):F7 t f g δ=f δ1:=by unfold F7;rw[h];rfl
def qW{b c:FO}{δ δ1 a:Dn}{o1 o2:Bl}(h1:b δ=Y (o1,δ1))(d:c δ1=Y (o2,a)):kT [b,c] δ=Y ([o1,o2],a):=by simp only[kT];rw[h1];simp only[jU];rw[d];rfl
def wZ{a:FO}{δ δ1:Dn}{o1:Bl}(h1:a δ=Y (o1,δ1)):kT [a] δ=Y ([o1],δ1):=by simp only[kT];rw[h1];rfl
def lb(h:fi δ=Y (ds,δ1)):nh fi tg fb δ=ml tg fb ds δ1:=by unfold nh;rw[h];rfl
def Bi{os}(h1:b δ=Y (d,δ1))(c:kT fs δ1=Y (os,a)):kT (b::fs) δ=Y (d::os,a):=by simp only[kT];rw[h1];simp only[jU];rw[c];rfl
def Sy(a:jh)(k:Nat): ∃c,mG [(.lst<|a.map .int,U),pI k]=Y ((.int c,U),[Y (.lst<|a.map .int,U),ii k]):=by
 by_cases hk:k<A7 a
 .refine⟨a[k],?_⟩;simp[mG,qe,BM,E9,J4,HY,jP,hk]
 .refine⟨0,?_⟩;simp[mG,qe,BM,jP,hk]
def Tj:OW (.int 10) (.int 18)=ii 1000000000000000000:=by
 have:Fm 10 18:=by unfold Fm;decide+kernel
 show((if Fm 10 18 then Y (D.int (10^(18:Int).toNat)) else C).map λz=>(z,U))=_;rw[jl this];rfl
def adL(d:jh)(k:Nat): ∃a b,nL [(.lst<|d.map .int,U),pI k]=Y ((.lst [.int a,.bl b],J),[Y (.lst<|d.map .int,U),ii k]):=by
 obtain⟨c,e⟩:=Sy d k;by_cases h:c>=1000000000000000000
 .refine⟨c-1000000000000000000,J,?_⟩;simp[nL,sP,BM,e,jB,wb,Tj,h,jY,jP]
 .refine⟨c%2147483647,U,?_⟩;simp[nL,sP,BM,e,jB,wb,Tj,h,jY,jP,zS,gI]
noncomputable def st(n:Nat):List Int:=(au n).map λ(k:Nat)=>(1+(k:Int))
def Uv(n:Nat):(st n).map D.int=jD 1 n:=by simp[st,jD]
noncomputable def qa:Nat->List Int->List Int->List (List Int)
 |0,_,f=>[f]
 |k+1,r,f=>(au<|A7 r).flatMap λv=>qa k (r.eraseIdx v) (f++[r.getD v 0*1])++qa k (r.eraseIdx v) (f++[r.getD v 0* -1])
theorem C0(f:Int->D): ∀(l:jh) (k:Nat),(l.map f).eraseIdx k=(l.eraseIdx k).map f
 |[],k=>by simp
 |x::l,0=>by simp
 |x::l,k+1=>by simp[C0 f l k]
def adA{i:Nat}{f:FO}{a δ1:Dn}{o:Bl}{n l:List D}{k:Int}{j:Nat}{d:D}(b:a[i]?=Y (Y (.lst n,J)))(h1:f a=Y (o,δ1))(c:res δ1 o=Y (.int k))(e:δ1[i]?=Y (Y (.lst l,J)))(g: -(2^63)<=k/\k<2^63)(h:HY (A7 l) k=Y j)(m:l[j]?=Y d):
  Bf i f a=Y ((d,U),δ1.set i<|Y (.lst<|l.eraseIdx j,J)):=by
 unfold Bf;rw[b];simp only[];rw[h1];simp only[jU];rw[c,e];simp only[];rw[jl g,h];simp only[jU];rw[m];rfl
def qg{i:Nat}{f:F}{δ δ1:Dn}{r:D×Bool}{l0 l:List D}(a:δ[i]?=Y (Y (.lst l0,J)))(h1:f δ=Y (r,δ1))(b:δ1[i]?=Y (Y (.lst l,J)))(c:(A7 l)<sizeLine):
  nr i f δ=Y ((.Ax,U),δ1.set i<|Y (.lst<|l++[r.1],J)):=by
 unfold nr;rw[a];simp only[];rw[h1];simp only[jU];rw[b];simp only[];rw[jl c]
def pX{r}(h:f δ=Y (r,δ1)):pv f δ=Y (.nx δ1):=by unfold pv;rw[h];rfl
noncomputable abbrev MR:F:=WN
abbrev Yx:F:=WX
abbrev fbT:FS:=ji (pv<|nr 3<|jx uc (jk MR)<|jk Yx) jG
def U3(a:Int)(b:Bool)(n:Sl)(r f:jh)(x:Sl)(i:0<A7 r)(l:(A7 r)<=5): ∃v c,v<A7 r/\MR [AV a b,n,BL r,BL f,x]=Y ((.int<|r.getD v 0,U),[AV c b,n,BL<|r.eraseIdx v,BL f,x]):=by
 obtain⟨v,c,d,hv,e⟩:=yW a b (A7 r) (by lia) (by lia);have g:v.toNat<(A7 r):=by lia
 refine⟨v.toNat,c,g,?_⟩;have h:(BL (r.eraseIdx v.toNat):Sl)=Y (.lst<|(r.map D.int).eraseIdx v.toNat,J):=by rw[C0]
 rw[h];refine adA (k:=v) (δ1:=[AV c b,n,BL r,BL f,x]) H (jN (r:=(.int v,U))<|mn (δ1:=[AV a b,n,BL r,BL f,x]) (os:=[.slot 0,.val (.int<|A7 r,U)]) (args:=[pS a b,pI<|A7 r]) ?_ H (show([0]:List Nat).Nodup from by decide) e) H H ⟨by lia,by lia⟩ (j:=v.toNat) ?_ ?_
 .show Y ([Bl.slot 0,Bl.val (D.int ((r.map D.int).length:Nat),U)],_)=_;rw[kn]
 .unfold HY;rw[jl d,jl<|by simpa using hv]
 .simp[g]
def Uy(a:Int)(b:Bool)(n y z x:Sl): ∃s c,(s=1\/s= -1)/\Yx [AV a b,n,y,z,x]=Y ((.int s,U),[AV c b,n,y,z,x]):=by obtain⟨v,c,f,hv,e⟩:=yW a b 2 (by lia) (by lia);have d: ∀δ:Dn,sY [fC<|.int 1,Qg] δ=Y ((.lst [.int 1,.int (-1)],J),δ):=λδ=>rfl;refine⟨if v=0 then 1 else -1,c,by split<;>simp,?_⟩;refine kW (δ1:=[AV a b,n,y,z,x]) (jN<|d _) (jN (δ1:=[AV c b,n,y,z,x])<|mn (δ1:=[AV a b,n,y,z,x]) (os:=[.slot 0,.val (.int 2,U)]) (args:=[pS a b,pI 2]) H H (show([0]:List Nat).Nodup from by decide) e) H H ?_;rcases(show v=0\/v=1 by lia) with rfl|rfl<;>rfl
def VM(a:Int)(b:Bool)(n:Sl)(r f:jh)(x:Sl)(j:0<A7 r)(k:(A7 r)<=5)(m:(A7 f)<=5): ∃v s c,v<A7 r/\(s=1\/s= -1)/\fbT [AV a b,n,BL r,BL f,x]=Y (.nx [AV c b,n,BL<|r.eraseIdx v,BL<|f++[r.getD v 0*s],x]):=by
 obtain⟨v,a1,hv,e⟩:=U3 a b n r f x j k;obtain⟨s,d,q,g⟩:=Uy a1 b n (BL<|r.eraseIdx v) (BL f) x;refine⟨v,s,d,hv,q,?_⟩
 have p:uc (.int<|r.getD v 0) (.int s)=ii (r.getD v 0*s):=by have:Es (r.getD v 0) s:= .inr (by lia);show((if Es (r.getD v 0) s then Y (D.int<|r.getD v 0*s) else C).map λz=>(z,U))=_;rw[jl this];rfl
 have o:(f.map D.int).length<sizeLine:=by rw[kn];exact GN m (by decide)
 have h:=qg (i:=3) (δ:=[AV a b,n,BL r,BL f,x]) (l0:=f.map .int) H (kW (jN e) (jN g) H H p) (l:=f.map .int) H o;refine(jc<|pX h).trans ?_;simp[jG,BL]
def Yk(b:Bool)(n:Sl): ∀(c:List D) (a:Int) (r f:jh) (x:Sl),A7 c=A7 r->A7 f+A7 r<=5->
  ∃g t i j,t∈qa (A7 c) r f/\ml (ja 4) fbT c [AV a b,n,BL r,BL f,x]=Y (.nx [AV g b,n,BL i,BL t,j]):=by
 intro p
 induction p with
 |nil=>intro a r f x _ _;exact⟨a,f,r,x,by simp[qa],rfl⟩
 |cons d c o=>
  intro a r f x h q;simp only[lg] at h;obtain⟨v,s,a1,hv,m,e⟩:=VM a b n r f (Y (d,U)) (by lia) (by lia) (by lia);obtain⟨g,t,i,j,k,l⟩:=o a1 (r.eraseIdx v) (f++[r.getD v 0*s]) (Y (d,U)) (by rw[Dw,jl hv];lia) (by rw[Dw,jl hv,nB];simp only[lg,rk];lia);refine⟨g,t,i,j,?_,?_⟩
  .simp only[lg,qa,xm,tM,xi];refine⟨v,hv,?_⟩;rcases m with rfl|rfl
   .exact .inl k
   .exact .inr k
  .unfold ml;rw[show ja 4 d [AV a b,n,BL r,BL f,x]=Y [AV a b,n,BL r,BL f,Y (d,U)] from H];simp only[jU];rw[e];simp only[jU];exact l
def Nd(n:Nat)(b:n<=5):LA .lst J [.int 1,.int<|(n:Int)+1]=Y (.lst<|(st n).map .int,J):=by
 have:n=0\/n=1\/n=2\/n=3\/n=4\/n=5:=by lia
 have h1:Fb 1 ((n:Int)+1):=by rcases this with rfl|rfl|rfl|rfl|rfl|rfl<;>decide+kernel
 have a:((n:Int)+1-1).toNat=n:=by lia
 show(if Fb 1 ((n:Int)+1) then Y (D.lst<|jD 1 ((n:Int)+1-1).toNat,J) else C)=_;rw[jl h1,a,<-Uv]
def qF{f:FO}{δ δ1:Dn}{o:Bl}{n:Nat}(h1:f δ=Y (o,δ1))(a:res δ1 o=Y (.int n))(e:n<=63):yc f δ=Y (jD 0 n,δ1):=by
 have d:(-(2^62)<=(n:Int)/\(n:Int)<2^62):=⟨by lia,by lia⟩
 have b:kT [f] δ=Y ([o],δ1):=by simp[kT,h1]
 have c:vJ δ1 [o]=Y [.int n]:=by simp[vJ,a]
 unfold yc;rw[b];simp only[jU];rw[c];simp only[];rw[jl d];rfl
def abZ(a:Int)(b:Bool)(n:Nat)(f:n<=5): ∃d t,t∈qa n (st n) []/\nK [pS a b,pI n]=Y (enc t,[AV d b,ii n]):=by
 have c:(jD 0 n).length=n:=by simp[jD]
 have h:(st n).length=n:=by simp[st]
 obtain⟨d,t,j,k,g,e⟩:=Yk b (ii n) (jD 0 n) a (st n) [] C (by rw[c,h]) (by rw[h];simpa using f);rw[c] at g;refine⟨d,t,g,?_⟩;refine lK (δ:=[AV d b,ii n,BL j,BL t,k]) ⟨rfl,by decide,rfl⟩ ?_;refine(jc (δ1:=[AV a b,ii n,BL<|st n,C,C])<|kJ (i:=2) (δ1:=[AV a b,ii n,C,C,C]) (kX (os:=[.val (.int 1,U),.val (.int<|(n:Int)+1,U)]) H H<|Nd n f) (show 2<5 by decide)).trans ?_;refine(jc (δ1:=[AV a b,ii n,BL<|st n,BL [],C]) H).trans ?_;refine(jc<|(lb<|qF (o:= .slot 1) H H<|by lia).trans e).trans ?_;exact kD<|mH<|kX (os:=[.slot 3]) H H H
def ac2: ∀(k:Nat) (r f t:jh),A7 r=k->t∈qa k r f->A7 t=A7 f+k:=by
 intro c
 induction c with
 |zero=>intro r f t _ h;simp[qa] at h;subst h;simp
 |succ k b=>
  intro r f t d h;simp only[qa,xm,tM,xi] at h;obtain⟨v,hv,h⟩:=h;have a:(r.eraseIdx v).length=k:=by rw[Dw,jl hv];lia
  rcases h with h|h
  .have:=b _ _ t a h;simp at this;lia
  .have:=b _ _ t a h;simp at this;lia
def adU{n:Nat}{t:jh}(h:t∈qa n (st n) []):(A7 t)=n:=by have:=ac2 n (st n) [] t (by simp[st]) h;simpa using this
def yn: ∀t:List Int,D.BJ (t.map .int)=0:=by
 intro b
 induction b with
 |nil=>simp[D.BJ]
 |cons s t a=>simp[D.BJ,D.dep,a]
theorem Bj: ∀a b:List Int,D.Cf (a.map .int) (b.map .int)=decide (a=b)
 |[],[]=>by simp[D.Cf]
 |[],_::_=>by simp[D.Cf]
 |_::_,[]=>by simp[D.Cf]
 |x::a,y::b=>by simp[D.Cf,D.BC,Bj a b,r9,yw]
@[simp] theorem CV(a b:jh):I9 (.lst<|a.map .int) (.lst<|b.map .int)=Y (.bl<|decide<|a=b,U):=by unfold I9;rw[jl<|by simp[D.dep,yn]];simp[D.BC,Bj]
def EG: ∀(l m:jh),l.Nodup->(∀x∈l,x∈m)->A7 m<=A7 l->l.Perm m:=by
 intro k
 induction k with
 |nil=>intro m _ _ h;have:m=[]:=SU.mp (by simpa using h);subst this;exact wk _
 |cons x l j=>
  intro m a c h;rw[yT] at a;have i:=c x jW;have b:=LU i;refine((j (m.erase x) a.2 (λy d=>?_) ?_).cons x).trans b.symm
  .have g:=c y<|jZ _ d;have f:y≠x:=λe=>a.1<|e▸d;exact(G1 f).mpr g
  .have:=b.length_eq;simp only[lg] at this h
   lia
def P0:x∈st n↔1<=x/\x<=n:=by
 simp only[st,nC,xi];constructor
 .rintro⟨k,h,rfl⟩;lia
 .rintro⟨h1,a⟩;exact⟨(x-1).toNat,by lia,by lia⟩
def Xt(n:Nat):(st n).Pairwise (· < ·):=by simp only[st];rw[ue];exact Wl.imp λh=>by lia
def Ta(n:Nat):(st n).Nodup:=(Xt n).imp λh=>by lia
def Jz{n:Nat}{l:jh}:l.Perm (st n)↔(A7 l)=n/\(∀x∈l,1<=x/\x<=n)/\l.Nodup:=by
 constructor
 .intro h;refine⟨by rw[h.length_eq];simp[st],λx a=>P0.mp<|h.mem_iff.mp a,h.symm.nodup<|Ta n⟩
 .rintro⟨h1,b,c⟩;exact EG l (st n) c (λx a=>P0.mpr<|b x a) (by simp[st,h1])
def yd{l:jh}{m:List D}(h:m.Perm (l.map D.int)): ∃k:List Int,m=k.map .int:=by
 refine⟨m.map λd=>match d with|D.int i=>i|_=>0,?_⟩;rw[kM]
 symm
 rw[qr (g:=id),uy];intro d hd;obtain⟨i,_,rfl⟩:=nC.mp<|h.mem_iff.mp hd;rfl
def abN(l:jh):oO (l.map .int)=J:=by
 unfold oO
 cases l with
 |nil=>rfl
 |cons x l=>rw[yI];right;simp only[kc];simp[lX,D.pr,D.dep,nR]
def adb: ∀l:List Int,(∀k,(nZ<|l.reverse.map .int).1 k=decide (k∈l.reverse))/\(nZ<|l.reverse.map .int).2<=A7 l/\((nZ<|l.reverse.map .int).2=(A7 l)↔l.Nodup):=by
 intro e
 induction e with
 |nil=>exact⟨λk=>by simp[nZ],by simp[nZ],by simp[nZ]⟩
 |cons x l d=>
  obtain⟨h1,f,c⟩:=d;rw[List.reverse_cons,oX,kc,pL,Cv];refine⟨λk=>?_,?_,?_⟩
  .dsimp only;rw[h1 k];by_cases a:k∈l.reverse<;>by_cases b:k=x<;>simp_all
  .dsimp only;rw[lg];split<;>lia
  .dsimp only;rw[h1 x,yT];by_cases a:x∈l
   .simp only[ee,a,decide_true,kO,not_true_eq_false,false_and,iff_false,lg];lia
   .simp only[ee,a,decide_false,ke,kB,not_false_eq_true,true_and,lg];rw[<-c];lia
def Qx(l:jh):(nZ<|l.map .int).2=(A7 l)↔l.Nodup:=by have:=(adb l.reverse).2.2;rw[List.reverse_reverse,Ml,Aj l |>.nodup_iff] at this;exact this
def Ej(pre:Dn)(x:Sl)(d:D):ja (A7 pre) d (pre++[x])=Y (pre++[Y (d,U)]):=by unfold ja;rw[jl<|by simp];simp[rs]
def Bu(f:F)(g:D->D)(pre:Dn): ∀(l a:List D) (x:Sl),(∀d∈l,∃o,f (pre++[Y (d,U)])=Y ((g d,o),pre++[Y (d,U)]))->A7 a+A7 l<=sizeLine->
  ∃b,kY (ja<|A7 pre) kx (kZ f) l a (pre++[x])=Y (a++l.map g,pre++[b]):=by
 intro n
 induction n with
 |nil=>intro a x _ _;exact⟨x,by simp[kY]⟩
 |cons d l m=>
  intro a x h c;obtain⟨o,hd⟩:=h d jW;obtain⟨b,e⟩:=m (a++[g d]) (Y (d,U)) (λi j=>h i<|jZ _ j) (by simp at c ⊢;lia);refine⟨b,?_⟩;have k:(A7 a)<sizeLine:=by simp at c;lia
  rw[kY,Ej];simp only[jU,vp,kO,zV];rw[hd];simp only[jU];rw[jl k];simp only[jU];rw[e];simp
def V7(f:F)(g:D->Int)(pre:Dn): ∀(l a:List D) (x:Sl),(∀d∈l,∃o,f (pre++[Y (d,U)])=Y ((.int<|g d,o),pre++[Y (d,U)]))->A7 a+A7 l<=1000->
  ∃b,kY (ja<|A7 pre) kx (Bx f) l a (pre++[x])=Y (a++l.map λd=> .int (g d),pre++[b]):=by
 intro n
 induction n with
 |nil=>intro a x _ _;exact⟨x,by simp[kY]⟩
 |cons d l m=>
  intro a x h c;obtain⟨o,hd⟩:=h d jW;obtain⟨b,e⟩:=m (a++[.int<|g d]) (Y (d,U)) (λi j=>h i<|jZ _ j) (by simp at c ⊢;lia);refine⟨b,?_⟩;have p:i7=4096:=rfl;have k:(A7 a)+1<scanBound:=by simp at c;lia
  rw[kY,Ej];simp only[jU,vp,kO,Bx];rw[hd];simp only[jU];rw[jl k];simp only[jU];rw[e];simp
def adj(p:D->Bool): ∀l:List D,yv (l.map λd=> .bl (p d))=Y (l.map p):=by
 intro b
 induction b with
 |nil=>exact H
 |cons d l a=>simp[yv,a]
def BG(p:D->Bool)(l:List D):ID (.lst<|l.map λd=> .bl (p d))=Y (.bl<|l.all p,U):=by simp[ID,adj,g0,yL]
noncomputable def ab(s:Int):Int:=if s<0 then -s else s
noncomputable def wh:D->Bool
 | .int _=>J
 |_=>U
noncomputable def sg(n:Int):D->Bool
 | .int s=>decide (1<=ab s)&&decide (ab s<=n)
 |_=>U
noncomputable def F6:D->Int
 | .int s=>s
 |_=>0
def xq(d:D):oJ [(d,U)]=Y ((.bl<|wh d,U),[Y (d,U)]):=by
 cases d<;>simp[oJ,zD,BM,jP,wh,Iv]
def acH(d:D)(lo a:Int):nN [(d,U),(.int lo,U),(.int a,U)]=Y ((.bl (match d with| .int s=>decide (lo<=s)&&decide (s<=a)|_=>U),U),[Y (d,U),Y (.int lo,U),Y (.int a,U)]):=by
 cases d with
 |int s=>by_cases h:lo<=s<;>simp[nN,sU,BM,jP,xq,wh,jB,wb,Bh,lR,h]
 |_=>simp[nN,sU,BM,jP,xq,wh,jB,wb]
def JH(d:D)(n:Int):tf [(.int n,U),(d,U)]=Y ((.bl (match d with| .int s=>decide (1<=s)&&decide (s<=n)|_=>U),U),[Y (.int n,U),Y (d,U)]):=by simp[tf,A9,BM,jP,acH,jB,wb]
def Qu(n:Int)(d:D):oz [pI n,(d,U)]=Y ((.bl<|sg n d,U),[ii n,Y (d,U)]):=by
 cases d with
 |int s=>simp[oz,wX,BM,jP,xq,JH,wh,jB,wb,sg,ab];rfl
 |_=>simp[oz,wX,BM,jP,xq,JH,wh,jB,wb,sg,ab]
def HQ(h:sg n d=J):d= .int (F6 d):=by cases d<;>simp_all [sg,F6]
def Um(h:wh d=J):d= .int (F6 d):=by cases d<;>simp_all [wh,F6]
noncomputable def tB(n:Nat):D->Bool
 | .tup l=>decide (A7 l=n)&&(l.all (sg n)&&decide ((l.map λd=>ab<|F6 d).Nodup))
 |_=>U
noncomputable def lB(n:Nat):D->Bool
 | .tup l=>l.all wh&&decide ((l.map λd=>ab<|F6 d).Perm<|st n)
 |_=>U
def Xr(n:Nat)(d:D):tB n d=lB n d:=by
 cases d with
 |tup l=>
  rw[tB,lB,r8];simp only[mP,sd,mZ,Jz,kn,nC];constructor
  .rintro⟨h1,a,b⟩;refine⟨λd hd=>?_,h1,?_,b⟩
   .rw[HQ<|a d hd];rfl
   .rintro x ⟨d,hd,rfl⟩;have:=a d hd;rw[HQ this] at this;simpa[sg] using this
  .rintro⟨h1,a,b,c⟩;refine⟨a,λd hd=>?_,c⟩;have:=b _ ⟨d,hd,rfl⟩;rw[Um<|h1 d hd];simpa[sg] using this
 |_=>rfl
def aaU(n:Nat)(d:D)(hd: ∀l,d= .tup l->A7 l<=60):lN [pI n,(d,U)]=Y ((.bl<|tB n d,U),[ii n,Y (d,U)]):=by
 cases d with
 |tup l=>
  have i:=hd l H;by_cases h1:(A7 l)=n
  .obtain⟨x1,b⟩:=Bu (jI oz [jb 0,jb 1]) (λd=> .bl (sg n d)) [ii n] l [] C (λd _=>⟨U,by simp[Qu,jB,wb]⟩) (by rw[jY];simp;lia);simp only[yA,tD,lg,rk,wx] at b;by_cases a:l.all (sg n)=J
   .have h: ∀d∈l,∃o,jy (g1 zT) [jb 0] ([]++[Y (d,U)])=Y ((.int<|ab<|F6 d,o),([]++[Y (d,U)]:Dn)):=λd hd=>⟨U,by rw[mZ] at a;rw[HQ<|a d hd];rfl⟩
    obtain⟨x2,c⟩:=V7 (jy (g1 zT) [jb 0]) (λd=>ab<|F6 d) [] l [] C h (by simp;lia);simp only[yA,tD,lg,rk] at c
    have e:(nZ<|l.map λd=>D.int<|ab<|F6 d).2=(A7 l)↔(l.map λd=>ab<|F6 d).Nodup:=by have:=Qx<|l.map λd=>ab<|F6 d;rw[kM,kn] at this;exact this
    have g:(((nZ<|l.map λd=>D.int<|ab<|F6 d).2:Int)==(n:Int))=decide ((l.map λd=>ab<|F6 d).Nodup):=by
     rw[yw,<-h1];by_cases q:(l.map λd=>ab<|F6 d).Nodup
     .rw[pe q,e.mpr q];simp
     .rw[mD q];simp only[decide_eq_false_iff_not,Int.natCast_inj];exact λz=>q<|e.mp z
    simp[lN,nk,BM,Iv,h1,ki,vE,lu,b,c,BG,a,jP,jB,wb,tB,g]
   .have f:l.all (sg n)=U:=by simpa using a
    simp[lN,nk,BM,Iv,h1,ki,vE,lu,b,BG,f,jP,jB,wb,tB]
  .have: ¬(((A7 l):Int)=(n:Int)):=by lia
   simp[lN,nk,BM,Iv,this,h1,jP,jB,wb,tB]
 |_=>simp[lN,nk,BM,Iv,jP,tB]
def OkD(d:D):Prop:= ∀l,d= .tup l->A7 l<=60
def Nn{t:jh}{v:Int}(a:0<=v)(h:v<A7 t):E9 (.tup<|t.map .int) (.int v)=ii (t.getD v.toNat 0):=by
 have h1:v.toNat<(A7 t):=by lia
 simp[E9,J4,HY,a,h,h1]
def Ya{t:jh}{v:Int}(a:0<=v)(h:v<A7 t):E9 (.lst<|t.map .int) (.int v)=ii (t.getD v.toNat 0):=by
 have h1:v.toNat<(A7 t):=by lia
 simp[E9,J4,HY,a,h,h1]
def pA(a:Int)(b:Bool)(m:Int)(j:0<m)(f:m<1073741824): ∃v c,0<=v/\v<m/\ ∀(d:FO) (δ:Dn) (o:Bl),d (AV a b::δ)=Y (o,AV a b::δ)->zK (AV a b::δ) o=ii m->jI kE [jb 0,d] (AV a b::δ)=Y ((.int v,U),AV c b::δ):=by
 obtain⟨v,c,g,h1,e⟩:=yW a b m j f;refine⟨v,c,g,h1,λd δ o h i=>?_⟩;refine(mn (os:=[.slot 0,o]) (args:=[pS a b,pI m]) (qW H h) ?_ ?_ e).trans ?_
 .simp[i]
 .cases o<;>simp[jB]
 .cases o<;>simp[wb]
noncomputable def led(u:jh)(s:Int):Int:=if 0<s then u.getD (s-1).toNat 0 else -(u.getD (-s-1).toNat 0)
def Vw(u:jh)(s:Int)(a:s≠0)(h1: -((A7 u):Int)<=s)(b:s<=A7 u):
  oH [enc u,pI s]=Y ((.int<|led u s,U),[eN u,ii s]):=by
 simp only[oH,zC];by_cases h:0<s
 .have:=Nn (t:=u) (v:=s-1) (by lia) (by lia);simp only[BM];simp[h,led,this,jP]
 .have:=Nn (t:=u) (v:= -s-1) (by lia) (by lia);simp only[BM];simp[h,led,this,jP]
def Z8(x:Int):uc (.int x) (.int 1)=ii x:=by have:Es x 1:= .inr (by lia);show((if Es x 1 then Y (D.int<|x*1) else C).map λz=>(z,U))=_;rw[jl this,Hy];rfl
def Z7(x:Int):uc (.int x) (.int (-1))=ii (-x):=by have:Es x (-1):= .inr (by lia);show((if Es x (-1) then Y (D.int<|x*(-1)) else C).map λz=>(z,U))=_;rw[jl this,Int.mul_neg,Hy];rfl
def BV(n:Nat)(c:jh):Prop:=c≠[]/\(c.map ab).Pairwise (· < ·)/\ ∀s∈c,1<=ab s/\ab s<=n
def CA(j:Int)(c:jh):Prop:=(c.map ab).Pairwise (· < ·)/\ ∀s∈c,1<=ab s/\ab s<j
def tx(h:0<=i):ab i=i:=by unfold ab;rw[jv<|by lia]
def Fh(h:0<=i):ab (-i)=i:=by unfold ab;split<;>lia
def CA.snoc{j s:Int}{c:jh}(h:CA j c)(h1:ab s=j)(e:1<=j):CA (j+1) (c++[s]):=by
 refine⟨?_,λx a=>?_⟩
 .rw[oX,vd];refine⟨h.1,by simp,λx a y b=>?_⟩;obtain⟨z,d,rfl⟩:=nC.mp a;simp at b;subst b;have:=h.2 z d;lia
 .rcases tM.mp a with a|a
  .have:=h.2 x a;lia
  .simp at a;subst a;lia
def CA.up(h:CA j c):CA (j+1) c:=⟨h.1,λx a=>by have:=h.2 x a;lia⟩
abbrev fbC:FS:=zC3
def xa{i:Nat}{f:F}{δ δ1:Dn}{r:D×Bool}{l0 l:List D}(a:δ[i]?=Y (Y (.lst l0,J)))(h1:f δ=Y (r,δ1))(b:δ1[i]?=Y (Y (.lst l,J)))(c:(A7 l)<=10000):
  ji (pv<|nr i f) jG δ=Y (.nx<|δ1.set i<|Y (.lst<|l++[r.1],J)):=
 (jc<|pX<|qg a h1 b<|Ep c).trans rfl
def VS(a:Int)(b:Bool)(n w:Int)(p:0<w)(s:w<100)(j:Int)(o:1<=j)(c:jh)(m:CA j c)(t:(A7 c)<=10)(x:Sl): ∃d f q,CA (j+1) f/\(A7 f)<=A7 c+1/\fbC [AV a b,ii n,ii w,BL c,ii j,x]=Y (.nx [AV d b,ii n,ii w,BL f,ii j,q]):=by
 obtain⟨v,d,u,y,e⟩:=pA a b w p (by lia)
 have s1: ∀g,ji Ww g [AV a b,ii n,ii w,BL c,ii j,x]=g [AV d b,ii n,ii w,BL c,ii j,ii v]:=λg=>jc<|kJ (i:=5) (δ1:=[AV d b,ii n,ii w,BL c,ii j,x]) (e _ [ii n,ii w,BL c,ii j,x] (.slot 2) rfl rfl) (show 5<6 by decide)
 by_cases h:v<2
 .have k:E9 (.lst [.int j,.int (-j)]) (.int v)=ii (if v=0 then j else -j):=by rcases(show v=0\/v=1 by lia) with rfl|rfl<;>rfl
  refine⟨d,c++[if v=0 then j else -j],ii v,m.snoc (by split;exact tx (by lia);exact Fh<|by lia) o,by simp,?_⟩;refine(s1 _).trans ((jc<|(uN (δ1:=[AV d b,ii n,ii w,BL c,ii j,ii v])<|by simp[h]).trans<|xa (δ1:=[AV d b,ii n,ii w,BL c,ii j,ii v]) (r:=(.int (if v=0 then j else -j),U)) (l0:=c.map .int) (l:=c.map .int) H (by simp[lu,jY,k]) H<|by simp;lia).trans ?_);simp[BL]
 .refine⟨d,c,ii v,m.up,by lia,?_⟩;exact(s1 _).trans ((jc<|(rE<|by simp[h]).trans H).trans H)
def aal(b:Bool)(n w:Int)(t:0<w)(l:w<100): ∀(m:Nat) (j:Nat) (a:Int) (c:jh) (x4 x5:Sl),1<=j->CA j c->A7 c+m<=10-> ∃e d g h,CA (j+m:Nat) d/\(A7 d)<=10/\ml (ja 4) fbC ((bw j m).map λ(k:Nat)=>D.int (k:Int)) [AV a b,ii n,ii w,BL c,x4,x5]=Y (.nx [AV e b,ii n,ii w,BL d,g,h]):=by
 intro v
 induction v with
 |zero=>intro j a c x4 x5 r f s;exact⟨a,c,x4,x5,by simpa using f,by lia,rfl⟩
 |succ m u=>intro j a c x4 x5 r f s;obtain⟨a1,i,x1,h1,y,o⟩:=VS a b n w t l j (by lia) c f (by lia) x5;obtain⟨e,d,g,h,q,x,p⟩:=u (j+1) a1 i (ii j) x1 (by lia) (by simpa using h1) (by lia);refine⟨e,d,g,h,by rw[show j+(m+1)=j+1+m by lia];exact q,x,?_⟩;rw[wu,kc];unfold ml;rw[show ja 4 (.int (j:Int)) [AV a b,ii n,ii w,BL c,x4,x5]=Y [AV a b,ii n,ii w,BL c,ii j,x5] from H];simp only[jU];rw[o];simp only[jU];exact p
def JW(h1:f δ=Y (o1,δ1))(a:g δ1=Y (o2,δ2))(b:res δ2 o1=Y (.int i))(c:res δ2 o2=Y (.int j))(d:0<=i/\i<=1000)(e:0<=j/\j<=1000):A0 f g δ=Y (jD i (j-i).toNat,δ2):=by unfold A0;rw[qW h1 a];simp only[jU,UJ,QJ,b,c];rw[jl ⟨by lia,by lia,by lia,by lia⟩]
def adJ(a:Int)(b:Bool)(n:Nat)(h1:1<=n)(J:n<=5): ∃A c,BV n c/\oF [pS a b,pI n]=Y (enc c,[AV A b,ii n]):=by
 obtain⟨v,a1,T,G,B⟩:=pA a b 3 (by lia) (by lia)
 let f:List Int:=[3,4,6]
 let w:=f.getD v.toNat 0
 have y:0<w/\w<100:=by rcases(show v=0\/v=1\/v=2 by lia) with rfl|rfl|rfl<;>decide
 obtain⟨d,c,x4,x5,t,M,C⟩:=aal b n w y.1 y.2 n 1 a1 [] X0 X0 (by lia) ⟨by simp,by simp⟩ (by simp;lia)
 have Q:A0 nD Qk [AV a1 b,ii n,ii w,BL [],X0,X0]=Y ((bw 1 n).map λ(k:Nat)=>D.int (k:Int),[AV a1 b,ii n,ii w,BL [],X0,X0]):=by
  rw[JW (o1:= .val (.int 1,ZB)) (o2:= .val (.int<|(n:Int)+1,ZB)) (i:=1) (j:=(n:Int)+1) AM AM AM AM (by lia)<|by lia];rw[show((n:Int)+1-1).toNat=n by lia]
  congr 2
  unfold jD;rw[LR,kM];apply qr;intro k _;simp
 have pre: ∀g,(ji WY<|ji HE<|ji (nh (A0 nD Qk) (ja 4) fbC) g) [AV a b,ii n,X0,X0,X0,X0]=g [AV d b,ii n,ii w,BL c,x4,x5]:=by
  intro g;refine(jc (δ1:=[AV a1 b,ii n,ii w,X0,X0,X0]) ?_).trans ?_
  .refine kJ (i:=2) (δ1:=[AV a1 b,ii n,X0,X0,X0,X0]) (kW (o1:= .val (.lst<|f.map .int,YP)) (o2:= .val (.int v,ZB)) (jN (δ1:=[AV a b,ii n,X0,X0,X0,X0])<|by simp[f,jY]) (jN<|B _ [ii n,X0,X0,X0,X0] _ rfl rfl) AM AM<|Ya T<|by simpa[f] using G) (show 2<6 by decide)
  refine(jc (δ1:=[AV a1 b,ii n,ii w,BL [],X0,X0])<|by simp[BL,jY]).trans ?_;exact jc<|(lb Q).trans C
 by_cases m:c=[]
 .subst m;obtain⟨s,p,s0,s1,E⟩:=pA d b 2 (by lia) (by lia);obtain⟨i,h,N,U,H⟩:=pA p b n (by lia) (by lia);refine⟨h,[if s=0 then 1+i else -(1+i)],?_,?_⟩
  .refine⟨by simp,by simp,λx z=>?_⟩;simp at z;subst z;split
   .rw[tx<|by lia];lia
   .rw[show -(1+i)= -(1+i) from AM,Fh<|by lia];lia
  .refine lK (δ:=[AV h b,ii n,ii w,BL [if s=0 then 1+i else -(1+i)],x4,x5]) ⟨rfl,by decide,rfl⟩ ((pre _).trans ?_)
   have I: ∀q,E9 (.lst [.int 1,.int (-1)]) (.int s)=Y q->uc q.1 (.int (1+i))=ii (if s=0 then 1+i else -(1+i)):=by
    intro q u;have L:Es 1 (1+i):=by unfold Es;lia
    have O:Es (-1) (1+i):=by unfold Es;lia
    rcases(show s=0\/s=1 by lia) with rfl|rfl
    .cases u;simp[uc,gI,L]
    .cases u;simp[uc,gI,O]
   have e:E9 (.lst [.int 1,.int (-1)]) (.int s)=ii (if s=0 then 1 else -1):=by rcases(show s=0\/s=1 by lia) with rfl|rfl<;>rfl
   refine(jc<|(uN (δ1:=[AV d b,ii n,ii w,BL [],x4,x5])<|mq<|kW (o1:= .slot 3) (o2:= .val (.lst [],YP)) (δ2:=[AV d b,ii n,ii w,BL [],x4,x5]) AM (jN<|by simp[jY]) AM AM<|CV [] []).trans<|xa (r:=(.int (if s=0 then 1+i else -(1+i)),ZB)) (δ1:=[AV h b,ii n,ii w,BL [],x4,x5]) (l0:=[]) (l:=[]) AM ?_ AM<|by simp).trans ?_
   .refine kW (δ1:=[AV p b,ii n,ii w,BL [],x4,x5]) (jN<|kW (δ1:=[AV d b,ii n,ii w,BL [],x4,x5]) (o1:= .val (.lst [.int 1,.int (-1)],YP)) (jN<|by simp[jY]) (jN<|E _ _ _ rfl rfl) AM AM e) (jN<|kW (o1:= .val (.int 1,ZB)) AM (jN<|H _ _ (.slot 1) rfl rfl) AM AM AM) AM AM (I _ e)
   .exact kD (mH<|kX (os:=[.slot 3]) AM AM AM)
 .refine⟨d,c,⟨m,t.1,λs e=>by have:=t.2 s e;lia⟩,?_⟩;refine lK (δ:=[AV d b,ii n,ii w,BL c,x4,x5]) ⟨rfl,by decide,rfl⟩<|(pre _).trans ?_;refine(jc<|(rE (δ1:=[AV d b,ii n,ii w,BL c,x4,x5])<|mq (o:=ZB)<|kW (o1:= .slot 3) (o2:= .val (.lst [],YP)) (δ2:=[AV d b,ii n,ii w,BL c,x4,x5]) AM (jN<|by simp[jY]) AM AM<|(CV c []).trans<|by rw[mD m]).trans AM).trans ?_;exact kD<|mH<|kX (os:=[.slot 3]) AM AM AM
noncomputable def KP(n:Nat):List Int:=(au n).map λ(k:Nat)=>(-(n:Int)+(k:Int))
def UD(n:Nat)(b:n<=5):LA .lst J [.int (-(n:Int)),.int 0]=Y (.lst<|(KP n).map .int,J):=by
 have:n=0\/n=1\/n=2\/n=3\/n=4\/n=5:=by lia
 have h1:Fb (-(n:Int)) 0:=by rcases this with rfl|rfl|rfl|rfl|rfl|rfl<;>decide+kernel
 have a:(0- -(n:Int)).toNat=n:=by lia
 show(if Fb (-(n:Int)) 0 then Y (D.lst<|jD (-(n:Int)) (0- -(n:Int)).toNat,J) else C)=_;rw[jl h1,a];simp[KP,jD]
def mK(h:f δ=Y ((.lst l,o),δ1)):kP f δ=Y (l,δ1):=by unfold kP;rw[h];rfl
def ze{b:Type}[BEq b][LawfulBEq b]: ∀(l m:List b),l.Nodup->(∀x∈l,x∈m)->A7 l<=(A7 m):=by
 intro n
 induction n with
 |nil=>intro m _ _;exact mf _
 |cons x l k=>
  intro m a c;rw[yT] at a;have j:=c x jW;have i:=LU j
  have:=k (m.erase x) a.2 (λy d=>by have g:=c y<|jZ _ d;have f:y≠x:=λe=>a.1<|e▸d;exact(G1 f).mpr g)
  have h:=i.length_eq;simp only[lg] at h ⊢
  lia
def Jx{l:jh}(h:l.Pairwise (· < ·)):l.Nodup:=h.imp λh=>by lia
def BV.len{n:Nat}{c:jh}(h:BV n c):(A7 c)<=n:=by
 have:=ze (c.map ab) (st n) (Jx h.2.1) (λx b=>by obtain⟨s,a,rfl⟩:=nC.mp b;exact P0.mpr<|h.2.2 s a)
 simpa[st] using this
def K5(n:Nat)(t:jh):Prop:=A7 t=n/\ ∀x∈t,1<=ab x/\ab x<=n
theorem mp0:E9 (.lst [.int (-1),.int 1]) (.int 0)=ii (-1):=rfl
theorem mp1:E9 (.lst [.int (-1),.int 1]) (.int 1)=ii 1:=rfl
def X5(u:jh)(s:Int)(b:s≠0)(h1: -((A7 u):Int)<=s)(c:s<=A7 u):
  nu [enc u,pI s]=Y ((.int<|led u s,U),[eN u,ii s]):=by
 simp only[nu,tR];by_cases h:0<s
 .have:=Nn (t:=u) (v:=s-1) (by lia) (by lia);have a: ¬s<0:=by lia
  simp only[BM];simp[h,a,led,this,jP,jY,mp1,Z8]
 .have:=Nn (t:=u) (v:= -s-1) (by lia) (by lia);have a:s<0:=by lia
  simp only[BM];simp[h,a,led,this,jP,jY,mp0,Z7]
def pK(i:Int):ab (-i)=ab i:=by unfold ab;split<;>split<;>lia
def lT{l:jh}{k:Nat}(h:k<A7 l):l.getD k 0∈l:=by rw[md,kK h];exact Dr h
def Iq{n:Nat}{t:jh}(b:K5 n t){s:Int}(h1:1<=ab s)(a:ab s<=n):1<=ab (led t s)/\ab (led t s)<=n:=by
 unfold led;unfold ab at h1 a;have c:=b.1;split
 .rename_i h;rw[jv<|by omega] at h1 a;exact b.2 _ (lT<|by omega)
 .rename_i h;rw[pK];split at h1
  .rw[jl<|by assumption] at a;exact b.2 _ (lT<|by omega)
  .omega
noncomputable def dD(a:jh):D:= .B8 .dct (a.map λw=> .int (ab w)) (a.map .int)
noncomputable def AH(a:jh)(w:Int):List Int:=if ab w∈a.map ab then a.map λx=>if ab x=ab w then w else x else a++[w]
def Wb(w:Int): ∀a:List Int,((a.map λw=>D.int<|ab w).any (D.BC · (.int<|ab w)))=decide (ab w∈a.map ab):=by
 intro c
 induction c with
 |nil=>simp
 |cons x a b=>
  simp only[kc,uC,b,D.BC,lz];by_cases h:ab x=ab w
  .simp[h]
  .have: ¬ab w=ab x:=λe=>h e.symm;simp[h,this]
def QE(w:Int): ∀a:List Int,rF (a.map λw=>D.int<|ab w) (a.map .int) (.int<|ab w) (.int w)=(a.map λx=>if ab x=ab w then w else x).map .int:=by
 intro c
 induction c with
 |nil=>simp[rF]
 |cons x a b=>simp only[kc,rF,b,D.BC];by_cases h:ab x=ab w<;>simp[h]
def UY(a:jh)(w:Int):D.B8 .dct (sG (a.map λw=> .int (ab w)) (a.map .int) (.int<|ab w)<|.int w).1 (sG (a.map λw=> .int (ab w)) (a.map .int) (.int<|ab w)<|.int w).2=dD (AH a w):=by
 unfold sG AH dD;rw[Wb];by_cases h:ab w∈a.map ab
 .rw[jl<|by simpa using h,jl h,QE]
  congr 1
  show(a.map λw=>D.int<|ab w)=cN (λw=>D.int<|ab w) (a.map λx=>if ab x=ab w then w else x);rw[kM];apply qr;intro x _;simp only[bG];split
  .rename_i e;rw[e]
  .rfl
 .rw[jv<|by simpa using h,jv h];simp
def DW(n:Nat)(a:jh):Prop:=(a.map ab).Nodup/\ ∀w∈a,1<=ab w/\ab w<=n
def DW.put(h:DW n ws)(h1:1<=ab w/\ab w<=n):DW n (AH ws w):=by
 unfold AH;split
 .rename_i c;refine⟨?_,λx a=>?_⟩
  .have:((ws.map λx=>if ab x=ab w then w else x).map ab)=ws.map ab:=by
    rw[kM];apply qr;intro x _;simp only[bG];split
    .rename_i e;rw[e]
    .rfl
   rw[this];exact h.1
  .obtain⟨y,b,rfl⟩:=nC.mp a;split
   .exact h1
   .exact h.2 y b
 .rename_i c;refine⟨?_,λx a=>?_⟩
  .rw[oX,Ae];refine⟨h.1,by simp,λx a y b e=>?_⟩;simp at b;subst b;subst e;exact c a
  .rcases tM.mp a with a|a
   .exact h.2 x a
   .simp at a;subst a;exact h1
def Q6(a:jh)(w:Int):AH a w≠[]:=by
 unfold AH;split
 .rename_i h
  cases a with
  |nil=>simp at h
  |cons=>simp
 .simp
def DW.len(h:DW n ws):(A7 ws)<=n:=by
 have:=ze (ws.map ab) (st n) h.1 (λx b=>by obtain⟨s,a,rfl⟩:=nC.mp b;exact P0.mpr<|h.2 s a)
 simpa[st] using this
def JN(k:Int): ∀a:List Int,k∈a.map ab-> ∃w∈a,ab w=k/\lU (a.map λw=>D.int<|ab w) (a.map .int) (.int k)=Y (.int w):=by
 intro f
 induction f with
 |nil=>intro h;simp at h
 |cons x a d=>
  intro h;simp only[kc,lU,D.BC];by_cases e:ab x=k
  .exact⟨x,by simp,e,by simp[e]⟩
  .have:k∈a.map ab:=by
    simp only[kc,lz] at h;rcases h with h|h
    .exact absurd h.symm e
    .exact h
   obtain⟨w,c,h1,b⟩:=d this;exact⟨w,by simp[c],h1,by simp[e,b]⟩
def Gg(a:jh)(k:Int):rN (a.map λw=>D.int<|ab w) (.int k)=J:=by simp[rN,uR]
abbrev Nv:FS:=WW
def Pg{n:Nat}{t:jh}(f:K5 n t)(j:n<=5){s:Int}(h1:1<=ab s/\ab s<=n){a:jh}(g:DW n a)(b x4:Sl):Nv [eN t,b,Y (dD a,J),ii s,x4]=Y (.nx [eN t,b,Y (dD<|AH a<|led t s,J),ii s,ii<|led t s]):=by
 have h:=f.1
 have c:s≠0/\ -((A7 t):Int)<=s/\s<=(A7 t):=by have:=h1;unfold ab at this;split at this<;>lia
 refine(jc (δ1:=[eN t,b,Y (dD a,J),ii s,ii<|led t s]) ?_).trans ?_
 .exact kJ (i:=4) (δ1:=[eN t,b,Y (dD a,J),ii s,x4]) (mn (δ1:=[eN t,b,Y (dD a,J),ii s,x4]) (os:=[.slot 0,.slot 3]) (args:=[enc t,pI s]) H H nU<|X5 t s c.1 c.2.1 c.2.2) (show 4<5 by decide)
 .refine(jc (δ1:=[eN t,b,Y (dD<|AH a<|led t s,J),ii s,ii<|led t s]) ?_).trans H;have d:lu 4 [eN t,b,Y (dD a,J),ii s,ii<|led t s]=Y ((.int<|led t s,U),[eN t,b,Y (dD a,J),ii s,ii<|led t s]):=rfl;have e:jk TX [eN t,b,Y (dD a,J),ii s,ii<|led t s]=Y (.val (.int<|ab<|led t s,U),[eN t,b,Y (dD a,J),ii s,ii<|led t s]):=rfl;unfold Cy;rw[d];simp only[jU,tE,uA];rw[e];simp only[jU,AF,tE,uA,dD];rw[jl ⟨Gg a _,by have:=g.len;simp;lia⟩,UY];rfl
def Yp{n:Nat}{t:jh}(k:K5 n t)(m:n<=5)(d:Sl): ∀(c a:jh) (x3 x4:Sl),(∀s∈c,1<=ab s/\ab s<=n)->DW n a-> ∃b g j,DW n b/\(a≠[]\/c≠[]->b≠[])/\ml (ja 3) Nv (c.map .int) [eN t,d,Y (dD a,J),x3,x4]=Y (.nx [eN t,d,Y (dD b,J),g,j]):=by
 intro q
 induction q with
 |nil=>intro a x3 x4 _ f;exact⟨a,x3,x4,f,λh=>h.elim id λh=>absurd H h,rfl⟩
 |cons s c p=>intro a x3 x4 h f;have i:=h s jW;obtain⟨b,g,j,h1,l,e⟩:=p (AH a<|led t s) (ii s) (ii<|led t s) (λx o=>h x<|jZ _ o)<|f.put<|Iq k i.1 i.2;refine⟨b,g,j,h1,λ_=>l<|.inl<|Q6 _ _,?_⟩;rw[kc];unfold ml;rw[show ja 3 (.int s) [eN t,d,Y (dD a,J),x3,x4]=Y [eN t,d,Y (dD a,J),ii s,x4] from H];simp only[jU];rw[Pg k m i f];simp only[jU];exact e
def Uw{l k:jh}(m:l.Nodup)(h:nF EE (l.map .int)=k.map .int):k.Perm l/\k.Pairwise (· < ·):=by
 have f:=la EE<|l.map D.int;rw[h] at f;have c:=(f.map λd=>match d with|D.int i=>i|_=>0)
 simp only[kM] at c;have e:((λd=>match d with|D.int i=>i|_=>0)∘D.int)=id:=rfl;rw[e,uy,uy] at c;refine⟨c,?_⟩;have g:=rA<|l.map D.int;rw[h,ue] at g;have j:=c.symm.nodup m;have:=g.and j;refine this.imp λ{a b} h=>?_;have h1:=h.1;rw[CJ] at h1;simp only[cT] at h1;by_cases q:b<a
 .simp[q] at h1
 .have:=h.2;lia
def adn(a:jh): ∀k:List Int,(∀x∈k,x∈a.map ab)-> ∃c:List Int,c.map ab=k/\(∀w∈c,w∈a)/\k.map (λx=>(lU (a.map λw=>D.int<|ab w) (a.map .int)<|.int x).getD .Ax)=c.map .int:=by
 intro l
 induction l with
 |nil=>intro _;exact⟨[],rfl,by simp,rfl⟩
 |cons x k j=>intro h;obtain⟨w,g,h1,f⟩:=JN x a<|h x jW;obtain⟨c,b,d,e⟩:=j λy i=>h y<|jZ _ i;exact⟨w::c,by simp[h1,b],by simp[g];exact d,by simp[f,e]⟩
def JR{n:Nat}(T:n<=5){t c a:jh}{x3 x4:Sl}(l:DW n a)(s:a≠[])(e:ml (ja 3) Nv (c.map .int) [eN t,eN c,Y (dD [],J),C,C]=Y (.nx [eN t,eN c,Y (dD a,J),x3,x4])):
  ∃b,((b.map ab).Pairwise (· < ·)/\(∀w∈b,w∈a)/\(b.map ab).Perm (a.map ab))/\lC [enc t,enc c]=Y (enc b,[eN t,eN c]):=by
 have j:=l.len;obtain⟨k,hk⟩:=yd<|la EE<|(a.map ab).map D.int;obtain⟨f,z⟩:=Uw l.1 hk;obtain⟨b,i,o,p⟩:=adn a k λx h=>f.mem_iff.mp h;refine⟨b,⟨by rw[i];exact z,o,by rw[i];exact f⟩,?_⟩
 .have m:(A7 k)<=5:=by have:=f.length_eq;simp at this;lia
  have s1:lF (dD a)=Y (.lst<|k.map .int,J):=by
   unfold lF dD;have q:((a.map λw=>D.int<|ab w).all λk=>(uR k).isSome)=J:=by simp[uR]
   have B:(a.map λw=>D.int<|ab w)≠[]:=by simpa using s
   simp only;rw[jl ⟨q,B⟩];have r:(a.map λw=>D.int<|ab w)=(a.map ab).map D.int:=by rw[kM];rfl
   unfold lE;rw[r,jl ⟨abN _,by rw[jY];simp;lia⟩,hk]
  obtain⟨E,g⟩:=Bu (jx IC (jb 0)<|jb 1) (λd=>match d with| .int x=>(lU (a.map λw=>D.int<|ab w) (a.map .int)<|.int x).getD .Ax|_=> .Ax) [Y (dD a,J)] (k.map .int) [] C (by intro d hd;obtain⟨x,h,rfl⟩:=nC.mp hd;obtain⟨w,v,h1,u⟩:=JN x a<|f.mem_iff.mp h;refine⟨U,kW (o1:= .slot 0) (o2:= .slot 1) H H H H ?_⟩;simp only[IC,dD];rw[jl<|Gg a x,u];rfl) (by rw[jY];simp;lia)
  have A:((k.map D.int).map λd=>match d with| .int x=>(lU (a.map λw=>D.int<|ab w) (a.map .int)<|.int x).getD .Ax|_=> .Ax)=b.map .int:=by rw[kM,<-p];rfl
  rw[A] at g;simp only[yA,tD,lg,rk,wx] at g;refine lK (δ:=[eN t,eN c,Y (dD a,J),x3,x4]) ⟨rfl,by decide,rfl⟩ ?_;refine(jc (δ1:=[eN t,eN c,Y (dD [],J),C,C]) H).trans ?_;refine(jc<|(lb (ds:=c.map .int) (δ1:=[eN t,eN c,Y (dD [],J),C,C]) H).trans e).trans ?_;refine kD<|mH<|kX (os:=[.val (.lst<|b.map .int,J)]) (wZ<|jN ?_) H H;have y:kP (jy (g1 lF) [jb 2]) [eN t,eN c,Y (dD a,J),x3,x4]=Y (k.map .int,[eN t,eN c,Y (dD a,J),x3,x4]):=mK<|kX (os:=[.slot 2]) H H s1;unfold ki;rw[y];simp only[jU,kc,pL];rw[show km [eN t,eN c,Y (dD a,J),x3,x4] [.slot 2]=Y [(dD a,J)] from H];simp only[jU];rw[jl (show(jB [Bl.slot 2] [(dD a,J)]).Nodup from(Lf 2))];rw[show(cN Y [(dD a,J)]++am 1 C:Dn)=[Y (dD a,J),C] from H,g];rfl
def abc{n:Nat}(f:n<=5){t c:jh}(k:K5 n t)(d:BV n c): ∃a,BV n a/\lC [enc t,enc c]=Y (enc a,[eN t,eN c]):=by obtain⟨l,x3,x4,g,b,e⟩:=Yp k f (eN c) c [] C C d.2.2 ⟨by simp,by simp⟩;have b:=b<|.inr d.1;obtain⟨a,⟨h1,h,i⟩,e⟩:=JR f g b e;refine⟨a,⟨λz=>b ?_,h1,λs j=>g.2 s<|h s j⟩,e⟩;have:=i.length_eq;rw[z] at this;exact SU.mp (by simpa using this.symm)
noncomputable abbrev cD(c:jh):D:= .tup (c.map .int)
def IK(c:jh):D.dep (cD c)=1:=by simp[D.dep,yn]
def Sq: ∀a:List (List Int),D.BJ (a.map cD)<=1:=by
 intro d
 induction d with
 |nil=>simp[D.BJ]
 |cons c a b=>have:=b;simp only[kc,D.BJ,IK];lia
def Pn(a b:jh):D.BC (cD a) (cD b)=decide (a=b):=by simp[D.BC,Bj]
def Fe(c:jh): ∀a:List (List Int),(a.map cD).any (λd=>D.BC d<|cD c)=decide (c∈a):=by
 intro f
 induction f with
 |nil=>simp
 |cons x a b=>
  simp only[kc,uC,b,Pn,lz];by_cases h:x=c
  .simp[h]
  .have: ¬c=x:=λe=>h e.symm;simp[h,this]
def F3(c:jh)(a:jS):oT (cD c) (.lst<|a.map cD)=Y (.bl (!decide (c∈a)),U):=by
 have:inD (cD c) (.lst<|a.map cD)=Y (decide<|c∈a):=by have hd:=Sq a;show(if D.BJ (a.map cD)<=50/\(cD c).dep<=50 then Y ((a.map cD).any λd=>D.BC d<|cD c) else C)=_;rw[jl ⟨by lia,by rw[IK];lia⟩,Fe]
 unfold oT;rw[this];rfl
noncomputable def BD:Nat->List (List Int)
 |0=>[[]]
 |k+1=>BD k++((BD k).map λc=>c++[(k:Int)+1])++((BD k).map λc=>c++[-((k:Int)+1)])
def PJ: ∀(k:Nat) (c:jh),(c.map ab).Pairwise (· < ·)->(∀s∈c,1<=ab s/\ab s<=k)->c∈BD k:=by
 intro j
 induction j with
 |zero=>
  intro c _ h
  cases c with
  |nil=>simp[BD]
  |cons s c=>have:=h s jW;lia
 |succ k f=>
  intro c b h;simp only[BD,tM,nC];by_cases d:c=[]
  .subst d;exact .inl<|.inl<|f [] (by simp) (by simp)
  .have hd:=LQ d;generalize c.dropLast=i at hd;generalize c.getLast d=s at hd;subst hd;rw[oX,vd] at b;have l:=h s (by simp);have g: ∀x∈i,1<=ab x/\ab x<ab s:=λx a=>⟨(h x<|by simp[a]).1,b.2.2 (ab x) (rQ a) (ab s)<|by simp⟩
   by_cases q:ab s<=k
   .refine .inl (.inl<|f _ ?_ λx a=>?_)
    .rw[oX,vd];exact b
    .rcases tM.mp a with a|a
     .have:=g x a;lia
     .simp at a;subst a;lia
   .have e:ab s=(k:Int)+1:=by lia
    have hk:=f i b.1 λx a=>by have:=g x a;lia
    unfold ab at e;split at e
    .exact .inr ⟨i,hk,by rw[show s= -((k:Int)+1) by lia]⟩
    .exact .inl (.inr ⟨i,hk,by rw[show s=((k:Int)+1) by lia]⟩)
def adk: ∀(k:Nat) (n:Nat),n<=k->(BD n).length<=(BD k).length:=by
 intro b
 induction b with
 |zero=>intro n h;rw[show n=0 by lia];exact kh _
 |succ k a=>
  intro n h;by_cases e:n=k+1
  .subst e;exact kh _
  .have:=a n (by lia);simp only[BD,nB,kn];lia
def Eh(n:Nat)(a:jS):Prop:=a.Nodup/\ ∀c∈a,BV n c
def Eh.len(b:n<=5)(h:Eh n cs):(A7 cs)<=243:=by
 have h1:=ze cs (BD n) h.1 λc a=>PJ n c (h.2 c a).2.1 (h.2 c a).2.2;have d:=adk 5 n b;have e:(BD 5).length=243:=by decide
 lia
def Eh.snoc{n:Nat}{b:jS}{c:jh}(h:Eh n b)(f:BV n c)(g:c∉b):Eh n (b++[c]):=by
 refine⟨?_,λx a=>?_⟩
 .rw[Ae];exact⟨h.1,by simp,λx a y d e=>by simp at d;subst d;subst e;exact g a⟩
 .rcases tM.mp a with a|a
  .exact h.2 x a
  .simp at a;subst a;exact f
noncomputable abbrev HN(a:jS):Sl:=Y (.lst<|a.map cD,J)
abbrev VN:FS:=zC7
def ixc{a:jS}{i:Nat}(h:i<A7 a):E9 (.lst<|a.map cD) (.int i)=Y (cD<|a.getD i [],U):=by
 have:(i:Int)<(A7 a):=by lia
 simp[E9,J4,HY,h]
def ady{a:jS}{i:Nat}(h:i<A7 a):a.getD i []∈a:=by rw[md,kK h];exact Dr h
def R9{n:Nat}(p:n<=5){t:jh}(s:K5 n t){a:jS}(f:Eh n a){i:Nat}(m:i<A7 a)(c d x5:Sl): ∃j u,Eh n j/\(A7 a)<=A7 j/\VN [c,d,HN a,ii i,eN t,x5]=Y (.nx [c,d,HN j,ii i,eN t,u]):=by
 obtain⟨b,q,e⟩:=abc p s<|f.2 _ (ady m);have v:=f.len p
 have s1: ∀g,ji WM g [c,d,HN a,ii i,eN t,x5]=g [c,d,HN a,ii i,eN t,eN b]:=λg=>jc<|kJ (i:=5) (δ1:=[c,d,HN a,ii i,eN t,x5]) (mn (δ1:=[c,d,HN a,ii i,eN t,x5]) (os:=[.slot 4,.val<|enc<|a.getD i []]) (args:=[enc t,enc<|a.getD i []]) (qW H<|jN<|kW (o1:= .slot 2) (o2:= .slot 3) H H H H<|ixc m) H nU e) (show 5<6 by decide)
 have k:(fT<|jx oT (jb 5)<|jb 2) [c,d,HN a,ii i,eN t,eN b]=Y (!decide (b∈a),[c,d,HN a,ii i,eN t,eN b]):=
  mq (o:=U) (kW (o1:= .slot 5) (o2:= .slot 2) H H H H<|F3 b a)
 by_cases h:b∈a
 .refine⟨a,eN b,f,kh _,(s1 _).trans<|(jc<|(rE ?_).trans H).trans H⟩;rw[k,pe h];rfl
 .refine⟨a++[b],eN b,f.snoc q h,by simp,(s1 _).trans ?_⟩;rw[mD h] at k;refine(jc<|(uN k).trans<|xa (δ1:=[c,d,HN a,ii i,eN t,eN b]) (r:=enc b) (l0:=a.map cD) (l:=a.map cD) H H H<|by simp;lia).trans ?_;simp[HN,jG]
def Yl{n:Nat}(q:n<=5)(i:Nat)(b c:Sl): ∀(g:jS) (a:jS) (x4 x5:Sl),(∀t∈g,K5 n t)->Eh n a->i<A7 a-> ∃d f h,Eh n d/\(A7 a)<=A7 d/\ml (ja 4) VN (g.map cD) [b,c,HN a,ii i,x4,x5]=Y (.nx [b,c,HN d,ii i,f,h]):=by
 intro v
 induction v with
 |nil=>intro a x4 x5 _ e j;exact⟨a,x4,x5,e,kh _,rfl⟩
 |cons t g s=>intro a x4 x5 k e j;obtain⟨o,w,h1,x,l⟩:=R9 q (k t jW) e j b c x5;obtain⟨d,f,h,p,y,m⟩:=s o (eN t) w (λu r=>k u<|jZ _ r) h1 (by lia);refine⟨d,f,h,p,by lia,?_⟩;rw[kc];unfold ml;rw[show ja 4 (cD t) [b,c,HN a,ii i,x4,x5]=Y [b,c,HN a,ii i,eN t,x5] from H];simp only[jU];rw[l];simp only[jU];exact m
abbrev ftW:FT:=WJ
abbrev fbW:FS:=ji (nh tV (ja 4) VN) WH
def Ul{n:Nat}(w:n<=5)(d:Sl)(c:jS)(y: ∀t∈c,K5 n t): ∀(m a i:Nat) (o:Bool) (b:jS) (x4 x5:Sl),i+m=243->m<a->Eh n b-> ∃j q p r s,Eh n j/\(A7 b)<=A7 j/\qf ftW fbW a [d,Y (.lst<|c.map cD,o),HN b,ii i,x4,x5]=Y (.nx [d,Y (.lst<|c.map cD,q),HN j,ii p,r,s]):=by
 intro m
 induction m with
 |zero=>
  intro a i o b x4 x5 l Q g;have T:=g.len w;obtain⟨f,rfl⟩: ∃f,a=f+1:=⟨a-1,by lia⟩
  refine⟨b,o,i,x4,x5,g,kh _,?_⟩;have h: ¬((i:Int)<A7 b):=by lia
  have e:ftW [d,Y (.lst<|c.map cD,o),HN b,ii i,x4,x5]=Y (U,[d,Y (.lst<|c.map cD,o),HN b,ii i,x4,x5]):=
   mq (o:=U) (kW (o1:= .slot 3) (o2:= .val (.int<|A7 b,U)) H (jN<|kX (os:=[.slot 2]) H H<|by simp) H H<|by rw[XB,mD h])
  unfold qf;rw[e];rfl
 |succ m E=>
  intro a i o b x4 x5 l Q g;obtain⟨f,rfl⟩: ∃f,a=f+1:=⟨a-1,by lia⟩
  have e:ftW [d,Y (.lst<|c.map cD,o),HN b,ii i,x4,x5]=Y (decide<|(i:Int)<A7 b,[d,Y (.lst<|c.map cD,o),HN b,ii i,x4,x5]):=
   mq (o:=U) (kW (o1:= .slot 3) (o2:= .val (.int<|A7 b,U)) H (jN<|kX (os:=[.slot 2]) H H<|by simp) H H<|by rw[XB])
  by_cases h:((i:Int)<A7 b)
  .rw[pe h] at e;obtain⟨k,u,v,h1,O,z⟩:=Yl w i d (Y (.lst<|c.map cD,U)) c b x4 x5 y g (by lia);obtain⟨j,q,p,r,s,B,L,A⟩:=E f (i+1) U k u v (by lia) (by lia) h1;refine⟨j,q,p,r,s,B,by lia,?_⟩;unfold qf;rw[e];simp only[jU,kO]
   have x:fbW [d,Y (.lst<|c.map cD,o),HN b,ii i,x4,x5]=Y (.nx [d,Y (.lst<|c.map cD,U),HN k,ii (i+1:Nat),u,v]):=by refine(jc<|(lb (ds:=c.map cD) (δ1:=[d,Y (.lst<|c.map cD,U),HN b,ii i,x4,x5]) H).trans z).trans ?_;refine(jc<|kJ (i:=3) (δ1:=[d,Y (.lst<|c.map cD,U),HN k,ii i,u,v]) (kW (o1:= .slot 3) (o2:= .val (.int 1,U)) H H H H H) (show 3<6 by decide)).trans ?_;simp[jG]
   rw[x];simp only[jU];exact A
  .rw[mD h] at e;refine⟨b,o,i,x4,x5,g,kh _,?_⟩;unfold qf;rw[e];rfl
def adI{n:Nat}(i:n<=5){b a:jS}(f: ∀t∈b,K5 n t)(h:Eh n a)(o:Bool): ∃c m,Eh n c/\(A7 a)<=A7 c/\rg [(.lst<|a.map cD,U),(.lst<|b.map cD,o)]=Y ((.lst<|c.map cD,J),[Y (.lst<|a.map cD,U),m]):=by
 obtain⟨c,d,j,l,p,g,k,e⟩:=Ul i (Y (.lst<|a.map cD,U)) b f 243 YK 0 o a C C (by lia) (by decide) h;refine⟨c,if o=J then Y (.lst<|b.map cD,d) else Y (.lst<|b.map cD,o),g,k,?_⟩;refine(lK (r:=(.lst<|c.map cD,J)) (δ:=[Y (.lst<|a.map cD,U),Y (.lst<|b.map cD,d),C,ii j,l,p]) ⟨rfl,(show 2<=6 by decide),by cases o<;>rfl⟩ ?_).trans ?_
 .refine(jc (δ1:=[Y (.lst<|a.map cD,U),Y (.lst<|b.map cD,o),HN a,C,C,C]) H).trans ?_;refine(jc (δ1:=[Y (.lst<|a.map cD,U),Y (.lst<|b.map cD,o),HN a,ii 0,C,C]) H).trans ?_;exact(jc e).trans (kD H)
 .cases o<;>rfl
noncomputable def oK(a:jS)(c:jh):List (List Int):=if c∈a then a else a++[c]
noncomputable def dd(cs:jS):List (List Int):=cs.foldl oK []
def Fg(a:jS)(c:jh):pG (a.map cD) (cD c)=(oK a c).map cD:=by unfold pG oK;rw[show(a.map cD).any (D.BC · (cD c))=decide (c∈a) from Fe c a];by_cases h:c∈a<;>simp[h]
def Gy: ∀(b a:jS),(b.map cD).foldl pG (a.map cD)=(b.foldl oK a).map cD:=by
 intro e
 induction e with
 |nil=>intro a;exact H
 |cons c b d=>intro a;rw[kc,uD,uD,Fg,d]
def PN:x∈oK a c↔x∈a\/x=c:=by
 unfold oK;by_cases h:c∈a
 .rw[jl h];constructor
  .exact .inl
  .rintro(h1|rfl)
   .exact h1
   .exact h
 .rw[jv h];simp
def vD: ∀(cs a:jS) (x:jh),x∈cs.foldl oK a↔x∈a\/x∈cs:=by
 intro d
 induction d with
 |nil=>intro a x;simp
 |cons c cs b=>intro a x;rw[uD,b,PN,lz,or_assoc]
def SM(h:f.Nodup):(oK f c).Nodup:=by
 unfold oK;split
 .exact h
 .rename_i b;rw[Ae];exact⟨h,by simp,λx d y a e=>by simp at a;subst a;subst e;exact b d⟩
def Bc: ∀(cs a:jS),a.Nodup->(cs.foldl oK a).Nodup:=by
 intro d
 induction d with
 |nil=>intro a h;exact h
 |cons c cs b=>intro a h;rw[uD];exact b _ (SM h)
def FW: ∀l:List Int,D.Ja (l.map .int)=J:=by
 intro b
 induction b with
 |nil=>simp[D.Ja]
 |cons x l a=>simp[D.Ja,D.pr,a]
def Vp(c:jh):Ca (cD c)=J:=by simp[Ca,FW,yn]
def qU(cs:jS):(cs.map cD).all Ca=J:=by rw[mZ];intro d hd;obtain⟨c,_,rfl⟩:=nC.mp hd;exact Vp c
theorem C7(c:dz): ∀a b:List Int,(tw c (a.map .int)<|b.map .int).isSome=J
 |[],b=>by simp[tw]
 |x::a,[]=>by simp[tw]
 |x::a,y::b=>by
  simp only[kc,tw];split
  .exact C7 c a b
  .simp[nR]
def Cr(a:jS)(h: ∀c∈a,c≠[]):oO (a.map cD)=J:=by
 have hk: ∀c:List Int,c≠[]->lX (cD c)=Y 1:=λc i=>by
  cases c with
  |nil=>exact absurd H i
  |cons=>rfl
 unfold oO
 cases a with
 |nil=>rfl
 |cons c a=>
  rw[yI];right;simp only[kc];rw[mP,mP,hk c<|h c jW];refine⟨⟨rfl,?_⟩,?_⟩
  .rw[mZ];intro d hd;rw[<-kc (f:=cD)] at hd;obtain⟨x,g,rfl⟩:=nC.mp hd;rw[hk x<|h x g,IK];simp[D.pr,FW]
  .rw[mZ];intro d hd;rw[mZ];intro e b;rw[<-kc (f:=cD)] at hd b;obtain⟨x,g,rfl⟩:=nC.mp hd;obtain⟨y,j,rfl⟩:=nC.mp b;simp only[nR];exact C7 _ _ _
noncomputable def KN:D->List Int
 | .tup l=>l.map F6
 |_=>[]
def oN(c:jh):KN (cD c)=c:=by simp only[KN,kM];rw[qr (g:=id),uy];intro x _;rfl
def Bo(h:m.Perm (cs.map cD)): ∃a:List (List Int),m=a.map cD/\a.Perm cs:=by
 refine⟨m.map KN,?_,?_⟩
 .rw[kM]
  symm
  rw[qr (g:=id),uy];intro d hd;obtain⟨c,_,rfl⟩:=nC.mp<|h.mem_iff.mp hd;simp only[bG,oN];rfl
 .have:=h.map KN;rw[kM] at this;rw[show cN (KN∘cD) cs=cN id cs from qr λc _=>oN c,uy] at this;exact this
def KW(c:jS):Prop:=c.Pairwise λa b=>EE (cD b) (cD a)=U
def Xv{n:Nat}{a:jS}(j: ∀c∈a,BV n c)(l:(A7 a)<500): ∃k b:List (List Int),Eh n b/\KW b/\(∀c,c∈b↔c∈a)/\(A7 b)<=A7 a/\VG (.lst<|a.map cD)=Y (.B8 .set []<|k.map cD,J)/\lF (.B8 .set []<|k.map cD)=Y (.lst<|b.map cD,J):=by
 have f: ∀c,c∈dd a↔c∈a:=λc=>by unfold dd;rw[vD];simp
 have i:(dd a).Nodup:=Bc a [] (by simp);obtain⟨b,e,g⟩:=Bo<|la EE<|(dd a).map cD;have d:(dd a).length<=(A7 a):=ze _ _ i λc h=>(f c).mp h;refine⟨dd a,b,⟨g.symm.nodup i,λc h=>j c<|(f c).mp<|g.mem_iff.mp h⟩,?_,λc=>g.mem_iff.trans<|f c,by rw[g.length_eq];exact d,?_,?_⟩
 .have:=rA<|(dd a).map cD;rw[e,ue] at this;exact this
 .show(if(a.map cD).all Ca=J/\(a.map cD).length<500 then Y (D.B8 .set []<|lS<|a.map cD,J) else C)=_;rw[jl ⟨qU a,by simpa using l⟩];unfold lS;rw[show([]:List D)=([]:List (List Int)).map cD from H,Gy];rfl
 .show(if((dd a).map cD).all Ca=J then lE ((dd a).map cD) else C)=_;rw[jl<|qU _];unfold lE;rw[jl ⟨Cr _ λc h=>(j c<|(f c).mp h).1,by rw[jY];simp;lia⟩,e]
def ac1: ∀(k:Nat) (r f t:jh),t∈qa k r f-> ∀x∈t,x∈f\/ ∃y∈r,x=y*1\/x=y* -1:=by
 intro g
 induction g with
 |zero=>intro r f t h x b;simp[qa] at h;subst h;exact .inl b
 |succ k e=>
  intro r f t h x b;simp only[qa,xm,tM,xi] at h;obtain⟨v,hv,h⟩:=h
  have a: ∀s:Int,(s=1\/s= -1)->t∈qa k (r.eraseIdx v) (f++[r.getD v 0*s])->x∈f\/ ∃y∈r,x=y*1\/x=y* -1:=by
   intro s c h;rcases e _ _ t h x b with h1|⟨y,d,h1⟩
   .rcases tM.mp h1 with h1|h1
    .exact .inl h1
    .simp at h1;refine .inr ⟨r.getD v 0,lT hv,?_⟩;rw[md];rcases c with rfl|rfl<;>simp[h1]
   .exact .inr ⟨y,List.mem_of_mem_eraseIdx d,h1⟩
  rcases h with h|h
  .exact a 1 (.inl H) h
  .exact a (-1) (.inr H) h
def adV{n:Nat}{t:jh}(h:t∈qa n (st n) []):K5 n t:=by
 refine⟨adU h,λx a=>?_⟩;rcases ac1 n _ _ t h x a with h1|⟨y,b,h1⟩
 .simp at h1
 .have:=P0.mp b;unfold ab;rcases h1 with rfl|rfl<;>split<;>omega
def K5.abs(h:K5 n t):K5 n (t.map ab):=by refine⟨by simpa using h.1,λx a=>?_⟩;obtain⟨y,b,rfl⟩:=nC.mp a;have:=h.2 y b;rw[tx (i:=ab y)<|by lia];exact this
def PF(l:BP)(P:List Int->Prop)(b:Bool)(n:Int)(h: ∀a,∃i c,P c/\l [pS a b,pI n]=Y (enc c,[AV i b,ii n])): ∀(k:List D) (f:jS) (a:Int) (x:Sl),(∀c∈f,P c)->A7 f+A7 k<=1000->
  ∃(i:Int) (j:jS) (o:Sl),(∀c∈j,P c)/\(A7 j)=A7 f+A7 k/\kY (ja 2) kx (kZ<|jI l [jb 0,jb 1]) k (f.map cD) [AV a b,ii n,x]=Y (j.map cD,[AV i b,ii n,o]):=by
 intro A
 induction A with
 |nil=>intro f a x m _;exact⟨a,f,x,m,by simp,rfl⟩
 |cons d k w=>
  intro f a x m p;obtain⟨a1,z,v,r⟩:=h a
  obtain⟨i,j,o,t,q,e⟩:=w (f++[z]) a1 (Y (d,U)) (λy g=>by
   rcases tM.mp g with g|g
   .exact m y g
   .simp at g;subst g;exact v) (by simp at p ⊢;lia)
  refine⟨i,j,o,t,by simp at q ⊢;lia,?_⟩;have u:(f.map cD).length<sizeLine:=by rw[jY];simp at p ⊢;lia
  have s:jI l [jb 0,jb 1] [AV a b,ii n,Y (d,U)]=Y (enc z,[AV a1 b,ii n,Y (d,U)]):=
   mn (δ1:=[AV a b,ii n,Y (d,U)]) (os:=[.slot 0,.slot 1]) (args:=[pS a b,pI n]) rfl rfl (Lf 0) r
  rw[kY,show ja 2 d [AV a b,ii n,x]=Y [AV a b,ii n,Y (d,U)] from H];simp only[jU,vp,kO,zV];rw[s];simp only[jU];rw[jl u];rw[oX] at e;exact e
def Bq(k:BP)(P:List Int->Prop)(b:Bool)(n:Int)(h: ∀a,∃d c,P c/\k [pS a b,pI n]=Y (enc c,[AV d b,ii n]))(j:List D)(hd:(A7 j)<=1000)(a:Int)(f g:Sl)(jF:Dn)(m:EV)(l:m (AV a b::f::g::ii n::jF)=Y (j,AV a b::f::g::ii n::jF)):
  ∃(d:Int) (i:jS),(∀c∈i,P c)/\(A7 i)=A7 j/\ki [0,3] 1 m (ja 2) kx (kZ<|jI k [jb 0,jb 1]) (AV a b::f::g::ii n::jF)=Y ((.lst<|i.map cD,J),AV d b::f::g::ii n::jF):=by
 obtain⟨d,i,p,h1,o,e⟩:=PF k P b n h j [] a C (by simp) (by simpa using hd);refine⟨d,i,h1,by simpa using o,?_⟩;unfold ki;rw[l];simp only[jU,kc,pL];rw[show km (AV a b::f::g::ii n::jF) [.slot 0,.slot 3]=Y [pS a b,pI n] from H];simp only[jU];rw[jl (show(jB [Bl.slot 0,Bl.slot 3] [(D.lst [.int a,.bl b],J),pI n]).Nodup from(Lf 0))];rw[show(cN Y [(D.lst [.int a,.bl b],J),(D.int n,U)]++am 1 C:Dn)=[AV a b,ii n,C] from H];rw[show([]:List D)=([]:List (List Int)).map cD from H,e];rfl
def Pu(a:jS)(v:Nat): ∃m,m<=v/\PX.C4 (a.map cD) C (Y (v:Int))=(a.take m).map cD:=by refine⟨min v<|A7 a,by lia,?_⟩;unfold PX.C4;rw[HT.Wf,HT.XA,tv,kn,List.drop_zero,Nat.sub_zero]
def KW.take(h:KW a)(m:Nat):KW (a.take m):=xc (yQ m a) h
def Eh.take(h:Eh n a)(m:Nat):Eh n (a.take m):=⟨List.Nodup.sublist (yQ m a) h.1,λc b=>h.2 c<|wq b⟩
def PR(t:jh)(a:(A7 t)<=100):Ud [Y (cD t,U)]=Y ((cD<|t.map ab,U),[Y (cD t,U)]):=by
 obtain⟨b,e⟩:=Bu (jy (g1 zT) [jb 0]) (λd=> .int (ab<|F6 d)) [] (t.map .int) [] C (by intro d hd;obtain⟨i,_,rfl⟩:=nC.mp hd;exact⟨U,rfl⟩) (by rw[jY];simp;lia)
 simp only[yA,tD,lg,rk,kM] at e;refine kX (os:=[.val (.lst<|(t.map ab).map .int,J)]) (wZ<|jN ?_) H H;unfold ki;rw[show kP (lu 0) [Y (cD t,U)]=Y (t.map .int,[Y (cD t,U)]) from H];simp only[jU,pL,yZ,jB,nU,kO,tD,fw,Af];rw[e,kM];rfl
def YD{f:F}{c:EV}{e a:Dn}{b d:List D}{h:Sl}(h1:c e=Y (b,a))(g:kY (ja 0) kx (kZ f) b [] [C]=Y (d,[h])):ki [] 1 c (ja 0) kx (kZ f) e=Y ((.lst d,J),a):=by unfold ki;rw[h1];simp only[jU,pL,yZ,jB,nU,kO,tD,fw,Af];rw[g];rfl
def adl(a:jS)(m:(A7 a)<=1000)(l: ∀t∈a,A7 t<=100)(b c f g i j k:Sl)(o:Bool):ki [] 1 (kP<|lu 7) (ja 0) kx WV [b,c,f,g,i,j,k,Y (.lst<|a.map cD,o)]=Y ((.lst<|(a.map<|cN ab).map cD,J),[b,c,f,g,i,j,k,Y (.lst<|a.map cD,U)]):=by
 obtain⟨n,e⟩:=Bu Ud (λd=>cD<|(KN d).map ab) [] (a.map cD) [] C (by intro d hd;obtain⟨t,h,rfl⟩:=nC.mp hd;refine⟨U,?_⟩;rw[oN];exact PR t<|l t h) (by rw[jY];simp;lia)
 simp only[yA,tD,lg,rk,kM] at e;have:(a.map<|(λd=>cD<|(KN d).map ab)∘cD)=a.map (cD∘cN ab):=qr λt _=>by simp only[bG,oN]
 rw[this] at e;rw[kM];exact YD H e
def LK(n:Nat)(a:jS):Prop:=n<=5/\Eh n a/\KW a/\(A7 a)<=30
noncomputable abbrev Kw(n:Nat)(a:jS):D:= .tup [.int n,.tup<|a.map cD]
noncomputable abbrev rS(n:Nat)(a:jS):Sl:=Y (Kw n a,U)
noncomputable abbrev lv(L:List D):Sl:=Y (.lst L,J)
def ace(h:kT fs δ=kT b a):jI ev fs δ=jI ev b a:=by unfold jI;rw[h]
def acN(a:Int)(b:Bool)(lo d:Nat)(h1:lo<=d)(h5:d<=5): ∃a' n h,LK n h/\lo<=n/\n<=d/\qZ [pS a b,pI lo,pI d]=XV ((Kw n h,ZB),[AV a' b,ii lo,ii d]):=by
 obtain⟨v,a1,v0,v1,e1⟩:=pA a b ((d:Int)-lo+1) (by lia) (by lia);obtain⟨w,s,w0,w1,e2⟩:=pA a1 b 4 (by lia) (by lia);obtain⟨n,hn⟩: ∃n:Nat,(lo:Int)+v=n:=⟨(lo+v).toNat,by lia⟩
 have pre: ∀g,ji W2 (ji WE g) [AV a b,ii lo,ii d,X0,X0,X0,X0,X0]=g [AV s b,ii lo,ii d,ii n,ii w,X0,X0,X0]:=by
  intro g;refine(jc (δ1:=[AV a1 b,ii lo,ii d,ii n,X0,X0,X0,X0]) ?_).trans ?_
  .refine kJ (i:=3) (δ1:=[AV a1 b,ii lo,ii d,X0,X0,X0,X0,X0]) (kW (o1:= .slot 1) (o2:= .val (.int v,ZB)) AM (jN<|e1 _ _ _ rfl rfl) AM AM ?_) (show 3<8 by decide);rw[XE,hn]
  .exact jc (kJ (i:=4) (δ1:=[AV s b,ii lo,ii d,ii n,X0,X0,X0,X0]) (e2 _ [ii lo,ii d,ii n,X0,X0,X0,X0] _ rfl rfl) (show 4<8 by decide))
 by_cases hz:n=0
 .subst hz;refine⟨s,0,[],⟨by lia,⟨by simp,by simp⟩,du,by simp⟩,by lia,by lia,?_⟩;refine lK (δ:=[AV s b,ii lo,ii d,ii (0:Nat),ii w,X0,X0,X0]) ⟨rfl,by decide,rfl⟩<|(pre _).trans ?_;refine kD<|(uN (δ1:=[AV s b,ii lo,ii d,ii (0:Nat),ii w,X0,X0,X0])<|by simp).trans<|kD<|mH ?_;simp[jY]
 .have n1:1<=n:=by lia
  have G:n<=5:=by lia
  obtain⟨u,I,u0,u1,e3⟩:=pA s b 3 (by lia) (by lia)
  let U:List Int:=[4,8,13]
  let m:=U.getD u.toNat 0
  have hm:0<m/\m<=13:=by rcases(show u=0\/u=1\/u=2 by lia) with rfl|rfl|rfl<;>decide
  obtain⟨c,L,q0,q1,e4⟩:=pA I b m hm.1 (by lia);obtain⟨f,rfl⟩: ∃f:Nat,c=f:=⟨c.toNat,by lia⟩
  have i1:yc (jb 5) [AV L b,ii lo,ii d,ii n,ii w,ii f,X0,X0]=XV (jD 0 f,[AV L b,ii lo,ii d,ii n,ii w,ii f,X0,X0]):=qF (o:= .slot 5) AM AM (by lia);obtain⟨C,l,cV,l5,e5⟩:=Bq oF (BV n) b n (λa=>adJ a b n n1 G) (jD 0 f) (by simp[jD];lia) L (ii lo) (ii d) [ii w,ii f,X0,X0] (yc<|jb 5) i1;have i6:(A7 l)<13:=by simp[jD] at l5;lia
  have H: ∃(j:Int) (A:jS) (q:Sl),(∀c∈A,BV n c)/\(A7 A)<500/\zC0 [AV C b,ii lo,ii d,ii n,ii w,ii f,lv<|l.map cD,X0]=XV (.nx [AV j b,ii lo,ii d,ii n,ii w,ii f,lv<|A.map cD,q]):=by
   by_cases hw:0<w
   .obtain⟨k,hk,bD⟩: ∃k:Nat,(1:Int)+w%2=k/\k<=2:=⟨(1+w%2).toNat,by lia,by lia⟩
    have i2:yc WO [AV C b,ii lo,ii d,ii n,ii w,ii f,lv<|l.map cD,X0]=XV (jD 0 k,[AV C b,ii lo,ii d,ii n,ii w,ii f,lv<|l.map cD,X0]):=by refine qF (o:= .val (.int k,ZB)) (jN ?_) AM (by lia);rw[<-hk];simp[zS,gI]
    obtain⟨j,B,F,X,e6⟩:=Bq nK (K5 n) b n (λa=>by obtain⟨a',t,O,e⟩:=abZ a b n G;exact⟨a',t,adV O,e⟩) (jD 0 k) (by simp[jD];lia) C (ii lo) (ii d) [ii w,ii f,lv<|l.map cD,X0] _ i2
    have Q:(A7 B)<=1000:=by simp[jD] at X;lia
    have th: ∃x:List (List Int),(∀t∈x,K5 n t)/\ ∀g,ji zC1 g [AV j b,ii lo,ii d,ii n,ii w,ii f,lv<|l.map cD,lv<|B.map cD]=g [AV j b,ii lo,ii d,ii n,ii w,ii f,lv<|l.map cD,lv<|x.map cD]:=by
     by_cases h3:w=3
     .refine⟨B.map<|cN ab,λt O=>?_,λg=>?_⟩
      .obtain⟨t',W,rfl⟩:=nC.mp O;exact(F t' W).abs
      .refine jc ((uN (δ1:=[AV j b,ii lo,ii d,ii n,ii w,ii f,lv<|l.map cD,lv<|B.map cD])<|mq (o:=ZB)<|kW (o1:= .slot 4) (o2:= .val (.int 3,ZB)) AM AM AM AM<|by rw[Tf,h3];rfl).trans<|(jc<|kJ (i:=7) (δ1:=[AV j b,ii lo,ii d,ii n,ii w,ii f,lv<|l.map cD,XV (.lst<|B.map cD,ZB)]) (adl B Q (λt O=>by have:=(F t O).1;lia) _ _ _ _ _ _ _ YP) (show 7<8 by decide)).trans AM)
     .refine⟨B,F,λg=>jc<|(rE (δ1:=[AV j b,ii lo,ii d,ii n,ii w,ii f,lv<|l.map cD,lv<|B.map cD])<|mq (o:=ZB)<|kW (o1:= .slot 4) (o2:= .val (.int 3,ZB)) AM AM AM AM<|by rw[Tf,yw,mD h3]).trans AM⟩
    obtain⟨x,T,th⟩:=th;obtain⟨vs,h,N,P,S,R,D,Z⟩:=Xv cV (by lia);obtain⟨y,V,ct⟩:=Pu h 2;obtain⟨A,q,M,_,e7⟩:=adI G T (N.take y) YP;refine⟨j,A,q,M.2,by have:=M.len G;lia,?_⟩;refine(uN (δ1:=[AV C b,ii lo,ii d,ii n,ii w,ii f,lv<|l.map cD,X0])<|mq (o:=ZB)<|kW (o1:= .slot 4) (o2:= .val (.int 0,ZB)) AM AM AM AM<|by rw[Nq,pe (show w>0 from hw)]).trans ?_;refine(jc<|kJ (i:=7) e6 (show 7<8 by decide)).trans ((th _).trans<|(jc<|kJ (i:=6) (δ1:=[AV j b,ii lo,ii d,ii n,ii w,ii f,lv<|l.map cD,q]) (mn (δ1:=[AV j b,ii lo,ii d,ii n,ii w,ii f,lv<|l.map cD,lv<|x.map cD]) (os:=[.val (.lst<|(h.take y).map cD,YP),.slot 7]) (args:=[(.lst<|(h.take y).map cD,ZB),(.lst<|x.map cD,YP)]) (qW (δ1:=[AV j b,ii lo,ii d,ii n,ii w,ii f,lv<|l.map cD,lv<|x.map cD]) (jN ?_) AM) AM (Lf 7) e7) (show 6<8 by decide)).trans AM)
    have f1:Ql [AV j b,ii lo,ii d,ii n,ii w,ii f,lv<|l.map cD,lv<|x.map cD]=XV ((.lst<|h.map cD,YP),[AV j b,ii lo,ii d,ii n,ii w,ii f,lv<|l.map cD,lv<|x.map cD]):=
     kX (os:=[.val (.B8 .set []<|vs.map cD,YP)]) (wZ<|jN<|kX (os:=[.slot 6]) AM AM D) rfl Z
    unfold CZ;rw[jN f1];simp only[jU];rw[show Kq [AV j b,ii lo,ii d,ii n,ii w,ii f,lv<|l.map cD,lv<|x.map cD]=XV (.val (.int 2,ZB),[AV j b,ii lo,ii d,ii n,ii w,ii f,lv<|l.map cD,lv<|x.map cD]) from AM];simp only[jU,AF];rw[show Nu X0 (XV 2) (.lst<|h.map cD)=XV (.lst<|PX.C4 (h.map cD) X0<|XV 2,YP) from AM];simp only[jU];rw[show PX.C4 (h.map cD) X0 (XV 2)=(h.take y).map cD from ct]
   .refine⟨C,l,X0,cV,by lia,?_⟩;exact(rE (δ1:=[AV C b,ii lo,ii d,ii n,ii w,ii f,lv<|l.map cD,X0])<|mq (o:=ZB)<|kW (o1:= .slot 4) (o2:= .val (.int 0,ZB)) AM AM AM AM<|by rw[Nq,mD (show ¬w>0 from hw)]).trans AM
  obtain⟨j,A,q,M,bB,H⟩:=H;obtain⟨vs,h,N,P,S,R,D,Z⟩:=Xv M bB
  have f1:Ql [AV j b,ii lo,ii d,ii n,ii w,ii f,lv<|A.map cD,q]=XV ((.lst<|h.map cD,YP),[AV j b,ii lo,ii d,ii n,ii w,ii f,lv<|A.map cD,q]):=
   kX (os:=[.val (.B8 .set []<|vs.map cD,YP)]) (wZ<|jN<|kX (os:=[.slot 6]) AM AM D) rfl Z
  have last: ∃(z:Int) (E:jS),Eh n E/\KW E/\(A7 E)<=30/\F7 Uc WR jG [AV j b,ii lo,ii d,ii n,ii w,ii f,lv<|h.map cD,q]=XV (.nx [AV z b,ii lo,ii d,ii n,ii w,ii f,lv<|E.map cD,q]):=by
   have Y:Uc [AV j b,ii lo,ii d,ii n,ii w,ii f,lv<|h.map cD,q]=XV (decide<|((A7 h):Int)>30,[AV j b,ii lo,ii d,ii n,ii w,ii f,lv<|h.map cD,q]):=
    mq (o:=ZB) (kW (o1:= .val (.int<|A7 h,ZB)) (o2:= .val (.int 30,ZB)) (jN<|kX (os:=[.slot 6]) AM AM<|by simp) AM AM AM<|Nq _ _)
   by_cases hb:((A7 h):Int)>30
   .obtain⟨p,z,p0,p1,e8⟩:=pA j b 30 (by lia) (by lia);obtain⟨J,rfl⟩: ∃J:Nat,p=J:=⟨p.toNat,by lia⟩
    obtain⟨y,V,ct⟩:=Pu h J;refine⟨z,h.take y,N.take y,P.take y,by rw[tL];lia,?_⟩;rw[pe hb] at Y;refine(uN Y).trans ((jc<|kJ (i:=6) (δ1:=[AV z b,ii lo,ii d,ii n,ii w,ii f,lv<|h.map cD,q]) (r:=(.lst<|(h.take y).map cD,YP)) ?_ (show 6<8 by decide)).trans AM);unfold CZ;rw[show jb 6 [AV j b,ii lo,ii d,ii n,ii w,ii f,lv<|h.map cD,q]=XV (.slot 6,[AV j b,ii lo,ii d,ii n,ii w,ii f,lv<|h.map cD,q]) from AM];simp only[jU];rw[jN<|e8 _ [ii lo,ii d,ii n,ii w,ii f,lv<|h.map cD,q] _ rfl rfl];simp only[jU,AF];rw[show res (AV z b::[ii lo,ii d,ii n,ii w,ii f,lv<|h.map cD,q]) (.slot 6)=XV (.lst<|h.map cD) from AM];simp only[jU];rw[show Nu X0 (XV (J:Int)) (.lst<|h.map cD)=XV (.lst<|PX.C4 (h.map cD) X0<|XV (J:Int),YP) from AM,ct];rfl
   .rw[mD hb] at Y;exact⟨j,h,N,P,by lia,(rE Y).trans AM⟩
  obtain⟨z,E,k1,k2,k3,last⟩:=last;refine⟨z,n,E,⟨G,k1,k2,k3⟩,by lia,by lia,?_⟩;refine lK (δ:=[AV z b,ii lo,ii d,ii n,ii w,ii f,lv<|E.map cD,q]) ⟨rfl,by decide,rfl⟩<|(pre _).trans ?_;refine(jc<|(rE (δ1:=[AV s b,ii lo,ii d,ii n,ii w,X0,X0,X0])<|by simp[hz]).trans AM).trans ?_;refine(jc (δ1:=[AV L b,ii lo,ii d,ii n,ii w,ii f,X0,X0]) ?_).trans ?_
  .refine kJ (i:=5) (δ1:=[AV L b,ii lo,ii d,ii n,ii w,X0,X0,X0]) ?_ (show 5<8 by decide)
   have em:jk Ue [AV s b,ii lo,ii d,ii n,ii w,X0,X0,X0]=XV (.val (.int m,ZB),[AV I b,ii lo,ii d,ii n,ii w,X0,X0,X0]):=
    jN (kW (o1:= .val (.lst<|U.map .int,YP)) (o2:= .val (.int u,ZB)) (jN (δ1:=[AV s b,ii lo,ii d,ii n,ii w,X0,X0,X0])<|by simp[U,jY]) (jN<|e3 _ [ii lo,ii d,ii n,ii w,X0,X0,X0] _ rfl rfl) AM AM<|Ya u0<|by simpa[U] using u1)
   have K:=e4 (λ_=>XV (.val (.int m,ZB),[AV I b,ii lo,ii d,ii n,ii w,X0,X0,X0])) [ii lo,ii d,ii n,ii w,X0,X0,X0] (.val (.int m,ZB)) AM AM
   have hf:kT [jb 0,jk Ue] [AV s b,ii lo,ii d,ii n,ii w,X0,X0,X0]=kT [jb 0,λ_=>XV (.val (.int m,ZB),[AV I b,ii lo,ii d,ii n,ii w,X0,X0,X0])] (AV I b::[ii lo,ii d,ii n,ii w,X0,X0,X0]):=by rw[qW (o1:= .slot 0) AM em];rfl
   exact(ace hf).trans K
  refine(jc<|kJ (i:=6) e5 (show 6<8 by decide)).trans ?_;refine(jc H).trans ?_;refine(jc<|kJ (i:=6) f1 (show 6<8 by decide)).trans ?_;refine(jc last).trans (kD<|mH ?_);simp[lu,jY]
noncomputable abbrev EY(a:List D):Dn:=a.map λd=>Y (d,U)
theorem xZ: ∀(os:List Bl) (a:List D),jB os (a.map λd=>(d,U))=[]
 |[],_=>by simp[jB]
 |_::_,[]=>by simp[jB]
 |o::os,d::a=>by cases o<;>simp[jB,xZ os a]
theorem Jk: ∀(os:List Bl) (b:List D) (a c:Dn),wb os (b.map λd=>(d,U)) a c=c
 |[],_,_,_=>by simp[wb]
 |_::_,[],_,_=>by simp[wb]
 |_::_,_::_,[],_=>by simp[wb]
 |o::os,d::b,x::xs,c=>by cases o<;>simp[wb,Jk os b xs]
def V8{f:F}{ti:FT}{g:D->D}{p:D->Bool}{pre:Dn}: ∀(l a:List D) (x:Sl),(∀d∈l,ti (pre++[Y (d,U)])=Y (p d,pre++[Y (d,U)])/\(p d=J-> ∃o,f (pre++[Y (d,U)])=Y ((g d,o),pre++[Y (d,U)])))->A7 a+A7 l<=sizeLine->
  ∃b,kY (ja<|A7 pre) ti (kZ f) l a (pre++[x])=Y (a++(l.filter p).map g,pre++[b]):=by
 intro r
 induction r with
 |nil=>intro a x _ _;exact⟨x,by simp[kY]⟩
 |cons d l m=>
  intro a x h j;obtain⟨h1,n⟩:=h d jW;have q:(A7 a)<sizeLine:=by simp at j;lia
  rw[kY,Ej];simp only[jU];rw[h1]
  cases k:p d with
  |false=>obtain⟨b,e⟩:=m a (Y (d,U)) (λc i=>h c<|jZ _ i) (by simp at j ⊢;lia);exact⟨b,by simp[e,k]⟩
  |true=>obtain⟨o,hd⟩:=n k;obtain⟨b,e⟩:=m (a++[g d]) (Y (d,U)) (λc i=>h c<|jZ _ i) (by simp at j ⊢;lia);refine⟨b,?_⟩;simp only[jU,kO,zV];rw[hd];simp only[jU];rw[jl q];simp only[jU];rw[e];simp[k]
def IQ{caps:kj}{fi:EV}{f:F}{ti:FT}{δ δ1:Dn}{l args:List D}(g:D->D)(p:D->Bool)(h1:fi δ=Y (l,δ1))(a:km δ1 (caps.map .slot)=Y (args.map λd=>(d,U)))(b:(A7 args)=A7 caps)
  (h: ∀d∈l,ti (EY args++[Y (d,U)])=Y (p d,EY args++[Y (d,U)])/\(p d=J-> ∃o,f (EY args++[Y (d,U)])=Y ((g d,o),EY args++[Y (d,U)])))(c:(A7 l)<=10000):
  ki caps 1 fi (ja<|A7 caps) ti (kZ f) δ=Y ((.lst<|(l.filter p).map g,J),δ1):=by
 obtain⟨i,e⟩:=V8 (f:=f) (ti:=ti) (g:=g) (p:=p) (pre:=EY args) l [] C h (by rw[jY];simp;lia);unfold ki;rw[h1];simp only[jU];rw[a];simp only[jU,xZ,nU,kO,kM,Jk];rw[show ja (A7 caps)=ja (EY args).length from by rw[kn,b]];rw[show((args.map<|Y∘λd=>(d,U))++am 1 C:Dn)=EY args++[C] from H,e];simp
def Bp{caps:kj}{fi:EV}{f:F}{δ δ1:Dn}{l args:List D}(g:D->D)(h1:fi δ=Y (l,δ1))(a:km δ1 (caps.map .slot)=Y (args.map λd=>(d,U)))(b:(A7 args)=A7 caps)
  (h: ∀d∈l,∃o,f (EY args++[Y (d,U)])=Y ((g d,o),EY args++[Y (d,U)]))(c:(A7 l)<=10000):
  ki caps 1 fi (ja<|A7 caps) kx (kZ f) δ=Y ((.lst<|l.map g,J),δ1):=by
 rw[IQ g (λ_=>J) h1 a b (λd hd=>⟨rfl,λ_=>h d hd⟩) c,Wi.mpr λ_ _=>rfl]
def Pw{caps:kj}{fi:EV}{f:F}{δ δ1:Dn}{l args:List D}(p:D->Bool)(h1:fi δ=Y (l,δ1))(a:km δ1 (caps.map .slot)=Y (args.map λd=>(d,U)))(b:(A7 args)=A7 caps)
  (h: ∀d∈l,∃o,f (EY args++[Y (d,U)])=Y ((.bl<|p d,o),EY args++[Y (d,U)]))(c:(A7 l)<=10000):
  jy (g1 ID) [jk<|ki caps 1 fi (ja<|A7 caps) kx<|kZ f] δ=Y ((.bl<|l.all p,U),δ1):=
 kX (wZ<|jN<|Bp (λd=> .bl (p d)) h1 a b h c) rfl (BG p l)
def aam{f:F}{c:EV}{g:D->D->D}{m:List D}(r: ∀d y,c [Y (d,U),y]=Y (m,[Y (d,U),y])): ∀(l a:List D) (x y:Sl),(∀d∈l,∀e∈m,∃o,f [Y (d,U),Y (e,U)]=Y ((g d e,o),[Y (d,U),Y (e,U)]))->A7 a+(A7 l)*(A7 m)<=sizeLine->
  ∃v b,kY (ja 0) kx (Fc c (ja 1) kx<|kZ f) l a [x,y]=Y (a++l.flatMap λd=>m.map<|g d,[v,b]):=by
 intro u
 induction u with
 |nil=>intro a x y _ _;exact⟨x,y,by simp[kY]⟩
 |cons d l t=>
  intro a x y h s;have A:(A7 a)+A7 m+(A7 l)*(A7 m)<=sizeLine:=by simp[gj] at s;omega
  obtain⟨b,j⟩:=Bu f (g d) [Y (d,U)] m a y (λe q=>h d jW e q) (by omega);obtain⟨x2,w,k⟩:=t (a++m.map (g d)) (Y (d,U)) b (λi n=>h i<|jZ _ n) (by simp;omega);refine⟨x2,w,?_⟩;rw[kY];rw[show ja 0 d [x,y]=Y [Y (d,U),y] from H];simp only[jU,vp,kO];unfold Fc;rw[r];simp only[jU];rw[show kY (ja 1) kx (kZ f) m a [Y (d,U),y]=_ from j];simp only[jU];rw[show kY (ja 0) kx (λa z=>(c z).bind λp=>kY (ja 1) kx (kZ f) p.1 a p.2) l (a++m.map (g d)) ([Y (d,U)]++[b])=_ from k];simp
def V0{fi fi2:EV}{f:F}{δ δ1:Dn}{l m:List D}(g:D->D->D)(h1:fi δ=Y (l,δ1))(a: ∀d y,fi2 [Y (d,U),y]=Y (m,[Y (d,U),y]))(h: ∀d∈l,∀e∈m,∃o,f [Y (d,U),Y (e,U)]=Y ((g d e,o),[Y (d,U),Y (e,U)]))(b:(A7 l)*(A7 m)<=10000):
  ki [] 2 fi (ja 0) kx (Fc fi2 (ja 1) kx<|kZ f) δ=Y ((.lst<|l.flatMap λd=>m.map<|g d,J),δ1):=by
 obtain⟨c,i,e⟩:=aam (f:=f) (g:=g) a l [] C C h (by rw[jY];simp;lia);unfold ki;rw[h1];simp only[jU,pL,yZ,jB,nU,kO,tD,fw,Af];rw[e];simp[wb]
def sV{tg:Tg}{fb:FS}(T:List D->Dn->Prop)(step: ∀d ds δ,T (d::ds) δ-> ∃δ1 δ2,tg d δ=Y δ1/\fb δ1=Y (.nx δ2)/\T ds δ2): ∀(ds:List D) (δ:Dn),T ds δ-> ∃a,T [] a/\ml tg fb ds δ=Y (.nx a):=by
 intro i
 induction i with
 |nil=>intro δ h;exact⟨δ,h,rfl⟩
 |cons d ds g=>intro δ h;obtain⟨δ1,δ2,h1,b,c⟩:=step d ds δ h;obtain⟨a,e,f⟩:=g δ2 c;refine⟨a,e,?_⟩;unfold ml;rw[h1];simp only[jU];rw[b];exact f
def Bg{caps:kj}{k:Nat}{fi:EV}{d:Tg}{ti:FT}{c:FB}{δ δ1 b:Dn}{l a:List D}{args:List (D×Bool)}(h1:fi δ=Y (l,δ1))(e:km δ1 (caps.map .slot)=Y args)(f:(jB (caps.map .slot) args).Nodup)(g:kY d ti c l [] (args.map Y++am k C)=Y (a,b)):
  ki caps k fi d ti c δ=Y ((.lst a,J),wb (caps.map .slot) args (jP args b) δ1):=by
 unfold ki;rw[h1];simp only[jU];rw[e];simp only[jU];rw[jl f,g];rfl
noncomputable def Qz:D->List D
 | .tup l=>l
 | .lst l=>l
 |_=>[]
noncomputable def MV(t:jh)(s:Int):Bool:=t.getD ((ab s).toNat-1) 0==(if s>0 then 1 else 0)
def aab(t:jh)(s:Int)(h:1<=ab s/\ab s<=A7 t):E9 (.tup<|t.map .int) (.int<|ab s-1)=ii (t.getD ((ab s).toNat-1) 0):=by
 have h1:0<=ab s-1:=by lia
 have b:ab s-1<((t.map D.int).length:Int):=by simp;lia
 have c:(ab s-1).toNat=(ab s).toNat-1:=by lia
 have d:(ab s).toNat-1<(A7 t):=by lia
 have a:HY (t.map D.int).length (ab s-1)=Y ((ab s).toNat-1):=by unfold HY;rw[jl h1,jl b,c]
 rw[kn] at a;simp[E9,J4,a,d]
def Xw(t:jh)(s:Int)(h:1<=ab s/\ab s<=A7 t):yj [enc t,pI s]=Y ((.bl<|MV t s,U),[eN t,ii s]):=by have:=aab t s h;unfold ab at this;by_cases a:s>0<;>simp[yj,Gn,BM,jP,this,a,MV,ab]
noncomputable def kb:Nat->List (List Int)
 |0=>[[]]
 |n+1=>(kb n).flatMap λt=>[t++[0],t++[1]]
theorem Dk: ∀n:Nat,(kb n).length=2^n
 |0=>rfl
 |n+1=>by
  rw[kb,List.length_flatMap,qI,<-Dk n];generalize kb n=L
  induction L with
  |nil=>rfl
  |cons t L a=>simp at a ⊢;lia
def BE: ∀{n:Nat} {t:jh},t∈kb n->A7 t=n/\ ∀x∈t,x=0\/x=1:=by
  intro e
  induction e with
  |zero=>intro t h;simp[kb] at h;simp[h]
  |succ n d=>
    intro t h;rw[kb,xm] at h;obtain⟨u,c,h⟩:=h;obtain⟨h1,b⟩:=d c;simp only[lz,lY,mX] at h
    rcases h with rfl|rfl<;>
      (refine⟨by simp[h1],λx a=>?_⟩
       rcases tM.mp a with a|a
       · exact b x a
       · simp at a;simp[a])
def PK{n:Nat}(a:n<=5):(kb n).length<=32:=by rw[Dk];exact yE (n:=2) (by decide) a
noncomputable abbrev LP:List D:=[.int 0,.int 1]
noncomputable def Jb(d e:D):D:= .tup (Qz d++[e])
def PQ(L:jS):(L.map cD).flatMap (λd=>LP.map<|Jb d)=(L.flatMap λt=>[t++[0],t++[1]]).map cD:=by simp[List.flatMap_map,List.map_flatMap,Jb,Qz,cD]
def Kl(t:jh)(a:(A7 t)<=100)(e:D):jx nQ (jb 0) Qb [Y (cD t,U),Y (e,U)]=Y ((Jb (cD t) e,U),[Y (cD t,U),Y (e,U)]):=by
 have:=jY;have h:(A7 t)<=16777215:=by lia
 simp[lu,this,nQ,Jb,Qz,h]
def C5(δ:Dn):Qi δ=Y (LP,δ):=by simp[jY]
abbrev fbA:FS:=zC6
def aaZ{n:Nat}(i:n<=5):qj [pI n]=Y ((.lst<|(kb n).map cD,J),[ii n]):=by
 let z:Sl:=ii n
 obtain⟨h,⟨j,x,a,rfl⟩,e⟩:=sV (tg:=ja 2) (fb:=fbA) (λds δ=> ∃j x,j+A7 ds=n/\δ=[z,Y (.lst<|(kb j).map cD,J),x]) (λd ds δ b=>by
  obtain⟨j,x,a,e⟩:=b;subst e
  have c:=V0 (fi:=kP<|lu 1) (fi2:=kP T3) (f:=jx nQ (jb 0) Qb) (δ:=[z,Y (.lst<|(kb j).map cD,J),Y (d,U)]) (δ1:=[z,Y (.lst<|(kb j).map cD,U),Y (d,U)]) (l:=(kb j).map cD) (m:=LP) Jb H (λd y=>C5 _) (λd hd e _=>by obtain⟨t,g,rfl⟩:=nC.mp hd;exact⟨U,Kl t (by have:=(BE g).1;simp at a;lia) e⟩) (by have:=PK (n:=j) (by lia);simp;lia)
  rw[PQ] at c;exact⟨_,_,rfl,(jc<|kJ c (show 1<3 by decide)).trans H,j+1,_,by simp at a;lia,rfl⟩) (jD 0 n) [z,Y (.lst<|(kb 0).map cD,J),C] ⟨0,C,by simp[jD],rfl⟩
 have:j=n:=by simpa using a
 subst this;exact lK (δ:=[z,C,x]) ⟨rfl,by decide,rfl⟩<|(jc (δ1:=[z,Y (.lst<|(kb 0).map cD,J),C]) H).trans<|(jc<|(lb<|qF (o:= .slot 0) H H<|by lia).trans e).trans<|kD H
abbrev VR:FS:=W6
abbrev Yv:FS:=ji HE<|ji (nh tV (ja 4) VR) Qe
def Sj(z x1 x2:Sl)(L:jS)(d:(A7 L)<=100)(t:jh)(b:(A7 t)<=100):VR [z,x1,x2,lv<|L.map cD,Y (cD t,U)]=Y (.nx [z,x1,x2,lv<|(L++[t++[0],t++[1]]).map cD,Y (cD t,U)]):=by
 have c:=Bp (caps:=[4]) (fi:=kP T3) (f:=jx nQ (jb 0) Qb) (δ:=[z,x1,x2,lv<|L.map cD,Y (cD t,U)]) (l:=LP) (args:=[cD t]) (Jb<|cD t) (C5 _) H H (λe _=>⟨U,Kl t b e⟩) (by simp);have h1:=jY;have a:(A7 L)+2<=16777216:=by lia
 refine(jc ?_).trans rfl;rw[QH];unfold Ac;simp only[tE,uA];rw[show ki [4] 1 Qi (ja 1) kx T8 [z,x1,x2,lv<|L.map cD,Y (cD t,U)]=_ from c];simp[h1,a,Jb,Qz,cD]
noncomputable abbrev ext(t:jh):List (List Int):=[t++[0],t++[1]]
def zO{n:Nat}(v:n<=5): ∃o,nA [pI n]=Y ((.lst<|(kb n).map cD,o),[ii n]):=by
 let z:Sl:=ii n
 obtain⟨l,⟨j,o,x2,x3,x4,f,rfl⟩,e⟩:=sV (tg:=ja 2) (fb:=Yv) (λb δ=> ∃j o x2 x3 x4,j+A7 b=n/\δ=[z,Y (.lst<|(kb j).map cD,o),x2,x3,x4]) (λd b δ h=>by
  obtain⟨j,o,x2,x3,x4,f,e⟩:=h;subst e;have i:j<=5:=by simp at f;lia
  have p:=PK i
  obtain⟨l,⟨a,jF,k,h1,c,rfl⟩,e⟩:=sV (tg:=ja 4) (fb:=VR) (λb δ=> ∃a jF k,a++jF=kb j/\b=jF.map cD/\δ=[z,Y (.lst<|(kb j).map cD,U),Y (d,U),lv<|(a.flatMap ext).map cD,k]) (λt b δ h=>by
   obtain⟨a,jF,k,h1,c,m⟩:=h;subst m
   cases jF with
   |nil=>cases c
   |cons u jF=>
    obtain⟨rfl,rfl⟩:=rV c;have r:u∈kb j:=by rw[<-h1];simp
    have hd:(A7 a)<=32:=by have:=nE dq h1;simp at this;lia
    refine⟨_,_,rfl,Sj z _ _ (a.flatMap ext) ?_ u (by have:=(BE r).1;lia),a++[u],jF,Y (cD u,U),by simp[<-h1],rfl,?_⟩
    .have: ∀L:List (List Int),(L.flatMap ext).length=2*(A7 L):=λL=>by
      induction L with
      |nil=>rfl
      |cons t L s=>simp at s ⊢;lia
     rw[this];lia
    .simp[List.flatMap_append]) ((kb j).map cD) [z,Y (.lst<|(kb j).map cD,U),Y (d,U),lv [],x4] ⟨[],kb j,x4,rfl,rfl,rfl⟩
  have q:jF=[]:=by simpa using c.symm
  subst q;rw[sf] at h1;subst h1;exact⟨_,_,rfl,(jc (δ1:=[z,Y (.lst<|(kb j).map cD,o),Y (d,U),lv [],x4]) H).trans<|(jc<|(lb<|mK (o:=U) H).trans e).trans H,j+1,U,_,_,_,by simp at f;lia,rfl⟩) (jD 0 n) [z,Y (.lst<|(kb 0).map cD,J),C,C,C] ⟨0,J,C,C,C,by simp[jD],rfl⟩
 have:j=n:=by simpa using f
 subst this
 have pre: ∀g,ji Qd (ji (nh (yc<|jb 0) (ja 2) Yv) g) [z,C,C,C,C]=g [z,Y (.lst<|(kb j).map cD,o),x2,x3,x4]:=λg=>(jc (δ1:=[z,Y (.lst<|(kb 0).map cD,J),C,C,C]) H).trans<|jc<|(lb<|qF (o:= .slot 0) H H<|by lia).trans e
 refine⟨o,?_⟩
 cases o with
 |true=>exact lK (δ:=[z,C,x2,x3,x4]) ⟨rfl,by decide,rfl⟩<|(pre _).trans<|kD H
 |false=>exact lK (δ:=[z,Y (.lst<|(kb j).map cD,U),x2,x3,x4]) ⟨rfl,by decide,rfl⟩<|(pre _).trans<|kD H
def CY(p:D->Bool)(L:jS):((L.map cD).filter p).map (λd=>d)=(L.filter λt=>p<|cD t).map cD:=by rw[vu,GL];rfl
def YI(x:Int)(c:jh):(c.map D.int).any (λd=>D.BC d<|.int x)=c.contains x:=by
 induction c with
 |nil=>rfl
 |cons y c a=>rw[kc,uC,a,List.contains_cons];simp[D.BC,yw,eq_comm]
def zY(x:Int)(c:jh):oT (.int x) (cD c)=Y (.bl (!c.contains x),U):=by
 have:inD (.int x) (cD c)=Y (c.contains x):=by show(if D.BJ (c.map .int)<=50/\(D.int x).dep<=50 then Y ((c.map D.int).any λd=>D.BC d<|.int x) else C)=_;rw[jl ⟨by rw[yn];lia,by simp[D.dep]⟩,YI]
 unfold oT;rw[this];rfl
def Yd(c:jh)(a:jS):MW (cD c) (.lst<|a.map cD)=Y (.bl<|decide<|c∈a,U):=by
 have h:=F3 c a;unfold oT at h;unfold MW
 cases d:inD (cD c) (.lst<|a.map cD) with
 |none=>rw[d] at h;cases h
 |some b=>rw[d] at h;simp at h ⊢;cases b<;>simp at h ⊢ <;>exact h
def OZ{d:D}(h:d.dep<=50):I9 d d=Y (.bl J,U):=by unfold I9;rw[jl ⟨h,h⟩,D.Gd]
def TT(n:Nat)(t:jh):Prop:=(t.map ab).Perm<|st n
def SG(n:Nat)(s:Int):Prop:=1<=ab s/\ab s<=n
def TT.len{n:Nat}{t:jh}(h:TT n t):(A7 t)=n:=by simpa using(Jz.mp h).1
def TT.sg{n:Nat}{t:jh}(h:TT n t){x:Int}(a:x∈t):SG n x:=(Jz.mp h).2.1 _ (rQ a)
def TT.tok{n:Nat}{t:jh}(h:TT n t):K5 n t:=⟨h.len,λx a=>h.sg a⟩
def Xy{n:Nat}{s:Int}(h:SG n s):s≠0:=by rintro rfl;have:=h.1;simp[ab] at this
def Uz{n:Nat}{s:Int}(h:SG n s):SG n (-s):=by unfold SG;rw[pK];exact h
def pU{n:Nat}{s:Int}(h:SG n s): ∃k:Nat,k<n/\(s=(k:Int)+1\/s= -((k:Int)+1)):=by
 have:=h;unfold SG ab at this;split at this
 .exact⟨(-s-1).toNat,by omega,.inr<|by omega⟩
 .exact⟨(s-1).toNat,by omega,.inl<|by omega⟩
def M8{n k:Nat}(h:k<n):SG n ((k:Int)+1):=by unfold SG;rw[tx<|by lia];lia
def mI(t:jh)(k:Nat):led t ((k:Int)+1)=t.getD k 0:=by unfold led;rw[jl<|by lia,show((k:Int)+1-1).toNat=k by lia]
def nJ(t:jh)(k:Nat):led t (-((k:Int)+1))= -t.getD k 0:=by unfold led;rw[jv<|by lia,show(- -((k:Int)+1)-1).toNat=k by lia]
def EI{n:Nat}(t:jh){s:Int}(h:SG n s):led t (-s)= -led t s:=by
 obtain⟨k,_,rfl|rfl⟩:=pU h
 .rw[mI,nJ]
 .rw[AT,mI,nJ,AT]
def Jc{n:Nat}{t:jh}(a:(A7 t)=n){s:Int}(h:SG n s):ab (led t s)=(t.map ab).getD ((ab s).toNat-1) 0:=by
 obtain⟨k,hk,rfl|rfl⟩:=pU h
 .rw[mI,tx (i:=(k:Int)+1)<|by lia,show(((k:Int)+1).toNat-1)=k by lia];simp[md,a,hk]
 .rw[nJ,pK,Fh<|by lia,show(((k:Int)+1).toNat-1)=k by lia];simp[md,a,hk]
def TT.led{n:Nat}{t:jh}(h:TT n t){s:Int}(a:SG n s):SG n (led t s):=Iq h.tok a.1 a.2
def EJ{n:Nat}{t:jh}(h:TT n t){s r:Int}(g:SG n s)(f:SG n r)(e:PV.led t s=PV.led t r):s=r:=by
 have k:=(Jz.mp h).2.2
 have c: ∀{i j:Nat},i<n->j<n->ab (t.getD i 0)=ab (t.getD j 0)->i=j:=λ{i j} a b e=>by
  have l:=h.len
  have:=(Eb (xs:=t.map ab) (i:=i) (j:=j) (h₀:=by simpa[l] using a) (h₁:=by simpa[l] using b) k).mp (by simp only[Am];simpa[md,l,a,b] using e)
  exact this
 have d: ∀{i:Nat},i<n->t.getD i 0≠0:=λ{i} a=>Xy<|h.sg<|lT (by rw[h.len];exact a);obtain⟨i,a,rfl|rfl⟩:=pU g<;>obtain⟨j,b,rfl|rfl⟩:=pU f
 .rw[mI,mI] at e;rw[c a b<|by rw[e]]
 .rw[mI,nJ] at e;have:=c a b (by rw[e,pK]);subst this;exact absurd (show t.getD i 0=0 by lia)<|d a
 .rw[mI,nJ] at e;have:=c a b (by rw[<-e,pK]);subst this;exact absurd (show t.getD i 0=0 by lia)<|d a
 .rw[nJ,nJ] at e;rw[c a b<|by rw[show t.getD i 0=t.getD j 0 by lia]]
def RN{n:Nat}{t u:jh}(h1:(A7 t)=n)(a:(A7 u)=n)(h: ∀s,SG n s->PV.led t s=PV.led u s):t=u:=by apply wA (by rw[h1,a]);intro i b c;have:=h _ (M8 (n:=n) (k:=i)<|by lia);rw[mI,mI] at this;simpa[md,b,c] using this
def M3(n:Nat):(st n).length=n:=by simp[st]
def BK(n:Nat)(t w:jh):Prop:=A7 w=n/\ ∀s,SG n s->PV.led w (PV.led t s)=s
def BK.tt{n:Nat}{t w:jh}(h:BK n t w)(f:TT n t):TT n w:=by
 refine(EG (st n) (w.map ab) (Ta n) (λx g=>?_)<|by simp[M3,h.1]).symm;have i:=P0.mp g;have c:SG n x:=by unfold SG;rw[tx<|by lia];lia
 have e:=h.2 x c;have a:=f.led c;have b:ab (PV.led w<|PV.led t x)=x:=by rw[e,tx<|by lia]
 rw[Jc h.1 a] at b;rw[<-b];have d:(ab<|PV.led t x).toNat-1<(w.map ab).length:=by have:=a.2;have:=a.1;rw[kn,h.1];lia
 exact lT d
def BK.sym{n:Nat}{t w:jh}(h:BK n t w)(b:TT n t):BK n w t:=by refine⟨b.len,λs a=>?_⟩;have c:=h.tt b;exact EJ c (b.led<|c.led a) a<|h.2 _ (c.led a)
noncomputable def lc(t c:jh):List Int:=(nF K0<|(c.map<|led t).map D.int).map F6
def Ms(t c d:jh):Prop:=d.Perm (c.map<|led t)/\(d.map ab).Pairwise (· < ·)
def Gi{m:List D}{l:jh}(h:m.Perm (l.map D.int)):m=(m.map F6).map D.int/\(m.map F6).Perm l:=by
 obtain⟨k,rfl⟩:=yd h;have e:(k.map D.int).map F6=k:=by rw[kM];exact uy k
 rw[e];refine⟨rfl,?_⟩;have:=h.map F6
 rwa [e,kM,show cN (F6∘D.int) l=l from uy l] at this
def Dl{n:Nat}{t c:jh}(g:TT n t)(h1:(c.map ab).Nodup)(f: ∀s∈c,SG n s):((c.map<|led t).map ab).Nodup:=by
 rw[kM,k8,ue];rw[k8,ue] at h1;refine h1.imp_of_mem λ{a b} j k i e=>i ?_;have e:ab (led t a)=ab (led t b):=e;have h:=f a j;have d:=f b k;by_cases q:led t a=led t b
 .rw[EJ g h d q]
 .have:led t a=led t (-b):=by rw[EI t d];unfold ab at e;split at e<;>split at e<;>lia
  rw[EJ g h (Uz d) this,pK]
def RO{n:Nat}{t c:jh}(j:TT n t)(g:BV n c):Ms t c (lc t c)/\(nF K0<|(c.map<|led t).map D.int)=(lc t c).map D.int:=by
 obtain⟨e,i⟩:=Gi<|la K0<|(c.map<|led t).map D.int;refine⟨⟨i,?_⟩,e⟩;have k:=Dl j (Jx g.2.1) λs d=>g.2.2 s d;have f:((lc t c).map ab).Nodup:=(i.map ab).symm.nodup k;have d:=Cu<|(c.map<|led t).map D.int;rw[e,ue] at d;rw[ue];rw[k8,ue] at f;refine(d.and f).imp λ{a b} h=>?_;have h1:ab a<=ab b:=h.1;have l:ab a≠ab b:=h.2
 lia
def Ms.uniq{n:Nat}{t c d e:jh}(h1:Ms t c d)(f:Ms t c e):d=e:=by have g:=h1.2;have h:=f.2;rw[ue] at g h;refine(h1.1.trans f.1.symm).eq_of_pairwise (le:=λa b=>ab a<ab b) (λa b _ _ x y=>absurd x<|by lia) g h
def Ko(n:Nat)(a:jh):Prop:=A7 a=n/\ ∀x∈a,x=0\/x=1
def TR: ∀{n:Nat} {a:jh},a∈kb n↔Ko n a:=λ{n a}=>by
 constructor
 .exact λh=>BE h
 .intro h
  induction n generalizing a with
  |zero=>rw[SU.mp h.1];simp[kb]
  |succ n f=>
   have b:a≠[]:=λe=>by have:=h.1;rw[e] at this;simp at this
   have e:=LQ b;have c:=h.2 _ (List.getLast_mem b);have:=f (a:=a.dropLast) ⟨by rw[List.length_dropLast,h.1];rfl,λx d=>h.2 x<|List.dropLast_subset _ d⟩;simp only[kb,xm];refine⟨a.dropLast,this,?_⟩;rcases c with z|z
   .rw[z] at e;rw[e];simp
   .rw[z] at e;rw[e];simp
noncomputable def Kx(w a:jh):List Int:=w.map λs=>if MV a s=J then 1 else 0
def Vy{n:Nat}{w:jh}(b:TT n w)(a:jh):Ko n (Kx w a):=by refine⟨by simp[Kx,b.len],λx c=>?_⟩;obtain⟨s,_,rfl⟩:=nC.mp c;split<;>simp
def RJ(b:FO)(a:Dn)(d:D):Prop:= ∃o,b a=Y (o,a)/\res a o=Y d
def FJ(b:FO)(a:Dn)(d:D):Prop:= ∃o,b a=Y (o,a)/\res a o=Y d/\zK a o=Y (d,U)
def FJ.r{c:FO}{δ:Dn}{d:D}(h:FJ c δ d):RJ c δ d:=let⟨o,a,b,_⟩:=h;⟨o,a,b⟩
def jV{i:Nat}{δ:Dn}{d:D}(h:δ[i]?=Y (Y (d,U))):FJ (jb i) δ d:=⟨.slot i,by unfold jb;rw[h],by unfold res;simp[h],by simp[h]⟩
def jR{i:Nat}{δ:Dn}{d:D}{b:Bool}(h:δ[i]?=Y (Y (d,b))):RJ (jb i) δ d:=⟨.slot i,by unfold jb;rw[h],by unfold res;simp[h]⟩
def jE{f:F}{δ:Dn}{d:D}{b:Bool}(h:f δ=Y ((d,b),δ)):FJ (jk f) δ d:=⟨.val (d,b),jN h,rfl,rfl⟩
def Lq{c:BP}{e:FO}{δ:Dn}{a:D}{r:D×Bool}{b:Dn}(h:c [(a,U)]=Y (r,b))(g:FJ e δ a):jI c [e] δ=Y (r,δ):=by obtain⟨o,h1,_,f⟩:=g;refine(mn (wZ h1) (args:=[a].map λd=>(d,U)) (by simp[f]) (by rw[xZ];exact nU) h).trans ?_;rw[Jk]
def K7{c:BP}{e f:FO}{δ:Dn}{a b:D}{r:D×Bool}{outs:Dn}(h:c [(a,U),(b,U)]=Y (r,outs))(i:FJ e δ a)(j:FJ f δ b):jI c [e,f] δ=Y (r,δ):=by obtain⟨o,h1,_,g⟩:=i;obtain⟨m,k,_,l⟩:=j;refine(mn (qW h1 k) (args:=[a,b].map λd=>(d,U)) (by simp[g,l]) (by rw[xZ];exact nU) h).trans ?_;rw[Jk]
def jO{g:D->D->Option (D×Bool)}{c d:FO}{δ:Dn}{a b:D}{r:D×Bool}(h:g a b=Y r)(f:RJ c δ a)(i:RJ d δ b):jx g c d δ=Y (r,δ):=by obtain⟨o,h1,e⟩:=f;obtain⟨l,j,k⟩:=i;exact kW h1 j e k h
def jC{g:D->Option (D×Bool)}{b:FO}{δ:Dn}{a:D}{r:D×Bool}(h:g a=Y r)(d:RJ b δ a):jy (g1 g) [b] δ=Y (r,δ):=by obtain⟨o,h1,c⟩:=d;exact kX (ds:=[a]) (wZ h1) (by simp[c]) h
def HW{f:F}{np:Nat}{args:List (D×Bool)}{r:D×Bool}{δ:Dn}(h1:(A7 args)=np/\np<=np/\(args.zipIdx.all λp=>!(p.1.2&&([]:List Nat).contains p.2))=J)(a:f (args.map Y++am (np-np) C)=Y (r,δ)):BM np np [] (ji (lZ f) jG) args=Y (r,jP args δ):=
 lK h1 (kD<|mH a)
def Xz{n:Nat}{s:Int}(h:SG n s):s≠0/\ -(n:Int)<=s/\s<=n:=by obtain⟨k,hk,rfl|rfl⟩:=pU h<;>lia
def Z9{n:Nat}{u:jh}(d:(A7 u)=n){s:Int}(h:SG n s):oH [enc u,pI s]=Y ((.int<|led u s,U),[eN u,ii s]):=by obtain⟨a,b,c⟩:=Xz h;exact Vw u s a (by rw[d];exact b) (by rw[d];exact c)
def Oj(f:Int->Int)(l:jh):(l.map D.int).map (λd=>D.int<|f<|F6 d)=(l.map f).map D.int:=by rw[kM,kM];rfl
def C6{a:kj}{fi:EV}{f:F}{δ b:Dn}{l:jh}{args:List D}(g:Int->Int)(h1:fi δ=Y (l.map D.int,b))(c:km b (a.map .slot)=Y (args.map λd=>(d,U)))(e:(A7 args)=A7 a)
  (h: ∀x∈l,∃o,f (EY args++[ii x])=Y ((.int<|g x,o),EY args++[ii x]))(i:(A7 l)<=10000):
  ki a 1 fi (ja<|A7 a) kx (kZ f) δ=Y ((.lst<|(l.map g).map D.int,J),b):=by
 rw[Bp (λd=> .int (g<|F6 d)) h1 c e (λd hd=>by obtain⟨x,j,rfl⟩:=nC.mp hd;exact h x j)<|by simpa using i,Oj]
def abL{n:Nat}(b:n<=5){t:jh}(a:TT n t):lN [pI n,enc t]=Y ((.bl J,U),[ii n,eN t]):=by
 have h:tB n (cD t)=J:=by rw[Xr];simp only[lB,mP,mZ,sd,kM];refine⟨λd hd=>?_,a⟩;obtain⟨x,_,rfl⟩:=nC.mp hd;rfl
 rw[aaU n (cD t) (λl e=>by cases e;rw[kn,a.len];lia),h]
def Px{n:Nat}(a:n<=5){t:jh}(b:TT n t):mM [pI n,enc t]=Y ((.Ax,U),[ii n,eN t]):=by
 have:F7 WB (ji HS jG) jG [ii n,eN t]=Y (.nx [ii n,eN t]):=
  (rE<|Gs<|mq<|K7 (abL a b) (jV H)<|jV H).trans rfl
 have e:ot [ii n,eN t]=Y (.nx [ii n,eN t]):=(jc this).trans H;simp only[mM,BM];rw[jl ⟨rfl,by decide,rfl⟩];show(match ot [ii n,Y<|enc t] with|some (.rt r δ)=>Y (r,jP _ δ)|some (.nx δ)=>Y ((D.Ax,U),jP _ δ)|_=>C)=_;rw[e];rfl
noncomputable def Ld(t:jh)(j:Nat):Int:=if t.getD j 0>0 then(j:Int)+1 else -((j:Int)+1)
def NU(n:Nat)(t:jh)(k:Nat)(w:jh):Prop:=A7 w=n/\ ∀j,j<k->w.getD ((ab<|t.getD j 0).toNat-1) 0=Ld t j
def OJ{n:Nat}{t w:jh}(a:TT n t)(h:NU n t n w):BK n t w:=by
 refine⟨h.1,λs g=>?_⟩
 have one: ∀j,j<n->led w (t.getD j 0)=(j:Int)+1:=λj b=>by
  have c:=a.sg<|lT (l:=t) (k:=j) (by rw[a.len];exact b);have e:=h.2 j b;unfold Ld at e;unfold led;unfold SG at c;by_cases d:t.getD j 0>0
  .rw[jl d] at e ⊢;rw[tx<|by lia] at e;rw[show(t.getD j 0-1).toNat=(t.getD j 0).toNat-1 by lia,e]
  .have f:ab (t.getD j 0)= -t.getD j 0:=by unfold ab;split<;>lia
   rw[jv d] at e ⊢;rw[f] at e c;rw[show(-t.getD j 0-1).toNat=(-t.getD j 0).toNat-1 by lia,e]
   lia
 obtain⟨k,hk,rfl|rfl⟩:=pU g
 .rw[mI];exact one k hk
 .rw[EI t<|M8 hk,EI w<|a.led<|M8 hk,mI,one k hk]
def OI{n:Nat}{t w:jh}(a:TT n t){k:Nat}(hk:k<n)(h:NU n t k w):NU n t (k+1) (w.set ((ab<|t.getD k 0).toNat-1)<|Ld t k):=by
 have b: ∀j,j<n->1<=ab (t.getD j 0)/\ab (t.getD j 0)<=n:=λj c=>a.sg<|lT (l:=t) (k:=j) (by rw[a.len];exact c);refine⟨by simp[h.1],λj c=>?_⟩;have d:=b k hk;have f:=b j (by lia);by_cases e:j=k
 .subst e;rw[md,ux<|by rw[h.1];lia];rfl
 .have ne:ab (t.getD j 0)≠ab (t.getD k 0):=λq=>e (by
   have l:=a.len
   have:=(Eb (xs:=t.map ab) (i:=j) (j:=k) (h₀:=by simp[l];lia) (h₁:=by simp[l];lia) (Jz.mp a).2.2).mp (by simp only[Am];simpa[md,l,hk,show j<n by lia] using q)
   exact this)
  rw[md,mQ<|by lia,<-md];exact h.2 j (by lia)
abbrev fbB:FS:=zC8
def VT{n:Nat}{t w:jh}(c:TT n t){k:Nat}(hk:k<n)(f:(A7 w)=n):fbB [eN t,BL w,ii<|(k:Int)+1,ii<|t.getD k 0]=Y (.nx [eN t,BL<|w.set ((ab<|t.getD k 0).toNat-1)<|Ld t k,ii<|(k:Int)+1,ii<|t.getD k 0]):=by
 have b:=c.sg<|lT (l:=t) (k:=k) (by rw[c.len];exact hk)
 have d:LI (fT Ws) (lu 2) (ou zR<|jb 2) [eN t,BL w,ii<|(k:Int)+1,ii<|t.getD k 0]=Y ((.int<|Ld t k,U),[eN t,BL w,ii<|(k:Int)+1,ii<|t.getD k 0]):=by
  rw[Te,mq (o:=U)<|jO (Nq _ _) (jV H).r (jE H).r];simp only[jU];unfold Ld;by_cases a:t.getD k 0>0
  .rw[jl<|by simpa using a,jl a];rfl
  .rw[jv<|by simpa using a,jv a];rfl
 have e:jk WK [eN t,BL w,ii<|(k:Int)+1,ii<|t.getD k 0]=Y (.val (.int<|ab (t.getD k 0)-1,U),[eN t,BL w,ii<|(k:Int)+1,ii<|t.getD k 0]):=rfl
 have g:HY (w.map D.int).length (ab (t.getD k 0)-1)=Y ((ab<|t.getD k 0).toNat-1):=by
  have:=b.1;have:=b.2;unfold HY;rw[kn,f,jl<|by lia,jl<|by lia]
  congr 1;lia
 refine(jc (δ1:=[eN t,BL<|w.set ((ab<|t.getD k 0).toNat-1)<|Ld t k,ii<|(k:Int)+1,ii<|t.getD k 0]) ?_).trans rfl;unfold qT;rw[d];simp only[jU,tE,uA];rw[e];simp only[jU,AF,tE,uA];rw[g];simp[BL,vr]
def Yq{n:Nat}{t:jh}(f:TT n t): ∀(m k:Nat) (w:jh) (x y:Sl),k+m=n->NU n t k w-> ∃b c d,NU n t n b/\ml Qf fbB ((bw k m).map λ(j:Nat)=> .tup [.int<|(j:Int)+1,.int<|t.getD j 0]) [eN t,BL w,x,y]=Y (.nx [eN t,BL b,c,d]):=by
 intro i
 induction i with
 |zero=>intro k w x y h a;exact⟨w,x,y,by rw[show k=n by lia] at a;exact a,rfl⟩
 |succ m g=>intro k w x y h a;obtain⟨b,c,d,h1,e⟩:=g (k+1) _ (ii<|(k:Int)+1) (ii<|t.getD k 0) (by lia) (OI f (by lia) a);refine⟨b,c,d,h1,?_⟩;rw[wu,kc];unfold ml;rw[show Qf (.tup [.int<|(k:Int)+1,.int<|t.getD k 0]) [eN t,BL w,x,y]=Y [eN t,BL w,ii<|(k:Int)+1,ii<|t.getD k 0] from H];simp only[jU];rw[VT f (by lia) a.1];exact e
def VX(t:jh):(((t.map D.int).zipIdx).map λq=>D.tup [.int (1+q.2),q.1])=(bw 0<|A7 t).map λ(j:Nat)=> .tup [.int<|(j:Int)+1,.int<|t.getD j 0]:=by
 apply wA
 .simp
 .intro i h1 b;have a:i<(A7 t):=by simpa using h1
  simp[md,a,Int.add_comm]
def Ki{n:Nat}{t:jh}(b:TT n t): ∃w,BK n t w/\yk [enc t]=Y (enc w,[eN t]):=by
 obtain⟨w,x,y,h,e⟩:=Yq b n 0 t C C (by lia) ⟨b.len,λj c=>absurd c<|by lia⟩;refine⟨w,OJ b h,?_⟩;refine lK (δ:=[eN t,BL w,x,y]) ⟨rfl,by decide,rfl⟩ ?_;refine(jc (δ1:=[eN t,BL t,C,C]) H).trans ((jc<|(lb (δ1:=[eN t,BL t,C,C]) (ds:=(bw 0 n).map λ(j:Nat)=> .tup [.int<|(j:Int)+1,.int<|t.getD j 0]) ?_).trans e).trans ?_)
 .show Y (((t.map D.int).zipIdx).map λq=>D.tup [.int (1+q.2),q.1],([eN t,BL t,C,C]:Dn))=_;rw[VX,b.len]
 .exact kD (mH<|jC (a:= .lst (w.map D.int)) H<|jR H)
def BK.uniq{n:Nat}{t w v:jh}(c:TT n t)(h1:BK n t w)(a:BK n t v):w=v:=
 RN h1.1 a.1 λs b=>by have e:=(h1.sym c).2 s b;have:=a.2 _ ((h1.tt c).led b);rw[e] at this;exact this.symm
def SD{n:Nat}{t w:jh}(a:TT n t)(b:BK n t w):yk [enc t]=Y (enc w,[eN t]):=by obtain⟨v,h1,e⟩:=Ki a;rw[b.uniq a h1];exact e
def X6{n:Nat}{t:jh}(h:(A7 t)=n):uT (cD t)=ii n:=by rw[UK,kn,h]
def Sv{caps:kj}{b:EV}{f:F}{δ a:Dn}{l:jS}{args:List D}(g:List Int->List Int)(h1:b δ=Y (l.map cD,a))(c:km a (caps.map .slot)=Y (args.map λd=>(d,U)))(e:(A7 args)=A7 caps)
  (h: ∀x∈l,∃o,f (EY args++[Y (cD x,U)])=Y ((cD<|g x,o),EY args++[Y (cD x,U)]))(i:(A7 l)<=10000):
  ki caps 1 b (ja<|A7 caps) kx (kZ f) δ=Y ((.lst<|(l.map g).map cD,J),a):=by
 rw[Bp (λd=>cD<|g<|KN d) h1 c e (λd hd=>by obtain⟨x,j,rfl⟩:=nC.mp hd;rw[oN];exact h x j)<|by simpa using i];rw[kM,kM,qr (g:=cD∘g) λx _=>by simp only[bG,oN]]
def RL{n:Nat}(g:n<=5){t w a:jh}(c:TT n t)(e:BK n t w)(d:Ko n a):oE [enc a,enc t]=Y (enc<|Kx w a,[eN a,eN t]):=by
 have f:=e.tt c;refine lK (δ:=[eN a,eN t]) ⟨rfl,by decide,rfl⟩ ?_;refine(jc<|pX<|K7 (Px g c) (jE<|jC (X6 d.1) (jV H).r)<|jV H).trans (kD<|mH<|jC (a:= .lst ((Kx w a).map D.int)) H (jE (b:=J)<|C6 (args:=[cD a]) (λs=>if MV a s=J then 1 else 0) (fi:=kP<|jI yk [jb 1]) (l:=w) ?_ H H (λx h=>⟨U,?_⟩)<|by rw[f.len];lia).r)
 .rw[Jv,Lq (SD c e)<|jV H];rfl
 .rw[Te,mq<|K7 (Xw a x (by have:=f.sg h;rw[d.1];exact this)) (jV H)<|jV H];cases MV a x<;>rfl
def acQ(n:Nat):jD 1 n=(bw 1 n).map λ(k:Nat)=>D.int (k:Int):=by unfold jD;rw[LR,kM];exact qr λk _=>by simp
noncomputable def dC(cs:jS):D:= .B8 .dct (cs.map cD) (cs.map λ_=> .bl J)
theorem CP: ∀l:List Int,(BY<|l.map .int).isSome=J
 |[]=>rfl
 |x::l=>by
  have:=CP l;simp only[kc,BY,uR]
  cases h:BY (l.map D.int) with
  |none=>rw[h] at this;cases this
  |some k=>rfl
def JU(c:jh):(zP<|cD c).isSome=J:=CP c
def RY(a:jS):((a.map cD).all λk=>(zP k).isSome)=J:=by rw[mZ];intro d hd;obtain⟨c,_,rfl⟩:=nC.mp hd;exact JU c
def Gf(a:jS)(c:jh):rN (a.map cD) (cD c)=J:=by unfold rN;rw[JU,RY];simp
theorem Ng(c:jh): ∀a:List (List Int),rF (a.map cD) (a.map λ_=> .bl J) (cD c) (.bl J)=a.map λ_=> .bl J
 |[]=>rfl
 |x::a=>by simp[rF,Ng c a]
def UX(a:jS)(c:jh):D.B8 .dct (sG (a.map cD) (a.map λ_=> .bl J) (cD c)<|.bl J).1 (sG (a.map cD) (a.map λ_=> .bl J) (cD c)<|.bl J).2=dC (oK a c):=by
 unfold sG oK dC;rw[Fe];by_cases h:c∈a
 .rw[jl<|by simpa using h,jl h,Ng]
 .rw[jv<|by simpa using h,jv h];simp
theorem JM(c:jh): ∀a:List (List Int),(lU (a.map cD) (a.map λ_=> .bl J)<|cD c).isSome=decide (c∈a)
 |[]=>rfl
 |x::a=>by
  simp only[kc,lU,Pn];by_cases h:x=c
  .simp[h]
  .have: ¬c=x:=λe=>h e.symm;simp[h,this,JM c a]
def So{i:Nat}{f:F}{g:FO}{d a δ2:Dn}{o:Bl}{x:D×Bool}{b:Bool}{cs:jS}{c:jh}(h1:f d=Y ((.bl J,b),a))(e:a[i]?=Y (Y x))(h:g a=Y (o,δ2))(j:res δ2 o=Y (cD c))(k:δ2[i]?=Y (Y (dC cs,J)))(l:(A7 cs)<10000):Cy i f g d=Y (.nx<|δ2.set i<|Y (dC<|oK cs c,J)):=by unfold Cy;rw[h1];simp only[jU];rw[e];simp only[];rw[h];simp only[jU];rw[j,k];unfold dC;simp only[];rw[jl ⟨Gf cs c,by simpa using l⟩,UX];rfl
def no{t:FT}{f:FS}{δ:Dn}(g:FS)(h:t δ=Y (U,δ)):ji (F7 t f jG) g δ=g δ:=jc<|(rE h).trans H
def YJ(a:BP)(d:D):Prop:= ∀b c,a [(d,b),(d,c)]=Y ((.bl J,U),[Y (d,b),Y (d,c)])
def PT(n m:Nat)(p:jh):Prop:=A7 p=m/\(∀x∈p,SG n x)/\(p.map ab).Nodup
def PT.tt{n:Nat}{t:jh}(h:PT n n t):TT n t:=Jz.mpr ⟨by simp[h.1],λx a=>by obtain⟨y,b,rfl⟩:=nC.mp a;exact h.2.1 y b,h.2.2⟩
def Vq{n m:Nat}{p c:jh}(h:PT n m p)(d:BV m c):((c.map<|led p).map ab).Nodup:=by
 rw[kM];have f:=Jx d.2.1;rw[List.nodup_iff_pairwise_ne] at f ⊢;rw[ue] at f ⊢;refine xn ?_ f;intro a b g i l e;simp only[bG] at e;rw[Jc h.1<|d.2.2 a g,Jc h.1<|d.2.2 b i] at e;have h1:=d.2.2 a g;have o:=d.2.2 b i;have j:(ab a).toNat-1<(p.map ab).length:=by simp[h.1];lia
 have k:(ab b).toNat-1<(p.map ab).length:=by simp[h.1];lia
 simp only[md,kK j,kK k,fO] at e;have:=(Eb h.2.2).mp e
 lia
def RP(p c:jh):nF K0 ((c.map<|led p).map D.int)=(lc p c).map D.int:=(Gi<|la K0 _).1
def Vv{n m:Nat}(l:m<=5){p c:jh}(h:PT n m p)(e:BV m c):qY [enc c,enc p]=Y (enc<|lc p c,[eN c,eN p]):=by
 have k:=e.len
 have i:zh (.lst<|(c.map<|led p).map D.int)=Y (.lst<|(lc p c).map D.int,J):=by
  show(if((c.map<|led p).map D.int).all NJ=J/\(((c.map<|led p).map D.int).map aD).Nodup/\((c.map<|led p).map D.int).length<64 then Y (D.lst<|nF K0<|(c.map<|led p).map D.int,J) else C)=_
  have f:((c.map<|led p).map D.int).all NJ=J:=by rw[mZ];intro d hd;obtain⟨x,_,rfl⟩:=nC.mp hd;rfl
  have g:(((c.map<|led p).map D.int).map aD).Nodup:=by rw[kM];exact Vq h e
  rw[jl ⟨f,g,by simp;lia⟩,RP]
 refine HW ⟨rfl,by decide,rfl⟩<|jC (a:= .lst ((lc p c).map D.int)) H (jE (b:=J)<|jC i (jE (b:=J)<|C6 (args:=[cD p]) (led p) H H H (λx j=>⟨U,?_⟩)<|by lia).r).r;exact K7 (Z9 h.1<|e.2.2 x j) (jV H)<|jV H
def RM{m:Nat}{p:jh}(a:(A7 p)=m)(r:jh){s:Int}(h:SG m s):led (p++r) s=led p s:=by
 obtain⟨k,hk,rfl|rfl⟩:=pU h
 .rw[mI,mI];simp[md,qw (show k<(A7 p) by lia)]
 .rw[nJ,nJ];simp[md,qw (show k<(A7 p) by lia)]
def Vx{m:Nat}{p c:jh}(b:(A7 p)=m)(r:jh)(a:BV m c):lc (p++r) c=lc p c:=by unfold lc;rw[qr λs d=>RM b r<|a.2.2 s d]
noncomputable def KQ(n:Nat):List Int:=((au (2*n+1)).map λ(k:Nat)=> -(n:Int)+k).filter λs=>!(s==0)
noncomputable def Lh(n:Nat)(t:jh):List Int:=(KQ n).filter λs=>!t.contains s&&!t.contains (-s)
noncomputable def IZ(n:Nat)(L:jS):List (List Int):=L.flatMap λt=>(Lh n t).map λs=>t++[s]
noncomputable def mO(n:Nat):Nat->List (List Int)
 |0=>[[]]
 |m+1=>IZ n<|mO n m
def Xx{n:Nat}{s:Int}:s∈KQ n↔SG n s:=by
 unfold KQ SG;simp only[Fs,nC,xi];constructor
 .rintro⟨⟨k,hk,rfl⟩,b⟩;unfold ab;simp at b;split<;>lia
 .rintro⟨h1,a⟩;unfold ab at h1 a;refine⟨⟨(s+n).toNat,by split at a<;>lia,by split at a<;>lia⟩,by simp;split at h1<;>lia⟩
def rP{n:Nat}: ∀{m:Nat} {t:jh},t∈mO n m->PT n m t:=by
 intro r
 induction r with
 |zero=>intro t h;simp[mO] at h;subst h;exact⟨rfl,λx c=>by simp at c,nU⟩
 |succ m q=>
  intro t h;simp only[mO,IZ,xm,nC] at h;obtain⟨p,o,s,d,rfl⟩:=h;obtain⟨h1,j,k⟩:=q o;unfold Lh at d;simp only[Fs,mP,fU,List.contains_eq_mem,decide_eq_false_iff_not] at d;obtain⟨d,f,g⟩:=d;have sg:=Xx.mp d;refine⟨by simp[h1],λx c=>?_,?_⟩
  .rcases tM.mp c with c|c
   .exact j x c
   .simp at c;subst c;exact sg
  .rw[oX,Ae];refine⟨k,by simp,λa l b i e=>?_⟩;simp at i;subst i;subst e;obtain⟨x,c,e⟩:=nC.mp l;unfold ab at e;have:x=s\/x= -s:=by split at e<;>split at e<;>lia
   rcases this with rfl|rfl
   .exact f c
   .exact g c
def yy: ∀n,n<6-> ∀m,m<6->(mO n m).length<=3840:=by decide+kernel
def VD{f g:FO}{δ δ1 δ2:Dn}{o1 o2:Bl}{i j:Int}(h1:f δ=Y (o1,δ1))(a:g δ1=Y (o2,δ2))(b:res δ2 o1=Y (.int i))(c:res δ2 o2=Y (.int j))(d: -1000<=i/\i<=1000)(e: -1000<=j/\j<=1000):A0 f g δ=Y (jD i (j-i).toNat,δ2):=by unfold A0;rw[qW h1 a];simp only[jU,vJ,b,c];rw[jl<|by lia]
def abS{n:Nat}(b:n<=5):pF [pI n]=Y ((.lst<|(KQ n).map .int,J),[ii n]):=by
 have e:=IQ (caps:=[]) (fi:=A0 Qc Qj) (f:=lu 0) (ti:=fT<|jx LH (jb 0) yU) (δ:=[ii n]) (δ1:=[ii n]) (l:=jD (-(n:Int)) (2*n+1)) (args:=[]) (λd=>d) (λd=>!(F6 d==0)) ?_ H H (λd hd=>?_) (by simp[jD];lia)
 .have a:((jD (-(n:Int)) (2*n+1)).filter λd=>!(F6 d==0)).map (λd=>d)=(KQ n).map .int:=by rw[vu];unfold jD KQ;rw[show(λ(k:Nat)=>D.int (-(n:Int)+k))=D.int∘(λ(k:Nat)=> -(n:Int)+k) from H,<-kM,GL];rfl
  rw[a] at e;exact HW ⟨rfl,by decide,rfl⟩ e
 .rw[VD (o1:= .val (.int (-n),U)) (o2:= .val (.int<|n+1,U)) (δ1:=[ii n]) (δ2:=[ii n]) H H H H (by lia)<|by lia,show((n:Int)+1- -n).toNat=2*n+1 by lia]
 .obtain⟨k,_,rfl⟩:=nC.mp hd;exact⟨by simp[F6],λ_=>⟨U,rfl⟩⟩
abbrev N6:FT:=zF (fT TZ) Ua
abbrev fE:F:=Wq
def Uq(n:Nat)(t:jh)(s:Int):N6 [ii n,eN t,ii s]=Y (!t.contains s&&!t.contains (-s),[ii n,eN t,ii s]):=by
 have h1:fT TZ [ii n,eN t,ii s]=Y (!t.contains s,[ii n,eN t,ii s]):=mq<|jO (zY s t) (jV H).r (jV H).r;have a:Ua [ii n,eN t,ii s]=Y (!t.contains (-s),[ii n,eN t,ii s]):=mq<|jO (zY (-s) t) (jE (b:=U) H).r (jV H).r;unfold N6 zF;rw[h1];simp only[jU];cases t.contains s
 .simp only[Ag,kO,fF];exact a
 .rfl
def Yy(n:Nat)(t:jh)(a:(A7 t)<=100)(s:Int):fE [ii n,eN t,ii s]=Y ((cD<|t++[s],U),[ii n,eN t,ii s]):=by refine jO (b:= .tup [.int s]) ?_ (jV H).r (jE (b:=U)<|by simp[jY,lu]).r;show nQ (.tup<|t.map .int) (.tup [.int s])=_;simp only[nQ];rw[jl<|Er<|by simp;lia,<-kS,<-oX]
theorem PD{n:Nat}(e:n<=5): ∀(L:jS) (a:List D) (x y:Sl),(∀t∈L,A7 t<=100)->A7 a+10*(A7 L)<=sizeLine->
  ∃u b,kY (ja 1) kx (Fc (kP<|jI pF [jb 0]) (ja 2) N6<|kZ fE) (L.map cD) a [ii n,x,y]=Y (a++(IZ n L).map cD,[ii n,u,b])
 |[],a,x,y,_,_=>⟨x,y,by simp[kY,IZ]⟩
 |t::L,a,x,y,h,o=>by
  have q:(KQ n).length<=10:=by have:=yz (λs:Int=>!(s==0))<|(au (2*n+1)).map λ(k:Nat)=> -(n:Int)+k;rcases(show n=0\/n=1\/n=2\/n=3\/n=4\/n=5 by lia) with rfl|rfl|rfl|rfl|rfl|rfl<;>decide
  simp only[lg] at o
  obtain⟨b,c⟩:=V8 (f:=fE) (ti:=N6) (g:=λd=>cD<|t++[F6 d]) (p:=λd=>!t.contains (F6 d)&&!t.contains (-(F6 d))) (pre:=[ii n,eN t]) ((KQ n).map .int) a y (λd hd=>by obtain⟨s,_,rfl⟩:=nC.mp hd;exact⟨Uq n t s,λ_=>⟨U,Yy n t (h t jW) s⟩⟩) (by simp;lia)
  have j:(((KQ n).map D.int).filter λd=>!t.contains (F6 d)&&!t.contains (-(F6 d))).map (λd=>cD<|t++[F6 d])=((Lh n t).map λs=>t++[s]).map cD:=by rw[GL,kM,kM];rfl
  rw[j] at c
  have m:((Lh n t).map λs=>t++[s]).length<=10:=by rw[kn];exact mC (yz _ _) q
  obtain⟨x2,v,i⟩:=PD e L (a++((Lh n t).map λs=>t++[s]).map cD) (eN t) b (λr l=>h r<|jZ _ l) (by rw[nB,kn];lia);refine⟨x2,v,?_⟩;rw[kc,kY];rw[show ja 1 (cD t) [ii n,x,y]=Y [ii n,eN t,y] from H];simp only[jU,vp,kO];unfold Fc;rw[mK<|Lq (abS e)<|jV H];simp only[jU];rw[show kY (ja 2) N6 (kZ fE) ((KQ n).map .int) a [ii n,eN t,y]=_ from c];simp only[jU];refine(show _=_ from i).trans ?_;simp[IZ]
def acK{n:Nat}(a:n<=5)(L:jS)(h: ∀t∈L,A7 t<=100)(b:(A7 L)<=4000):ox [pI n,(.lst<|L.map cD,J)]=Y ((.lst<|(IZ n L).map cD,J),[ii n,Y (.lst<|L.map cD,U)]):=by obtain⟨c,d,e⟩:=PD a L [] C C h (by rw[jY];simp;lia);refine lK (δ:=[ii n,Y (.lst<|L.map cD,U)]) ⟨rfl,by decide,rfl⟩<|kD<|mH ?_;exact(Bg (caps:=[0]) (l:=L.map cD) (δ1:=[ii n,Y (.lst<|L.map cD,U)]) (args:=[pI n]) (mK (o:=U) H) H nU e).trans H
def ln(c:jh):Nat:=(ab<|c.getLastD 0).toNat
def JP{n:Nat}{c:jh}(h:BV n c):1<=ln c/\ln c<=n/\BV (ln c) c:=by
 obtain⟨b,h1,d⟩:=h;rcases DM c with rfl|⟨l,x,rfl⟩
 .exact absurd H b
 rw[DL] at b h1 d ⊢;have e:ln (l++[x])=(ab x).toNat:=by simp[ln,gJ]
 have f:=d x (by simp);rw[e];refine⟨by lia,by lia,b,h1,λs a=>⟨(d s a).1,?_⟩⟩;rcases tM.mp a with a|a
 .rw[oX,vd] at h1;have:=h1.2.2 (ab s) (rQ a) (ab x) (by simp)
  lia
 .simp at a;subst a;lia
def BV.up{n m:Nat}{c:jh}(h:BV n c)(b:n<=m):BV m c:=⟨h.1,h.2.1,λs a=>by have:=h.2.2 s a;lia⟩
def RS{n:Nat}{c:jh}(h:BV n c):E9 (cD c) (.int (-1))=ii (c.getLastD 0):=by
 rcases DM c with rfl|⟨l,x,rfl⟩
 .exact absurd H h.1
 simp only[DL];simp[E9,J4,HY,gJ];rw[jl<|by lia,show(-1+(((A7 l):Int)+1)).toNat=(A7 l) by lia];simp
def VF(c:jh)(a:jS):MW (cD c) (.tup<|a.map cD)=Y (.bl<|decide<|c∈a,U):=Yd c a
def HP(js a:jS)(m:Nat)(t:jh):Bool:=a.all λc=>!decide (ln c<=m)||decide (lc t c∈js)
def Ku(a:jS)(m:Nat):List (List Int):=a.filter λc=>ln c==m
theorem CW{d e:Type}{P:d->Bool}{Q R:e->Bool}{f:d->List e}: ∀L:List d,(∀t∈L,∀u∈f t,R u=(P t&&Q u))->((L.filter P).flatMap f).filter Q=(L.flatMap f).filter R
 |[],_=>rfl
 |t::L,h=>by
  have g:=CW L λt b=>h t<|jZ _ b;have b:=h t jW;rw[GK,k6,<-g]
  cases a:P t with
  |true=>
   rw[Dp a,GK,k6]
   congr 1
   exact nt λu c=>by rw[b u c,a];rfl
  |false=>
   rw[Dm<|by rw[a];decide];have:(f t).filter R=[]:=List.filter_eq_nil_iff.mpr λu c=>by rw[b u c,a,eS];exact kR
   rw[this];rfl
def ad7{n m:Nat}{b a:jS}(hk: ∀c∈a,BV n c){t:jh}(f:(A7 t)=m)(s:Int):HP b a (m+1) (t++[s])=(HP b a m t&&(Ku a<|m+1).all λc=>decide<|lc (t++[s]) c∈b):=by
 unfold HP Ku
 induction a with
 |nil=>rfl
 |cons c a g=>
  have e:=JP<|hk c jW;rw[wB,wB,g λc h=>hk c<|jZ _ h];by_cases h1:ln c=m+1
  .rw[Dp<|by simp[h1],wB,pe (show ln c<=m+1 by lia),mD (show ¬ln c<=m by lia)];simp only[qt,tz,Ag,vw,fF];cases decide (lc (t++[s]) c∈b)<;>cases(a.all λc=>!decide (ln c<=m)||decide (lc t c∈b))<;>rfl
  .rw[Dm<|by simpa using h1];by_cases d:ln c<=m
   .rw[pe (show ln c<=m+1 by lia),pe d,Vx f [s]<|e.2.2.up d,gA]
   .rw[mD (show ¬ln c<=m+1 by lia),mD d,gA];rfl
def Pm{n m:Nat}{js a:jS}(hk: ∀c∈a,BV n c):(IZ n<|(mO n m).filter<|HP js a m).filter (λu=>(Ku a<|m+1).all λc=>decide<|lc u c∈js)=(mO n<|m+1).filter (HP js a<|m+1):=by refine CW _ λt b u d=>?_;obtain⟨s,_,rfl⟩:=nC.mp d;exact ad7 hk (rP b).1 s
def X2{n:Nat}{js a:jS}(hk: ∀c∈a,BV n c)(t:jh):HP js a 0 t=J:=mZ.mpr λc b=>by rw[mD (by have:=(JP<|hk c b).1;lia)];rfl
def X1{n:Nat}{js a:jS}(hk: ∀c∈a,BV n c)(t:jh):HP js a n t=a.all λc=>decide (lc t c∈js):=by unfold HP;rw[r8,mZ,mZ];refine forall_congr' λc=>forall_congr' λb=>?_;rw[pe (JP<|hk c b).2.1];rfl
abbrev Qq:FT:=W5
abbrev Yu:FS:=ji zC9<|ji (lH 4<|ki [1,6] 1 T7 (ja 2) Qq MI) jG
noncomputable abbrev BW(L:jS)(o:Bool):Sl:=Y (.lst<|L.map cD,o)
noncomputable abbrev H9(L:jS):Sl:=Y (.tup<|L.map cD,U)
def Qp{n m:Nat}(g:m<=5){js a:jS}(h: ∀c∈a,BV m c)(j:(A7 a)<=30){t:jh}(i:PT n m t)(o:Bool):Qq [H9 js,BW a o,eN t]=Y (a.all λc=>decide<|lc t c∈js,[H9 js,BW a U,eN t]):=by
 have c:=Pw (caps:=[0,2]) (fi:=kP<|lu 1) (f:=jx MW Wv<|jb 0) (δ:=[H9 js,BW a o,eN t]) (δ1:=[H9 js,BW a U,eN t]) (l:=a.map cD) (args:=[.tup<|js.map cD,cD t]) (λd=>decide<|lc t (KN d)∈js) (by cases o<;>exact mK (o:=U) H) H H (λd hd=>by obtain⟨c,e,rfl⟩:=nC.mp hd;rw[oN];exact⟨U,jO (b:= .tup (js.map cD)) (VF _ _) (jE (b:=U)<|K7 (Vv g i<|h c e) (jV H)<|jV H).r (jV H).r⟩) (by simp;lia)
 rw[show(a.map cD).all (λd=>decide<|lc t (KN d)∈js)=a.all λc=>decide (lc t c∈js) by rw[g0];simp only[yL,oN]] at c;exact mq c
theorem PC{n m:Nat}(i:m<=5){js b:jS}(j: ∀c∈b,BV m c)(g:(A7 b)<=30): ∀(L:jS) (a:List D) (o:Bool) (x:Sl),(∀t∈L,PT n m t)->A7 a+A7 L<=sizeLine->
  ∃d f,kY (ja 2) Qq MI (L.map cD) a [H9 js,BW b o,x]=Y (a++(L.filter λt=>b.all λc=>decide<|lc t c∈js).map cD,[H9 js,BW b d,f])
 |[],a,o,x,_,_=>⟨o,x,by simp[kY]⟩
 |t::L,a,o,x,h,r=>by
  have q:=Qp i j g (h t jW) (js:=js) o;have k: ∀t∈L,PT n m t:=λt s=>h t<|jZ _ s;simp only[lg] at r;rw[kc,kY,show ja 2 (cD t) [H9 js,BW b o,x]=Y [H9 js,BW b o,eN t] from H];simp only[jU];rw[q];simp only[jU]
  cases l:b.all λc=>decide (lc t c∈js) with
  |false=>obtain⟨d,f,e⟩:=PC i j g L a U (eN t) k (by lia);exact⟨d,f,by rw[jv kR,Dm (p:=λt=>b.all λc=>decide<|lc t c∈js)<|by rw[l];exact kR];exact e⟩
  |true=>obtain⟨d,f,e⟩:=PC i j g L (a++[cD t]) U (eN t) k (by simp;lia);refine⟨d,f,?_⟩;rw[jl H,Dp (p:=λt=>b.all λc=>decide<|lc t c∈js) l];simp only[zV];rw[show lu 2 [H9 js,BW b U,eN t]=Y ((cD t,U),[H9 js,BW b U,eN t]) from H];simp only[jU];rw[jl<|by lia];simp only[jU];rw[e];simp
def VV{t:FT}{f g:F}{δ δ1:Dn}{b:Bool}(h:t δ=Y (b,δ1)):LI t f g δ=if b=J then f δ1 else g δ1:=by unfold LI;rw[h];rfl
theorem EW{n:Nat}(a:n<=5): ∀L:List (List Int),(IZ n L).length<=10*(A7 L)
 |[]=>by simp[IZ]
 |t::L=>by
  have:=EW a L
  have b:((Lh n t).map λs=>t++[s]).length<=10:=by rw[kn];refine mC (yz _ _) ?_;rcases(show n=0\/n=1\/n=2\/n=3\/n=4\/n=5 by lia) with rfl|rfl|rfl|rfl|rfl|rfl<;>decide
  unfold IZ at*;rw[GK,nB,lg]
  lia
section
variable {n:Nat}{g js:jS}(j:n<=5)(hk: ∀c∈g,BV n c)(q:g.length<=30)
include j hk q
abbrev LF(n:Nat)(g js L:jS)(x y:Sl):Dn:=[Y (Kw n g,U),H9 js,ii n,H9 g,BW L J,x,y]
theorem Si{m:Nat}(G:m+1<=n)(y:Sl): ∃Q,Yu (LF n g js ((mO n m).filter<|HP js g m) (ii<|(m:Int)+1) y)=Y (.nx<|LF n g js ((mO n<|m+1).filter<|HP js g<|m+1) (ii<|(m:Int)+1) Q):=by
 have s:=IQ (caps:=[5]) (fi:=kP<|lu 3) (f:=lu 1) (ti:=fT WU) (δ:=LF n g js ((mO n m).filter<|HP js g m) (ii<|(m:Int)+1) y) (δ1:=LF n g js ((mO n m).filter<|HP js g m) (ii<|(m:Int)+1) y) (l:=g.map cD) (args:=[.int<|(m:Int)+1]) (λd=>d) (λd=>ln (KN d)==m+1) H H H (λd hd=>by
  obtain⟨c,u,rfl⟩:=nC.mp hd;rw[oN];refine⟨mq (o:=U)<|jO (a:= .int (ab<|c.getLastD 0)) ?_ (jE (b:=U)<|jC H (jE (b:=U)<|jO (RS<|hk c u) (jV H).r (jE (b:=U) H).r).r).r (jV H).r,λ_=>⟨U,rfl⟩⟩;have T:0<=ab (c.getLastD 0):=by unfold ab;split<;>lia
  have:(ln c==m+1)=decide (ab (c.getLastD 0)=(m:Int)+1):=by
   unfold ln;generalize ab (c.getLastD 0)=x at*;by_cases h:x=(m:Int)+1
   .rw[pe h,h];simp
   .rw[mD h];simp;lia
  rw[this];generalize ab (c.getLastD 0)=x;simp[I9,D.BC,D.dep,yw]) (by simp;lia)
 rw[CY] at s;have er:(g.filter λt=>ln (KN<|cD t)==m+1)=Ku g (m+1):=by simp only[oN];rfl
 rw[er] at s
 have O: ∀c∈Ku g (m+1),BV (m+1) c:=λc u=>by obtain⟨h1,w⟩:=Fs.mp u;have:=JP<|hk c h1;rw[beq_iff_eq] at w;rw[<-w];exact this.2.2
 have A:(Ku g<|m+1).length<=30:=mC (yz _ _) q;have B: ∀t∈(mO n m).filter (HP js g m),PT n m t:=λt k=>rP (Fs.mp k).1;have C:((mO n m).filter<|HP js g m).length<=3840:=mC (yz _ _)<|yy n (by lia) m (by lia)
 have E: ∀t∈IZ n ((mO n m).filter<|HP js g m),PT n (m+1) t:=λt k=>by refine rP (m:=m+1) ?_;obtain⟨p,I,L⟩:=xm.mp k;exact xm.mpr ⟨p,(Fs.mp I).1,L⟩
 have M:(IZ n<|(mO n m).filter<|HP js g m).length<=38400:=by
  have:=EW j<|(mO n m).filter<|HP js g m
  lia
 obtain⟨v,N,e⟩:=PC (n:=n) (m:=m+1) (by lia) (js:=js) O A (IZ n<|(mO n m).filter<|HP js g m) [] J X0 E (by rw[jY];simp;lia);rw[tD,Pm hk] at e;refine⟨BW (Ku g<|m+1) v,?_⟩
 have z:ki [1,6] 1 T7 (ja 2) Qq MI (LF n g js ((mO n m).filter<|HP js g m) (ii<|(m:Int)+1)<|BW (Ku g<|m+1) J)=Y ((.lst<|((mO n<|m+1).filter<|HP js g<|m+1).map cD,J),[rS n g,H9 js,ii n,H9 g,BW ((mO n m).filter<|HP js g m) U,ii<|(m:Int)+1,BW (Ku g<|m+1) v]):=by
  refine(Bg (caps:=[1,6]) (args:=[(.tup<|js.map cD,U),(.lst<|(Ku g<|m+1).map cD,J)]) (δ1:=[rS n g,H9 js,ii n,H9 g,BW ((mO n m).filter<|HP js g m) U,ii<|(m:Int)+1,BW (Ku g<|m+1) J]) (mK (o:=J) ?_) H (Lf 6) e).trans ?_
  .exact mn (δ1:=LF n g js ((mO n m).filter<|HP js g m) (ii<|(m:Int)+1)<|BW (Ku g<|m+1) J) (os:=[.slot 2,.slot 4]) (args:=[pI n,(.lst<|((mO n m).filter<|HP js g m).map cD,J)]) H H (Lf 4) (acK j _ (λt k=>by have:=(B t k).1;lia) (by lia))
  .cases v<;>rfl
 exact(jc<|kJ s (show 6<7 by decide)).trans ((jc<|kJ (i:=4) z (show 4<7 by decide)).trans H)
theorem acB:oy [(Kw n g,U),(.tup<|js.map cD,U)]=Y ((.lst<|((mO n n).filter λt=>g.all λc=>decide<|lc t c∈js).map cD,J),[rS n g,H9 js]):=by
 obtain⟨_,⟨m,x,y,i,rfl⟩,e⟩:=sV (tg:=ja 5) (fb:=Yu) (λds δ=> ∃(m:Nat) (x y:Sl),(m<=n/\ds=(bw (m+1)<|n-m).map λ(k:Nat)=>D.int (k:Int))/\δ=LF n g js ((mO n m).filter<|HP js g m) x y) (λd ds δ T=>by
  obtain⟨m,x,y,⟨h1,a⟩,h⟩:=T
  subst h
  have l:m<n:=by
   rcases w6 m n with h|h
   .exact h
   .rw[show n-m=0 by lia] at a;cases a
  rw[show n-m=(n-(m+1))+1 by lia,wu,kc] at a;obtain⟨rfl,rfl⟩:=rV a;obtain⟨o,e⟩:=Si (js:=js) j hk q (m:=m) (by lia) y
  exact⟨_,_,rfl,e,m+1,_,o,⟨l,rfl⟩,rfl⟩) ((bw 1 n).map λ(k:Nat)=>D.int (k:Int)) (LF n g js [[]] C C) ⟨0,C,C,⟨mf _,rfl⟩,by rw[Wi.mpr λt _=>X2 hk t];rfl⟩
 obtain⟨p,f⟩:=i
 have b:m=n:=by
  rcases w6 m n with h|h
  .rw[show n-m=(n-(m+1))+1 by lia,wu] at f;cases f
  .lia
 subst b;rw[nt λt _=>X1 hk t] at e;refine lK (δ:=[rS m g,H9 js,ii m,H9 g,C,x,y]) ⟨rfl,by decide,rfl⟩ ?_;refine(jc (δ1:=[rS m g,H9 js,ii m,H9 g,C,C,C]) H).trans ((jc (δ1:=LF m g js [[]] C C)<|by simp[jY]).trans ?_);refine(jc<|(lb (ds:=(bw 1 m).map λ(k:Nat)=>D.int (k:Int)) (δ1:=LF m g js [[]] C C) ?_).trans e).trans (kD ?_)
 .rw[JW (o1:= .val (.int 1,U)) (o2:= .val (.int<|(m:Int)+1,U)) (δ2:=LF m g js [[]] C C) H H H H (by lia)<|by lia,show((m:Int)+1-1).toNat=m by lia,acQ]
 .rfl
theorem abb:qX [(Kw n g,U)]=Y ((.lst<|((mO n n).filter λt=>g.all λc=>decide<|lc t c∈g).map cD,J),[rS n g]):=by
 refine HW ⟨rfl,by decide,rfl⟩<|K7 (b:=Kw n g) (outs:=[rS n g,rS n g]) ?_ (jV H)<|jV H;refine HW ⟨rfl,by decide,rfl⟩ (δ:=[rS n g,rS n g])<|(VV (b:=J) (δ1:=[rS n g,rS n g])<|mq (o:=U)<|jO (a:= .int (A7 g)) (OZ<|by simp[D.dep]) (jE (b:=U)<|jC ?_ (jE (b:=U)<|jO H (jV H).r (jE H).r).r).r (jE (b:=U)<|jC ?_ (jE (b:=U)<|jO H (jV H).r (jE H).r).r).r).trans ?_
 .simp[uT]
 .simp[uT]
 .exact K7 (acB j hk q) (jV H) (jE (b:=U)<|jO H (jV H).r (jE H).r)
end
def aey{a:jh}{w:Int}(h:ab w∉a.map ab):AH a w=a++[w]:=by unfold AH;rw[jv h]
def Yo{n:Nat}{t:jh}(m:K5 n t)(o:n<=5)(b:Sl): ∀(c a:jh) (x3 x4:Sl),(∀s∈c,1<=ab s/\ab s<=n)->DW n a->((a++c.map (led t)).map ab).Nodup->DW n (a++c.map (led t))/\ ∃f j,ml (ja 3) Nv (c.map .int) [eN t,b,Y (dD a,J),x3,x4]=Y (.nx [eN t,b,Y (dD<|a++c.map (led t),J),f,j]):=by
 intro r
 induction r with
 |nil=>intro a x3 x4 _ d _;simp only[pL,sf];exact⟨d,x3,x4,rfl⟩
 |cons s c q=>
  intro a x3 x4 h d i;have g:=h s jW
  have u:ab (led t s)∉a.map ab:=by rw[oX,Ae] at i;exact λz=>i.2.2 _ z _ (by simp) rfl
  have l:=aey u;have k:a++(s::c).map (led t)=(a++[led t s])++c.map (led t):=by simp
  obtain⟨h1,f,j,e⟩:=q (a++[led t s]) (ii s) (ii<|led t s) (λx p=>h x<|jZ _ p) (l▸d.put (Iq m g.1 g.2))<|k▸i;rw[k];refine⟨h1,f,j,?_⟩;rw[kc];unfold ml;rw[show ja 3 (.int s) [eN t,b,Y (dD a,J),x3,x4]=Y [eN t,b,Y (dD a,J),ii s,x4] from H];simp only[jU];rw[Pg m o g d,l];simp only[jU];exact e
def Oe{l:jh}(h:(l.map ab).Nodup):l.Nodup:=xf ab (λ_ _ h e=>h<|nE ab e) h
def Oq{n:Nat}(f:n<=5){t c:jh}(b:TT n t)(a:BV n c):lC [enc t,enc c]=Y (enc<|lc t c,[eN t,eN c]):=by
 have h:=Dl b (Jx a.2.1) λs m=>a.2.2 s m;obtain⟨g,x3,x4,e⟩:=Yo b.tok f (eN c) c [] C C a.2.2 ⟨by simp,by simp⟩ (by simpa using h);rw[tD] at g e;obtain⟨i,⟨h1,j,d⟩,e⟩:=JR f g (by simpa using a.1) e;rw[e];have k:Ms t c i:=⟨?_,h1⟩
 .rw[Ms.uniq (n:=n) k (RO b a).1]
 .have l:=d.length_eq;simp only[kn] at l;exact EG _ _ (Oe<|d.symm.nodup h) j (by simp;lia)
def Qv: ∀n:Nat,n<6->KQ n=KP n++st n:=by decide
abbrev Pf:FS:=zC5
abbrev VO:FS:=ji (nh (kP<|jx nQ (jk<|jy (LA .lst J) [Qc,yU])<|jk<|jy (LA .lst J) [nD,Qj]) (ja 5) Pf) jG
abbrev Yt:FS:=ji HE<|ji (nh tV (ja 4) VO) Qe
noncomputable abbrev dS(n:Nat)(a b:Sl)(F:jS)(c d:Sl):Dn:=[ii n,a,b,BW F J,c,d]
def Sb(n:Nat)(a c:Sl)(F:jS)(g:F.length<=100000){t:jh}(h:(A7 t)<=100)(s:Int):Pf (dS n a c F (eN t)<|ii s)=Y (.nx<|dS n a c (if(!t.contains s&&!t.contains (-s))=J then F++[t++[s]] else F) (eN t)<|ii s):=by
 have h1:fT TY (dS n a c F (eN t)<|ii s)=Y (!t.contains s,dS n a c F (eN t)<|ii s):=mq<|jO (zY s t) (jV H).r (jV H).r;have f:T9 (dS n a c F (eN t)<|ii s)=Y (!t.contains (-s),dS n a c F (eN t)<|ii s):=mq<|jO (zY (-s) t) (jE (b:=U) H).r (jV H).r
 have d:zF (fT TY) T9 (dS n a c F (eN t)<|ii s)=Y (!t.contains s&&!t.contains (-s),dS n a c F (eN t)<|ii s):=by
  unfold zF;rw[h1];simp only[jU];cases t.contains s
  .simp only[Ag,kO,fF];exact f
  .rfl
 cases e:(!t.contains s&&!t.contains (-s)) with
 |false=>rw[e] at d;exact(jc<|(rE d).trans H).trans H
 |true=>
  rw[e] at d;rw[jl H];refine(jc<|(uN d).trans<|(jc<|pX (r:=(.Ax,U)) ?_).trans H).trans H;refine(qg (i:=3) (δ1:=dS n a c F (eN t)<|ii s) (l0:=F.map cD) (l:=F.map cD) (r:=(cD<|t++[s],U)) H ?_ H<|by rw[jY];simp;lia).trans ?_
  .refine jO (b:= .tup [.int s]) ?_ (jV H).r (jE (b:=U)<|by simp[jY,lu]).r;show nQ (.tup<|t.map .int) (.tup [.int s])=_;simp only[nQ];rw[jl<|Er<|by simp;lia,<-kS,<-oX]
  .simp
def Ym(n:Nat)(a b:Sl){t:jh}(k:(A7 t)<=100): ∀(l:jh) (F:jS) (d:Sl),F.length+A7 l<=100000-> ∃c,ml (ja 5) Pf (l.map .int) (dS n a b F (eN t) d)=Y (.nx<|dS n a b (F++(l.filter λs=>!t.contains s&&!t.contains (-s)).map λs=>t++[s]) (eN t) c):=by
 intro m
 induction m with
 |nil=>intro F d _;exact⟨d,by simp[ml]⟩
 |cons s l i=>
  intro F d h;simp only[lg] at h;have j:=Sb n a b F (by lia) k s
  have f: ∀G c,ml (ja 5) Pf (l.map .int) (dS n a b (if(!t.contains s&&!t.contains (-s))=J then F++[t++[s]] else F) (eN t)<|ii s)=Y (.nx<|dS n a b G (eN t) c)->ml (ja 5) Pf ((s::l).map .int) (dS n a b F (eN t) d)=Y (.nx<|dS n a b G (eN t) c):=λG c e=>by rw[kc];unfold ml;rw[show ja 5 (.int s) (dS n a b F (eN t) d)=Y (dS n a b F (eN t)<|ii s) from H];simp only[jU];rw[j];exact e
  cases g:(!t.contains s&&!t.contains (-s)) with
  |true=>rw[g,jl H] at f;obtain⟨c,e⟩:=i (F++[t++[s]]) (ii s) (by simp;lia);refine⟨c,f _ _ (e.trans ?_)⟩;rw[Dp<|by exact g];simp
  |false=>rw[g,jv kR] at f;obtain⟨c,e⟩:=i F (ii s) (by lia);refine⟨c,f _ _ (e.trans ?_)⟩;rw[Dm<|by rw[g];exact kR]
def Sd{n:Nat}(h:n<=5)(c d:Sl){t:jh}(i:(A7 t)<=100)(F:jS)(j:F.length<=90000)(g:Sl): ∃f,VO (dS n c d F (eN t) g)=Y (.nx<|dS n c d (F++(Lh n t).map λs=>t++[s]) (eN t) f):=by
 have k:(KQ n).length<=10:=by rcases(show n=0\/n=1\/n=2\/n=3\/n=4\/n=5 by lia) with rfl|rfl|rfl|rfl|rfl|rfl<;>decide
 obtain⟨f,e⟩:=Ym n c d i (KQ n) F g (by lia);refine⟨f,(jc<|(lb<|mK (o:=J) ?_).trans e).trans H⟩;rw[Qv n<|by lia,oX];refine jO (a:= .lst ((KP n).map .int)) (b:= .lst ((st n).map .int)) ?_ (jE (b:=J) ?_).r (jE (b:=J) ?_).r
 .simp only[nQ];rw[jl<|Er<|by simp[KP,M3];lia]
 .exact kX (os:=[.val (.int (-n),U),.val (.int 0,U)]) H H (UD n h)
 .exact kX (os:=[.val (.int 1,U),.val (.int<|(n:Int)+1,U)]) H H (Nd n h)
def Yn{n:Nat}(k:n<=5)(b c:Sl): ∀(L F:jS) (d a:Sl),(∀t∈L,A7 t<=100)->F.length+10*(A7 L)<=80000-> ∃i g,ml (ja 4) VO (L.map cD) (dS n b c F d a)=Y (.nx<|dS n b c (F++IZ n L) i g):=by
 intro p
 induction p with
 |nil=>intro F d a _ _;exact⟨d,a,by simp[ml,IZ]⟩
 |cons t L o=>
  intro F d a h m;simp only[lg] at m;obtain⟨q,l⟩:=Sd k b c (h t jW) F (by lia) a;have j:=EW k [t];have f:IZ n [t]=(Lh n t).map λs=>t++[s]:=by simp[IZ]
  rw[f] at j;simp only[yN] at j;obtain⟨i,g,e⟩:=o (F++(Lh n t).map λs=>t++[s]) (eN t) q (λt f=>h t<|jZ _ f) (by rw[nB];lia);refine⟨i,g,?_⟩;rw[kc];unfold ml;rw[show ja 4 (cD t) (dS n b c F d a)=Y (dS n b c F (eN t) a) from H];simp only[jU];rw[l];refine(show _=_ from e).trans ?_;simp[IZ]
def Se{n:Nat}(i:n<=5)(L:jS)(h: ∀t∈L,A7 t<=100)(j:(A7 L)<=4000)(o:Bool)(a g b c:Sl): ∃f d,Yt [ii n,BW L o,a,g,b,c]=Y (.nx [ii n,BW (IZ n L) U,a,BW (IZ n L) U,f,d]):=by obtain⟨f,d,e⟩:=Yn i (BW L U) a L [] b c h (by simp;lia);refine⟨f,d,(jc (δ1:=[ii n,BW L o,a,BW [] J,b,c])<|by simp[jY]).trans<|(jc<|(lb<|mK (o:=U) (by cases o<;>rfl)).trans e).trans H⟩
def abU{n:Nat}(k:n<=5): ∃o,mT [pI n]=Y ((.lst<|(mO n n).map cD,o),[ii n]):=by
 obtain⟨_,⟨m,o,f,a,b,c,i,rfl⟩,e⟩:=sV (tg:=ja 2) (fb:=Yt) (λg δ=> ∃(m:Nat) (o:Bool) (f a b c:Sl),(m+A7 g=n)/\δ=[ii n,BW (mO n m) o,f,a,b,c]) (λd g δ j=>by obtain⟨m,o,f,a,b,c,h1,h⟩:=j;subst h;simp only[lg] at h1;obtain⟨q,p,e⟩:=Se k (mO n m) (λt l=>by have:=(rP l).1;lia) (by have:=yy n (by lia) m (by lia);lia) o (Y (d,U)) a b c;exact⟨_,_,rfl,e,m+1,U,_,_,_,_,by lia,rfl⟩) (jD 0 n) [ii n,BW [[]] J,C,C,C,C] ⟨0,J,C,C,C,C,by simp[jD],rfl⟩
 simp only[rk,ib] at i;subst i;refine⟨o,?_⟩;cases o
 .refine lK (δ:=[ii m,BW (mO m m) U,f,a,b,c]) ⟨rfl,by decide,rfl⟩ ((jc (δ1:=[ii m,BW [[]] J,C,C,C,C])<|by simp[jY]).trans<|(jc<|(lb ?_).trans e).trans<|kD H);exact qF (o:= .slot 0) H H (by lia)
 .refine lK (δ:=[ii m,C,f,a,b,c]) ⟨rfl,by decide,rfl⟩ ((jc (δ1:=[ii m,BW [[]] J,C,C,C,C])<|by simp[jY]).trans<|(jc<|(lb ?_).trans e).trans<|kD H);exact qF (o:= .slot 0) H H (by lia)
abbrev IE:FS:=WZ
def CG(c:jh)(a:jS):pE (cD c) (dC a)=Y (.bl (!decide (c∈a)),U):=by unfold pE R3 dC;simp only;rw[jl<|Gf a c,JM];rfl
def aak{n:Nat}(q:n<=5){t:jh}(s:TT n t)(a:jS)(b:Bool)(f:Sl): ∀(g:jS) (x:Sl),(∀c∈g,BV n c)-> ∃j,ml (ja 3) IE (g.map cD) [eN t,f,Y (dC a,b),x]=if(g.all λc=>decide<|lc t c∈a)=J then Y (.nx [eN t,f,Y (dC a,b),j]) else Y (.rt (.bl U,U) [eN t,f,Y (dC a,b),j]):=by
 intro v
 induction v with
 |nil=>intro x _;exact⟨x,rfl⟩
 |cons c g u=>
  intro x h;have p:=h c jW;have i:fT WL [eN t,f,Y (dC a,b),eN c]=Y (!decide (lc t c∈a),[eN t,f,Y (dC a,b),eN c]):=mq<|jO (b:=dC a) (CG _ _) (jE (b:=U)<|K7 (Oq q s p) (jV H)<|jV H).r<|jR H
  have l:ml (ja 3) IE ((c::g).map cD) [Y<|enc t,f,Y (dC a,b),x]=(IE [Y<|enc t,f,Y (dC a,b),Y<|enc c]).bind λo=>match o with
   | .nx d=>ml (ja 3) IE (g.map cD) d
   | .ct d=>ml (ja 3) IE (g.map cD) d
   | .bk d=>Y<|.nx d
   | .rt r d=>Y (.rt r d):=rfl
  rw[l,wB];by_cases k:lc t c∈a
  .rw[pe k] at i ⊢;obtain⟨j,e⟩:=u (eN c) λc m=>h c<|jZ _ m;refine⟨j,?_⟩;have s1:IE [eN t,f,Y (dC a,b),eN c]=Y (.nx [eN t,f,Y (dC a,b),eN c]):=(jc<|(rE i).trans H).trans H;rw[s1];exact e
  .rw[mD k] at i ⊢;refine⟨eN c,?_⟩;have s1:IE [eN t,f,Y (dC a,b),eN c]=Y (.rt (.bl U,U) [eN t,f,Y (dC a,b),eN c]):=kD<|(uN i).trans H;rw[s1];rfl
def Ox{n:Nat}(i:n<=5){t:jh}(j:TT n t)(d a:jS)(hk: ∀c∈a,BV n c)(b:Bool):sZ [enc t,(.tup<|a.map cD,U),(dC d,b)]=Y ((.bl<|a.all λc=>decide<|lc t c∈d,U),[eN t,H9 a,Y (dC d,b)]):=by
 obtain⟨x,e⟩:=aak i j d b (H9 a) a C hk;have h: ∀x,jP [enc t,(.tup<|a.map cD,U),(dC d,b)] [eN t,H9 a,Y (dC d,b),x]=[eN t,H9 a,Y (dC d,b)]:=λx=>by cases b<;>rfl
 cases g:a.all λc=>decide (lc t c∈d) with
 |true=>
  rw[g,jl H] at e;have q:=lK (n:=4) (np:=3) (asg:=[3]) (f:=sQ) (args:=[enc t,(.tup<|a.map cD,U),(dC d,b)]) (r:=(.bl J,U)) (δ:=[eN t,H9 a,Y (dC d,b),x]) ⟨rfl,by decide,by cases b<;>rfl⟩<|(jc<|(lb H).trans e).trans<|kD H
  rwa [h] at q
 |false=>
  rw[g,jv kR] at e;have q:=lK (n:=4) (np:=3) (asg:=[3]) (f:=sQ) (args:=[enc t,(.tup<|a.map cD,U),(dC d,b)]) (r:=(.bl U,U)) (δ:=[eN t,H9 a,Y (dC d,b),x]) ⟨rfl,by decide,by cases b<;>rfl⟩<|kD<|(lb H).trans e
  rwa [h] at q
def VB: ∀c:List Int,BY (c.map .int)=Y (c.map dn):=by
 intro b
 induction b with
 |nil=>exact H
 |cons x c a=>simp only[kc,BY,uR,jU];rw[a];rfl
def Vz: ∀a:List (List Int),La (a.map λc=> .tup [cD c,.bl J])=Y (a.map λc=>c.map dn):=by
 intro d
 induction d with
 |nil=>exact H
 |cons c a b=>simp only[kc,La,kyT];rw[b,show zP (cD c)=Y (c.map dn) from VB c];rfl
def Pb{d:jS}(h:d.Nodup)(g:(A7 d)<=1000):A6 (.lst<|d.map λc=> .tup [cD c,.bl J])=Y (dC d,J):=by
 show((La<|d.map λc=> .tup [cD c,.bl J]).bind λd=>if (A7 d)<=1000/\d.Nodup then Y (D.B8 .dct (d.map λk=> .tup (k.map kI))<|d.map λ_=> .bl J,J) else C)=_;rw[Vz];simp only[jU];have i:(d.map λc=>c.map (dn:Int->Key)).Nodup:=xl _ (λa b f e=>f<|(List.map_inj_right λ_ _ e=>Sum.inl.inj e).mp e) h;rw[jl ⟨by simpa using g,i⟩];unfold dC;rw[kM,kM]
 have:((λk:List Key=>D.tup<|k.map kI)∘λc:List Int=>c.map dn)=cD:=by funext c;simp only[bG,kM,cD];rfl
 rw[this];rfl
abbrev fDc(i:Nat):F:=jy (g1 A6) [jk<|ki [] 1 (kP<|jx E9 (jb i) nD) (ja 0) kx Wo]
def VW{n i:Nat}{a:jS}{δ:Dn}(c:δ[i]?=Y (rS n a))(h:a.Nodup)(g:(A7 a)<=1000):fDc i δ=Y ((dC a,J),δ):=by
 refine jC (Pb h g) (jE (b:=J) ?_).r;have e:=Bp (caps:=[]) (fi:=kP<|jx E9 (jb i) nD) (f:=qV [lu 0,MH]) (δ:=δ) (δ1:=δ) (l:=a.map cD) (args:=[]) (λd=> .tup [d,.bl J]) ?_ H H (λd hd=>⟨U,by simp[jY,lu]⟩) (by simp;lia)
 .rw[kM] at e;exact e
 .rw[Jv,jO (r:=(.tup<|a.map cD,U)) H (jV c).r (jE H).r];rfl
def Oo{n:Nat}{a:jS}(h:LK n a):nM [(Kw n a,U)]=Y ((.lst<|((mO n n).filter λt=>a.all λc=>decide<|lc t c∈a).map cD,J),[rS n a]):=by
 obtain⟨j,hk,_,u⟩:=h;obtain⟨o,m⟩:=abU j;have hd:=VW (n:=n) (i:=0) (δ:=[rS n a,C]) H hk.1 (by lia);have q:=yy n (by lia) n (by lia)
 obtain⟨v,e⟩:=V8 (f:=lu 2) (ti:=fT WQ) (g:=λd=>d) (p:=λd=>a.all λc=>decide<|lc (KN d) c∈a) (pre:=[Y (dC a,J),rS n a]) ((mO n n).map cD) [] C (λd hd=>by obtain⟨t,s,rfl⟩:=nC.mp hd;rw[oN];have tt:=(rP s).tt;refine⟨mq (o:=U)<|(mn (δ1:=[Y (dC a,J),rS n a,eN t]) (os:=[.slot 2,.val (.tup<|a.map cD,U),.slot 0]) (args:=[enc t,(.tup<|a.map cD,U),(dC a,J)]) (Bi H<|qW (jN<|jO H (jV H).r (jE H).r) H) H (Lf 0)<|Ox j tt a a hk.2 J).trans H,λ_=>⟨U,rfl⟩⟩) (by rw[jY];simp;lia)
 rw[tD,CY] at e;simp only[oN] at e;refine lK (δ:=[rS n a,Y (dC a,J)]) ⟨rfl,by decide,rfl⟩<|(jc<|kJ (i:=1) hd (show 1<2 by decide)).trans<|kD<|mH ?_;refine(Bg (caps:=[1,0]) (k:=1) (l:=(mO n n).map cD) (δ1:=[rS n a,Y (dC a,J)]) (args:=[(dC a,J),(Kw n a,U)]) (mK (o:=o) ?_) H (Lf 1) e).trans H;exact Lq m<|jE (b:=U)<|jO H (jV H).r (jE H).r
section
variable {n:Nat}{a:jS}(h:LK n a){d:D}(hd:OkD d)
include h hd
end
noncomputable def pj(t:jh)(k:Nat):Nat:=(ab<|t.getD k 0).toNat-1
noncomputable def vA(t a:jh)(k:Nat):Int:=if t.getD k 0>0 then a.getD k 0 else 1-a.getD k 0
abbrev fvA:F:=zC4
abbrev Yw:FS:=ji (qT 2 fvA Ub) jG
def Yi{a:jh}{k:Nat}(h:k<A7 a):E9 (cD a) (.int k)=ii (a.getD k 0):=by simp[E9,J4,HY,h,md]
section
variable {n:Nat}{t w a:jh}(c:TT n t)(o:Ko n a)
include c o
theorem OB(i:BK n t w){k:Nat}(hk:k<n):(Kx w a).getD (pj t k) 0=vA t a k:=by
 obtain⟨r,_,_,h,_⟩:=Yq c n 0 t C C (by lia) ⟨c.len,λj q=>absurd q<|by lia⟩;have e:=i.uniq c<|OJ c h;subst e;have m:=h.2 k hk;have g:=c.sg<|lT (l:=t) (k:=k) (by rw[c.len];exact hk);have f:pj t k<(A7 w):=by have:=g.1;have:=g.2;rw[i.1];unfold pj;lia
 have p:w[pj t k]=Ld t k:=by rw[<-m];simp[md,pj] at f ⊢;simp[f]
 have b:=o.2 (a.getD k 0)<|lT (by rw[o.1];exact hk);rw[Kx,md,ly,kK f,p];simp only[m4,fO];unfold MV Ld vA;by_cases d:t.getD k 0>0
 .rw[jl d,jl d,tx<|by lia,show((k:Int)+1).toNat-1=k by lia,jl (show(k:Int)+1>0 by lia)];rcases b with b|b<;>rw[b]<;>rfl
 .rw[jv d,jv d,Fh<|by lia,show((k:Int)+1).toNat-1=k by lia,jv (show ¬ -((k:Int)+1)>0 by lia)];rcases b with b|b<;>rw[b]<;>rfl
theorem Sm{k:Nat}(hk:k<n){f:jh}(j:(A7 f)=n):Yw [eN t,eN a,BL f,ii k,ii<|t.getD k 0]=Y (.nx [eN t,eN a,BL<|f.set (pj t k)<|vA t a k,ii k,ii<|t.getD k 0]):=by
 let δ:Dn:=[eN t,eN a,BL f,ii k,ii<|t.getD k 0]
 have e:=c.sg<|lT (l:=t) (k:=k) (by rw[c.len];exact hk);have m:=Yi (a:=a) (k:=k) (by rw[o.1];exact hk);have d:jx E9 (jb 1) (jb 3) δ=Y ((.int<|a.getD k 0,U),δ):=jO m (jV H).r (jV H).r
 have h:fvA δ=Y ((.int<|vA t a k,U),δ):=by
  refine jO (a:= .lst [.int (1-a.getD k 0),.int<|a.getD k 0]) (b:= .int (if t.getD k 0>0 then 1 else 0)) ?_ (jE (b:=J) ?_).r (jE (b:=U)<|jC (a:= .bl (decide<|t.getD k 0>0)) ?_ (jE<|jO (Nq _ _) (jV H).r (jE H).r).r).r
  .unfold vA;split<;>rfl
  .rw[UL];simp only[kc,pL];rw[qW (jN<|jO (g:=FZ) (a:= .int 1) H (jE H).r (jE d).r)<|jN d];simp[jY,qN]
  .by_cases p:t.getD k 0>0<;>simp[p]
 have q:HY (f.map D.int).length (ab (t.getD k 0)-1)=Y (pj t k):=by
  have:=e.1;have:=e.2;unfold HY pj;rw[kn,j,jl<|by lia,jl<|by lia]
  congr 1;lia
 have i:Ub δ=Y (.val (.int<|ab (t.getD k 0)-1,U),δ):=rfl;refine(jc (δ1:=[eN t,eN a,BL<|f.set (pj t k)<|vA t a k,ii k,ii<|t.getD k 0]) ?_).trans H;unfold qT;rw[h];simp only[jU,δ,tE,uA];rw[i];simp only[jU,AF,δ,tE,uA];rw[q];simp[BL,vr]
theorem Ot(v:BK n t w):my [enc t,enc a]=Y (enc<|Kx w a,[eN t,eN a]):=by
 obtain⟨_,⟨f,k,m,x,y,h1,b,z,g,rfl⟩,e⟩:=sV (tg:=Cp [ja 3,ja 4]) (fb:=Yw) (λds δ=> ∃f k m x y,k+m=n/\(A7 f)=n/\(∀j,j<k->f.getD (pj t j) 0=vA t a j)/\ds=((bw k m).map λ(j:Nat)=>D.tup [.int j,.int<|t.getD j 0])/\δ=[eN t,eN a,BL f,x,y]) (λd ds δ I=>by
  obtain⟨f,k,m,x,y,h1,b,z,g,N⟩:=I;subst N
  cases m with
  |zero=>cases g
  |succ m=>
   rw[wu,kc] at g;obtain⟨rfl,rfl⟩:=rV g;refine⟨_,_,rfl,Sm c o (k:=k) (by lia) b,_,k+1,m,_,_,by lia,by simpa using b,?_,rfl,rfl⟩;intro j p;have A:=c.sg<|lT (l:=t) (k:=k) (by rw[c.len];lia);have B:pj t k<(A7 f):=by have:=A.1;have:=A.2;rw[b];unfold pj;lia
   by_cases r:pj t j=pj t k
   .have u:=OB c o v (k:=k) (by lia);rw[<-r,OB c o v (k:=j)<|by lia] at u;rw[r,u];simp[md,B]
   .rw[md,mQ<|qy r,<-md];refine z j ?_;rcases Nat.lt_succ_iff_lt_or_eq.mp p with h|h
    .exact h
    .rw[h] at r;exact absurd H r) ((bw 0 n).map λ(j:Nat)=>D.tup [.int j,.int<|t.getD j 0]) [eN t,eN a,BL a,C,C] ⟨a,0,n,C,C,by lia,o.1,λj p=>absurd p<|by lia,rfl,rfl⟩
 have A:m=0:=by
  cases m with
  |zero=>rfl
  |succ m=>rw[wu] at g;cases g
 have hk:k=n:=by lia
 have L:f=Kx w a:=by
  apply wA
  .rw[b,Kx,kn,v.1]
  .intro i T G;have:((i:Int)+1)∈t.map ab:=c.mem_iff.mpr<|P0.mpr (by lia);obtain⟨s,Q,e⟩:=nC.mp this;obtain⟨j,p,rfl⟩:=List.mem_iff_getElem.mp Q;have E:j<n:=by rw[<-c.len];exact p
   have B:pj t j=i:=by unfold pj;simp[md,p];lia
   have a1:=z j (by lia);have M:=OB c o v E;rw[B] at a1 M;rw[<-M] at a1;simpa[md,T,G] using a1
 subst L;refine lK (δ:=[eN t,eN a,BL<|Kx w a,x,y]) ⟨rfl,by decide,rfl⟩ ?_;refine(jc (δ1:=[eN t,eN a,BL a,C,C]) H).trans ((jc<|(lb (δ1:=[eN t,eN a,BL a,C,C]) (ds:=(bw 0 n).map λ(j:Nat)=> .tup [.int j,.int<|t.getD j 0]) ?_).trans e).trans ?_)
 .show Y (((t.map D.int).zipIdx).map λq=>D.tup [.int (0+q.2),q.1],([eN t,eN a,BL a,C,C]:Dn))=_
  congr 2
  apply wA
  .simp[c.len]
  .intro i h1 b;have O:i<(A7 t):=by simpa using h1
   simp[md,O]
 .exact kD (mH<|jC (a:= .lst ((Kx w a).map D.int)) H<|jR H)
end
def Zo(a:BP)(i:Int):YJ (BM 2 2 []<|mh a) (.int i):=λb c=>by
 cases b<;>cases c<;>simp[mh,BM,jP,Iv]
abbrev sT(V:jS):Sl:=Y (.B8 .set []<|V.map cD,J)
def acz(c:jh)(V:jS):pE (cD c) (.B8 .set []<|V.map cD)=Y (.bl (!decide (c∈V)),U):=by
 have h1:Ca (cD c)=J:=by have:=qU [c];simpa using this
 unfold pE R3 Nr;simp only;rw[jl ⟨qU V,h1⟩,Fe];rfl
def Xu{cs:jS}(f: ∀c∈cs,c≠[])(g:(dd cs).length<=100): ∃a:List (List Int),(∀c,c∈a↔c∈cs)/\(A7 a)<=100/\JY (.lst<|cs.map cD)=Y (.B8 .set []<|(dd cs).map cD,J)/\lF (.B8 .set []<|(dd cs).map cD)=Y (.lst<|a.map cD,J):=by
 have b: ∀c,c∈dd cs↔c∈cs:=λc=>by unfold dd;rw[vD];simp
 obtain⟨a,e,d⟩:=Bo<|la EE<|(dd cs).map cD
 have hd:lS (cs.map cD)=(dd cs).map cD:=by unfold lS;rw[show([]:List D)=([]:List (List Int)).map cD from H,Gy];rfl
 refine⟨a,λc=>d.mem_iff.trans<|b c,by rw[d.length_eq];exact g,?_,?_⟩
 .show(if(cs.map cD).all Ca=J/\(lS<|cs.map cD).length<500 then Y (D.B8 .set []<|lS<|cs.map cD,J) else C)=_;rw[hd,jl ⟨qU cs,by simp;lia⟩]
 .show(if((dd cs).map cD).all Ca=J then lE ((dd cs).map cD) else C)=_;rw[jl<|qU _];unfold lE;rw[jl ⟨Cr _ λc h=>f c<|(b c).mp h,by rw[jY];simp;lia⟩,e]
theorem YF{f:F}{pre:Dn}(g:List Int->List Int): ∀(l a:jS) (x:Sl),(∀t∈l,∃o,f (pre++[Y (cD t,U)])=Y ((cD<|g t,o),pre++[Y (cD t,U)]))->(∀m:Nat,(((l.take m).map g).foldl oK a).length<500)->
  ∃b,kY (ja<|A7 pre) kx (xh f) (l.map cD) (a.map cD) (pre++[x])=Y (((l.map g).foldl oK a).map cD,pre++[b])
 |[],a,x,_,_=>⟨x,by simp[kY]⟩
 |t::l,a,x,h,c=>by
  obtain⟨o,d⟩:=h t jW;obtain⟨b,e⟩:=YF g l (oK a<|g t) (Y (cD t,U)) (λt j=>h t<|jZ _ j) (λm=>by have:=c<|m+1;simpa using this);refine⟨b,?_⟩;have i:(A7 a)<500:=by have:=c 0;simpa using this
  have h1:Ca (cD<|g t)=J:=by have:=qU [g t];simpa using this
  rw[kc,kY,show ja (A7 pre) (cD t) (pre++[x])=Y (pre++[Y (cD t,U)]) by unfold ja;simp];simp only[jU,vp,kO];unfold xh;rw[d];simp only[jU];rw[jl ⟨qU a,h1,by simpa using i⟩];simp only[jU];rw[Fg];exact e
section
variable {n:Nat}(j:n<=5)(h1:1<=n){L:jS}(d: ∀t∈L,TT n t)(i:L.length<=3840)
include j h1 d i
theorem ab6: ∃R:List Int->List (List Int),∀a∈kb n,(∀c∈R a,c∈kb n)/\(R a).length<=100/\(∃o,kr [enc a,(.lst<|L.map cD,ZB)]=XV ((.tup<|(R a).map cD,ZB),o))/\
  ∀q s u v x:Sl,jy (g1 lF) [Ug] [q,BW L ZB,s,u,eN a,v,x]=XV ((.lst<|(R a).map cD,YP),[q,BW L ZB,s,u,eN a,v,x]):=by
 have E: ∀a,∃R:List (List Int),a∈kb n->(∀c∈R,c∈kb n)/\R.length<=100/\(∃o,kr [enc a,(.lst<|L.map cD,ZB)]=XV ((.tup<|R.map cD,ZB),o))/\
   ∀q s u v x:Sl,jy (g1 lF) [Ug] [q,BW L ZB,s,u,eN a,v,x]=XV ((.lst<|R.map cD,YP),[q,BW L ZB,s,u,eN a,v,x]):=λa=>by
  by_cases A:a∈kb n
  .have O:=TR.mp A
   obtain⟨bk,C⟩:=Classical.skolem.mp (λt=>show ∃w,TT n t->BK n t w from by
    by_cases k:TT n t
    .obtain⟨w,J,_⟩:=Ki k;exact⟨w,λ_=>J⟩
    .exact⟨[],λz=>absurd z k⟩)
   let g:List Int->List Int:=λt=>Kx (bk t) a
   have I: ∀t∈L,g t∈kb n:=λt k=>TR.mpr<|Vy ((C t<|d t k).tt<|d t k) a
   have M:(kb n).length<=32:=by rcases(show n=1\/n=2\/n=3\/n=4\/n=5 by lia) with rfl|rfl|rfl|rfl|rfl<;>decide
   have y: ∀cs:List (List Int),(∀c∈cs,c∈kb n)->(dd cs).length<=32:=λcs h=>by
    refine mC (ze _ (kb n) (Bc cs []<|by simp) λc p=>?_) M;unfold dd at p;rw[vD] at p;rcases p with z|z
    .simp at z
    .exact h c z
   have H: ∀c∈L.map g,c∈kb n:=λc p=>by obtain⟨t,k,rfl⟩:=nC.mp p;exact I t k
   obtain⟨R,N,U,Y,Q⟩:=Xu (cs:=L.map g) (λc p e=>by have:=(TR.mp<|H c p).1;rw[e] at this;simp at this;lia) (by have:=y _ H;lia)
   refine⟨R,λ_=>⟨λc p=>H c<|(N c).mp p,U,⟨[eN a,BW L ZB],?_⟩,λq s u v x=>?_⟩⟩
   .obtain⟨D,e⟩:=YF (f:=jI oE [jb 0,jb 1]) (pre:=[eN a]) g L [] X0 (λt k=>⟨ZB,K7 (RL j (d t k) (C t<|d t k) O) (jV AM)<|jV AM⟩) (λm=>by have:=y ((L.take m).map g) (λc p=>by obtain⟨t,k,rfl⟩:=nC.mp p;exact I t<|wq k);unfold dd at this;lia)
    have B:Pk [0] 1 tV (ja 1) kx (xh T5) [eN a,BW L ZB]=XV ((.B8 .set []<|(dd<|L.map g).map cD,YP),[eN a,BW L ZB]):=by unfold Pk IG;rw[show tV [eN a,BW L ZB]=XV (L.map cD,[eN a,BW L ZB]) from AM];simp only[jU];rw[show km [eN a,BW L ZB] (([0]:List Nat).map .slot)=XV [enc a] from AM];simp only[jU];rw[jl (show(jB (([0]:List Nat).map .slot) [enc a]).Nodup by simp[jB])];have T:kY (ja 1) kx (xh T5) (L.map cD) [] (([enc a].map XV)++am 1 X0)=XV ((dd<|L.map g).map cD,[eN a,D]):=e;rw[T];rfl
    refine HW (np:=2) ⟨rfl,by decide,rfl⟩ (δ:=[eN a,BW L ZB])<|jC (a:= .lst (R.map cD)) AM (jE (b:=YP)<|K7 (HW (np:=2) ⟨rfl,by decide,rfl⟩ (δ:=[eN a,BW L ZB])<|jC Q (jE B).r) (jV AM)<|jV AM).r
   .have B:ki [4] 1 tV (ja 1) kx WA [q,BW L ZB,s,u,eN a,v,x]=XV ((.lst<|(L.map g).map cD,YP),[q,BW L ZB,s,u,eN a,v,x]):=Sv (caps:=[4]) (l:=L) (args:=[cD a]) g AM AM AM (λt k=>⟨ZB,K7 (Ot (d t k) O<|C t<|d t k) (jV AM)<|jV AM⟩) (by lia);exact jC Q (jE (b:=YP)<|jC Y (jE B).r).r
  .exact⟨[],λz=>absurd z A⟩
 exact Classical.skolem.mp E |>.imp λR G a A=>G a A
end
section
variable {n:Nat}{a:jS}(h:LK n a)
include h
noncomputable abbrev Ir(n:Nat)(a:jS):List (List Int):=(mO n n).filter λt=>a.all λc=>decide<|lc t c∈a
theorem RK:(Ir n a).length<=3840:=mC (yz _ _)<|yy n (by have:=h.1;lia) n (by have:=h.1;lia)
theorem Vu{t:jh}(b:t∈Ir n a):TT n t:=(rP (Fs.mp b).1).tt
end
def Ik(R:List Int->List (List Int))(p:List D×List (List Int))(a:jh):List D×List (List Int):=if a∈p.2 then p else(p.1++[.tup<|(R a).map cD],(R a).foldl oK p.2)
def GV(n:Nat)(V:jS):Prop:=V.Nodup/\ ∀v∈V,v∈kb n
def GV.fold{n:Nat}{V cs:jS}(h:GV n V)(a: ∀c∈cs,c∈kb n):GV n (cs.foldl oK V):=⟨Bc cs V h.1,λv hv=>((vD cs V v).mp hv).elim (h.2 v)<|a v⟩
def GV.len{n:Nat}(a:n<=5){V:jS}(h:GV n V):V.length<=32:=mC (ze V (kb n) h.1 h.2) (by rcases(show n=0\/n=1\/n=2\/n=3\/n=4\/n=5 by lia) with rfl|rfl|rfl|rfl|rfl|rfl<;>decide)
abbrev Sa:FS:=ji (pv<|Gr 3<|lu 6) jG
abbrev Sk:FS:=Wr
section
variable {n:Nat}(b:n<=5)
include b
theorem Tu(a d f i j k:Sl): ∀(cs V:jS) (l:Sl),(∀c∈cs,c∈kb n)->GV n V-> ∃m,ml (ja 6) Sa (cs.map cD) [a,d,f,sT V,i,j,l,k]=Y (.nx [a,d,f,sT<|cs.foldl oK V,i,j,m,k])
 |[],V,l,_,_=>⟨l,rfl⟩
 |c::cs,V,l,h,g=>by
  obtain⟨m,e⟩:=Tu a d f i j k cs (oK V c) (eN c) (λc o=>h c<|jZ _ o) (g.fold (cs:=[c]) λx p=>by cases Je.mp p;exact h c jW);refine⟨m,?_⟩;have h1:Ca (cD c)=J:=by have:=qU [c];simpa using this
  have q:=g.len b
  have s1:Sa [a,d,f,sT V,i,j,eN c,k]=Y (.nx [a,d,f,sT<|oK V c,i,j,eN c,k]):=by refine(jc<|pX (r:=(.Ax,U)) (δ1:=[a,d,f,sT<|oK V c,i,j,eN c,k]) ?_).trans rfl;show(if(V.map cD).all Ca=J/\Ca (cD c)=J/\(V.map cD).length<500 then Y ((D.Ax,U),[a,d,f,Y (D.B8 .set []<|pG (V.map cD)<|cD c,J),i,j,eN c,k]) else C)=_;rw[jl ⟨qU V,h1,by simp;lia⟩,Fg]
  show(Sa [a,d,f,sT V,i,j,eN c,k]).bind _=_;rw[s1];exact e
theorem Tz(a d f j k:Sl): ∀(cs W:jS) (l:Sl),(∀c∈cs,c∈kb n)->GV n W-> ∃m,ml (ja 6) Sk (cs.map cD) [a,d,f,Y (dC W,J),j,k,l]=Y (.nx [a,d,f,Y (dC<|cs.foldl oK W,J),j,k,m])
 |[],W,l,_,_=>⟨l,rfl⟩
 |c::cs,W,l,h,g=>by obtain⟨m,e⟩:=Tz a d f j k cs (oK W c) (eN c) (λc p=>h c<|jZ _ p) (g.fold (cs:=[c]) λx q=>by cases Je.mp q;exact h c jW);refine⟨m,?_⟩;have r:=g.len b;have s1:Sk [a,d,f,Y (dC W,J),j,k,eN c]=Y (.nx [a,d,f,Y (dC<|oK W c,J),j,k,eN c]):=(jc<|So (i:=3) (cs:=W) (c:=c) (o:= .slot 6) (δ2:=[a,d,f,Y (dC W,J),j,k,eN c]) H H H H H<|by lia).trans H;show(Sk [a,d,f,Y (dC W,J),j,k,eN c]).bind _=_;rw[s1];exact e
variable(h1:1<=n){L:jS}(f:L.length<=3840){R:List Int->List (List Int)}
 (d: ∀a∈kb n,(∀c∈R a,c∈kb n)/\(R a).length<=100/\(∃o,kr [enc a,(.lst<|L.map cD,ZB)]=XV ((.tup<|(R a).map cD,ZB),o))/\
  ∀c0 c2 c3 c5 c6:Sl,jy (g1 lF) [jk<|jy (g1 JY) [jk<|ki [4] 1 (kP<|lu 1) (ja 1) kx<|kZ<|jI my [jb 1,jb 0]]] [c0,BW L ZB,c2,c3,eN a,c5,c6]=XV ((.lst<|(R a).map cD,YP),[c0,BW L ZB,c2,c3,eN a,c5,c6]))
include d
abbrev VQ:FS:=ji (F7 Kr (ji (Nb 5 [4,7] kr)<|ji TV<|ji (nh (kP<|lu 5) (ja 6) Sa) jG) jG) jG
abbrev VP:FS:=ji (F7 Kr (ji W8<|ji (nh (kP<|lu 5) (ja 6) Sk) WG) jG) jG
abbrev LD(a:Sl)(L:jS)(p:List D×List (List Int))(c e g:Sl):Dn:=[a,C,Y (.lst p.1,J),sT p.2,c,e,g,BW L U]
abbrev Li(a:Sl)(L:jS)(p:List D×List (List Int))(c e g:Sl):Dn:=[a,BW L U,Y (.lst p.1,J),Y (dC p.2,J),c,e,g]
theorem Sg(c:Sl){a:jh}(s:a∈kb n)(p:List D×List (List Int))(g:GV n p.2)(w:(A7 p.1)<=1000)(k j:Sl): ∃t q,VQ (LD c L p (eN a) k j)=Y (.nx<|LD c L (Ik R p a) (eN a) t q):=by
 obtain⟨u,x,⟨o,v⟩,_⟩:=d a s;have m:Kr (LD c L p (eN a) k j)=Y (!decide (a∈p.2),LD c L p (eN a) k j):=mq (o:=U)<|jO (acz a p.2) (jV H).r<|jR H;unfold Ik;by_cases h:a∈p.2
 .rw[pe h] at m;rw[jl h];exact⟨k,j,(jc<|(rE m).trans H).trans H⟩
 .rw[mD h] at m;rw[jv h];obtain⟨q,e⟩:=Tu b c C (Y (.lst<|p.1++[.tup<|(R a).map cD],J)) (eN a) (Y (.tup<|(R a).map cD,U)) (BW L U) (R a) p.2 j u g;refine⟨Y (.tup<|(R a).map cD,U),q,(jc<|(uN m).trans<|(jc (δ1:=LD c L p (eN a) (Y (.tup<|(R a).map cD,U)) j) ?_).trans<|(jc<|pX<|qg (i:=2) (l0:=p.1) (l:=p.1) (r:=(.tup<|(R a).map cD,U)) (δ1:=LD c L p (eN a) (Y (.tup<|(R a).map cD,U)) j) H H H<|Ep<|by lia).trans<|(jc<|(lb (ds:=(R a).map cD) H).trans e).trans H).trans H⟩;unfold Nb;rw[show km (LD c L p (eN a) k j) (([4,7]:List Nat).map .slot)=Y [enc a,(.lst<|L.map cD,U)] from H];simp only[jU];rw[jl ⟨rfl,show 5<8 by decide⟩,v];rfl
theorem Sf(c:Sl){a:jh}(s:a∈kb n)(p:List D×List (List Int))(g:GV n p.2)(w:(A7 p.1)<=1000)(k j:Sl): ∃t m,VP (Li c L p (eN a) k j)=Y (.nx<|Li c L (Ik R p a) (eN a) t m):=by
 obtain⟨u,x,_,v⟩:=d a s;have q:Kr (Li c L p (eN a) k j)=Y (!decide (a∈p.2),Li c L p (eN a) k j):=mq (o:=U)<|jO (CG a p.2) (jV H).r<|jR H;unfold Ik;by_cases h:a∈p.2
 .rw[pe h] at q;rw[jl h];exact⟨k,j,(jc<|(rE q).trans H).trans H⟩
 .rw[mD h] at q;rw[jv h];obtain⟨m,e⟩:=Tz b c (BW L U) (Y (.lst p.1,J)) (eN a) (BW (R a) U) (R a) p.2 j u g;refine⟨BW (R a) U,m,(jc<|(uN q).trans<|(jc<|kJ (i:=5) (v c (Y (.lst p.1,J)) (Y (dC p.2,J)) k j) (show 5<7 by decide)).trans<|(jc<|(lb (ds:=(R a).map cD) (δ1:=Li c L p (eN a) (BW (R a) U) j) H).trans e).trans<|(jc<|pX<|qg (i:=2) (l0:=p.1) (l:=p.1) (r:=(.tup<|(R a).map cD,U)) (δ1:=[c,BW L U,Y (.lst p.1,J),Y (dC<|(R a).foldl oK p.2,J),eN a,BW (R a) U,m]) H (jC H (jV H).r) H<|Ep<|by lia).trans H).trans H⟩
theorem Ol{p:List D×List (List Int)}{a:jh}(c:a∈kb n)(g:GV n p.2):GV n (Ik R p a).2/\(Ik R p a).1.length<=A7 p.1+1:=by
 unfold Ik;split
 .exact⟨g,by lia⟩
 .exact⟨g.fold (d a c).1,by simp⟩
theorem Tw(k:Sl): ∀(c:jS) (p:List D×List (List Int)) (l i j:Sl),(∀a∈c,a∈kb n)->GV n p.2->A7 p.1+A7 c<=1000-> ∃q m o,ml (ja 4) VQ (c.map cD) (LD k L p l i j)=Y (.nx<|LD k L (c.foldl (Ik R) p) q m o)
 |[],p,l,i,j,_,_,_=>⟨l,i,j,rfl⟩
 |a::c,p,l,i,j,h,g,w=>by have r:=h a jW;obtain⟨g1,g2⟩:=Ol b d r g;simp at w;obtain⟨s,t,u⟩:=Sg b d k r p g (by lia) i j;obtain⟨q,m,o,e⟩:=Tw k c (Ik R p a) (eN a) s t (λa v=>h a<|jZ _ v) g1 (by lia);refine⟨q,m,o,?_⟩;show(VQ<|LD k L p (eN a) i j).bind _=_;rw[u];exact e
theorem Tv(k:Sl): ∀(c:jS) (p:List D×List (List Int)) (l i j:Sl),(∀a∈c,a∈kb n)->GV n p.2->A7 p.1+A7 c<=1000-> ∃q m o,ml (ja 4) VP (c.map cD) (Li k L p l i j)=Y (.nx<|Li k L (c.foldl (Ik R) p) q m o)
 |[],p,l,i,j,_,_,_=>⟨l,i,j,rfl⟩
 |a::c,p,l,i,j,h,g,w=>by have r:=h a jW;obtain⟨g1,g2⟩:=Ol b d r g;simp at w;obtain⟨s,t,u⟩:=Sf b d k r p g (by lia) i j;obtain⟨q,m,o,e⟩:=Tv k c (Ik R p a) (eN a) s t (λa v=>h a<|jZ _ v) g1 (by lia);refine⟨q,m,o,?_⟩;show(VP<|Li k L p (eN a) i j).bind _=_;rw[u];exact e
end
def acC{n:Nat}(h1:1<=n){c:jS}(f:LK n c): ∃N:Nat,(∃o,lM [(Kw n c,U)]=Y ((.int N,U),o))/\ ∃F:List D,F.length=N/\ ∃o,oI [(.lst<|(kb n).map cD,U),(.lst<|(Ir n c).map cD,U)]=Y ((.lst F,J),o):=by
 have d:=f.1
 have u:(kb n).length<=32:=by rcases(show n=1\/n=2\/n=3\/n=4\/n=5 by lia) with rfl|rfl|rfl|rfl|rfl<;>decide
 obtain⟨R,m⟩:=ab6 d h1 (L:=Ir n c) (λt s=>Vu f s)<|RK f
 let F:=((kb n).foldl (Ik R) ([],[])).1
 have l:GV n ([]:List (List Int)):=⟨nU,by simp⟩
 refine⟨F.length,?_,F,rfl,?_⟩
 .obtain⟨g,j,k,e⟩:=Tw d m (Y (.lst<|(kb n).map cD,U)) (kb n) ([],[]) C C C (λa h=>h) l (by simp;lia)
  have q:Ab kr (vb (.lst<|(kb n).map cD,U) 5 [(.lst<|(Ir n c).map cD,U)])=Y (.rt (.lst F,J) [Y (.lst<|(kb n).map cD,U),C,C,sT ((kb n).foldl (Ik R) ([],[])).2,g,j,k,BW (Ir n c) U]):=by refine(jc (δ1:=[Y (.lst<|(kb n).map cD,U),C,Y (.lst [],J),C,C,C,C,BW (Ir n c) U])<|by simp[vb,jY]).trans ((jc (δ1:=LD (Y (.lst<|(kb n).map cD,U)) (Ir n c) ([],[]) C C C) H).trans<|(jc<|(lb (ds:=(kb n).map cD) H).trans e).trans<|kD H)
  have p:qh [(Kw n c,U),(.lst<|(kb n).map cD,U)]=Y ((.lst F,J),[rS n c,Y (.lst<|(kb n).map cD,U)]):=by refine lK (δ:=[rS n c,Y (.lst<|(kb n).map cD,U),BW (Ir n c) U,C]) ⟨rfl,by decide,rfl⟩<|(jc<|kJ (i:=2) (δ1:=[rS n c,Y (.lst<|(kb n).map cD,U),C,C]) (Lq (abb d f.2.1.2 f.2.2.2)<|jV H) (show 2<4 by decide)).trans ?_;show FP 3 1 [2] 5 (Ab kr) [rS n c,Y (.lst<|(kb n).map cD,U),BW (Ir n c) U,C]=_;unfold FP;rw[show km [rS n c,Y (.lst<|(kb n).map cD,U),BW (Ir n c) U,C] (([1,2]:List Nat).map .slot)=Y [(.lst<|(kb n).map cD,U),(.lst<|(Ir n c).map cD,U)] from H];simp only[jU];rw[jl ⟨rfl,by decide,show 3<4 by decide⟩,q];rfl
  refine⟨[rS n c],HW (np:=1) ⟨rfl,by decide,rfl⟩ (δ:=[rS n c])<|jC (Np F) (jE (b:=J)<|K7 p (jV H)<|jE (b:=J)<|Lq (aaZ d)<|jE (b:=U)<|jO H (jV H).r (jE H).r).r⟩
 .obtain⟨g,j,k,e⟩:=Tv d m (Y (.lst<|(kb n).map cD,U)) (kb n) ([],[]) C C C (λa h=>h) l (by simp;lia);refine⟨_,lK (δ:=[Y (.lst<|(kb n).map cD,U),BW (Ir n c) U,C,Y (dC ((kb n).foldl (Ik R) ([],[])).2,J),g,j,k]) ⟨rfl,by decide,rfl⟩ ?_⟩;exact(jc (δ1:=[Y (.lst<|(kb n).map cD,U),BW (Ir n c) U,Y (.lst [],J),C,C,C,C])<|by simp[jY]).trans ((jc (δ1:=Li (Y (.lst<|(kb n).map cD,U)) (Ir n c) ([],[]) C C C) H).trans<|(jc<|(lb (ds:=(kb n).map cD) H).trans e).trans<|kD H)
def Vs:lM [(Kw 0 [],U)]=Y ((.int 1,U),[rS 0 []]):=by kernel_rfl
def Vt:oI [(.lst<|(kb 0).map cD,U),(.lst<|(Ir 0 []).map cD,U)]=Y ((.lst [.tup [cD []]],J),[Y (.lst<|(kb 0).map cD,U),Y (.lst<|(Ir 0 []).map cD,U)]):=by kernel_rfl
def adm{n:Nat}{d:jS}(e:LK n d): ∃N:Nat,(∃o,lM [(Kw n d,U)]=Y ((.int N,U),o))/\ ∃F:List D,F.length=N/\ ∃o,oI [(.lst<|(kb n).map cD,U),(.lst<|(Ir n d).map cD,U)]=Y ((.lst F,J),o):=by
 by_cases h1:1<=n
 .exact acC h1 e
 .obtain rfl:n=0:=by lia
  obtain rfl:d=[]:=by
   cases d with
   |nil=>rfl
   |cons c d=>
    obtain⟨a,_,b⟩:=e.2.1.2 c jW
    cases c with
    |nil=>exact absurd H a
    |cons s c=>have:=b s jW;lia
  exact⟨1,⟨_,Vs⟩,[.tup [cD []]],rfl,_,Vt⟩
abbrev Yz:F:=jy (g1 uT) [W4]
abbrev TH:FS:=ji Wy<|ji W7<|ji (lH 4 Yz) W3
def Ph(j:jh)(k:Nat)(m g e:Sl): ∃p q s,TH [Y (.lst<|j.map .int,U),ii k,m,g,e]=Y (.nx [Y (.lst<|j.map .int,U),ii k,p,q,s]):=by
 let c:Sl:=Y (.lst<|j.map .int,U)
 let d:Sl:=ii k
 obtain⟨a,b,t⟩:=adL j k
 let f:Nat:=5-min k 1
 obtain⟨a1,n,h,l,_,_,u⟩:=acN a b 0 f (by omega) (by simp only[f];omega);have y:=l.1;obtain⟨N,⟨E,z⟩,F,x,T,A⟩:=adm l;obtain⟨Q,B⟩:=zO y;refine⟨AV a1 b,rS n h,ii N,?_⟩;refine(jc<|kJ (i:=2) (δ1:=[c,d,m,g,e]) (K7 t (jV H)<|jV H) (show 2<5 by decide)).trans ?_
 have w:jx PX.FZ (jk<|fC<|.int 5) WC [c,d,AV a b,g,e]=Y ((.int f,U),[c,d,AV a b,g,e]):=by
  have:(f:Int)=5-(if(1:Int)<k then 1 else(k:Int)):=by simp only[f];split<;>omega
  rw[this];simp[c,d]
 refine(jc<|kJ (i:=3) (δ1:=[c,d,AV a1 b,g,e]) ((mn (δ1:=[c,d,AV a b,g,e]) (os:=[.slot 2,.val (.int 0,U),.val (.int f,U)]) (args:=[pS a b,pI (0:Nat),pI f]) (Bi H<|qW H<|jN w) H (Lf 2) u).trans H) (show 3<5 by decide)).trans ?_;have v:Yz [c,d,AV a1 b,rS n h,e]=Y ((.int N,U),[c,d,AV a1 b,rS n h,e]):=jC (a:= .lst F) (by rw[Np,x]) (jE (b:=J)<|K7 A (jE (b:=Q)<|Lq B<|jE (b:=U)<|jO H (jV H).r (jE H).r)<|jE (b:=J)<|Lq (Oo l)<|jV H).r;refine(jc<|kJ (i:=4) v (show 4<5 by decide)).trans ?_;refine(no (δ:=[c,d,AV a1 b,rS n h,ii N]) _ (Gs (b:=J)<|mq (o:=U)<|K7 (Zo (mr 5) N U U) (jE (b:=U)<|Lq z<|jV H)<|jV H)).trans H
def e34(e a b c d:Sl):Cc WT zC2 [e,a,b,c,d]=Y ((.bl J,U),[e,a,b,c,d]):=by kernel_rfl
def Wh(a:jh)(p:(A7 a)<=63): ∃o j,vZ [(.lst<|a.map .int,U)]=Y ((.bl J,o),j):=by
 let g:Sl:=Y (.lst<|a.map .int,U)
 let N:Nat:=if 1<min (A7 a) 5 then min (A7 a) 5 else 1
 obtain⟨_,⟨i,b,c,f,_,rfl⟩,e⟩:=sV (tg:=ja 1) (fb:=TH) (λds δ=> ∃i b c f,(∀d∈ds,∃k:Nat,d= .int k)/\δ=[g,i,b,c,f]) (λd ds δ T=>by
  obtain⟨i,b,c,f,h1,h⟩:=T
  subst h;obtain⟨k,rfl⟩:=h1 d jW;obtain⟨g2,g3,n,e⟩:=Ph a k b c f
  exact⟨_,_,rfl,e,_,_,_,_,λx m=>h1 x<|jZ _ m,rfl⟩) (jD 0 N) [g,C,C,C,C] ⟨C,C,C,C,λd hd=>by obtain⟨k,_,rfl⟩:=nC.mp hd;exact⟨k,by simp⟩,rfl⟩
 refine⟨U,_,lK (δ:=[g,i,b,c,f]) ⟨rfl,by decide,rfl⟩ ?_⟩;refine(jc<|(lb (ds:=jD 0 N) (δ1:=[g,C,C,C,C]) ?_).trans e).trans (kD<|mH<|e34 g i b c f);refine qF (o:= .val (.int N,U)) (jN ?_) H (by simp only[N];split<;>lia)
 have l:(N:Int)=if(if(5:Int)<(A7 a) then 5 else((A7 a):Int))>1 then(if(5:Int)<(A7 a) then 5 else((A7 a):Int)) else 1:=by simp only[N];split<;>split<;>split<;>lia
 rw[l];simp[g]
end PV
def K34.main(b:jh)(c:(A7 b)<=63): ∃o a,PV.vZ [(.lst<|b.map .int,U)]=Y ((.bl J,o),a):=PV.Wh b c
structure PySem.W.Fast:Prop where(tw9382195924190783597 tw7244385940420717795 tw965510320156103656 tw16602995053899428183 tw16474929917327556927 tw18384056717591101726 tw2377196981142499552 tw14180369409319211329 tw14363269637644306800 tw4589465979568811606 tw5205614412647833 tw3814984932935640670 tw12125248108372451366 tw17570807389260986680 tw1899329936362051033 tw16588600454505877693 tw1565708100428484240 tw16723057238367144902 tw13053017741079021270 tw15933202242913264436 tw17762576488654908554 tw12470560387835873185 tw13797291973017144536 tw16224721717160869598 tw8909525170044865008 tw15032304837536446633 tw3174181811318947288 tw15208503550981322411 tw14215366133687570457 tw15744758392613670648 tw11014854813256058197 tw4187229280363058105 tw4223065185077541450 tw11166943425372858742 tw17921220264193389610 tw2093982351989063896 tw8763293244713108570 tw16261617574289473652 tw13477235449749154135 tw17929160571523051739 tw13891973606485489478 tw13240037260561474859 tw3467674029743731032 tw3963132674855300913 tw8773301558454043317 tw8395828743478386668 tw17437977438385145386 tw8118547501068869184 tw15750786900549999491 tw1570587637681371650 tw11297440531817403477 tw5221090956785196643 tw9785931587118586757 tw7720724876552351941 tw15115937423536331439 tw8080296205146631514 tw12948985520482844712 tw12601103717047539626 tw14921027338483141873 tw4778265758204545988 tw4362044659300681717 tw3658988851448900583 tw10112586524073466770 tw5205865492860880625 tw9610491033549134578 tw4325743326460433976 tw1907059378139101246 tw10943575442844249117 tw16644154667093627037 tw3666288225410856537 tw9145236541269922903 tw14267626168138156427 tw16350149129525271482 tw10796245964609083255 tw15971858340600920540 tw14936474619646680522 tw13132690825336195712 tw14634503316249916316 tw13402381959636964728 tw16551643429998652715 tw9918666597033092095 tw496304526623325377 tw14354015038027645593 tw11285051916870047503 tw9398571202497541954 tw15736953646558616125 tw1280283070854451661 tw2520418362688503867 tw11291726537991821096 tw15841080773829200843 tw12526923488086169641 tw1194020487878447216 tw15552878965448458817 tw10949461256932670899 tw3856900138534677920 tw4793989233981935787 tw8949073807236914553 tw3730571306472409249 tw1596001474664841414 tw9428691628604051213 tw9165061554730037724 tw9187864790887521500 tw10713813350537958792 tw16054302873896309782 tw1012935913182369399 tw15871645157134772028 tw6991808347978227361 tw17302001465983685707 tw12141620491527574572 tw13299122035556355837 tw9589321066524276030 tw12328169749686971614 tw10659647342290825987 tw2732358330395748986 tw16765707121519780645 tw7192806171529659318 tw12543066686659894027 tw17820492285709751481 tw2390700990471217446 tw9978103835029180479 tw9931672110382960931 tw15333762091524516093 tw8430499122787487143 tw16280926714068952069 tw14083311877267819956 tw8040614639338154623 tw5439444890094285055 tw953600440613226639 tw12038800230297736703 tw7284520253211468204 tw15078215413677641686 tw9929293332659615980 tw14966911196511892169 tw8749529844734557426 tw6665320757796415833 tw3845758924451531491 tw3538172499837278033 tw6640508591719196641 tw10196658655771374214 tw15346698901994988000 tw194381732788471074 tw9835566296163051768 tw18081099329797390296 tw15755014414903270894 tw1173636864126052533 tw13397155051831567186 tw2815471970631809445 tw2462700953967705003 tw16323003740050703338 tw12813733851691712363 tw9814848316550847994 tw3197536314600038721 tw13357107300537255914 tw16928407320121002055 tw3423506482886360524 tw11140901652475584152 tw6535777761027552425 tw5351751402464906037 tw9200168314198560471 tw1912989364073786543 tw13019976499764512288 tw1952441296974466822 tw1707968283795167737 tw14989491271789088271 tw3571154758880840970 tw7355860319004399485 tw16490620665864017069 tw536360623746314468 tw287248934303042802 tw12840463949359380077 tw7396978932678421047 tw5423981778108193058 tw18416008916754438641 tw12667945335282541315 tw17108404121505246964 tw997112618083700744 tw2672406164929877923 tw13262111655198528451:True)
open PySem PySem.W PyProof.Rows PX
set_option maxRecDepth 100000 in
set_option maxHeartbeats 0 in
theorem PySem.Challenge.cw_twinriddles_k34_kinds_of_all_answers_holds : PySem.Challenge.rw_twinriddles_k34_kinds_of_all_answers.Holds := by
  w_on; o_law; k_head; (case hw => w_witness2)
  k_fill
  refine walkT (TB := K34.TB34) (l := PySem.Challenge.rw_twinriddles_k34_kinds_of_all_answers) (LV := 13) (x := "_law_script") ⟨rfl, by decide, by decide, rfl⟩ rfl rfl (fun w h Y => km_in_of Y) (fun w h Y => aC (km_tabs_of Y _ List.mem_cons_self) aN) (fun w => aC ?K aN) (by decide) ?F K34.main
  case K => show List.lookup 158 _ = none; kernel_rfl
  case F =>
   intro w mg fa h KX G hmg
   refine' K34.all_mk hmg (txK KX G ?_ ?_ ?_ ?_ ?_ ?_ ?_ ?_ ?_ ?_ ?_ ?_ ?_ ?_ ?_ ?_) ?_ ?_ ?_ ?_ ?_ ?_ ?_ ?_ ?_ ?_ ?_ ?_ ?_ ?_ ?_ ?_ ?_ ?_ ?_ (fzT KX G ?_ ?_ ?_ ?_ ?_) ?_ ?_ ?_ ?_ ?_ ?_ ?_ ?_ ?_ ?_ ?_ ?_ ?_ ?_ ?_ ?_ ?_ ?_ (mg_none_of KX G ?_)<;>try first|refine' fz KX G ?_ ?_ ?_ ?_<;>try k_is|k_is|kernel_rfl
