import PyProof.Rows.All
import Wide.All
import OpenK.AllK
import Wide.FinOn
import PyProof.EqAt
import PyProof.EqKinds
import PyProof.TupleCall
import Lean
import PySem.Challenge.RW_twinriddles_k62_what_follows
set_option Elab.async false
set_option linter.all false
set_option maxRecDepth 100000
set_option maxHeartbeats 8000000
set_option compiler.extract_closed false
set_option backward.eqns.nonrecursive false
noncomputable section
open List renaming length->Ps
namespace RfL
theorem r{a:α}:a=a:=rfl
end RfL
open RfL renaming r->H,r->O9
open Option renaming some->C,some->N2,none->I,none->Op
open Bool renaming true->J,true->O0,false->Y,false->O1
open Array renaming length_toList->kE,getElem?_toList->lO,getElem?_eq_getElem->rT,getD_eq_getD_getElem?->vp,getElem?_eq_some_iff->Qv,getElem?_setIfInBounds->Dr,getElem?_eq_none->Dq,append_assoc->Hr,getElem?_eq_none_iff->WE,getElem?_replicate->Mn,toList_eq_nil_iff->WO,toArray_toList->L6,toList_append->L4,toList_push->eS,replicate->fv,getD->fP,size_zip->mL,size_map->mN,toList->o7,ext->wl
open Bool renaming false_ne_true->kU,false_eq_true->kT,and_eq_true->lE,not_true->vo,or_eq_true->xG,true_and->xw,eq_iff_iff->xv,false_and->DP,eq_false_iff->WG,not_eq_true'->eZ,noConfusion->kS,decide_and->mA,and_false->nn,or_false->o6
open False renaming elim->aZ
open ForInStep renaming yield->bH
open Function renaming comp_def->uI,comp->bS
open Int renaming toNat_natCast->qh,neg_neg->sd,mul_one->Af,emod_lt_of_pos->GK,emod_nonneg->GJ,fdiv_eq_ediv_of_nonneg->MM,ediv_one->tp,mul_neg->v8,le_refl->wf
open LawfulBEq renaming eq_of_beq->rY
open LawfulMonad renaming bind_assoc->wk,pure_bind->tl
open List renaming map_cons->km,mem_cons->lz,mem_map->my,size_toArray->jx,getElem?_eq_getElem->jA,length_map->jF,mem_cons_self->kg,mem_cons_of_mem->kj,getElem?_map->ki,map_map->kH,mem_append->pJ,getElem?_eq_some_iff->rQ,all_eq_true->lU,not_mem_nil->lD,length_append->lP,nodup_nil->lT,length_cons->mw,mem_singleton->zf,mem_of_getElem?->nB,append_assoc->ny,pairwise_map->og,pairwise_cons->BL,map_append->nU,getElem?_set_self->oF,lookup_cons->oA,getElem?_set_ne->oP,pairwise_append->vh,getElem?_append_right->pO,mem_append_right->qj,mem_range->yK,length_take->rG,map_nil->rF,getElem?_of_mem->rX,filterMap_cons->uR,append_nil->uP,getElem?_append_left->uO,replicate_succ->uM,length_singleton->uL,map_congr_left->uE,map_id->uD,getElem?_replicate->wt,length_set->wo,getD_eq_getElem?_getD->qP,zip_cons_cons->qO,length_nil->qL,nil_append->qK,nodup_cons->Ah,foldl_cons->sj,all_map->si,exists_cons_of_length_pos->se,length_pos_iff->MP,mem_filter->Gv,take_append_drop->vA,mem_map_of_mem->vn,of_mem_zip->yb,take_sublist->ya,flatten_cons->xY,getElem?_zip_eq_some->ET,any_map->xR,drop_eq_getElem_cons->xQ,ext_getElem?->xP,pairwise_reverse->Hs,mem_of_mem_take->xK,length_eq_zero_iff->Qu,find?_cons->xy,length_drop->Ad,getElem?_set->Aa,drop_eq_nil_of_le->zZ,eq_nil_of_length_eq_zero->zV,take_of_length_le->zU,mem_of_mem_drop->zS,isEmpty_nil->zM,cons_append->zJ,length_filter_le->zH,mem_append_left->DQ,reverse_cons->DI,reverse_perm->Dy,perm_middle->Qp,extract_eq_take_drop->Dx,length_eraseIdx->Dm,dropLast_concat_getLast->Dh,length_dropLast->Ha,ext_getElem->G5,getElem?_zipIdx->G4,length_reverse->GW,mem_reverse->WH,eq_nil_or_concat->GV,concat_eq_append->GU,pairwise_iff_getElem->Qs,getElem_of_mem->GS,drop_sublist->GR,mem_erase_of_ne->GI,findIdx?_eq_some_iff_getElem->WD,getElem_mem->GB,map_id'->Gz,filter_map->Gy,getElem?_take_of_lt->MK,length_replicate->MJ,eraseIdxIfInBounds_toArray->Mz,getElem?_range->My,pairwise_singleton->Mr,perm_append_comm->Ti,pairwise_lt_range->WQ,filterMap_append->Mq,perm_append_singleton->Mp,dropLast_eq_take->L5,findIdx?_eq_none_iff->WN,perm_cons_erase->LZ,dropLast_subset->LY,getElem?_concat_length->LX,replicate->ac,range->aj,replicate_zero->c3,mem_filterMap->c7,range'->c9,any_cons->dc,mem_flatMap->dr,getElem_map->dt,range_succ_eq_map->dL,Nodup->dM,forIn_cons->d0,length->el,all_cons->eJ,getElem?_drop->eM,foldl->eO,map->eW,length_range->eY,take_take->fS,tail_cons->fU,getElem?_cons_succ->f4,eraseIdx_cons_succ->f5,getElem?_eq_none->gD,zip_nil_right->hW,filter_append->hX,filterMap_map->hZ,nodup_append->jp,all_eq_false->j1,zipIdx_cons->j7,range'_succ->j8,map_fst_zip->ka,getLast_mem->kl,getElem_inj->kv,append_inj'->kw,any_eq_true->kA,set_append->ms,length_zip->mu,take_succ->nb,forIn_nil->nf,map_take->o4
open List.Pairwise renaming nil->ce,sublist->tc,imp_of_mem->te,and->th
open List.Perm renaming refl->vw,append_left->Ml,swap->gK,cons->gL,trans->I0,eq_of_pairwise->I8
open List.cons renaming inj->uF,injEq->da
open Nat renaming le_refl->jW,ne_of_lt->jM,le_trans->lI,zero_le->lN,lt_of_lt_of_le->nE,ne_of_gt->oD,lt_irrefl->qk,pow_succ->qN,mul_assoc->qM,le_of_lt->sv,lt_succ_self->sh,lt_succ_of_lt->vE,zero_add->vB,mul_add->vt,mul_comm->vq,le_succ->xX,not_lt->Qw,add_assoc->xJ,mul_one->xF,mod_lt->xD,min_eq_left->zQ,pow_le_pow_right->zO,lt_trans->DH,mul_left_comm->Ds,lt_asymm->G8,add_sub_cancel_left->GX,one_mul->GN,mul_zero->GL,lt_of_le_of_lt->GA,add_mul->fy,sub_add_cancel->i4,add_sub_cancel->i7,le_of_not_lt->mm,le_add_right->mo,two_pow_pos->m6,mul_add_mod->m8,div_add_mod->na,le_of_eq->s8,add_zero->s9,add_comm->ta,add_mod->v6
open Ne renaming symm->nV
open Option renaming bind_some->jU,isSome_iff_exists->LR,isSome_map->GF,isSome_some->eD,map_some->fm,map->fx,map_eq_some_iff->fZ,bind->gg,getD_none->hU
open Option.some renaming inj->kN
open Or renaming inl->bC,inr->bI
open Ordering renaming swap->fw
open Prod.mk renaming inj->qR
open PyProof.Rows renaming SortSt->rR,slot_tuple_getitem->zG,listUpdate_at->vz,get?_update_seq->xH,callWith_type1->Ae,seqEpoch_at->zP,boot_range->DN,slicePart_none->DJ,entry_tuple_getitem->Hg,args_tuple_getitem->Hf,tupleItemsOf_->He,listItems_at->GQ,subscriptTail_builtinR->MF,envOfC->aV,seqObj->bh,IntsAre->dG,AllBare->dI,Keyed->eC,arrOf->fj,failedOf->fO,subscriptTail->gJ,IsTup->hL,SortKind->mj,Subscript_->oC,wpAny_notIn_heap->sK,lt_int->u8,le_int->u9,gt_int->vl,ge_int->vr,entry_list_sort->vu,callWith_builtin1->vv,slot_list_sort->x0,oneType'->x6,keyLt'->x9,slicePart_int->Do,reverseSlice'->Ev,tuples'->IN,plain_sorted->IP,entry_sorted->IR,call_abs_int->IX,kind_sorted->N1
open PyProof.Rows.IsTup renaming new->Ac
open PySem renaming Shared->iI,Program->jd,Around->jf,World->iW,SetTable->mU,Value->iO,Comprehension->oy,FuncData->mD,Heap->ja,Addr->iB,wpAny_bind->iF,wpAny_pure->iR,sizeLine_eq->kf,wpAny_newObj_type->mx,wpAny_holding->nC,wpAny_field->nA,wpAny_mono->oE,wpAny_call_entry->oB,mem_of_lookup->qi,wpAny_callSpecial?_slot->rZ,wpAny_attempt->rW,wpAny_truthy_bool->uQ,wpAny_rule->uJ,wpAny_setField_rec->uG,wpAny_typeOf->wq,call_meets->wm,codeAny_mono->sm,codeAny_builtin->sf,wpAny_passesOwn->vG,wpAny_Call_Name_kw->vF,wpAny_setField->vC,wpAny_standAt->yd,wpAny_load->yc,wpAny_askSetting->xS,plainId_quiet->xN,wpAny_isInstance->xM,wpAny_execs_nil->Ag,wpAny_of_eq->Ab,wpAny_seqItems->zY,wpAny_onRaise->zW,wpAny_setState_of->zN,tupleKind_room_in1->zL,intKind_is->zK,wpAny_pyIter_list->DO,wpAny_call->DM,concat_meets->DK,wpAny_newTuple->DD,wpAny_letGo->DC,isSubtype_stop->Dz,wpAny_forIn_list->Dv,richCompare_meets_room->Du,wpAny_newList->Dt,isSubtype_type->Dp,wpAny_updateSeq->Dk,wpAny_typeNameOfWhole_keyiter->Dj,noFill_tuple_add->Hn,seq_tuple_add->Hm,wpAny_sequenceKey->Hh,evalPart_none->Hd,seqIndex_of->Hc,seqIndex_neg->Hb,wpAny_alloc->G9,codeAny_of_tree->G7,wpAny_comprehension_free->G6,wpAny_runValue->G3,wpAny_handled->G2,wpAny_throw->GZ,wpAny_collect_seq->GO,wpAny_pyIter_slot->GH,wpAny_setEntries_of->GG,wpAny_dictEntries->GD,wpAny_dictEpoch->GC,wpAny_storeName_local->MO,codeAny_call_function->MI,wpAny_newFunctionEnv_cells->MH,wpAny_updateSeq_pair->Mt,builtinLookup_eq_fast->Mm,codeAny_extend_loopS->Me,wpAny_isOneOf_keyiter->Ma,codeAny_call_builtin->L0,starEach->ag,wpAny->ah,model->ai,mainGlobals->am,compareOp->aw,foldedSetIterable->ay,Str->aB,bootBuiltins->aK,eval->aU,assignEach->aW,wpAny_loadPart'->aY,binaryOp->bb,backTo->bc,cLine->bi,Builtin->bn,cellsFrom->br,Stmt->bv,Pos->bB,sysModules->bL,swapsWith->b6,clausesOf->b9,attributeBase->ca,IsPair->cj,intKind->cp,holding->cw,pyNext->cz,assign->cC,CmpOp->cH,Arguments->cI,standAt->cN,rawInt->cO,firstArgMember->cP,codeAny->cR,behindInMarks->c4,sliceBounds->c5,NameKind->c6,Keyword->c8,Env->dh,getItem->dv,Sem->dP,IsPart->dS,tupleKind->d1,codeAmong->ed,DictEntry->ee,pyIter->en,IsEnum->eo,letOwnedTupleGo->ev,Obj->ey,IsZip->ez,keywordEach->eP,bindArgs->eR,PassesOwn->eT,swapsWithSole->e8,swappedStores->e9,collect->fE,callerA->fG,GenState->fL,BindsTo->fM,pickOrder->fV,Model->fY,valueAt->f8,setsByText->gh,numAt->gj,newFunctionEnv->gk,intItems->gm,builtinsNs->gq,backToKw->gr,comprehension->gH,updateSeq->gP,noteFrame->gQ,list_append->gU,lastMarks->gV,field->gW,compStart->gX,bindL->g0,bindC->g6,atKey->g7,TriplesOk->g8,Meets->hD,IsEnumOut->hH,typeOf->ia,setItem->ib,relabel->ie,preSum->ig,newList->ik,newExc->il,Result->iV,ItemsOf->i3,unsupported->k9,slotArgs->lf,setField->li,newTuple->lm,compTurn->lv,ZipApart->lw,Tok->m5,wpAny_pyIter_tuple->nw,wpAny_Name->nF,typeIs_int->nP,defaultsOf->n7,closureFor->on,wpAny_storeSet_of->pc,wpAny_pyIter_enum->pp,slot_list_getitem->pw,hashInt->px,wpAny_pyIter_zip->qs,wpAny_execs_cons->rc,seqIndex?->rk,checkBuiltinCall->ro,call->r0,wpAny_specialOf->tv,typeLookup_type->tz,theWindowsPlace->t5,size_of_entries->ul,pushCells_keeps->ut,getAttrByItsOwn->u0,Fin->u3,wpAny_notIn_of->wn,wpAny_fieldsOf->wr,wpAny_Expr_any->wv,raiseNew->ww,fitsIndex_both->wE,entryFor_alias->wP,entryFor->wS,compPost->wT,cellOf->w6,boundAndCalled->w9,argsOk->xz,wpAny_notedAt->y6,wpAny_in_heap->y7,rangeSize_one->zn,intBits_le_64->zx,evalPart_some->z7,call_list_seq->z8,unaryOp->EQ,splitId->Fa,spliced->Fk,setAddHashed->FM,release->F0,name_of_addr->F2,leaving->Gc,codeAny_func->Go,call_range_2->G0,callType_new->G1,IsRange->Ix,wpAny_point->J4,wpAny_in_of->KE,wpAny_Slice->K2,table->K3,subscripted->Ls,interactive->L3,IsRangeIter->NE
open PySem.Around renaming under_plainId->vD,frames_deeper->ML
open PySem.AutoSeq1 renaming sub_tuple_tuple->Dw
open PySem.Builtin renaming bitAnd->bV
open PySem.Builtin.Frozenset renaming addrOf->eu,slot0->l8,sizeOf->me,oneOther->mi
open PySem.Builtin.List renaming listExtendWith->bP,listSameRef->bW,listTooLong->cZ,listLengthHint->eI,listFitsIndex->u5
open PySem.Builtin.Range renaming rangeSize->eU,small->sB
open PySem.Builtin.Slice renaming slicePlaces->aT,sliceAdjust->be,sliceApplied->bR,sliceFields->eL,slicePartIndex->ss
open PySem.Builtin.SmallTypes renaming nextOf->aO,ownedTupleHandOut->bj,ownedTupleIsFree->bt
open PySem.Builtin.Tuple renaming tupleExact->aH,tupleCompareSizes->bD,tupleItemsOf->cM,tupleIsExact->eG,tupleHashOf->sa
open PySem.Calls renaming spliced_nil->Hq,spliced_cons->Ho,Name_function_global->MN,callWith_builtin->ME,evalArgs_plain->MD
open PySem.Data renaming cell->fg,fields->gG,seq->Db
open PySem.F renaming slot_dict_keyiterator_next->Cf,slot_enumerate_next->DA,plain_list_iadd->Dl,plainAttrs_list->Di,slot_tuple_add->Hl,entry_tuple_add->Hk,args_tuple_add_2->Hj,called_tuple->Qt,entry_list_append->MC,args_list_append_2->MA,args_object_init_2->Mx,slot_tuple_iterator_next->Mw,entry_enumerate_next->Mv,args_enumerate_next_1->Mu,slot_set_iter->Mk,entry_proto_collect->Mj,plain_proto_collect->Mi,entry_list_iadd->Mh,plain_extend_loop->Mf,slot_dict_iter->Md,entry_dict_keyiterator_next->Mc,args_dict_keyiterator_next_1->Mb,slot_list_pop->L9,type_list_pop->L8,slot_tuple_eq_refl->L7,attr_TypeError->WM
open PySem.Heap renaming get?_push_of_some->kc,lt_size->ke,get?_push_size->kD,size_push->rE,get?_update_self->uN,get?_update_other->xZ,get?_update_ne->GP,SameBut->aR,ExtBut->ej
open PySem.Heap.SameBut renaming update->rB,refl->DG
open PySem.NameKind renaming free->aL,cell->cG
open PySem.Obj renaming data_mapFields->uH,isFreed_of_fields->DF,cls_mapFields->DE,mapSeq->aG,mapFields->f3,putSet->i0
open PySem.Paired renaming length->vH
open PySem.SeqAt.EqAt renaming str_int->fW,int_str->fX,same->gf,bool_bool->gF,str_str->z9,str_none->At,str_bool->AC,none_str->AT,none_int->A1,none_bool->A2,int_none->B1,int_int->B2,int_bool->B4,bool_str->Ch,bool_none->CK,bool_int->C2
open PySem.SetTable renaming below->ao,insertAt->ap,runEnd->aE,bits->aM,turns->bT,leap->cF,Probe->dF,sizeAbove->eg,grown->fe,layClean->gA,tooFull->gE,fresh->g9,slot->io,laid->ir,fits->iu,fill->iH,put->j3,relaid->Ms,orStandIn->MB,has->M0,freeSlot->M2,advance->No
open PySem.SetTable.layClean renaming free->bJ
open PySem.SetTable.probe renaming go->dB
open PySem.Str renaming ofString->bf
open PySem.Value renaming none->au,ref->bM,type->b3,bool->cK,notImplemented->cW,int->ef,builtin->ew,str->im,isStrOf->m4,isInt->pL
open PySem.W renaming Frag->jb,mg_none_of->oz,kia_one->qQ,cellsFrom_some->DL,nsIn->aQ,keepIn->bU,fnOf->bX,kitOne->dN,codeIn->dO,methodObj->eF,mg_of->j2
open StateT renaming run_pure->GY
open Sum renaming inr->e6,inl->e7
open True renaming intro->bA
open PySem PySem.Spec PyProof.Rows
section
abbrev jw:=iO->Shared->Prop
abbrev jr:=List<|iB×ey
abbrev kd:=List<|List Int
abbrev iQ:=List Int
abbrev jD:=List iO
abbrev lp:=aB->Option iO
abbrev jL:=List Nat
abbrev wg:=Array<|Int×iO
abbrev mY:=Array iO
abbrev ji:=List aB
abbrev kh:=List Expr
abbrev EV:=Option iO->Shared->Prop
abbrev yJ:=iO->iO->dP iO
abbrev wj:=Array<|Option Nat
abbrev uC:=Array<|Option iO
abbrev kX:=List<|aB×iB
abbrev qg:=List oy
abbrev Ce:=Array eC
abbrev jT:=Nat->Prop
abbrev kG:=List iB
abbrev jJ:=Scope
abbrev iK:=Expr
end
section
open PySem.SeqAt
theorem iT:type_of% @if_pos:=@if_pos
theorem je:type_of% @if_neg:=@if_neg
theorem ky:type_of% @if_true:=@if_true
theorem kI:type_of% @if_false:=@if_false
theorem mE:type_of% @or_false:=@or_false
def mZ:=@decide_eq_false
def nD:=@congrArg
theorem pN:type_of% @decide_eq_true:=@decide_eq_true
theorem rC:type_of% @decide_eq_true_eq:=@decide_eq_true_eq
theorem rV:type_of% @not_or:=@not_or
theorem uK:type_of% @bne_self_eq_false:=@bne_self_eq_false
theorem BK:type_of% @beq_eq_false_iff_ne:=@beq_eq_false_iff_ne
end
namespace TT
noncomputable def adv(mask:Nat)(p:dF):SetTable.Probe:=
 if p.more>0 then {p with j:=p.j+1,more:=p.more-1} else
 {p with j:=(cF mask p.i p.perturb).1,more:=aE mask (cF mask p.i p.perturb).1-(cF mask p.i p.perturb).1,i:=(cF mask p.i p.perturb).1,perturb:=(cF mask p.i p.perturb).2}
noncomputable def stt(mask:Nat)(h:Int):SetTable.Probe:={j:=aM h%(mask+1),more:=aE mask (aM h%(mask+1))-aM h%(mask+1),i:=aM h%(mask+1),perturb:=aM h,dummy:=I}
noncomputable def pr(mask:Nat)(h:Int):Nat->dF
 |0=>stt mask h
 |n+1=>adv mask<|pr mask h n
structure TabOk(hs:iQ)(t:mU):Prop where
 pow: ∃k,3<=k/\k<=11/\t.mask+1=2^k
 dum:t.dummies= #[]
 len:t.place.size=Ps hs
 room:5*(Ps hs)<3*t.mask
 ris:t.place.toList.Pairwise (· < ·)
 bd: ∀j∈t.place.toList,j<=t.mask
 road: ∀(i:Nat) (h:Int) (j:Nat),hs[i]?=N2 h->t.place[i]?=N2 j-> ∃n,(pr t.mask h n).j=j/\ ∀m,m<n->(pr t.mask h m).j∈t.place.toList
end TT
namespace L2
abbrev Key:=Sum Int aB
noncomputable def AZ:Key->iO->Bool
 | .inl k,v=>pL k v
 | .inr x,v=>m4 x v
noncomputable def aax(w:iW):Key->Int
 | .inl k=>px k
 | .inr x=>hashStr w x
def kY: ∀{k:Key} {v:iO},AZ k v=J->(∃i t,k=e7 i/\v=ef i t)\/(∃x t,k=e6 x/\v=im x t)
 | .inl i,v,h=>by obtain⟨t,e⟩:=Value.isInt_shape (k:=i) (v:=v) h;exact .inl ⟨i,t,rfl,e⟩
 | .inr x,v,h=>by obtain⟨t,e⟩:=Value.isStrOf_shape (x:=x) (v:=v) h;exact .inr ⟨x,t,rfl,e⟩
def Lk(i:Int)(t:m5):AZ (.inl i) (.int i t)=J:=by simp[AZ,pL]
def Lj(x:aB)(t:m5):AZ (.inr x) (.str x t)=J:=by simp[AZ,m4]
def OX(a b:Int):decide ((e7 a:Key)=e7 b)=(a==b):=by
 by_cases e:a=b
 .subst e;simp
 .have h: ¬(e7 a:Key)=e7 b:=λq=>e<|Sum.inl.inj q;rw[mZ h];exact(BK.mpr e).symm
def OU(a b:aB):decide ((e6 a:Key)=e6 b)=decide (a=b):=by
 by_cases e:a=b
 .subst e;simp
 .have h: ¬(e6 a:Key)=e6 b:=λq=>e<|Sum.inr.inj q;rw[mZ h,mZ e]
def OW(a:Int)(b:aB):decide ((e7 a:Key)=e6 b)=Y:=mZ (λq=>nomatch q)
def OV(a:aB)(b:Int):decide ((e6 a:Key)=e7 b)=Y:=mZ (λq=>nomatch q)
noncomputable def lb(d:jd)(w:iW):PySem.KeyKind d w Key where
 is:=AZ
 hash:=aax w
 inj:=λv a b g f=>by
  rcases kY g with⟨i,t,rfl,rfl⟩|⟨x,t,rfl,rfl⟩
  .rcases kY f with⟨j,u,rfl,e⟩|⟨y,u,rfl,e⟩
   .injection e with c _;rw[c]
   .exact nomatch e
  .rcases kY f with⟨j,u,rfl,e⟩|⟨y,u,rfl,e⟩
   .exact nomatch e
   .injection e with c _;rw[c]
 byValue:=λk v h=>by rcases kY h with⟨i,t,rfl,rfl⟩|⟨x,t,rfl,rfl⟩<;>rfl
 pyHash:=λhv h=>by
  rcases kY hv with⟨i,t,rfl,rfl⟩|⟨x,t,rfl,rfl⟩
  .exact wpAny_pyHash_int h
  .exact wpAny_pyHash_str h
 eqBool:=λl hv h=>by
  rcases kY l with⟨i,t,rfl,rfl⟩|⟨x,t,rfl,rfl⟩
  .rcases kY hv with⟨j,u,rfl,rfl⟩|⟨y,u,rfl,rfl⟩
   .rw[OX] at h;exact wpAny_eqBool_int h
   .rw[OW] at h;exact fX i t y u _ _ _ _ h
  .rcases kY hv with⟨j,u,rfl,rfl⟩|⟨y,u,rfl,rfl⟩
   .rw[OV] at h;exact fW x t j u _ _ _ _ h
   .rw[OU] at h;exact wpAny_eqBool_str h
 «strs»:=λk x t v h=>by
  rcases kY h with⟨i,u,rfl,e⟩|⟨y,u,rfl,e⟩
  .exact nomatch e
  .injection e with c _
   subst c;cases v<;>rfl
def FG(a:jd)(w:iW)(i:Int)(t:m5):(lb a w).is (.inl i) (.int i t)=J:=Lk i t
def FF(a:jd)(w:iW)(x:aB)(t:m5):(lb a w).is (.inr x) (.str x t)=J:=Lj x t
inductive V where
 |non|bl(b:Bool)|int(i:Int)|str(x:aB)|byt(b:Array UInt8)|flt(b:UInt64)|ref(a:iB)|ty(n:String)
 deriving DecidableEq
def RelV:V->iO->Prop
 | .non,u=>u=au
 | .bl b,u=>u=cK b
 | .int i,u=> ∃t,u=ef i t
 | .str x,u=> ∃t,u=im x t
 | .byt b,u=> ∃t,u=Value.bytes b t
 | .flt b,u=> ∃t,u=Value.float b t
 | .ref a,u=>u=bM a
 | .ty n,u=>u=b3 n
abbrev Vals:List V->List iO->Prop:=Paired RelV
def Vals.length{xs:List V}{us:jD}(r:Vals xs us):(Ps xs)=(Ps us):=vH r
def Vals.get{b:List V}{a:jD}{i:Nat}{x:V}(h:Vals b a)(e:b[i]?=C x): ∃u,a[i]?=C u/\RelV x u:=by
 induction h generalizing i with
 |nil=>simp at e
 |cons r t c=>
  cases i with
  |zero=>simp at e;subst e;exact⟨_,rfl,r⟩
  |succ i=>simpa using c (by simpa using e)
theorem Vals.set{x:V}{u:iO}(r:RelV x u): ∀{a:List V} {us:jD} (i:Nat),Vals a us->Vals (a.set i x) (us.set i u)
 |_,_,_,.nil=> .nil
 |_,_,0,.cons _ t=> .cons r t
 |_,_,i+1,.cons q t=> .cons q (Vals.set r i t)
def Vals.append{c d:List V}{a b:jD}(h:Vals c a)(s:Vals d b):Vals (c++d) (a++b):=by
 induction h with
 |nil=>exact s
 |cons r t e=>exact .cons r e
theorem Vals.take: ∀{b:List V} {a:jD} (n:Nat),Vals b a->Vals (b.take n) (a.take n)
 |_,_,0,_=> .nil
 |_,_,_+1,.nil=> .nil
 |_,_,n+1,.cons r t=> .cons r (Vals.take n t)
theorem Vals.drop: ∀{b:List V} {a:jD} (n:Nat),Vals b a->Vals (b.drop n) (a.drop n)
 |_,_,0,r=>r
 |_,_,_+1,.nil=> .nil
 |_,_,n+1,.cons _ t=>Vals.drop n t
def RelO:Option V->Option iO->Prop
 |some v,C u=>RelV v u
 |none,I=>True
 |_,_=>False
def KV{a:Type}:List (a×V)->List (a×iO)->Prop:=Paired λ(p:a×V) (q:a×iO)=>p.1=q.1/\RelV p.2 q.2
noncomputable def kV:Key->V
 | .inl i=> .int i
 | .inr x=> .str x
inductive HO where
 /-- a list -/
 |lst(xs:List V)
 /-- a tuple(never changes) -/
 |tup(xs:List V)
 /-- a dict whose keys are ints and texts;one whose keys are tuples of ints and texts(the empty one is both) -/
 |dK(kvs:List (Key×V))|dT(kvs:List (List Key×V))
 /-- a set of ints:its members,its size -/
 |set (S:Int->Bool) (n:Nat)
 |stt (zs:List (Int×V))
 /-- an instance of the class at C,its dict at dx,its attributes -/
 |ins (C dx:iB) (fs:List (aB×V))
 /-- the dict of the instance at x -/
 |own (x:iB)
 /-- the dict of an exception -/
 |xd (fs:List (aB×V))
 /-- a bound method,f of x -/
 |met (f x:iB)
 /-- a range object lo,lo+1,.. below hi -/
 |rng (lo hi:Int)
 /-- a thing that is known to the object (the script;a dict while a loop walks it):read,never written while it is so -/
 |frz (o:ey) (u:HO)
 /-- a code object's K3 -/
 |tbl (ps:mY)
 /-- any other thing,by what is O0 of its one object (a def of one's own:SetO a S n:=HO.ext λh=> ..) -/
 |ext (φ:ja->Prop)
abbrev Hp:=iB->Option HO
noncomputable def upd(U:Hp)(a:iB)(o:HO):Hp:=λb=>if b=a then C o else U b
def jk{U:Hp}{a:iB}{o:HO}:upd U a o a=C o:=by unfold upd;rw[iT H]
def jg{U:Hp}{a b:iB}{o:HO}(h:b≠a):upd U a o b=U b:=by unfold upd;rw[je h]
def Jk{U:Hp}{a:iB}{o u:HO}:upd (upd U a o) a u=upd U a u:=by funext b;unfold upd;split<;>rfl
def TJ{U:Hp}{a b:iB}{o u:HO}(h:U a=C o)(c:U b=C u)(d:o≠u):a≠b:=by intro e;subst e;rw[h] at c;exact d<|kN c
def ll{U:Hp}{a b:iB}{o:HO}(h:U a=C o)(c:U b=I):a≠b:=by intro e;subst e;rw[h] at c;cases c
section
variable(P:jd)(w:iW)
def ObjOk(Q:Hp)(h:ja)(a:iB):HO->Prop
 | .lst g=>Ps g<=sizeLine/\ ∃(b:jD) (n:Nat),Vals g b/\h.get? a=C {cls:= .type "list",data:= .seq b.toArray n}
 | .tup g=>Ps g<=sizeLine/\ ∃b:List iO,Vals g b/\hL h a b.toArray
 | .dK d=>Ps d<=sizeLine/\(a==bL)=Y/\ ∃k,KV d k/\h.DictOf (lb P w) a k
 | .dT d=>Ps d<=sizeLine/\(a==bL)=Y/\ ∃g:List (List Key×iB×iO),
   Paired (λ(p:List Key×V) (q:List Key×iB×iO)=>p.1=q.1/\Q q.2.1=C (.tup<|p.1.map kV)/\RelV p.2 q.2.2) d g/\
   ∃o j T,h.get? a=C o/\o.ExactDict/\o.data= .dict j T/\j.toList=g.map (entryOfKey<|d1<|lb P w)/\(g.map (·.1)).Nodup
 | .set S n=>h.SetOf (cp P w) a S n
 | .stt E=> ∃(j:wg) (n:Nat) (t:mU),h.get? a=C {cls:= .type "set",data:= .set j n t}/\Paired (λ(z:Int×V) (e:Int×iO)=>z.1=e.1/\RelV z.2 e.2) E j.toList/\
   TT.TabOk (E.map (·.1)) t/\t.plain=J/\t.led=!w.params.followText "set-order"
 | .ins U l fs=>Q l=C (.own a)/\(Ps fs)<=1000/\l≠a/\h.get? a=C (PySem.W.instObj U l)/\
   ∃i,h.Ns1 l i/\(∀f,RelO (fs.lookup f)<|i f)/\PySem.Within i (fs.map (·.1))
 | .own _=> ∃o,h.get? a=C o
 | .xd fs=> ∃i,h.Ns1 a i/\ ∀f,RelO (fs.lookup f)<|i f
 | .rng lo L=> ∃t u v,h.get? a=C {cls:= .type "range",data:= .fields #[.int lo t,.int L u,.int 1 v]}
 | .frz o u=>h.get? a=C o/\ObjOk Q h a u
 | .tbl O=> ∃q t r,O[0]?=C (.str q t)/\h.get? a=C {cls:= .none,data:= .fields r}/\g8 r.toList/\ ∀m y,ed m r.toList=C y-> ∃c B u k t,y= .ref c/\Q c=C (.frz B u)/\B.data= .fields k/\k[1]?=C (.str q t)
 | .met f x=>h.get? a=C (eF (.ref f)<|.ref x)
 | .ext s=>s h/\(∃o,h.get? a=C o)/\ ∀h1 A:ja,s h1->(∀o,h1.get? a=C o->A.get? a=C o)->s A
def HOk(U:Hp)(h:ja):Prop:= ∀a o,U a=C o->ObjOk P w U h a o
end
section
variable {P:jd}{w:iW}{H g:Hp}{h h':ja}{a:iB}{o:HO}
def ObjOk.lt(x:ObjOk P w H h a o):a<h.objs.size:=by
 cases o with
 |lst c=>obtain⟨_,_,_,_,e⟩:=x;exact ke e
 |tup c=>obtain⟨_,_,_,p⟩:=x;exact p.lt
 |dK b=>obtain⟨_,_,_,_,o,_,_,e,_⟩:=x;exact ke e
 |dT b=>obtain⟨_,_,_,_,o,_,_,e,_⟩:=x;exact ke e
 |set S n=>obtain⟨o,_,_,_,e,_⟩:=x;exact ke e
 |stt l=>obtain⟨_,_,_,e,_⟩:=x;exact ke e
 |ins U d fs=>obtain⟨_,_,_,e,_⟩:=x;exact ke e
 |own y=>obtain⟨_,e⟩:=x;exact ke e
 |xd fs=>obtain⟨_,⟨_,_,_,e,_⟩,_⟩:=x;exact ke e
 |rng lo i=>obtain⟨_,_,_,e⟩:=x;exact ke e
 |frz j u=>obtain⟨e,_⟩:=x;exact ke e
 |tbl k=>obtain⟨_,_,_,_,e,_⟩:=x;exact ke e
 |met f y=>exact ke (show h.get? a=C _ from x)
 |ext m=>obtain⟨_,⟨_,e⟩,_⟩:=x;exact ke e
def Paired.mapP{e i:Type}{F G:e->i->Prop}{c:List e}{d:List i}(h:Paired F c d)(f: ∀a b,F a b->G a b):Paired G c d:=by
 induction h with
 |nil=>exact .nil
 |cons r t j=>exact .cons (f _ _ r) j
def ObjOk.stay(x:ObjOk P w H h a o)(k: ∀b u,(b=a\/H b=C (.own a))->h.get? b=C u->h'.get? b=C u)
  (N: ∀b,H b=C (.own a)->g b=C (.own a))(U: ∀b A,H b=C (.tup A)->g b=C (.tup A))(Y: ∀b i u,H b=C (.frz i u)->g b=C (.frz i u):=by exact λ_ _ _ q=>q):ObjOk P w g h' a o:=by
 induction o with
 |lst A=>obtain⟨z,s,n,r,e⟩:=x;exact⟨z,s,n,r,k _ _ (.inl O9) e⟩
 |tup A=>obtain⟨z,s,r,i,e,c⟩:=x;exact⟨z,s,r,i,k _ _ (.inl O9) e,c⟩
 |dK B=>obtain⟨z,y,O,r,i,j,l,e,c⟩:=x;exact⟨z,y,O,r,i,j,l,k _ _ (.inl O9) e,c⟩
 |dT B=>obtain⟨z,y,A,r,i,j,l,e,c⟩:=x;exact⟨z,y,A,Paired.mapP r λp q z=>⟨z.1,U _ _ z.2.1,z.2.2⟩,i,j,l,k _ _ (.inl O9) e,c⟩
 |set S n=>obtain⟨i,j,l,t,e,c⟩:=x;exact⟨i,j,l,t,k _ _ (.inl O9) e,c⟩
 |stt zs=>obtain⟨j,n,t,e,c⟩:=x;exact⟨j,n,t,k _ _ (.inl O9) e,c⟩
 |ins C' dx fs=>obtain⟨d,z,ne,e,E,⟨I,j,l,G,c⟩,r⟩:=x;exact⟨N _ d,z,ne,k _ _ (.inl O9) e,E,⟨I,j,l,k _ _ (.inr d) G,c⟩,r⟩
 |own y=>obtain⟨i,e⟩:=x;exact⟨i,k _ _ (.inl O9) e⟩
 |xd fs=>obtain⟨E,⟨I,j,l,e,c⟩,r⟩:=x;exact⟨E,⟨I,j,l,k _ _ (.inl O9) e,c⟩,r⟩
 |rng lo hi=>obtain⟨t,u,v,e⟩:=x;exact⟨t,u,v,k _ _ (.inl O9) e⟩
 |frz i u ih=>obtain⟨e,q⟩:=x;exact⟨k _ _ (.inl O9) e,ih q⟩
 |tbl ps=>obtain⟨q,t,D,T,e,F,m⟩:=x;exact⟨q,t,D,T,k _ _ (.inl O9) e,F,λL Q z=>let⟨c,i,u,O,t,h1,J',M⟩:=m L Q z;⟨c,i,u,O,t,h1,Y _ _ _ J',M⟩⟩
 |met f y=>have e:h.get? a=C (eF (.ref f)<|.ref y):=x;show h'.get? a=C (eF (.ref f)<|.ref y);exact k a _ (.inl O9) e
 |ext φ=>obtain⟨p,⟨o,e⟩,st⟩:=x;exact⟨st _ _ p λo q=>k _ _ (.inl O9) q,⟨o,k _ _ (.inl O9) e⟩,st⟩
def HOk.lt(x:HOk P w H h)(e:H a=C o):a<h.objs.size:=(x a o e).lt
def HOk.fresh(x:HOk P w H h)(e:h.objs.size<=a):H a=I:=by
 cases q:H a with
 |none=>rfl
 |some u=>exact absurd (nE (x.lt q) e)<|qk _
def HOk.kept(x:HOk P w H h)(k: ∀b u,h.get? b=C u->h'.get? b=C u):HOk P w H h':=λa o e=>(x a o e).stay (λb u _ q=>k b u q) (λ_ q=>q) λ_ _ q=>q
def HOk.laid(x:HOk P w H h)(k: ∀b u,h.get? b=C u->h'.get? b=C u)(i:h.objs.size<=a)(new:ObjOk P w (upd H a o) h' a o):HOk P w (upd H a o) h':=λb u e=>by
 have d:=x.fresh i;by_cases f:b=a
 .subst f;rw[jk] at e;cases e;exact new
 .rw[jg f] at e;exact(x b u e).stay (λc v _ q=>k c v q) (λc q=>by rw[jg<|ll q d];exact q) (λc j q=>by rw[jg<|ll q d];exact q) λc _ _ q=>by rw[jg<|ll q d];exact q
end
def Rd(U:Hp)(a:iB)(u:HO):Prop:=U a=C u\/ ∃o,U a=C (.frz o u)
def Rd.ok{P:jd}{w:iW}{U:Hp}{h:ja}{a:iB}{u:HO}(r:Rd U a u)(x:HOk P w U h):ObjOk P w U h a u:=by
 rcases r with r|⟨o,r⟩
 .exact x a u r
 .obtain⟨_,q⟩:=x a _ r;exact q
def Mut:Option HO->Prop
 |some (.lst _)=>True
 |some (.dK _)=>True
 |some (.dT _)=>True
 |some (.set _ _)=>True
 |some (.stt _)=>True
 |some (.ins _ _ _)=>True
 |some (.ext _)=>True
 |_=>False
section
variable {P:jd}{w:iW}{H:Hp}{h a:ja}{x e:iB}{d:HO}
def HOk.write(ok:HOk P w H h)(g:Mut (H x))(o:e=x\/H e=C (.own x))(k: ∀b u,b≠e->h.get? b=C u->a.get? b=C u)(s: ∃u,a.get? e=C u)
  (new:ObjOk P w (upd H x d) a x d):HOk P w (upd H x d) a:=λb u q=>by
 have f: ∀c y,H c=C (.own y)->c≠x:=λc y r z=>by subst z;rw[r] at g;exact g
 have i: ∀c n,H c=C (.tup n)->c≠x:=λc n r z=>by subst z;rw[r] at g;exact g
 by_cases l:b=x
 .subst l;rw[jk] at q;cases q;exact new
 .rw[jg l] at q;by_cases j:b=e
  .have p:H b=C (.own x):=by
    rcases o with z|z
    .exact absurd (j.trans z) l
    .rw[j];exact z
   rw[q] at p;cases p;obtain⟨v,hv⟩:=s;exact⟨v,by rw[j];exact hv⟩
  .refine(ok b u q).stay (λc v m r=>k c v ?_ r) (λc r=>by rw[jg<|f c b r];exact r) (λc n r=>by rw[jg<|i c n r];exact r) λc _ _ r=>by rw[jg λz=>by subst z;rw[r] at g;exact g];exact r
   rcases m with rfl|m
   .exact j
   .rintro rfl;rcases o with z|z
    .exact f c b m z
    .rw[m] at z;cases z;exact l O9
end
structure Un(fs ex:kG)(H H':Hp)(h h':ja):Prop where
 keep: ∀b o,h.get? b=N2 o->H b=Op->b∉fs->b∉ex->h'.get? b=N2 o
 slot: ∀b o,h.get? b=N2 o->H b=Op->b∈fs->b∉ex-> ∃sl,h'.get? b=N2 {o with slots:=sl}
 free: ∀b o,h.get? b=N2 o->H b=Op->b∉ex->H' b=Op
 there: ∀b o,h.get? b=N2 o->b∉ex-> ∃o',h'.get? b=N2 o'
 tups: ∀b xs,H b=N2 (.tup xs)->H' b=N2 (.tup xs)
 frzs: ∀b o u,H b=N2 (.frz o u)->H' b=N2 (.frz o u)
 tbls: ∀b ps,H b=N2 (.tbl ps)-> ∃more,H' b=N2 (.tbl<|ps++more)
section
variable {fs c ex d:kG}{H f i:Hp}{h h1 g h':ja}{a x e:iB}{o:HO}
def Un.any(u:Un fs ex H f h h1){b:iB}{j:ey}(q:h.get? b=C j)(n:H b=I)(l:b∉ex): ∃m,h1.get? b=C {j with slots:=m}:=by
 by_cases k:b∈fs
 .exact u.slot b j q n k l
 .exact⟨j.slots,u.keep b j q n k l⟩
def Un.kept(k: ∀b u,h.get? b=C u->h'.get? b=C u):Un fs ex H H h h':=
 ⟨λb j q _ _ _=>k b j q,λb j q _ _ _=>⟨j.slots,k b j q⟩,λ_ _ _ n _=>n,λb j q _=>⟨j,k b j q⟩,λ_ _ q=>q,λ_ _ _ q=>q,λ_ l q=>⟨#[],by rw[q];simp⟩⟩
def Un.refl:Un fs ex H H h h:=Un.kept λ_ _ q=>q
def Un.laid(k: ∀b u,h.get? b=C u->h'.get? b=C u)(r:h.objs.size<=a)(j:H a=I):Un fs ex H (upd H a o) h h' where
 keep:=λb u q _ _ _=>k b u q
 slot:=λb u q _ _ _=>⟨u.slots,k b u q⟩
 free:=λb u q n _=>by rw[jg<|jM<|nE (ke q) r];exact n
 there:=λb u q _=>⟨u,k b u q⟩
 tups:=λb s q=>by rw[jg<|ll q j];exact q
 frzs:=λb u s q=>by rw[jg<|ll q j];exact q
 tbls:=λb t q=>⟨#[],by rw[jg<|ll q j,q];simp⟩
def Un.write(j:Mut (H x))(v:e=x\/H e=C (.own x))(k: ∀b u,b≠e->h.get? b=C u->h'.get? b=C u)(t: ∃u,h'.get? e=C u):Un fs ex H (upd H x o) h h':=by
 have s: ∀b,H b=I->b≠x:=λb n z=>by subst z;rw[n] at j;exact j
 have p: ∀b,H b=I->b≠e:=λb n z=>by
  subst z;rcases v with r|r
  .exact s b n r
  .rw[n] at r;cases r
 have l: ∀b u,H b=C u-> ¬Mut (C u)->b≠x:=λb u q w z=>by subst z;rw[q] at j;exact w j
 refine⟨λb u q n _ _=>k b u (p b n) q,λb u q n _ _=>⟨u.slots,k b u (p b n) q⟩,λb u q n _=>by rw[jg<|s b n];exact n,λb u q _=>?_,
  λb y q=>by rw[jg<|l b _ q λz=>z];exact q,λb u y q=>by rw[jg<|l b _ q λz=>z];exact q,λb A q=>⟨#[],by rw[jg<|l b _ q λz=>z,q];simp⟩⟩
 by_cases m:b=e
 .subst m;exact t
 .exact⟨u,k b u m q⟩
end
noncomputable def trk(h:ja)(U:Hp):List Addr:=(aj h.objs.size).filter λa=>(U a).isSome
noncomputable def BY(h:ja)(U:Hp):Heap:=PySem.W.hideAll h<|trk h U
def Lr(h:ja)(U:Hp):(BY h U).objs.size=h.objs.size:=PySem.W.hideAll_size _ _
def Ph{h:ja}{U:Hp}{b:iB}{o:ey}(e:h.get? b=C o)(n:U b=I):(BY h U).get? b=C o:=
 PySem.W.hideAll_get _ e λa=>by have q:(U b).isSome=J:=(Gv.mp a).2;rw[n] at q;simp at q
def RW{h:ja}{U:Hp}{b:iB}{o:ey}(e:(BY h U).get? b=C o):h.get? b=C o/\U b=I:=by
 have a:h.get? b=C o:=PySem.W.of_hideAll (trk h U) e;refine⟨a,?_⟩
 cases q:U b with
 |none=>rfl
 |some x=>have c:b∈trk h U:=Gv.mpr ⟨yK.mpr<|ke a,by simp[q]⟩;have z:(BY h U).get? b=I:=PySem.W.hideAll_none (trk h U) c;rw[z] at e;cases e
noncomputable def S9(g h:ja)(L:iB):List (iB×ey):=(aj h.objs.size).filterMap λa=>if a=L\/(g.get? a).isSome=J then I else(h.get? a).map λo=>(a,o)
noncomputable def jG(g h:ja)(L d:iB):List (iB×ey):=(S9 g h L).filter λp=>decide<|p.1≠d
structure Mod(K:jb)(mg:lp)(base:ja):Prop where
 kin:K.In base
 glob:base.Ns am mg
 blt: ∃mb,base.Ns gq mb/\ ∀x:aB,x≠"__name__"->mb x=aK x
 nolimit:base.NoLimit
structure Cx where
 prog:jd
 w:iW
 K:jb
 mg:aB->Option iO
 base:ja
 A:jf
 N:List aB
 s₀:Shared
 H₀:Hp
 env:dh
 outer:List dh
 stack:List dh
 ex:List iB
 fn:aB->Bool
 calm:Bool
 pn:List (iB×ey)
 xe:iO->Shared->Prop
noncomputable def frs(l:List dh):List Addr:=l.filterMap (·.frame)
abbrev Cx.fs(X:Cx):List Addr:=frs X.outer
def Vis(a:jJ)(x:aB):Prop:=a.names.lookup x=C .local\/a.names.lookup x=C .cell\/a.names.lookup x=C .free
def Loc(a:jJ)(x:aB):Prop:=a.names.lookup x=C .local\/a.names.lookup x=C .cell
def aaR(a:dh)(h:ja)(m:lp)(x:aB)(u:iO):Prop:=
 (a.kindOf x=C .local/\m x=C u)\/((a.kindOf x=C .cell\/a.kindOf x=C .free)/\ ∃c,a.cells.lookup x=C c/\h.IsCell c (C u))
structure Cx.Ok(X:Cx):Prop where
 mod:Mod X.K X.mg X.base
 kind:X.env.scope.kind= .function
 glob:X.env.globals=am
 blt:X.env.builtins=gq
 above:X.s₀.heap.objs.size<=X.env.locals
 inj: ∀x y c,X.env.cells.lookup x=N2 c->X.env.cells.lookup y=N2 c->x=y
 has: ∀x,(X.env.kindOf x=N2 .cell\/X.env.kindOf x=N2 .free)-> ∃c,X.env.cells.lookup x=N2 c
 cab: ∀x c,X.fn x=O0->X.env.cells.lookup x=N2 c->X.s₀.heap.objs.size<=c
 hd:X.calm=O0->X.A.handled=Op
 frames:X.A.frames=N2 X.stack
 stk:X.stack=X.outer\/(X.stack=X.env::X.outer/\X.env.frame=N2 X.env.locals)
 exf: ∀b∈X.ex,b≠X.env.locals/\ ∀x c,X.env.cells.lookup x=N2 c->c≠b
 bs: ∀b o,X.base.get? b=N2 o->X.s₀.heap.get? b=N2 o/\X.H₀ b=Op
 bsz:X.base.objs.size<=X.s₀.heap.objs.size
 noex: ∀b o,X.base.get? b=N2 o->b∉X.ex
 exfs: ∀b∈X.ex,b∉X.fs
 funs:X.s₀.heap.FunFrames X.base X.outer
 frf: ∀b∈X.fs,X.H₀ b=Op
structure Inv(X:Cx)(pins:jr)(σ:List (Option V))(H:Hp)(s:iI):Prop where
 ok:X.Ok
 os:s.os=X.s₀.os
 bare:dI s.gens
 base:Un X.fs X.ex X.H₀ H X.s₀.heap s.heap
 loc: ∃m,s.heap.Ns X.env.locals m/\ ∀(i:Nat) (x:aB) (v:V),X.N[i]?=N2 x->σ[i]?=N2 (N2 v)->Vis X.env.scope x-> ∃u,RelV v u/\aaR X.env s.heap m x u
 cell: ∀x c,X.env.cells.lookup x=N2 c-> ∃v,s.heap.IsCell c v
 free:H X.env.locals=Op
 freeC: ∀x c,X.env.cells.lookup x=N2 c->H c=Op
 pin: ∀p∈X.pn++pins,s.heap.get? p.1=N2 p.2/\H p.1=Op/\p.1≠X.env.locals/\p.1∉X.fs/\ ∀v,p.2.data≠ .cell v
 hok:HOk X.prog X.w H s.heap
 len:(Ps σ)=X.N.length
section
variable {X:Cx}{f:jr}{g:List (Option V)}{H H':Hp}{s:iI}{h':ja}
def Cx.Ok.nofr(ok:X.Ok){b:iB}{o:ey}(e:X.base.get? b=C o):b∉X.fs:=λa=>by have:=(ok.funs.mem a).1;rw[e] at this;cases this
def Inv.bs(U:Inv X f g H s): ∀b o,X.base.get? b=C o->s.heap.get? b=C o/\H b=I:=λb o e=>⟨U.base.keep b o (U.ok.bs b o e).1 (U.ok.bs b o e).2 (U.ok.nofr e)<|U.ok.noex b o e,U.base.free b o (U.ok.bs b o e).1 (U.ok.bs b o e).2<|U.ok.noex b o e⟩
def Inv.bk(U:Inv X f g H s): ∀b o,X.base.get? b=C o->s.heap.get? b=C o:=λb o e=>(U.bs b o e).1
def Inv.mod(U:Inv X f g H s):Mod X.K X.mg X.base:=U.ok.mod
def Inv.kIn(U:Inv X f g H s):X.K.In s.heap:=U.ok.mod.kin.keeps U.bk
def Inv.lt(U:Inv X f g H s):X.env.locals<s.heap.objs.size:=let⟨_,a,_⟩:=U.loc;a.lt
def Inv.sz(U:Inv X f g H s):X.s₀.heap.objs.size<=s.heap.objs.size:=lI U.ok.above<|sv U.lt
def Inv.nofs(U:Inv X f g H s){a:iB}(h:s.heap.objs.size<=a):a∉X.fs:=λb=>by obtain⟨_,o,c,_⟩:=U.ok.funs.mem b;exact absurd (nE (ke c)<|lI U.sz h)<|qk _
def Inv.cne(U:Inv X f g H s): ∀x c,X.env.cells.lookup x=C c->c≠X.env.locals:=λx c e z=>by obtain⟨v,o,a,hd⟩:=U.cell x c e;obtain⟨m,⟨j,i,h,b,d,_⟩,_⟩:=U.loc;rw[z,b] at a;cases a;rw[d] at hd;cases hd
def Inv.funs(U:Inv X f g H s):s.heap.FunFrames X.base X.outer:=by
 have all: ∀(l:List dh),(∀b∈frs l,b∈X.fs)->X.s₀.heap.FunFrames X.base l->s.heap.FunFrames X.base l:=by
  intro l
  induction l with
  |nil=>intro _ _;trivial
  |cons i r p=>intro h j;obtain⟨hk,⟨L,o,d,k,m,hd⟩,n⟩:=j;have a:L∈X.fs:=h L (by unfold frs;rw[uR,d];exact kg);obtain⟨q,e⟩:=U.base.slot L o m (U.ok.frf L a) a λz=>U.ok.exfs L z a;exact⟨hk,⟨L,_,d,k,e,hd⟩,p (λb c=>h b<|by unfold frs;rw[uR,d];exact kj _ c) n⟩
 exact all X.outer (λ_ c=>c) U.ok.funs
def Inv.stack(U:Inv X f g H s):s.heap.FunFrames X.base X.stack:=by
 rcases U.ok.stk with e|⟨e,hf⟩
 .rw[e];exact U.funs
 .rw[e];obtain⟨m,a,_⟩:=U.loc;refine .cons (by rw[U.ok.kind];decide) hf a ?_ U.funs;exact Heap.get?_none_of_le<|lI U.ok.bsz U.ok.above
def Inv.stkSub(U:Inv X f g H s): ∀b∈frs X.stack,b∈X.env.locals::X.fs:=λb a=>by
 rcases U.ok.stk with e|⟨e,hf⟩
 .rw[e] at a;exact kj _ a
 .rw[e] at a;unfold frs at a;rw[uR,hf] at a;exact a
def Inv.stkFree(U:Inv X f g H s): ∀b∈frs X.stack,H b=I:=λb a=>by
 rcases lz.mp (U.stkSub b a) with e|a
 .rw[e];exact U.free
 .obtain⟨_,o,c,_⟩:=U.ok.funs.mem a;exact U.base.free b o c (U.ok.frf b a) λz=>U.ok.exfs b z a
def Inv.step{g':Array fL}{t':Nat}{d':Drawn}{ch:kG}(I:Inv X f g H s)
  (C: ∀b∈ch,(b∈X.ex\/X.s₀.heap.objs.size<=b)/\b≠X.env.locals/\(∀x c,X.env.cells.lookup x=N2 c->c≠b)/\ ∀p∈X.pn++f,p.1≠b)
  (keep: ∀b o,b≠X.env.locals->b∉X.fs->b∉ch->s.heap.get? b=N2 o->H b=Op->h'.get? b=N2 o)
  (slot: ∀b o,b≠X.env.locals->b∈X.fs->b∉ch->s.heap.get? b=N2 o->H b=Op-> ∃U,h'.get? b=N2 {o with slots:=U})(free: ∀b o,b∉ch->s.heap.get? b=N2 o->H b=Op->H' b=Op)
  (there: ∀b o,b∉ch->s.heap.get? b=N2 o-> ∃Q,h'.get? b=N2 Q)
  (G: ∀b t,H b=N2 (.tup t)->H' b=N2 (.tup t))(L: ∀b o u,H b=N2 (.frz o u)->H' b=N2 (.frz o u))(T: ∀b M,H b=N2 (.tbl M)-> ∃more,H' b=N2 (.tbl<|M++more))
  (ns: ∀m,s.heap.Ns X.env.locals m->h'.Ns X.env.locals m)(N:HOk X.prog X.w H' h')(hg:dI g'):
  Inv X f g H' {s with heap:=h',gens:=g',drawn:=d',toks:=t'}:=by
 have O: ∀b o,X.s₀.heap.get? b=N2 o->b≠X.env.locals:=λb o e=>jM<|nE (ke e) I.ok.above
 have J: ∀b o,X.s₀.heap.get? b=N2 o->b∉X.ex->b∉ch:=λb o e a y=>by
  rcases(C b y).1 with z|z
  .exact a z
  .exact absurd (nE (ke e) z) (qk _)
 have h: ∀x c,X.env.cells.lookup x=N2 c-> ∀v,s.heap.IsCell c v->h'.IsCell c v:=λx c e v a'=>by
  obtain⟨o,A,hd⟩:=a'
  have B:c∉ch:=λz=>(C c z).2.2.1 x c e O9;by_cases Y:c∈X.fs
  .obtain⟨U,q⟩:=slot c o (I.cne x c e) Y B A<|I.freeC x c e;exact⟨_,q,hd⟩
  .exact⟨o,keep c o (I.cne x c e) Y B A<|I.freeC x c e,hd⟩
 refine⟨I.ok,I.os,hg,⟨λb o e n y a=>?_,λb o e n y a=>?_,λb o e n a=>?_,λb o e a=>?_,λb t e=>G b t<|I.base.tups b t e,λb o t e=>L b o t<|I.base.frzs b o t e,λb M e=>?_⟩,?_,λx c e=>?_,?_,λx c e=>?_,λp D=>?_,N,I.len⟩
 .exact keep b o (O b o e) y (J b o e a) (I.base.keep b o e n y a) (I.base.free b o e n a)
 .obtain⟨U,j⟩:=I.base.slot b o e n y a;obtain⟨P,E⟩:=slot b _ (O b o e) y (J b o e a) j (I.base.free b o e n a);exact⟨P,E⟩
 .obtain⟨Q,j⟩:=I.base.there b o e a;exact free b Q (J b o e a) j<|I.base.free b o e n a
 .obtain⟨Q,j⟩:=I.base.there b o e a;exact there b Q (J b o e a) j
 .obtain⟨V,j⟩:=I.base.tbls b M e;obtain⟨W,E⟩:=T b _ j;exact⟨V++W,by rw[E,Hr]⟩
 .obtain⟨m,S,R⟩:=I.loc;refine⟨m,ns m S,λi x v j E K=>?_⟩;obtain⟨u,r,l⟩:=R i x v j E K;refine⟨u,r,?_⟩;rcases l with l|⟨k,c,e,z⟩
  .exact .inl l
  .exact .inr ⟨k,c,e,h x c e _ z⟩
 .obtain⟨v,z⟩:=I.cell x c e;exact⟨v,h x c e v z⟩
 .obtain⟨m,⟨o,_,_,A,_⟩,_⟩:=I.loc;exact free _ o (λz=>(C _ z).2.1 O9) A I.free
 .obtain⟨v,o,A,hd⟩:=I.cell x c e;exact free c o (λz=>(C c z).2.2.1 x c e O9) A<|I.freeC x c e
 .obtain⟨e,n,ne,F,d⟩:=I.pin p D;have B:p.1∉ch:=λz=>(C p.1 z).2.2.2 p D O9;exact⟨keep p.1 p.2 ne F B e n,free p.1 p.2 B e n,ne,F,d⟩
def Inv.un{t':Nat}(U:Inv X f g H s)(u:Un X.fs [] H H' s.heap h')(d:HOk X.prog X.w H' h'):Inv X f g H' {s with heap:=h',toks:=t'}:=by
 obtain⟨m,⟨o,t,q,i,r⟩,_⟩:=id U.loc;obtain⟨y,j⟩:=u.any i U.free (by simp)
 exact U.step (g':=s.gens) (d':=s.drawn) (ch:=[]) (λ_ z=>nomatch z) (λb o _ c _ e n=>u.keep b o e n c<|by simp) (λb o _ c _ e n=>u.slot b o e n c<|by simp) (λb o _ e n=>u.free b o e n<|by simp) (λb o _ e=>u.there b o e<|by simp) u.tups u.frzs u.tbls (λv l=>by obtain⟨x,a,k,h,p⟩:=l;rw[i] at h;cases h;exact⟨_,a,k,j,p⟩) d U.bare
def Inv.call{g':Array fL}{t':Nat}{d':Drawn}{ch:kG}(T:Inv X f g H s)(u:Un (frs X.stack) ch H H' s.heap h')(i:HOk X.prog X.w H' h')(v:dI g')
  (k: ∀b∈ch,(b∈X.ex\/X.s₀.heap.objs.size<=b)/\b≠X.env.locals/\(∀x c,X.env.cells.lookup x=C c->c≠b)/\ ∀p∈X.pn++f,p.1≠b):
  Inv X f g H' {s with heap:=h',gens:=g',drawn:=d',toks:=t'}:=by
 obtain⟨m,⟨o,U,B,l,r⟩,_⟩:=id T.loc;obtain⟨O,h⟩:=u.any l T.free λz=>(k _ z).2.1 O9
 exact T.step (ch:=ch) k (λb o h t a e n=>u.keep b o e n (λz=>(lz.mp<|T.stkSub b z).elim h t) a) (λb o _ _ a e n=>u.any e n a) (λb o a e n=>u.free b o e n a) (λb o a e=>u.there b o e a) u.tups u.frzs u.tbls (λE y=>by obtain⟨L,d,q,j,A⟩:=y;rw[l] at j;cases j;exact⟨_,d,q,h,A⟩) i v
def Inv.turned{t':Nat}{it:iB}(T:Inv X f g H s)(k: ∀b o,b≠it->s.heap.get? b=C o->h'.get? b=C o)(A:H it=I)(h:it≠X.env.locals)
  (h1:it∈X.ex\/X.s₀.heap.objs.size<=it)(l: ∀x c,X.env.cells.lookup x=C c->c≠it)(t: ∀p∈X.pn++f,p.1≠it):Inv X f g H {s with heap:=h',toks:=t'}:=by
 have d: ∀b u,H b=C u->b≠it:=λb u e z=>by rw[z,A] at e;cases e
 refine T.step (g':=s.gens) (d':=s.drawn) (ch:=[it]) (λb w=>?_) (λb o _ _ a e _=>k b o (λz=>a<|by simp[z]) e) (λb o _ _ a e _=>⟨o.slots,k b o (λz=>a<|by simp[z]) e⟩) (λ_ _ _ _ n=>n)
  (λb o a e=>⟨o,k b o (λz=>a<|by simp[z]) e⟩) (λ_ _ e=>e) (λ_ _ _ e=>e) (λb U e=>⟨#[],by rw[e];simp⟩) (λm y=>?_) (λb u e=>?_) T.bare
 .have e:b=it:=by simpa using w
  subst e;exact⟨h1,h,l,t⟩
 .obtain⟨o,j,i,B,r⟩:=y;exact⟨o,j,i,k _ o (nV h) B,r⟩
 .refine(T.hok b u e).stay (λc v a q=>k c v ?_ q) (λ_ q=>q) λ_ _ q=>q;rcases a with z|z
  .rw[z];exact d b u e
  .exact d c _ z
def Inv.tok(U:Inv X f g H s)(t:Nat):Inv X f g H {s with toks:=t}:=U.un (h':=s.heap) (t':=t) Un.refl U.hok
def Inv.kept{t':Nat}(U:Inv X f g H s)(k: ∀b u,s.heap.get? b=C u->h'.get? b=C u):Inv X f g H {s with heap:=h',toks:=t'}:=U.un (Un.kept k)<|U.hok.kept k
def Inv.laid{a:iB}{o:HO}{t':Nat}(U:Inv X f g H s)(k: ∀b u,s.heap.get? b=C u->h'.get? b=C u)(c:s.heap.objs.size<=a)(new:ObjOk X.prog X.w (upd H a o) h' a o):
  Inv X f g (upd H a o) {s with heap:=h',toks:=t'}:=U.un (Un.laid k c<|U.hok.fresh c)<|U.hok.laid k c new
def Inv.write{x e:iB}{o:HO}{h:Nat}(U:Inv X f g H s)(d:Mut (H x))(c:e=x\/H e=C (.own x))(k: ∀b u,b≠e->s.heap.get? b=C u->h'.get? b=C u)(a: ∃u,h'.get? e=C u)
  (new:ObjOk X.prog X.w (upd H x o) h' x o):Inv X f g (upd H x o) {s with heap:=h',toks:=h}:=U.un (Un.write d c k a)<|U.hok.write d c k a new
def Inv.pins_of{a:jr}(U:Inv X f g H s)(h: ∀p∈a,s.heap.get? p.1=C p.2/\H p.1=I/\p.1≠X.env.locals/\p.1∉X.fs/\ ∀v,p.2.data≠ .cell v):Inv X a g H s:=
 ⟨U.ok,U.os,U.bare,U.base,U.loc,U.cell,U.free,U.freeC,λp b=>(pJ.mp b).elim (λz=>U.pin p<|DQ _ z)<|h p,U.hok,U.len⟩
def AV{N:ji}(e:N.Nodup){i j:Nat}{x:aB}(a:N[i]?=C x)(b:N[j]?=C x):i=j:=by obtain⟨h1,c⟩:=rQ.mp a;obtain⟨h,d⟩:=rQ.mp b;exact(kv e).mp (c.trans d.symm)
def KA{M:fY}{A:jf}{E:jw}{i:Nat}{x:aB}{v:V}{u:iO}{Q:Unit->Shared->Prop}(I:Inv X f g H s)(hN:X.N.Nodup)(J:X.N[i]?=N2 x)(L:Loc X.env.scope x)(r:RelV v u)
  (h: ∀s',Inv X f (g.set i<|N2 v) H s'->(∃a,aR a s.heap s'.heap/\(a=X.env.locals\/X.env.cells.lookup x=N2 a))->Q () s')(hf:X.fn x=O0\/X.env.scope.names.lookup x=N2 .local:=by first|exact .inl rfl|exact .inr rfl|assumption):ah M A (storeName X.env x u) Q E s:=by
 obtain⟨m,P,hl⟩:=id I.loc;have bY:(X.env.scope.kind== .class||(X.env.scope.kind== .module&&X.env.locals !=X.env.globals))=O1:=by rw[I.ok.kind];rfl
 have fD:i<(Ps g):=by rw[I.len];exact(rQ.mp J).1
 have cne:=I.cne
 have B: ∀{a:iB} {h':ja},(∃o,s.heap.get? a=N2 o/\H a=Op)->aR a s.heap h'->HOk X.prog X.w H h':=λ{a h'} ha l b ob e=>by
  obtain⟨_,_,n8⟩:=ha;refine(I.hok b ob e).stay (λc D C q=>(l.2 c ?_).trans q) (λ_ q=>q) λ_ _ q=>q;rintro rfl;rcases C with rfl|C
  .rw[n8] at e;cases e
  .rw[n8] at C;cases C
 rcases L with hk|hk
 .refine MO hk P (λh' dZ l=>?_) bY;obtain⟨oL,_,_,fq,_⟩:=id P;refine h _ ⟨I.ok,I.os,I.bare,⟨λb o e n T L=>?_,λb o e n T L=>?_,I.base.free,λb o e L=>?_,I.base.tups,I.base.frzs,I.base.tbls⟩,⟨_,dZ,λj y v' t O K=>?_⟩,λy c e=>?_,I.free,I.freeC,λp R=>?_,B ⟨oL,fq,I.free⟩ l,by simpa using I.len⟩ ⟨_,l,.inl O9⟩
  .exact(l.2 b<|jM<|nE (ke e) I.ok.above).trans (I.base.keep b o e n T L)
  .obtain⟨sl,t⟩:=I.base.slot b o e n T L;exact⟨sl,(l.2 b<|jM<|nE (ke e) I.ok.above).trans t⟩
  .obtain⟨W,t⟩:=I.base.there b o e L;exact⟨W,(l.2 b<|jM<|nE (ke e) I.ok.above).trans t⟩
  .by_cases G:j=i
   .subst G;rw[J] at t;cases t;rw[oF fD] at O;cases O;exact⟨u,r,.inl ⟨hk,by simp⟩⟩
   .rw[oP<|nV G] at O;obtain⟨u',Z,q⟩:=hl j y v' t O K;refine⟨u',Z,?_⟩;rcases q with⟨k,e⟩|⟨k,c,e,z⟩
    .refine .inl ⟨k,?_⟩;have:y≠x:=λe=>G<|AV hN t<|e▸J;simp[this,e]
    .exact .inr ⟨k,c,e,z.sameBut l<|cne y c e⟩
  .obtain⟨D,z⟩:=I.cell y c e;exact⟨D,z.sameBut l<|cne y c e⟩
  .obtain⟨e,n,ne,S,d⟩:=I.pin p R;exact⟨(l.2 p.1 ne).trans e,n,ne,S,d⟩
 .have F:X.fn x=O0:=by
   rcases hf with z|z
   .exact z
   .rw[z] at hk;cases hk
  obtain⟨c,C⟩:=I.ok.has x<|.inl hk;obtain⟨D,z⟩:=I.cell x c C;refine wpAny_storeName_cell I.ok.kind hk C z λh' bG l=>?_;obtain⟨oc,dU,U⟩:=id z;refine h {s with heap:=h'} ⟨I.ok,I.os,I.bare,⟨λb o e n T L=>?_,λb o e n T L=>?_,I.base.free,λb o e L=>?_,I.base.tups,I.base.frzs,I.base.tbls⟩,⟨m,P.sameBut l<|nV<|cne x c C,λj y v' t O K=>?_⟩,λy Y e=>?_,I.free,I.freeC,λp R=>?_,B ⟨oc,dU,I.freeC x c C⟩ l,by simpa using I.len⟩ ⟨c,l,.inr C⟩
  .exact(l.2 b<|jM<|nE (ke e)<|I.ok.cab x c F C).trans (I.base.keep b o e n T L)
  .obtain⟨sl,t⟩:=I.base.slot b o e n T L;exact⟨sl,(l.2 b<|jM<|nE (ke e)<|I.ok.cab x c F C).trans t⟩
  .obtain⟨W,t⟩:=I.base.there b o e L;exact⟨W,(l.2 b<|jM<|nE (ke e)<|I.ok.cab x c F C).trans t⟩
  .by_cases G:j=i
   .subst G;rw[J] at t;cases t;rw[oF fD] at O;cases O;exact⟨u,r,.inr ⟨.inl hk,c,C,bG⟩⟩
   .rw[oP<|nV G] at O;obtain⟨u',Z,q⟩:=hl j y v' t O K;refine⟨u',Z,?_⟩;rcases q with q|⟨k,Y,e,z'⟩
    .exact .inl q
    .refine .inr ⟨k,Y,e,z'.sameBut l ?_⟩;rintro rfl;exact G<|AV hN t<|I.ok.inj _ _ _ e C▸J
  .by_cases fH:Y=c
   .subst fH;exact⟨_,bG⟩
   .obtain⟨w2,z2⟩:=I.cell y Y e;exact⟨w2,z2.sameBut l fH⟩
  .obtain⟨e,n,ne,S,d⟩:=I.pin p R;refine⟨(l.2 p.1 ?_).trans e,n,ne,S,d⟩;intro q;rw[q,dU] at e;have q':oc=p.2:=kN e;exact d D (by rw[<-q'];exact U)
def Ap{M:fY}{A:jf}{E:jw}{i:Nat}{x:aB}{v:V}{u:iO}{Q:Unit->Shared->Prop}(U:Inv X f g H s)(c:X.N.Nodup)(e:X.N[i]?=C x)(j:Loc X.env.scope x)(r:RelV v u)
  (h: ∀a,Inv X f (g.set i<|C v) H a->Q () a)(d:X.fn x=J\/X.env.scope.names.lookup x=C .local:=by first|exact .inl rfl|exact .inr rfl|assumption):ah M A (storeName X.env x u) Q E s:=
 KA U c e j r (λa b _=>h a b) d
def Inv.call'{s':iI}{ch:kG}(U:Inv X f g H s)(i:s'.os=s.os)(u:Un (frs X.stack) ch H H' s.heap s'.heap)(a:HOk X.prog X.w H' s'.heap)(h:dI s'.gens)
  (d: ∀b∈ch,(b∈X.ex\/X.s₀.heap.objs.size<=b)/\b≠X.env.locals/\(∀x c,X.env.cells.lookup x=C c->c≠b)/\ ∀p∈X.pn++f,p.1≠b):Inv X f g H' s':=by
 obtain⟨h',g',d',t',j⟩:=s';have e:j=s.os:=i;subst e;exact U.call (g':=g') (t':=t') (d':=d') u a h d
end
abbrev XK:=iO->Option iB->Hp->Prop
abbrev St:=List<|Option V
abbrev VK:=V->Hp->Prop
abbrev TE:=St->Hp->VK->Prop
abbrev TT:=St->Hp->(Bool->Hp->Prop)->Prop
abbrev TA:=St->Hp->(List V->Hp->Prop)->Prop
structure Ends where
 nx:St->Hp->Prop
 rt:VK
 bk:St->Hp->Prop:=λ_ _=>False
 ct:St->Hp->Prop:=λ_ _=>False
abbrev TS:=Ends->St->Hp->Prop
def EP(X:Cx)(a:jr)(d:St)(Q:VK)(u:iO)(c:iI):Prop:= ∃v b,Inv X a d b c/\RelV v u/\Q v b
def TP(X:Cx)(a:jr)(e:St)(Q:Bool->Hp->Prop)(b:Bool)(d:iI):Prop:= ∃c,Inv X a e c d/\Q b c
def AP(X:Cx)(a:jr)(f:St)(Q:List V->Hp->Prop)(e:jD)(d:iI):Prop:= ∃c b,Inv X a f b d/\Vals c e/\Q c b
def SP(X:Cx)(b:jr)(D:Ends)(f:Flow)(d:iI):Prop:=
 match f with
 | .next=> ∃a c,Inv X b a c d/\D.nx a c
 | .brk=> ∃a c,Inv X b a c d/\D.bk a c
 | .cont=> ∃a c,Inv X b a c d/\D.ct a c
 | .ret u=> ∃v a c,Inv X b a c d/\RelV v u/\D.rt v c
def PE(X:Cx)(e:iK)(t:TE):Prop:=
 ∀(a:jr) (s:iI) (b:St) (U:Hp) (Q:VK),Inv X a b U s->t b U Q->ah (ai X.prog X.w) X.A (aU e X.env) (EP X a b Q) X.xe s
def PT(X:Cx)(e:iK)(t:TT):Prop:=
 ∀(a:jr) (s:iI) (b:St) (U:Hp) (Q:Bool->Hp->Prop),Inv X a b U s->t b U Q->ah (ai X.prog X.w) X.A (isTrue e X.env<|aU e X.env) (TP X a b Q) X.xe s
def PW(X:Cx)(e:iK)(t:TT):Prop:=
 ∀(b:dP iO) (a:jr) (s:iI) (c:St) (U:Hp) (Q:Bool->Hp->Prop),Inv X a c U s->t c U Q->ah (ai X.prog X.w) X.A (isTrue e X.env b) (TP X a c Q) X.xe s
def PW.pt{X:Cx}{e:iK}{t:TT}(h:PW X e t):PT X e t:=h _
def PA(X:Cx)(d:kh)(t:TA):Prop:=
 ∀(b:bB) (a:jr) (s:iI) (c:St) (U:Hp) (Q:List V->Hp->Prop),Inv X a c U s->t c U Q->ah (ai X.prog X.w) X.A (Fk<|bc b<|ag d X.env) (AP X a c Q) X.xe s
def PS(X:Cx)(st:bv)(t:TS):Prop:=
 ∀(a:jr) (s:iI) (b:St) (U:Hp) (D:Ends),Inv X a b U s->t D b U->ah (ai X.prog X.w) X.A (exec st X.env) (SP X a D) X.xe s
def PSs(X:Cx)(st:List bv)(t:TS):Prop:=
 ∀(a:jr) (s:iI) (b:St) (U:Hp) (D:Ends),Inv X a b U s->t D b U->ah (ai X.prog X.w) X.A (execs st X.env) (SP X a D) X.xe s
def thn{c:Type}{t:dP c}{Q b:c->Shared->Prop}{M:fY}{A:jf}{E:jw}{s:iI}(h:ah M A t Q E s)(d: ∀a s,Q a s->b a s):ah M A t b E s:=oE h d λ_ _ x=>x
section
variable {X:Cx}
def ZH(i:Nat):TE:=λa U Q=> ∃v,a[i]?=C (C v)/\Q v U
noncomputable def tC(v:V):TE:=λ_ U Q=>Q v U
def AF{i:Nat}{x:aB}{f:bB}(g:X.N[i]?=C x)(hv:Vis X.env.scope x)(hd:(x==("__debug__":aB))=Y:=by decide)(n:(x==("__classdict__":aB))=Y:=by decide):PE X (.Name x f) (ZH i):=by
 intro a s o T Q U h;obtain⟨v,e,h⟩:=h;obtain⟨m,k,j⟩:=U.loc;obtain⟨u,r,l⟩:=j i x v g e hv;have fin:EP X a o Q u s:=⟨v,T,U,r,h⟩
 rcases l with⟨hk,hm⟩|⟨hk,c,b,d⟩
 .exact nF (wpAny_loadName_local U.ok.kind hk k hm fin) hd
 .rcases hk with hk|hk
  .exact nF (wpAny_loadName_cell U.ok.kind hk b d fin) hd
  .exact nF (wpAny_loadName_free U.ok.kind hk b d fin n) hd
def HX{i j f}:PE X (.Constant (.int i) j f) (tC<|.int i):=λ_ _ _ T _ U h=>wpAny_Constant_int ⟨.int i,T,U.tok _,⟨_,rfl⟩,h⟩
def Yv{b j f}:PE X (.Constant (.bool b) j f) (tC<|.bl b):=λ_ _ _ T _ U h=>Constant_bool ⟨.bl b,T,U,rfl,h⟩
def Vt{j f}:PE X (.Constant .none j f) (tC .non):=λ_ _ _ T _ U h=>Constant_none ⟨.non,T,U,rfl,h⟩
def Vq{x j f}:PE X (.Constant (.str x) j f) (tC<|.str x):=λ_ _ _ T _ U h=>Calls.Constant_str ⟨.str x,T,U.tok _,⟨_,rfl⟩,h⟩
def Gl(X:Cx)(x:aB):Prop:=X.env.kindOf x=C .globalImplicit
def wN{E:jw}{a:jr}{s:iI}{d:St}{T:Hp}{x:aB}{u:iO}{f:bB}{Q:jw}(U:Inv X a d T s)(b:Gl X x)(c:X.mg x=C u)(h:Q u s)
  (hd:(x==("__debug__":aB))=Y:=by decide):ah (ai X.prog X.w) X.A (aU (.Name x f) X.env) Q E s:=
 MN U.ok.kind b (Calls.loadGlobal_global (by rw[U.ok.glob];exact U.mod.glob.keeps U.bk) c h) hd
def qZ{E:jw}{a:jr}{s:iI}{g:St}{T:Hp}{x:aB}{u:iO}{f:bB}{Q:jw}(U:Inv X a g T s)(c:Gl X x)(d:X.mg x=I)(hv:aK x=C u)(h:Q u s)
  (e:x≠"__name__":=by decide)(hd:(x==("__debug__":aB))=Y:=by decide):ah (ai X.prog X.w) X.A (aU (.Name x f) X.env) Q E s:=by
 obtain⟨i,h1,b⟩:=U.mod.blt;exact MN U.ok.kind c (Calls.loadGlobal_builtin (by rw[U.ok.glob];exact U.mod.glob.keeps U.bk) d (by rw[U.ok.blt];exact h1.keeps U.bk) ((b x e).trans hv) h) hd
def JI{x:aB}{v:V}{u:iO}{f:bB}(a:Gl X x)(b:X.mg x=C u)(r:RelV v u)(hd:(x==("__debug__":aB))=Y:=by decide):PE X (.Name x f) (tC v):=
 λ_ _ _ T _ U h=>wN U a b ⟨v,T,U,r,h⟩ hd
def JK{x:aB}{v:V}{u:iO}{f:bB}(a:Gl X x)(b:X.mg x=I)(hv:aK x=C u)(r:RelV v u)(c:x≠"__name__":=by decide)(hd:(x==("__debug__":aB))=Y:=by decide):PE X (.Name x f) (tC v):=
 λ_ _ _ T _ U h=>qZ U a b hv ⟨v,T,U,r,h⟩ c hd
def t2I(g n:TE)(k:Int->Int->Hp->Prop):St->Hp->Prop:=λa U=>g a U λx b=>n a b λy c=> ∃i j,x= .int i/\y= .int j/\k i j c
variable {a b:iK}{g n:TE}{f:bB}
noncomputable def tCmp(p:Int->Int->Bool)(g n:TE):TE:=λd U Q=>t2I g n (λi j c=>Q (.bl<|p i j) c) d U
noncomputable def tB(t:TE):TT:=λe U Q=>t e U λx d=> ∃c,x= .bl c/\Q c d
def NI{e:iK}{t:TE}(h:PE X e t)(l: ∀c,isTrue e X.env c=(do let v <-c;cN e.pos;cw [v] (truthy v)):=by intro _;rfl):PT X e (tB t):=by intro i s r T Q U m;refine isTrue_plain (thn (h i s r T _ U m) λv s1 O=>?_)<|l _;obtain⟨x,j,k,p,o⟩:=O;obtain⟨d,rfl,q⟩:=o;cases p;exact uQ ⟨j,k,q⟩
variable {tA o:TT}{jG:kh}
noncomputable def ZT(t u:TT):TT:=λe U Q=>t e U λc d=>if c=J then u e d Q else Q Y d
noncomputable def tOr(t u:TT):TT:=λe U Q=>t e U λc d=>if c=J then Q J d else u e d Q
noncomputable def tNot(t:TT):TT:=λe U Q=>t e U λc d=>Q (!c) d
def Rm(i:PT X a tA):PW X (.BoolOp .And [a] f) tA:=by
 intro wh d s j T Q U h;refine isTrue_and<|thn (i d s j T Q U h) λc s1 e=>?_
 cases c with
 |true=>exact isTrue_and_nil e
 |false=>exact e
def Ve(i:PT X a tA):PW X (.BoolOp .Or [a] f) tA:=by
 intro wh d s j T Q U h;refine isTrue_or<|thn (i d s j T Q U h) λc s1 e=>?_
 cases c with
 |false=>exact isTrue_or_nil e
 |true=>exact e
def Vf(l:PT X a tA)(m:PW X (.BoolOp .And (b::jG) f) o):PW X (.BoolOp .And (a::b::jG) f) (ZT tA o):=by
 intro wh d s k T Q U h;refine isTrue_and<|thn (l d s k T _ U h) λc s1 O=>?_;obtain⟨e,i,j⟩:=O
 cases c with
 |true=>exact m wh d s1 k e Q i j
 |false=>exact⟨e,i,j⟩
def Yq(l:PT X a tA)(m:PW X (.BoolOp .Or (b::jG) f) o):PW X (.BoolOp .Or (a::b::jG) f) (tOr tA o):=by
 intro wh d s k T Q U h;refine isTrue_or<|thn (l d s k T _ U h) λc s1 O=>?_;obtain⟨e,i,j⟩:=O
 cases c with
 |true=>exact⟨e,i,j⟩
 |false=>exact m wh d s1 k e Q i j
def NJ(i:PT X a tA):PT X (.UnaryOp .Not a f) (tNot tA):=by intro d s j T Q U h;exact isTrue_not<|i d s j T (λc e=>Q (!c) e) U h
def X2(g n:TE):TE:=λe U Q=>g e U λx d=> ∃c,x= .bl c/\if c=J then n e d Q else Q (.bl Y) d
def ZM(g n:TE):TE:=λe U Q=>g e U λx d=> ∃c,x= .bl c/\if c=J then Q (.bl J) d else n e d Q
def XT(g:TE):TE:=λe U Q=>g e U λx d=> ∃c,x= .bl c/\Q (.bl (!c)) d
def Vr{op}{t:TE}(h:PE X a t):PE X (.BoolOp op [a] f) t:=λc s e T Q U d=>BoolOp_one<|h c s e T Q U d
def Vw(l:PE X a g)(m:PE X (.BoolOp .And (b::jG) f) n):PE X (.BoolOp .And (a::b::jG) f) (X2 g n):=by
 intro d s k T Q U h;refine BoolOp_and<|thn (l d s k T _ U h) λv s1 O=>?_;obtain⟨x,i,j,p,e⟩:=O;obtain⟨c,rfl,e⟩:=e;cases p;refine uQ ?_
 cases c with
 |true=>exact m d s1 k i Q j e
 |false=>exact⟨.bl Y,i,j,rfl,e⟩
def Ys(l:PE X a g)(m:PE X (.BoolOp .Or (b::jG) f) n):PE X (.BoolOp .Or (a::b::jG) f) (ZM g n):=by
 intro d s k T Q U h;refine BoolOp_or<|thn (l d s k T _ U h) λv s1 O=>?_;obtain⟨x,i,j,p,e⟩:=O;obtain⟨c,rfl,e⟩:=e;cases p;refine uQ ?_
 cases c with
 |false=>exact m d s1 k i Q j e
 |true=>exact⟨.bl J,i,j,rfl,e⟩
def Vs(k:PE X a g):PE X (.UnaryOp .Not a f) (XT g):=by intro d s m T Q U h;refine UnaryOp_<|thn (k d s m T _ U h) λv s1 O=>?_;obtain⟨x,i,j,l,e⟩:=O;obtain⟨c,rfl,e⟩:=e;cases l;exact not_of<|uQ ⟨.bl (!c),i,j,rfl,e⟩
noncomputable def tIf(t:TT)(g n:TE):TE:=λd U Q=>t d U λc e=>if c=J then g d e Q else n d e Q
def Oa{c:iK}(q:PT X c tA)(m:PE X a g)(p:PE X b n):PE X (.IfExp c a b f) (tIf tA g n):=by
 intro e s i T Q U h;refine wpAny_IfExp<|thn (q e s i T _ U h) λd s1 O=>?_;obtain⟨j,k,l⟩:=O
 cases d with
 |true=>exact m e s1 i j Q k l
 |false=>exact p e s1 i j Q k l
end
def SqL(K:jb)(U:Hp)(a:iB)(xs:List V):Prop:=
 Rd U a (.lst xs)\/
  ∃(o:ey) (b:mY) (n:Nat),K.lookup a=C o/\o.cls= .type "list"/\o.dict=I/\o.data= .seq b n/\b.size<=sizeLine/\Vals xs b.toList
def SqT(K:jb)(U:Hp)(a:iB)(c:List V):Prop:=
 Rd U a (.tup c)\/
  ∃(o:ey) (b:mY) (n:Nat),K.lookup a=C o/\o.cls= .type "tuple"/\o.data= .seq b n/\b.size<=sizeLine/\Vals c b.toList
noncomputable def aaN:iO->Option V
 | .none=>C .non
 | .bool b=>C<|.bl b
 | .int i _=>C<|.int i
 | .str x _=>C<|.str x
 | .bytes b _=>C<|.byt b
 | .float b _=>C<|.flt b
 | .ref a=>C<|.ref a
 | .type n=>C<|.ty n
 |_=>I
def RelV.abs{x:V}{u:iO}(r:RelV x u):aaN u=C x:=by
 cases x with
 |non=>cases r;rfl
 |bl _=>cases r;rfl
 |int _=>obtain⟨t,rfl⟩:=r;rfl
 |str _=>obtain⟨t,rfl⟩:=r;rfl
 |byt _=>obtain⟨t,rfl⟩:=r;rfl
 |flt _=>obtain⟨t,rfl⟩:=r;rfl
 |ref _=>cases r;rfl
 |ty _=>cases r;rfl
def RelV.inj{x y:V}{u:iO}(r:RelV x u)(q:RelV y u):x=y:=kN<|r.abs.symm.trans q.abs
def Vals.inj{b a:List V}{us:jD}(h:Vals b us)(q:Vals a us):b=a:=by
 induction h generalizing a with
 |nil=>cases q;rfl
 |cons r t c=>obtain _|⟨d,e⟩:=q;rw[r.inj d,c e]
section
variable {X:Cx}{b:jr}{f:St}{H:Hp}{s:iI}{a:iB}{c g:List V}
def SqL.of{K:jb}(h:H a=C (.lst c)):SqL K H a c:= .inl (.inl h)
def Inv.list(U:Inv X b f H s)(h:SqL X.K H a c): ∃d:List iO,Vals c d/\PlainL s.heap a d.toArray/\c.length<=sizeLine:=by
 rcases h with h|⟨o,d,n,hk,i,hd,j,k,r⟩
 .obtain⟨z,d,n,r,e⟩:=h.ok U.hok;exact⟨d,r,⟨_,n,e,rfl,rfl,rfl⟩,z⟩
 .refine⟨d.toList,r,⟨o,n,U.kIn a o hk,i,hd,by simpa using j⟩,?_⟩;have e:=r.length;simp only[kE] at e
  lia
def Inv.tuple(U:Inv X b f H s)(h:SqT X.K H a c): ∃d:List iO,Vals c d/\hL s.heap a d.toArray/\c.length<=sizeLine:=by
 rcases h with h|⟨o,d,n,hk,i,j,k,r⟩
 .obtain⟨z,d,r,p⟩:=h.ok U.hok;exact⟨d,r,p,z⟩
 .refine⟨d.toList,r,⟨o,U.kIn a o hk,i,n,by simpa using j⟩,?_⟩;have e:=r.length;simp only[kE] at e
  lia
def Inv.list_inj(U:Inv X b f H s)(h:SqL X.K H a c)(p:SqL X.K H a g):c=g:=by
 obtain⟨j,r,⟨o,n,e,_,_,d⟩,_⟩:=U.list h;obtain⟨i,q,⟨u,t,l,_,_,k⟩,_⟩:=U.list p;rw[e] at l;cases l;rw[d] at k;injection k with m _
 have:j=i:=by simpa using nD o7 m
 subst this;exact r.inj q
def Inv.tuple_inj(U:Inv X b f H s)(h:SqT X.K H a c)(p:SqT X.K H a g):c=g:=by
 obtain⟨j,r,⟨o,e,_,n,d⟩,_⟩:=U.tuple h;obtain⟨i,q,⟨u,l,_,t,k⟩,_⟩:=U.tuple p;rw[e] at l;cases l;rw[d] at k;injection k with m _
 have:j=i:=by simpa using nD o7 m
 subst this;exact r.inj q
end
noncomputable abbrev Cx.wish(X:Cx)(E:jw):Cx:={X with xe:=E}
noncomputable abbrev Cx.nox(X:Cx):Cx:=X.wish λ_ _=>False
def Cx.Ok.wish{X:Cx}(ok:X.Ok)(E:jw):(X.wish E).Ok:=
 ⟨ok.mod,ok.kind,ok.glob,ok.blt,ok.above,ok.inj,ok.has,ok.cab,ok.hd,ok.frames,ok.stk,ok.exf,ok.bs,ok.bsz,ok.noex,ok.exfs,ok.funs,ok.frf⟩
def Cx.Ok.unwish{X:Cx}{E:jw}(ok:(X.wish E).Ok):X.Ok:=
 ⟨ok.mod,ok.kind,ok.glob,ok.blt,ok.above,ok.inj,ok.has,ok.cab,ok.hd,ok.frames,ok.stk,ok.exf,ok.bs,ok.bsz,ok.noex,ok.exfs,ok.funs,ok.frf⟩
section
variable {X:Cx}{a:jr}{b:St}{H:Hp}{s:iI}{E:jw}
def Inv.wish(U:Inv X a b H s)(E:jw):Inv (X.wish E) a b H s:=⟨U.ok.wish E,U.os,U.bare,U.base,U.loc,U.cell,U.free,U.freeC,U.pin,U.hok,U.len⟩
def Inv.unwish(U:Inv (X.wish E) a b H s):Inv X a b H s:=⟨U.ok.unwish,U.os,U.bare,U.base,U.loc,U.cell,U.free,U.freeC,U.pin,U.hok,U.len⟩
def SP.unwish{D:Ends}{f:Flow}{e:iI}(h:SP (X.wish E) a D f e):SP X a D f e:=by
 cases f with
 |next=>obtain⟨c,d,U,q⟩:=h;exact⟨c,d,U.unwish,q⟩
 |brk=>obtain⟨c,d,U,q⟩:=h;exact⟨c,d,U.unwish,q⟩
 |cont=>obtain⟨c,d,U,q⟩:=h;exact⟨c,d,U.unwish,q⟩
 |ret u=>obtain⟨v,c,d,U,r,q⟩:=h;exact⟨v,c,d,U.unwish,r,q⟩
def PSs.nox{st:List bv}{t:TS}(h:PSs X.nox st t):PSs X st t:=λa s b H D U c=>oE (h a s b H D (U.wish _) c) (λ_ _ q=>q.unwish) λ_ _ z=>aZ z
end
section
variable {X:Cx}{st:bv}{jG:List bv}{t u:TS}{e:iK}{i:TE}{g:bB}
noncomputable def XU:TS:=λD a U=>D.nx a U
noncomputable def ZJ(t u:TS):TS:=λD a U=>t {D with nx:=u D} a U
def JE:PSs X [] XU:=λ_ _ a T _ U h=>Ag ⟨a,T,U,h⟩
def sU(h1:PS X st t)(j:PSs X jG u):PSs X (st::jG) (ZJ t u):=by
 intro a s k T D U h;refine rc<|thn (h1 a s k T {D with nx:=u D} U h) λf s1 q=>?_
 cases f with
 |next=>obtain⟨b,c,d,q⟩:=q;exact j a s1 b c D d q
 |ret v=>exact q
 |brk=>exact q
 |cont=>exact q
def Inv.quiet{a:jr}{b:St}{T:Hp}{s:iI}(U:Inv X a b T s):L3 X.env=Y:=by simp[L3,U.ok.kind]
noncomputable def XX(i:TE):TS:=λD a U=>i a U λ_ b=>D.nx a b
def Rt(f:PE X e i)(j:b6 e I g.line X.env=pure Y:=by rfl):PS X (.Expr e g) (XX i):=by intro a s b T D U h;exact wv (thn (f a s b T _ U h) λv s1 Q=>by obtain⟨x,c,d,l,k⟩:=Q;exact ⟨b,c,d,k⟩) U.quiet j
noncomputable def ZL(i:TE):TS:=λD a U=>i a U D.rt
def NO(f:PE X e i):PS X (.Return (C e) g) (ZL i):=by intro a s b T D U h;exact wpAny_Return_some (thn (f a s b T _ U h) λv s1 Q=>by obtain⟨x,c,d,k,j⟩:=Q;exact ⟨x,b,c,d,k,j⟩)
noncomputable def XQ:TS:=λD _ U=>D.rt .non U
def Rr:PS X (.Return I g) XQ:=λ_ _ a T _ U h=>wpAny_Return_none ⟨.non,a,T,U,rfl,h⟩
noncomputable def ZP(c:TT)(t u:TS):TS:=λD a U=>c a U λb d=>if b=J then t D a d else u D a d
def NS{c:iK}{a b:List bv}{n:TT}(q:PT X c n)(o:PSs X a t)(p:PSs X b u):PS X (.If c a b g) (ZP n t u):=by
 intro f s j T D U h;refine wpAny_If<|thn (q f s j T _ U h) λd s1 Q=>?_;obtain⟨k,l,m⟩:=Q
 cases d with
 |true=>exact o f s1 j k D l m
 |false=>exact p f s1 j k D l m
end
abbrev TG:=V->St->Hp->(St->Hp->Prop)->Prop
abbrev TGs:=List V->St->Hp->(St->Hp->Prop)->Prop
def PG(X:Cx)(a:iK)(t:TG):Prop:=
 ∀(b:jr) (s:iI) (e:St) (U:Hp) (v:V) (u:iO) (Q:St->Hp->Prop),Inv X b e U s->RelV v u->t v e U Q->
  ah (ai X.prog X.w) X.A (cC a X.env u) (λ_ f=> ∃c d,Inv X b c d f/\Q c d) X.xe s
def PGs(X:Cx)(h:kh)(t:TGs):Prop:=
 ∀(a:jr) (s:iI) (f:St) (U:Hp) (e:List V) (d:jD) (Q:St->Hp->Prop),Inv X a f U s->Vals e d->t e f U Q->
  ah (ai X.prog X.w) X.A (assignInOrder ((aW h X.env).map (·.2)) d) (λ_ g=> ∃b c,Inv X a b c g/\Q b c) X.xe s
abbrev Tf:=V->V->V->Hp->(Hp->Prop)->Prop
def WC(X:Cx)(t:Tf):Prop:=
 ∀(a:jr) (s:iI) (e:St) (U:Hp) (o i v:V) (d c u:iO) (Q:Hp->Prop),Inv X a e U s->RelV o d->RelV i c->RelV v u->t o i v U Q->
  ah (ai X.prog X.w) X.A (ib d c u) (λ_ f=> ∃b,Inv X a e b f/\Q b) X.xe s
section
variable {X:Cx}{d:bB}
noncomputable def F5(i:Nat):TG:=λv a U Q=>Q (a.set i<|C v) U
def JH{i:Nat}{x:aB}(c:X.N.Nodup)(f:X.N[i]?=C x)(g:Loc X.env.scope x)(e:X.fn x=J\/X.env.scope.names.lookup x=C .local:=by first|exact .inl rfl|exact .inr rfl|assumption):PG X (.Name x d) (F5 i):=by intro a s k T v u Q U r h;exact wpAny_assign_Name<|Ap U c f g r (λj b=>⟨_,T,b,h⟩) e
noncomputable def aaE:TGs:=λa b U Q=>a=[]/\Q b U
def YW(t:TG)(u:TGs):TGs:=λc e U Q=> ∃v r,c=v::r/\t v e U λa b=>u r a b Q
def Rz:PGs X [] aaE:=by intro a s b T f c Q U r h;obtain⟨e,h⟩:=h;subst e;cases r;exact assignInOrder_nil ⟨b,T,U,h⟩
def N6{e:iK}{b:kh}{t:TG}{u:TGs}(h1:PG X e t)(j:PGs X b u)
  (k:(aW (e::b) X.env).map (·.2)=cC e X.env::(aW b X.env).map (·.2):=by rfl):PGs X (e::b) (YW t u):=by
 intro a s n T q o Q U r h;obtain⟨v,p,i,h⟩:=h;subst i
 cases r with
 |cons r m=>rw[k];refine assignInOrder_cons<|thn (h1 a s n T _ _ _ U r h) λ_ s1 O=>?_;obtain⟨c,f,g,l⟩:=O;exact j a s1 c f _ _ Q g m l
def aaD(K:jb)(n:Nat)(t:TGs):TG:=λv c U Q=> ∃a b,v= .ref a/\SqT K U a b/\(Ps b)=n/\t b c U Q
def Vn{f:kh}{k:Nat}{t:TGs}{n:Nat}(q:X.calm=J)(h:PGs X f t)
  (x:(aW f X.env).length=n:=by rfl)(U:(aW f X.env).findIdx? (·.1)=I:=by rfl):PG X (.Tuple f k d) (aaD X.K n t):=by
 intro c s j O v u Q T r g;obtain⟨a,E,m,y,w,g⟩:=g;subst m;cases r;obtain⟨B,i,z,L⟩:=T.tuple y;refine assign_Tuple_tuple (T.ok.hd q) z (by simp[x,<-w,i.length]) U λp A=>?_;have l:Inv X c j O {s with heap:=p}:=T.kept (t':=s.toks) λb o e=>A b o (jM<|ke e) e;exact h c _ j O E _ Q l (by simpa using i) g
noncomputable def gSub(g f:TE)(t:Tf):TG:=λv a U Q=>g a U λo b=>f a b λi c=>t o i v c λe=>Q a e
def N7{o i:iK}{g f:TE}{t:Tf}(z:PE X o g)(w:PE X i f)(A:WC X t)
  (q: ∀v,cC (.Subscript o i d) X.env v=(do
   let b <-cw [v] (aU o X.env)
   let c <-cw [v,b] (aU i X.env)
   cN d
   cw [v,b,c] (ib b c v)
   F0 [v,b,c] []):=by intro _;rfl):PG X (.Subscript o i d) (gSub g f t):=by
 intro a s e M v u Q N r h;rw[q];refine iF<|nC<|thn (z a s e M _ N h) λb s1 a'=>?_;obtain⟨x,j,m,L,B⟩:=a';refine iF<|nC<|thn (w a s1 e j _ m B) λc T a'=>?_;obtain⟨y,k,n,O,U⟩:=a';refine iF<|yd<|iF<|nC<|thn (A a T e k x y v b c u _ n L O r U) λ_ G a'=>?_;obtain⟨l,p,E⟩:=a';exact wpAny_release ⟨e,l,p,E⟩
noncomputable def UE(c:TE)(g:TG):TS:=λD a U=>c a U λx b=>g x a b D.nx
def HU{b e:iK}{c:TE}{g:TG}(k:PE X e c)(l:PG X b g)(m:e8 [b] e d.line X.env=pure Y:=by rfl)(n:e9 [b] e X.env=pure I:=by rfl)
  (h1:(aW [b] X.env).map (·.2)=[cC b X.env]:=by rfl):PS X (.Assign [b] e d) (UE c g):=by
 intro a s f T D U h;refine wpAny_Assign_stores (thn (k a s f T _ U h) λv s1 Q=>?_) m n;obtain⟨x,i,j,p,o⟩:=Q;rw[h1];exact thn (l a s1 f i x v _ j p o) λ_ r q=>q
def NN{i:Nat}{x:aB}{e:iK}{c:TE}{a:bB}(k:X.N.Nodup)(n:X.N[i]?=C x)(p:Loc X.env.scope x)(l:PE X e c)(o:b6 e (C<|.Name x a) d.line X.env=pure Y:=by rfl)(m:X.fn x=J\/X.env.scope.names.lookup x=C .local:=by first|exact .inl rfl|exact .inr rfl|assumption):
  PS X (.Assign [.Name x a] e d) (UE c<|F5 i):=by
 intro b s t T D U h;refine wpAny_Assign_Name (thn (l b s t T _ U h) λv s1 Q=>?_) o;obtain⟨y,f,g,r,q⟩:=Q;exact Ap g k n p r (λu j=>⟨_,f,j,q⟩) m
def UC(c:TT)(i:TS):TS:=λD a U=> ∃W:Nat->St->Hp->Prop,(∃m,W m a U)/\ ∀m a U,W m a U->
 c a U λb g=>if b=J then ∃N:St->Hp->Prop,(∀e f,N e f-> ∃h,h<m/\W h e f)/\i {D with nx:=N,ct:=N,bk:=D.nx} a g else D.nx a g
def NM{c:iK}{i:List bv}{L:TT}{E:TS}(C:eT (ai X.prog X.w) X.A X.env X.xe)(T:PT X c L)(Q:PSs X i E):PS X (.While c i [] d) (UC L E):=by
 intro a s F H D I h;obtain⟨W,⟨G,U⟩,k⟩:=h;refine wpAny_While<|codeAny_whileLoop (λn J=> ∃l x,Inv X a l x J/\W n l x) ?_ G ⟨F,H,I,U⟩;rintro n s1 ⟨g,H1,O,Y'⟩;refine vG C<|thn (T a s1 g H1 _ O (k n g H1 Y')) λb M a'=>?_;obtain⟨y,z,m⟩:=a'
 cases b with
 |true=>
  obtain⟨N,B,m⟩:=m;rw[iT O9];refine vG C<|thn (Q a M g y _ z m) λf K o=>?_
  cases f with
  |next=>obtain⟨e,j,p,t⟩:=o;obtain⟨r,q,u⟩:=B e j t;exact⟨r,q,e,j,p,u⟩
  |cont=>obtain⟨e,j,p,t⟩:=o;obtain⟨r,q,u⟩:=B e j t;exact⟨r,q,e,j,p,u⟩
  |brk=>exact o
  |ret v=>exact o
 |false=>rw[je kU];exact Ag ⟨g,y,z,m⟩
end
structure It where
 go:Nat->Hp->Prop
 yld:Nat->Hp->V->Hp->Prop
 stop:Nat->Hp->Prop
def tN(X:Cx)(a:jr)(U:Hp)(b:iB):Prop:=
 U b=I/\b≠X.env.locals/\b∉X.fs/\(b∈X.ex\/X.s₀.heap.objs.size<=b)/\(∀x c,X.env.cells.lookup x=C c->c≠b)/\ ∀p∈X.pn++a,p.1≠b
def Inv.fpOk{X:Cx}{a:jr}{i:St}{T f:Hp}{s:iI}{b:iB}(U:Inv X a i T s)(d:s.heap.objs.size<=b)(g:f b=I):tN X a f b:=by
 refine⟨g,oD<|nE U.lt d,U.nofs d,.inr<|lI U.sz d,λx c e z=>?_,λp h z=>?_⟩
 .obtain⟨v,q⟩:=U.cell x c e;exact absurd (nE q.lt<|by rw[z];exact d)<|qk _
 .exact absurd (nE (ke (U.pin p h).1)<|by rw[z];exact d) (qk _)
structure Turn(P:jd)(w:iW)(K:jb)(tg:iK)(J:It)(fp:kG)(it:iB)(tn:Nat->ja->Prop):Prop where
 mem:it∈fp
 obj: ∀i h,tn i h-> ∀b∈fp,∃o,h.get? b=N2 o/\ ∀v,o.data≠ .cell v
 keep: ∀i h h',tn i h->(∀b∈fp,∀o,h.get? b=N2 o->h'.get? b=N2 o)->tn i h'
 item: ∀(X:Cx),X.prog=P->X.w=w->X.K=K->X.calm=O0-> ∀(i:Nat) (pins:jr) (s:iI) (σ:St) (H:Hp) (E:jw),Inv X pins σ H s->(∀b∈fp,tN X pins H b)->tn i s.heap->J.go i H->
  ah (ai P w) X.A (cz<|.ref it) (λr s1=> ∃u,r=N2 u/\
   ah (ai P w) X.A (ev tg (.ref it) u) (λ_ s2=> ∃x H',Inv X pins σ H' s2/\RelV x u/\J.yld i H x H'/\tn (i+1) s2.heap/\ ∀b∈fp,H' b=Op) E s1) E s
 done: ∀(X:Cx),X.prog=P->X.w=w->X.K=K->X.calm=O0-> ∀(i:Nat) (pins:jr) (s:iI) (σ:St) (H:Hp) (E:jw),Inv X pins σ H s->(∀b∈fp,tN X pins H b)->tn i s.heap->J.stop i H->
  ah (ai P w) X.A (cz<|.ref it) (λr s1=>r=Op/\Inv X pins σ H s1) E s
 self: ∀(A:jf) (i:Nat) (s:iI) (Q:jw) (E:jw),tn i s.heap->Q (.ref it) s->ah (ai P w) A (en<|.ref it) Q E s
abbrev TI:=St->Hp->(It->Hp->Prop)->Prop
def PIE(X:Cx)(a:jr)(j:St)(i:iK)(R:It->Hp->Prop)(h:iO)(f:iI):Prop:=
 ∃(e:iB) (d:kG) (g:Nat->ja->Prop) (U:It) (c:Hp),h= .ref e/\Inv X a j c f/\Turn X.prog X.w X.K i U d e g/\g 0 f.heap/\(∀b∈d,tN X a c b)/\R U c
def PI(X:Cx)(tg iter:iK)(c:TI):Prop:=
 ∀(a:jr) (s:iI) (b:St) (U:Hp) (R:It->Hp->Prop),Inv X a b U s->c b U R->
  ah (ai X.prog X.w) X.A (aU iter X.env) (λv s1=>ah (ai X.prog X.w) X.A (en v) (PIE X a b tg R) X.xe s1) X.xe s
def Pj{M:fY}{A:jf}{E:jw}{s:iI}{c:iK}{b:iB}{u:iO}{o:ey}{n:String}{d:mY}{Q:Unit->Shared->Prop}(g:s.heap.get? b=C o)(e:o.cls= .type n)(hd:o.data= .fields d)
  (f:["enumerate","zip","dict_itemiterator","dict_reverseitemiterator","odict_iterator","itertools.zip_longest","itertools.pairwise"].contains n=Y)(a:Q () s):ah M A (ev c (.ref b) u) Q E s:=by
 unfold ev
 cases c<;>first
  |exact iR a
  |(cases u<;>first
    |exact iR a
    |(
      refine iF<|yc g ?_;rw[e,hd];show ah M A (if(["enumerate","zip","dict_itemiterator","dict_reverseitemiterator","odict_iterator","itertools.zip_longest","itertools.pairwise"].contains n&&d[0]?==C (cO _))=J then _ else _) Q E s;rw[je (by intro h;rw[f,DP] at h;cases h)];exact iR a))
noncomputable def Itl(K:jb)(a:iB):It:=
 ⟨λi U=> ∃b x,SqL K U a b/\b[i]?=C x,λi U x c=>c=U/\ ∀b,SqL K U a b->b[i]?=C x,λi U=> ∃b,SqL K U a b/\(Ps b)<=i⟩
noncomputable def Itt(K:jb)(a:iB):It:=
 ⟨λi U=> ∃b x,SqT K U a b/\b[i]?=C x,λi U x c=>c=U/\ ∀b,SqT K U a b->b[i]?=C x,λi U=> ∃b,SqT K U a b/\(Ps b)<=i⟩
noncomputable def Itr(lo:Int)(n:Nat):It:=⟨λi _=>i<n,λi U x a=>a=U/\x= .int (lo+i),λi _=>n<=i⟩
def Ky{P:jd}{w:iW}{K:jb}{tg:iK}(a j:iB):Turn P w K tg (Itl K a) [j] j (λi h=>h.IsListIter j a i) where
 mem:=by simp
 obj:=λi h st b g=>by
  have e:b=j:=by simpa using g
  subst e;obtain⟨o,e,c,d⟩:=st;exact⟨o,e,λv z=>by rw[d] at z;cases z⟩
 keep:=λi h l st k=>st.at λo e=>k j (by simp) o e
 item:=by intro X A C y G i f s J H E I m st B;subst A C y;obtain⟨S,x,n,L⟩:=B;obtain⟨O,Q,p,D⟩:=I.list n;obtain⟨u,U,F⟩:=Q.get L;obtain⟨f0,f1,f2,q,r,t⟩:=m j (by simp);refine wpAny_pyNext_list_item st p.isList (x:=u) (by simpa using U) λl T R=>?_;have M:Inv X f J H {s with heap:=l}:=I.turned (t':=s.toks) (λb o g e=>(R.2 b g).trans e) f0 f1 q r t;obtain⟨o,e,c,d⟩:=id T;exact⟨u,rfl,Pj (s:={s with heap:=l}) e c d (by decide) ⟨x,H,M,F,⟨rfl,λW Y=>by rw[I.list_inj Y n];exact L⟩,T,λb g=>(m b g).1⟩⟩
 done:=by intro X A C y G i f s J H E I m st B;subst A C y;obtain⟨S,n,L⟩:=B;obtain⟨O,Q,p,D⟩:=I.list n;obtain⟨f0,f1,f2,q,r,t⟩:=m j (by simp);have V:=Q.length;exact wpAny_pyNext_list_end (I.ok.hd G) st p.isList (by simp;lia) λl N=>⟨rfl,I.turned (t':=s.toks) (λb o g e=>N b o g e) f0 f1 q r t⟩
 self:=λ_ _ _ _ _ st h=>wpAny_pyIter_listiter st h
def HE{P:jd}{w:iW}{K:jb}{tg:iK}(a j:iB):Turn P w K tg (Itt K a) [j] j (λi h=>h.IsTupleIter j a i) where
 mem:=by simp
 obj:=λi h st b g=>by
  have e:b=j:=by simpa using g
  subst e;obtain⟨o,e,c,d⟩:=st;exact⟨o,e,λv z=>by rw[d] at z;cases z⟩
 keep:=λi h m st k=>st.at λo e=>k j (by simp) o e
 item:=by intro X B L A G i f s J H E I n st C;subst B L A;obtain⟨S,x,q,O⟩:=C;obtain⟨l,Q,p,D⟩:=I.tuple q;obtain⟨u,U,F⟩:=Q.get O;obtain⟨f0,f1,f2,r,t,y⟩:=n j (by simp);refine wpAny_pyNext_tuple_item st (show s.heap.IsTuple a l.toArray from p) (x:=u) (by simpa using U) λm T R=>?_;have M:Inv X f J H {s with heap:=m}:=I.turned (t':=s.toks) (λb o g e=>(R.2 b g).trans e) f0 f1 r t y;obtain⟨o,e,c,d⟩:=id T;exact⟨u,rfl,Pj (s:={s with heap:=m}) e c d (by decide) ⟨x,H,M,F,⟨rfl,λW Y=>by rw[I.tuple_inj Y q];exact O⟩,T,λb g=>(n b g).1⟩⟩
 done:=by intro X B L A G i f s J H E I n st C;subst B L A;obtain⟨S,q,O⟩:=C;obtain⟨l,Q,p,D⟩:=I.tuple q;obtain⟨f0,f1,f2,r,t,y⟩:=n j (by simp);have V:=Q.length;exact wpAny_pyNext_tuple_end (I.ok.hd G) st (show s.heap.IsTuple a l.toArray from p) (by simp;lia) λm N=>⟨rfl,I.turned (t':=s.toks) (λb o g e=>N b o g e) f0 f1 r t y⟩
 self:=λ_ _ _ _ _ st h=>wpAny_pyIter_tupleiter st h
def HF{P:jd}{w:iW}{K:jb}{Q:iK}(a:iB)(lo:Int)(n:Nat):Turn P w K Q (Itr lo n) [a] a (λi h=>NE h a (lo+(i:Nat)*1) ((n:Int)-(i:Nat)) 1) where
 mem:=by simp
 obj:=λi h st b d=>by
  have e:b=a:=by simpa using d
  subst e
  exact⟨_,st,λv z=>by have T:gG _=fg v:=z;cases T⟩
 keep:=λi h f st k=>k a (by simp) _ st
 item:=by intro X q x p r i c s B M E N g st u;subst q x p;obtain⟨f0,f1,f2,j,l,m⟩:=g a (by simp);have W:=Walks.range (prog:=X.prog) (w:=X.w) (N.ok.hd r) a lo 1 n;refine W.item i s _ _ u st λv f A hv y O=>?_;obtain⟨t,rfl⟩:=hv;have U:Inv X c B M {s with heap:=f,toks:=A}:=N.turned (λb o d e=>O b o (by simpa using d) e) f0 f1 j l m;refine⟨_,rfl,Pj (s:={s with heap:=f,toks:=A}) (n:="range_iterator") y H H (by decide) ⟨.int<|lo+i,M,U,⟨t,?_⟩,⟨rfl,rfl⟩,y,λb d=>(g b d).1⟩⟩;rw[Af]
 done:=by intro X q x p r i c s B M E N g st u;subst q x p;obtain⟨f0,f1,f2,j,l,m⟩:=g a (by simp);exact wpAny_pyNext_range_end (N.ok.hd r) st (by have:n<=i:=u;lia) λf L=>⟨rfl,N.turned (t':=s.toks) (λb o d e=>L b o d e) f0 f1 j l m⟩
 self:=λ_ _ _ _ _ st h=>wpAny_pyIter_rangeiter st h
section
variable {X:Cx}{tg:iK}
def YT(K:jb)(c:TE):TI:=λe U R=>c e U λx b=> ∃a,x= .ref a/\(∃d,SqL K b a d)/\R (Itl K a) b
def aaC(K:jb)(c:TE):TI:=λe U R=>c e U λx b=> ∃a,x= .ref a/\(∃d,SqT K b a d)/\R (Itt K a) b
def Rx{l:iK}{f:TE}(j:PE X l f):PI X tg l (YT X.K f):=by
 intro c s t T R U h;refine thn (j c s t T _ U h) λv s1 Q=>?_;obtain⟨x,g,d,r,n⟩:=Q;obtain⟨a,e,⟨y,k⟩,q⟩:=n;subst e;cases r;obtain⟨m,w,p,u⟩:=d.list k;refine DO p.isList ?_;refine⟨s1.heap.objs.size,[s1.heap.objs.size],_,_,g,rfl,d.kept (t':=s1.toks) λb o e=>kc _ e,Ky a _,⟨_,kD _ rfl,rfl,rfl⟩,λb i=>?_,q⟩;have e:b=s1.heap.objs.size:=by simpa using i
 subst e;exact d.fpOk (jW _)<|d.hok.fresh<|jW _
def Vm{l:iK}{g:TE}(k:PE X l g):PI X tg l (aaC X.K g):=by
 intro c s t T R U h;refine thn (k c s t T _ U h) λv s1 Q=>?_;obtain⟨x,i,d,r,n⟩:=Q;obtain⟨a,e,⟨y,m⟩,q⟩:=n;subst e;cases r;obtain⟨f,w,p,u⟩:=d.tuple m;refine nw (show s1.heap.IsTuple a f.toArray from p) ?_;refine⟨s1.heap.objs.size,[s1.heap.objs.size],_,_,i,rfl,d.kept (t':=s1.toks) λb o e=>kc _ e,HE a _,⟨_,kD _ rfl,rfl,rfl⟩,λb j=>?_,q⟩;have e:b=s1.heap.objs.size:=by simpa using j
 subst e;exact d.fpOk (jW _)<|d.hok.fresh<|jW _
def Fo{c:jr}{g:St}{T:Hp}{s:iI}{R:It->Hp->Prop}{E:jw}{lo a:Int}{t u v:m5}{f:Nat}(U:Inv X c g T s)(h1: -(2^62)<=lo)(j:lo<2^62)(k: -(2^62)<=a)(l:a<2^62)
  (q:R (Itr lo (a-lo).toNat) T):ah (ai X.prog X.w) X.A (en<|.ref s.heap.objs.size) (PIE X c g tg R) E {s with heap:=s.heap.push {cls:= .type "range",data:= .fields #[.int lo t,.int a u,.int 1 v]},toks:=f}:=by
 refine wpAny_pyIter_range (IsRange.new ..) (small_one h1 j k l) ?_;have d:Inv X c g T {s with heap:=s.heap.push {cls:= .type "range",data:= .fields #[.int lo t,.int a u,.int 1 v]},toks:=f}:=U.kept λb o e=>kc _ e
 refine⟨(s.heap.push {cls:= .type "range",data:= .fields #[.int lo t,.int a u,.int 1 v]}).objs.size,[(s.heap.push {cls:= .type "range",data:= .fields #[.int lo t,.int a u,.int 1 v]}).objs.size],_,_,T,rfl,
  d.kept (t':=f) λb o e=>kc _ e,HF _ lo (a-lo).toNat,?_,λb m=>?_,q⟩
 .have h:lo+((0:Nat):Int)*1=lo:=by simp
  have i:(((a-lo).toNat:Nat):Int)-((0:Nat):Int)=eU lo a 1:=by rw[zn];split<;>lia
  show NE _ _ (lo+((0:Nat):Int)*1) ((((a-lo).toNat:Nat):Int)-((0:Nat):Int)) 1;rw[h,i];exact kD _ rfl
 .have e:b=(s.heap.push {cls:= .type "range",data:= .fields #[.int lo t,.int a u,.int 1 v]}).objs.size:=by simpa using m
  subst e;exact d.fpOk (jW _)<|d.hok.fresh<|jW _
def YS(b:TA):TI:=λd U R=>b d U λc a=> ∃j:Int,c=[.int j]/\ -(2^62)<=j/\j<2^62/\R (Itr 0 j.toNat) a
def YR(b:TA):TI:=λd U R=>b d U λc a=> ∃i j:Int,c=[.int i,.int j]/\(-(2^62)<=i/\i<2^62/\ -(2^62)<=j/\j<2^62)/\R (Itr i (j-i).toNat) a
def K6{a:iK}{f:TA}{p c:bB}(k:Gl X "range")(l:X.mg "range"=I)(i:PA X [a] f)(m:ag [a] X.env=[(Y,aU a X.env)]:=by rfl):PI X tg (.Call (.Name "range" p) [a] [] c) (YS f):=by
 intro b s v T R U h;refine Call_<|qZ U k l DN<|Ae (thn (i c b s v T _ U h) λx s1 Q=>?_) m H;obtain⟨y,w,g,o,d⟩:=Q;obtain⟨j,e,d,n,q⟩:=d;subst e
 cases o with
 |cons r u=>
  cases u;obtain⟨t,rfl⟩:=r;exact call_range_1<|Fo g (by lia) (by lia) d n (by simpa using q)
def K5{a b:iK}{l:TA}{p d:bB}(o:Gl X "range")(u:X.mg "range"=I)(n:PA X [a,b] l)(v:ag [a,b] X.env=[(Y,aU a X.env),(Y,aU b X.env)]:=by rfl)(k:ag [b] X.env=[(Y,aU b X.env)]:=by rfl):
  PI X tg (.Call (.Name "range" p) [a,b] [] d) (YR l):=by
 intro c s B Q R T h;refine Call_<|qZ T o u DN<|Ae (thn (n d c s B Q _ T h) λL s1 N=>?_) (by rw[v,k]) (by rw[k];rfl);obtain⟨O,U,m,A,f⟩:=N;obtain⟨i,j,e,⟨f,w,x,y⟩,q⟩:=f;subst e
 cases A with
 |cons r g=>
  cases g with
  |cons z g=>
   cases g;obtain⟨t,rfl⟩:=r;obtain⟨E,rfl⟩:=z;exact G0<|Fo m f w x y q
def ZQ(k:TI)(g:TG)(j:TS):TS:=λD a U=>k a U λT f=> ∃W:Nat->Nat->St->Hp->Prop,(∃m,W 0 m a f)/\ ∀i m a U,W i m a U->
 (T.stop i U/\D.nx a U)\/(T.go i U/\ ∃N:St->Hp->Prop,(∀c b,N c b-> ∃e,e<m/\W (i+1) e c b)/\ ∀x b,T.yld i U x b->g x a b λd h=>j {D with nx:=N,ct:=N,bk:=D.nx} d h)
noncomputable def AD(a:kG)(h:ja):List (iB×ey):=a.filterMap λb=>(h.get? b).map λo=>(b,o)
def qY{a:kG}{h:ja}{b:iB}{o:ey}(c:b∈a)(e:h.get? b=C o):(b,o)∈AD a h:=c7.mpr ⟨b,c,by rw[e];rfl⟩
def Ld{a:kG}{h:ja}{p:iB×ey}(f:p∈AD a h):p.1∈a/\h.get? p.1=C p.2:=by
 obtain⟨b,d,e⟩:=c7.mp f
 cases q:h.get? b with
 |none=>rw[q] at e;cases e
 |some o=>rw[q] at e;have c:(b,o)=p:=kN e;subst c;exact⟨d,q⟩
def Inv.pinned{a:jr}{h:St}{T:Hp}{s:iI}{c:kG}(U:Inv X a h T s)(i: ∀b∈c,tN X a T b)(j: ∀b∈c,∃o,s.heap.get? b=C o/\ ∀v,o.data≠ .cell v):Inv X (a++AD c s.heap) h T s:=
 U.pins_of λp k=>(pJ.mp k).elim (λz=>U.pin p<|qj _ z) λz=>by obtain⟨g,e⟩:=Ld z;obtain⟨f0,f1,f2,_⟩:=i p.1 g;obtain⟨o,f,d⟩:=j p.1 g;rw[e] at f;cases f;exact⟨e,f0,f1,f2,d⟩
def Inv.unpinned{a d:jr}{b:St}{T:Hp}{s:iI}(U:Inv X (a++d) b T s):Inv X a b T s:=U.pins_of λp c=>U.pin p<|qj _ (DQ _ c)
def Vj{iter:iK}{y:List bv}{wi:TI}{g:TG}{tb:TS}{M:bB}(C:eT (ai X.prog X.w) X.A X.env X.xe)(hc:X.calm=O0)(hi:PI X tg iter wi)(hg:PG X tg g)(l:PSs X y tb)
  (hs: ∀x,ay iter X.env x=pure x:=by intro _;rfl):PS X (.For tg iter y [] M) (ZQ wi g tb):=by
 intro a s P H D I h;refine wpAny_For (thn (hi a s P H _ I h) λv s1 h1=>thn h1 λdg s2 Z=>?_) hs;obtain⟨it,B,K,J,R,e,S,T,V,f2,W,⟨m0,w0⟩,L⟩:=Z;subst e;have Y: ∀{t:Hp},(∀b∈B,t b=Op)-> ∀b∈B,tN X a t b:=λhn b l=>⟨hn b l,(f2 b l).2⟩
 refine codeAny_forLoop_any (λn F=> ∃i p t,Inv X a p t F/\K i F.heap/\(∀b∈B,t b=Op)/\W i n p t) ?_ m0 ⟨0,P,R,S,V,λb l=>(f2 b l).1,w0⟩;rintro n s3 ⟨i,q,O,I3,dH,dy,w3⟩;rcases L i n q O w3 with⟨stop,qn⟩|⟨go,N,hN,step⟩
 .refine vG C (thn (T.done X O9 O9 O9 hc i a s3 q O X.xe I3 (Y dy) dH stop) λr s4 a'=>?_);obtain⟨G,I4⟩:=a';subst G;exact Ag ⟨q,O,I4,qn⟩
 .refine vG C (thn (T.item X O9 O9 O9 hc i a s3 q O X.xe I3 (Y dy) dH go) λr s4 a'=>?_);obtain⟨u,G,h4⟩:=a';subst G;refine vG C<|thn h4 λ_ s5 a'=>?_;obtain⟨x,H5,I5,r5,y5,Q,gZ⟩:=a';have iz:=I5.pinned (Y gZ)<|T.obj _ _ Q;refine vG C<|thn (hg _ s5 q H5 x u _ iz r5 (step x H5 y5)) λ_ s6 a'=>?_;obtain⟨σ6,H6,I6,q6⟩:=a';refine vG C (thn (l _ s6 σ6 H6 _ I6 q6) λf U z=>?_)
  have again: ∀{c:St} {j:Hp},Inv X (a++AD B s5.heap) c j U->N c j-> ∃m,m<n/\ ∃i p t,Inv X a p t U/\K i U.heap/\(∀b∈B,t b=Op)/\W i m p t:=λ{c j} k E=>by obtain⟨m',hm,w7⟩:=hN c j E;refine⟨m',hm,i+1,c,j,k.unpinned,T.keep _ _ _ Q λb l o e=>(k.pin (b,o)<|qj _ (qj _ (qY l e))).1,λb l=>?_,w7⟩;obtain⟨o,e,d⟩:=T.obj _ _ Q b l;exact(k.pin (b,o)<|qj _ (qj _ (qY l e))).2.1
  cases f with
  |next=>obtain⟨c,j,k,E⟩:=z;exact again k E
  |cont=>obtain⟨c,j,k,E⟩:=z;exact again k E
  |brk=>obtain⟨c,j,k,z⟩:=z;exact⟨c,j,k.unpinned,z⟩
  |ret v=>obtain⟨x7,c,j,k,r7,z⟩:=z;exact⟨x7,c,j,k.unpinned,r7,z⟩
end
abbrev R2:=V->V->Hp->VK->Prop
def OpR(X:Cx)(f:yJ)(r:R2):Prop:=
 ∀(a:jr) (s:iI) (b:St) (U:Hp) (x y:V) (v u:iO) (Q:VK),Inv X a b U s->RelV x v->RelV y u->r x y U Q->
  ah (ai X.prog X.w) X.A (f v u) (EP X a b Q) X.xe s
def UnR(X:Cx)(f:iO->dP iO)(r:V->Hp->VK->Prop):Prop:=
 ∀(a:jr) (s:iI) (b:St) (U:Hp) (x:V) (v:iO) (Q:VK),Inv X a b U s->RelV x v->r x U Q->
  ah (ai X.prog X.w) X.A (f v) (EP X a b Q) X.xe s
def kR(X:Cx)(f:iO)(r:List V->Hp->VK->Prop):Prop:=
 ∀(a:jr) (s:iI) (d:St) (U:Hp) (c:List V) (b:jD) (Q:VK),Inv X a d U s->Vals c b->r c U Q->
  ah (ai X.prog X.w) X.A (call f b) (EP X a d Q) X.xe s
noncomputable def tOp(r:R2)(d e:TE):TE:=λa U Q=>d a U λx b=>e a b λy c=>r x y c Q
def tUn(r:V->Hp->VK->Prop)(b:TE):TE:=λc U Q=>b c U λx a=>r x a Q
def rI(U:Int->Int->Prop)(g:Int->Int->V):R2:=λx y T Q=> ∃i j,x= .int i/\y= .int j/\U i j/\Q (g i j) T
def rI0(g:Int->Int->V):R2:=λx y U Q=> ∃i j,x= .int i/\y= .int j/\Q (g i j) U
def rU(g:Int->V):V->Hp->VK->Prop:=λx U Q=> ∃i,x= .int i/\Q (g i) U
section
variable {X:Cx}{a b c:iK}{l m o:TE}{n:bB}
def Wt(t:PE X a l)(z:PE X b m){d:jr}{s:iI}{g:St}{N:Hp}{R:V->V->Hp->Prop}(T:Inv X d g N s)
  (h:l g N λx p=>m g p λy e=>R x y e){Q:jw}{f:yJ}
  (B: ∀v u k x y e,Inv X d g e k->RelV x v->RelV y u->R x y e->ah (ai X.prog X.w) X.A (f v u) Q X.xe k):
  ah (ai X.prog X.w) X.A (aU a X.env) (λv i=>ah (ai X.prog X.w) X.A (aU b X.env) (λu j=>ah (ai X.prog X.w) X.A (f v u) Q X.xe j) X.xe i) X.xe s:=by
 refine thn (t d s g N _ T h) λv s1 M=>?_;obtain⟨x,p,q,L,U⟩:=M;refine thn (z d s1 g p _ q U) λu k M=>?_;obtain⟨y,e,r,O,E⟩:=M;exact B v u k x y e r L O E
def Yt{e:Operator}{r:R2}(k:OpR X (bb e) r)(i:PE X a l)(j:PE X b m):PE X (.BinOp a e b n) (tOp r l m):=by intro d s z T Q U h;exact wpAny_BinOp<|Wt i j U h λv u w x y f g p t q=>k d w z f x y v u Q g p t q
def Yr{e:UnaryOp}{r:V->Hp->VK->Prop}(k:UnR X (EQ e) r)(j:PE X a l):PE X (.UnaryOp e a n) (tUn r l):=by intro d s f T Q U h;exact UnaryOp_ (thn (j d s f T _ U h) λv s1 O=>by obtain⟨x,g,i,q,p⟩:=O;exact k d s1 f g x v Q i q p)
def opI{f:yJ}{U:Int->Int->Prop}{g:Int->Int->Int}
  (rule: ∀(i j:Int) (t u:m5) (s:iI) (Q:jw) (E:jw),U i j->Q (.int (g i j) s.toks) {s with toks:=s.toks+1}->ah (ai X.prog X.w) X.A (f (.int i t)<|.int j u) Q E s):
  OpR X f (rI U λi j=> .int (g i j)):=by
 intro d s z O x y v u Q T k p h;obtain⟨i,j,rfl,rfl,e,q⟩:=h;obtain⟨t,rfl⟩:=k;obtain⟨r,rfl⟩:=p;exact rule i j t r s _ _ e ⟨.int<|g i j,O,T.tok _,⟨_,rfl⟩,q⟩
def VL{f:yJ}{g:Int->Int->Int}
  (rule: ∀(i j:Int) (t u:m5) (s:iI) (Q:jw) (E:jw),Q (.int (g i j) s.toks) {s with toks:=s.toks+1}->ah (ai X.prog X.w) X.A (f (.int i t)<|.int j u) Q E s):
  OpR X f (rI0 λi j=> .int (g i j)):=by
 intro d s r T x y v u Q U e k h;obtain⟨i,j,rfl,rfl,q⟩:=h;obtain⟨t,rfl⟩:=e;obtain⟨p,rfl⟩:=k;exact rule i j t p s _ _ ⟨.int<|g i j,T,U.tok _,⟨_,rfl⟩,q⟩
def RQ{f:yJ}{g:Int->Int->Bool}
  (rule: ∀(i j:Int) (t u:m5) (s:iI) (Q:jw) (E:jw),Q (.bool<|g i j) s->ah (ai X.prog X.w) X.A (f (.int i t)<|.int j u) Q E s):
  OpR X f (rI0 λi j=> .bl (g i j)):=by
 intro d s r T x y v u Q U e k h;obtain⟨i,j,rfl,rfl,q⟩:=h;obtain⟨t,rfl⟩:=e;obtain⟨p,rfl⟩:=k;exact rule i j t p s _ _ ⟨.bl<|g i j,T,U,rfl,q⟩
def LQ(i j:Int):Prop:=0<j/\j<1073741824
def tP(i j:Int):Prop:=0<=j/\j<=1000000/\i.natAbs<2^64
def CMul(i j:Int):Prop:=(-(2^64)<i/\i<2^64)\/(-(2^64)<j/\j<2^64)
def CMul.ok{i j:Int}(h:CMul i j):IntMulOk i j:=by
 rcases h with⟨h1,d⟩|⟨h1,d⟩
 .exact .of_left (zx h1 d)
 .exact .of_right (zx h1 d)
def HC(k:Nat):(0:Int)<=2^k:=by rw[two_pow_cast];exact Int.natCast_nonneg _
def VJ:OpR X (bb .Add) (rI0 λi j=> .int (i+j)):=VL λ_ _ _ _ _ _ _ q=>add_int q
def Vz:OpR X (bb .Sub) (rI0 λi j=> .int (i-j)):=VL λ_ _ _ _ _ _ _ q=>sub_int q
def VE:OpR X (bb .Mult) (rI CMul λi j=> .int (i*j)):=opI λ_ _ _ _ _ _ _ d q=>mul_int q d.ok
def RO:OpR X (bb .FloorDiv) (rI LQ λi j=> .int (i / j)):=opI λi j _ _ _ _ _ d q=>by have h1:(0:Int)<j:=d.1;have e:j<1073741824:=d.2;exact floordiv_int (by lia) (by rw[MM i<|by lia];exact q)<|.inl<|PyProof.noPylong_small (by lia)
def VF:OpR X (bb .Mod) (rI (λ_ j=>0<j) λi j=> .int (i%j)):=opI λi j _ _ _ _ _ d q=>by have h1:(0:Int)<j:=d;exact mod_int' (by lia) (by rw[Int.fmod_eq_emod_of_nonneg i<|by lia];exact q)
def VC:OpR X (bb .Pow) (rI tP λi j=> .int (i^j.toNat)):=opI λ_ _ _ _ _ _ _ d q=>pow_int_small d.1 d.2.1 d.2.2 q
def VB:OpR X (bb .LShift) (rI tP λi j=> .int (i*2^j.toNat)):=opI λ_ _ _ _ _ _ _ d q=>lshift_int_small d.1 d.2.1 d.2.2 q
def VA:OpR X (bb .RShift) (rI (λ_ j=>0<=j) λi j=> .int (i / 2^j.toNat)):=opI λi j _ _ _ _ _ d q=>rshift_int d (by rw[MM i<|HC _];exact q)
def VI:OpR X (bb .BitAnd) (rI0 λi j=> .int (bV i j)):=VL λ_ _ _ _ _ _ _ q=>and_int q
def unI{f:iO->dP iO}{g:Int->Int}
  (rule: ∀(i:Int) (t:m5) (s:iI) (Q:jw) (E:jw),Q (.int (g i) s.toks) {s with toks:=s.toks+1}->ah (ai X.prog X.w) X.A (f<|.int i t) Q E s):
  UnR X f (rU λi=> .int (g i)):=by
 intro d s j T x v Q U e h;obtain⟨i,rfl,q⟩:=h;obtain⟨t,rfl⟩:=e;exact rule i t s _ _ ⟨.int<|g i,T,U.tok _,⟨_,rfl⟩,q⟩
def Uz:UnR X (EQ .USub) (rU λi=> .int (-i)):=unI λ_ _ _ _ _ q=>neg_int q
def EB{d:jr}{g:St}{T:Hp}{s:iI}{Q:VK}{k f:Bool}(U:Inv X d g T s)(q:Q (.bl k) T)(e:k=f):EP X d g Q (.bool f) s:=by subst e;exact⟨.bl k,T,U,rfl,q⟩
def Yy:OpR X (aw .Lt) (rI0 λi j=> .bl (decide<|i<j)):=RQ λ_ _ _ _ _ _ _ q=>lt_int q
def Yz:OpR X (aw .LtE) (rI0 λi j=> .bl (decide<|i<=j)):=RQ λ_ _ _ _ _ _ _ q=>le_int q
def YA:OpR X (aw .Gt) (rI0 λi j=> .bl (decide<|j<i)):=RQ λ_ _ _ _ _ _ _ q=>gt_int q
def YB:OpR X (aw .GtE) (rI0 λi j=> .bl (decide<|j<=i)):=RQ λ_ _ _ _ _ _ _ q=>ge_int q
def Om:OpR X (aw .Is) (λx y T Q=>y= .non/\Q (.bl<|decide<|x= .non) T):=by
 intro d s g T x y v u Q U e f h;obtain⟨rfl,q⟩:=h;cases f;refine is_none_gen<|EB U q ?_
 cases x<;>first
  |(cases e;rfl)
  |(obtain⟨t,rfl⟩:=e;rfl)
def JN:OpR X (aw .IsNot) (λx y T Q=>y= .non/\Q (.bl (!decide (x= .non))) T):=by
 intro d s g T x y v u Q U e f h;obtain⟨rfl,q⟩:=h;cases f;refine isnot_none_gen<|EB U q ?_
 cases x<;>first
  |(cases e;rfl)
  |(obtain⟨t,rfl⟩:=e;rfl)
def OB(b:iK){d:cH}(h:d≠ .In:=by decide)(g:d≠ .NotIn:=by decide):c4 d b=Y:=by
 have e:(d==cH.In)=Y:=by cases d<;>first|rfl|exact absurd H h
 have f:(d==CmpOp.NotIn)=Y:=by cases d<;>first|rfl|exact absurd H g
 cases b<;>simp[c4,e,f]
def RC{e:cH}{r:R2}(p:OpR X (aw e) r)(i:PE X a l)(j:PE X b m)(k:c4 e b=Y):PE X (.Compare a [e] [b] n) (tOp r l m):=by intro d s A T Q U h;exact wpAny_Compare1 (Wt i j U h λv u z x y f g t w q=>p d z A f x y v u Q g t w q) k
def Tp(t:TE):TT:=λe U Q=>t e U λx d=> ∃k,x= .bl k/\Q k d
def Ro{g:cH}{r:R2}(L:OpR X (aw g) r)(B:PE X a l)(C:PE X b m)(E:c4 g b=O1):PT X (.Compare a [g] [b] n) (Tp<|tOp r l m):=by intro d s i H Q I h;refine wpAny_isTrue_Compare1 (thn (B d s i H _ I h) λv s1 f=>?_) E;obtain⟨x,j,t,J,O⟩:=f;refine thn (C d s1 i j _ t O) λu U f=>?_;obtain⟨y,p,w,M,T⟩:=f;refine thn (L d U i p x y v u _ w J M T) λc Y f=>?_;obtain⟨z,q,A,N,k,e,G⟩:=f;subst e;cases N;exact uQ ⟨q,A,G⟩
def HH(r i:R2)(l m o:TE):TE:=λd U Q=>l d U λx f=>m d f λy g=>r x y g λz e=> ∃k,z= .bl k/\
 (if k=J then o d e λj h=>i y j h Q else Q (.bl Y) e)
def Oc{p j:cH}{r A:R2}(ho:OpR X (aw p) r)(J:OpR X (aw j) A)(M:PE X a l)(N:PE X b m)(U:PE X c o)
  (Y:gV [p,j] [b,c]=O1:=by with_unfolding_all rfl):PE X (.Compare a [p,j] [b,c] n) (HH r A l m o):=by
 intro f s i H Q I h;refine Compare_chain (thn (M f s i H _ I h) λv s1 g=>?_) Y;obtain⟨x,C,O,K,D⟩:=g;refine chain_link<|thn (N f s1 i C _ O D) λu R g=>?_;obtain⟨y,E,T,B,F⟩:=g;refine thn (ho f R i E x y v u _ T K B F) λd S g=>?_;obtain⟨z,q,t,P,k,e,w⟩:=g;subst e;cases P;refine uQ ?_
 cases k with
 |false=>exact ite_ff ⟨.bl O1,q,t,rfl,w⟩
 |true=>exact ite_tt<|chain_last (thn (U f S i q _ t w) λw' s4 a'=>by obtain⟨z',L,G,r4,q4⟩:=a';exact J f s4 i L y z' u w' Q G B r4 q4)
def NK{p j:cH}{r A:R2}(ho:OpR X (aw p) r)(N:OpR X (aw j) A)(ha:PE X a l)(hb:PE X b m)(hc:PE X c o)
  (hm:gV [p,j] [b,c]=O1:=by with_unfolding_all rfl):PT X (.Compare a [p,j] [b,c] n) (Tp<|HH r A l m o):=by
 intro f s i H Q I h;refine isTrue_chain (thn (ha f s i H _ I h) λv s1 g=>?_) hm;obtain⟨x,C,T,S,F⟩:=g;refine test_link<|thn (hb f s1 i C _ T F) λu s2 g=>?_;obtain⟨y,E,G,B,K⟩:=g;refine thn (ho f s2 i E x y v u _ G S B K) λd s3 g=>?_;obtain⟨z,q,t,V,k,e,w⟩:=g;subst e;cases V;refine uQ ?_
 cases k with
 |false=>obtain⟨k',U,D⟩:=w;cases U;exact ite_ff ⟨q,t,D⟩
 |true=>refine ite_tt<|test_last<|thn (hc f s3 i q _ t w) λw' s4 g=>?_;obtain⟨z',L,J,W,P⟩:=g;refine thn (N f s4 i L y z' u w' _ J B W P) λd' s5 g=>?_;obtain⟨z2,O,M,Z,k2,Y,R⟩:=g;subst Y;cases Z;exact uQ ⟨O,M,R⟩
def El:(sizeLine:Nat)<2^63:=by rw[kf];decide
def Ib:OpR X (bb .Add) (λx y T Q=> ∃i j,x= .str i/\y= .str j/\i.length+j.length<=sizeLine/\Q (.str<|i++j) T):=by intro d s p T x y v u Q U f g h;obtain⟨i,j,rfl,rfl,e,q⟩:=h;obtain⟨t,rfl⟩:=f;obtain⟨t',rfl⟩:=g;exact add_str (λt' k=>⟨.str<|i++j,T,U.tok _,⟨_,rfl⟩,q⟩) e
def rJ{x:V}{d:jD}(r:Vals [x] d): ∃u,d=[u]/\RelV x u:=by
 cases r with
 |cons e f=>cases f;exact⟨_,rfl,e⟩
def Cj{x y:V}{d:jD}(r:Vals [x,y] d): ∃u e,d=[u,e]/\RelV x u/\RelV y e:=by
 cases r with
 |cons f g=>
  cases g with
  |cons h i=>cases i;exact⟨_,_,rfl,f,h⟩
def P8:kR X (.builtin "abs") (λe T Q=> ∃i,e=[.int i]/\Q (.int (if i<0 then -i else i)) T):=by intro d s j T e g Q U r h;obtain⟨i,rfl,q⟩:=h;obtain⟨u,rfl,t,rfl⟩:=rJ r;exact IX λu f=>⟨.int (if i<0 then -i else i),T,U.tok _,⟨_,rfl⟩,q⟩
def LJ(g:X.calm=J):kR X (.builtin "max") (λf T Q=> ∃i j,f=[.int i,.int j]/\Q (.int (if j>i then j else i)) T):=by
 intro e s z T f x Q U r h;obtain⟨i,j,rfl,q⟩:=h;obtain⟨u,y,rfl,⟨t,rfl⟩,⟨v,rfl⟩⟩:=Cj r;refine max_two_ints (U.ok.hd g) λp w k=>⟨_,T,U.kept k,?_,q⟩
 by_cases d:j>i
 .rw[iT d,iT d];exact⟨_,rfl⟩
 .rw[je d,je d];exact⟨_,rfl⟩
def LH(g:X.calm=J):kR X (.builtin "min") (λf T Q=> ∃i j,f=[.int i,.int j]/\Q (.int (if j<i then j else i)) T):=by
 intro e s z T f x Q U r h;obtain⟨i,j,rfl,q⟩:=h;obtain⟨u,y,rfl,⟨t,rfl⟩,⟨v,rfl⟩⟩:=Cj r;refine min_two_ints (U.ok.hd g) λp w k=>⟨_,T,U.kept k,?_,q⟩
 by_cases d:j<i
 .rw[iT d,iT d];exact⟨_,rfl⟩
 .rw[je d,je d];exact⟨_,rfl⟩
def C5:kR X (.type "int") (λd T Q=>(∃i,d=[.int i]/\Q (.int i) T)\/ ∃k,d=[.bl k]/\Q (.int (if k then 1 else 0)) T):=by
 intro e s j T d g Q U r h;rcases h with⟨i,rfl,q⟩|⟨k,rfl,q⟩
 .obtain⟨u,rfl,t,rfl⟩:=rJ r;exact call_int_int ⟨.int i,T,U,⟨_,rfl⟩,q⟩
 .obtain⟨u,rfl,f⟩:=rJ r;cases f;exact call_int_bool ⟨.int (if k then 1 else 0),T,U.tok _,⟨_,rfl⟩,q⟩
end
section
variable {a:jd}{w:iW}{A:jf}{E:jw}{s:iI}{K:jb}{x d C f:iB}{c:lp}{b:aB}{v:iO}
end
section
variable {P:jd}{w:iW}{H e:Hp}{h c:ja}{a C d:iB}{fs b:List (aB×V)}
end
section
variable {X:Cx}{b:jr}{c:St}{H:Hp}{s:iI}{a C d:iB}{fs:List (aB×V)}{f:aB}{v:V}{A:jf}{E:jw}
end
section
variable {X:Cx}{o e a:iK}{f:aB}{c b h:bB}{g d:TE}
end
section
variable {X:Cx}{a:jr}{d:St}{H:Hp}{s:iI}{A:jf}{E:jw}{Q:jw}{c:iO}{b:Bool}
end
structure Room(k:Nat)(A:jf):Prop where
 hd:A.handled=Op
 dp:A.depth+3*k+5<recursionLimit
 un:A.units+16*k+200<bi
 gd:A.guards=N2 []:=by rfl
def Room.mono{j k:Nat}{A:jf}(r:Room k A)(h:j<=k):Room j A:=⟨r.hd,by have:=r.dp;lia,by have:=r.un;lia,r.gd⟩
def Room.deeper{k:Nat}{A:jf}(r:Room (k+1) A)(a:dh):Room k (A.deeper a):=
 ⟨r.hd,by have:=r.dp;show A.depth+1+3*k+5<_;lia,by have:=r.un;show A.units+3+16*k+200<_;lia,r.gd⟩
def Room.depth{k:Nat}{A:jf}(r:Room k A):A.depth<recursionLimit:=by have:=r.dp;lia
noncomputable def ZN:TA:=λ_ U Q=>Q [] U
noncomputable def XZ(d:TE)(e:TA):TA:=λa U Q=>d a U λx b=>e a b λf c=>Q (x::f) c
section
variable {X:Cx}{e:iK}{c:kh}{d:TE}{t:TA}{a:bB}
def sV:PA X [] ZN:=λ_ _ _ _ T Q U h=>Hq ⟨[],T,U,.nil,h⟩
def nQ(l:PE X e d)(m:PA X c t)(n:ag (e::c) X.env=(Y,aU e X.env)::ag c X.env:=by rfl):PA X (e::c) (XZ d t):=by intro a b s f T Q U h;rw[n];show ah _ _ (Fk ((Y,aU e X.env)::bc a (ag c X.env))) _ _ s;refine Ho<|thn (l b s f T _ U h) λu s1 O=>?_;obtain⟨x,g,j,q,o⟩:=O;exact thn (m a b s1 f g _ j o) λy w ⟨v,i,k,r,p⟩=>⟨x::v,i,k,.cons q r,p⟩
noncomputable def ZI(t:TA):TE:=λg U Q=>t g U λf b=>Ps f<=sizeLine/\ ∀p,b p=I->Q (.ref p) (upd b p<|.tup f)
noncomputable def ZO(t:TA):TE:=λg U Q=>t g U λf b=>Ps f<=sizeLine/\ ∀p,b p=I->Q (.ref p) (upd b p<|.lst f)
def Vp{x1}(h:PA X c t):PE X (.Tuple c x1 a) (ZI t):=by intro f s n T Q U k;refine wpAny_Tuple_spliced<|thn (h a f s n T _ U k) λl s1 ⟨m,g,i,r,z,q⟩=>⟨by rw[<-r.length];exact z,?_⟩;have j:g s1.heap.objs.size=I:=i.hok.fresh<|jW _;refine⟨.ref s1.heap.objs.size,upd g s1.heap.objs.size<|.tup m,i.laid (t':=s1.toks) (λb u e=>kc _ e) (jW _) ?_,rfl,q _ j⟩;exact⟨z,l,r,⟨_,kD _ rfl,rfl,_,rfl⟩⟩
def Vu(h:PA X c t):PE X (.List c a) (ZO t):=by intro f s n T Q U k;refine wpAny_List_spliced<|thn (h a f s n T _ U k) λl s1 ⟨m,g,i,r,z,q⟩=>⟨by rw[<-r.length];exact z,?_⟩;have j:g s1.heap.objs.size=I:=i.hok.fresh<|jW _;refine⟨.ref s1.heap.objs.size,upd g s1.heap.objs.size<|.lst m,i.laid (t':=s1.toks) (λb u e=>kc _ e) (jW _) ?_,rfl,q _ j⟩;exact⟨z,l,0,r,kD _ rfl⟩
end
abbrev Sp:=List V->Hp->VK->XK->Prop
abbrev CXT:=List dh->Hp->Shared->XK->iO->Shared->Prop
structure Env0(P:jd)(w:iW)(K:jb)(mg:lp)(base:ja)(A:jf)(outer:List dh)(s:iI)(H:Hp):Prop where
 frames:A.frames=N2 outer
 mod:Mod K mg base
 bs: ∀b o,base.get? b=N2 o->s.heap.get? b=N2 o/\H b=Op
 bsz:base.objs.size<=s.heap.objs.size
 funs:s.heap.FunFrames base outer
 frf: ∀b∈frs outer,H b=Op
 hok:HOk P w H s.heap
 bare:dI s.gens
def CE(a:List dh)(P:jd)(w:iW)(U:Hp)(s:iI)(Q:VK)(u:iO)(b:iI):Prop:=
 ∃v c,b.os=s.os/\dI b.gens/\Un (frs a) [] U c s.heap b.heap/\HOk P w c b.heap/\RelV v u/\Q v c
def CR(CX:CXT)(a:List dh)(P:jd)(w:iW)(U:Hp)(s:iI)(Q:VK)(E:XK)(r:iV)(b:iI):Prop:=
 match r with
 | .ok (.ret u)=>CE a P w U s Q u b
 | .ok _=>False
 | .error e=>CX a U s E e b
structure FnOk(P:jd)(w:iW)(K:jb)(mg:lp)(base:ja)(CX:CXT)(k:Nat)(f:iB)(fd:mD)(ps:ji)(sp:Sp):Prop where
 len: ∀vs H Q E,sp vs H Q E->Ps vs=Ps ps
 run: ∀(A:jf) (outer:List dh) (s:iI) (H:Hp) (args:Args) (us:jD) (vs:List V) (Q:VK) (E:XK),Room k A->Env0 P w K mg base A outer s H->fM s fd args (ps.zip us)->Vals vs us->sp vs H Q E->
  cR (ai P w) A (.call (.ref f) args) (CR CX outer P w H s Q E) s
def FnOk.mono{P:jd}{w:iW}{K:jb}{d:lp}{base:ja}{CX:CXT}{j k:Nat}{f:iB}{c:mD}{e:ji}{g:Sp}(F:FnOk P w K d base CX j f c e g)(h:j<=k):
  FnOk P w K d base CX k f c e g:=⟨F.len,λA a s U b us vs Q E i=>F.run A a s U b us vs Q E<|i.mono h⟩
section
variable {X:Cx}{a:jr}{c:St}{H:Hp}{s e:iI}
def Inv.env0(U:Inv X a c H s):Env0 X.prog X.w X.K X.mg X.base X.A X.stack s H:=
 ⟨U.ok.frames,U.ok.mod,U.bs,lI U.ok.bsz U.sz,U.stack,U.stkFree,U.hok,U.bare⟩
def Inv.after{Q:VK}{u:iO}(U:Inv X a c H s)(h:CE X.stack X.prog X.w H s Q u e):EP X a c Q u e:=by obtain⟨v,j,os,f,un,i,r,q⟩:=h;obtain⟨l,g,d,t,k⟩:=e;obtain rfl:k=s.os:=os;exact⟨v,j,U.call (h':=l) (g':=g) (d':=d) (t':=t) (ch:=[]) un i f λb z=>absurd z<|by simp,r,q⟩
end
noncomputable def X1(c:Sp)(b:List V)(E:XK)(t:TA):TE:=λe U Q=>t e U λd a=>c (d++b) a Q E
def Binds(K:jb)(c:mD)(b:ji)(a:jD):Prop:=
 ∀(s:iI) (us:jD),K.In s.heap->(us++a).length=Ps b->fM s c ⟨us,[]⟩ (b.zip<|us++a)
def Binds.all{K:jb}{c:mD}{b:ji}(h: ∀a:List iO,Ps a=Ps b->eR c ⟨a,[]⟩=pure (b.zip a)):Binds K c b []:=λs a _ d=>by rw[uP] at d ⊢;exact .of_eq<|h a d
def ES(c:CXT)(X:Cx)(E:XK):Prop:= ∀(a:jr) (d:St) (U:Hp) (s:iI) (e:iO) (b:iI),Inv X a d U s->c X.stack U s E e b->X.xe e b
section
variable {X:Cx}{l:CXT}{k:Nat}{f C:iB}{j:mD}{d:ji}{i:Sp}{c:List V}{b:jD}{E:XK}{x m:aB}{p a n:bB}{e o:iK}{g:kh}{v:TE}{t:TA}
def UO{q:jr}{L:St}{H:Hp}{s:iI}{Q:VK}{y:jD}{B:List V}(F:FnOk X.prog X.w X.K X.mg X.base l k f j d i)(M:Room k X.A)(G:Binds X.K j d b)(hd:Vals c b)(N:ES l X E)
  (I:Inv X q L H s)(r:Vals B y)(h:i (B++c) H Q E):ah (ai X.prog X.w) X.A (call (.ref f) y) (EP X q L Q) X.xe s:=by
 have O:Vals (B++c) (y++b):=r.append hd;have J:(y++b).length=d.length:=by rw[<-O.length];exact F.len _ _ _ _ h
 refine DM<|sm (F.run X.A X.stack s H ⟨y,[]⟩ (y++b) (B++c) Q E M I.env0 (G s y I.kIn J) O h) λr U z=>?_
 cases r with
 |error e=>exact N q L H s e U I z
 |ok T=>
  cases T with
  |ret u=>exact I.after z
  |next=>exact aZ z
  |brk=>exact aZ z
  |cont=>exact aZ z
def JJ(F:FnOk X.prog X.w X.K X.mg X.base l k f j d i)(G:Room k X.A)(O:Gl X x)(T:X.mg x=N2 (.ref f))(hk:bU X.K (.ref f)=O0)(B:Binds X.K j d b)(hd:Vals c b)(J:ES l X E)
  (z:PA X (e::g) t)(N:(x==("__debug__":aB))=Y:=by decide)(L:ag (e::g) X.env=(Y,aU e X.env)::ag g X.env:=by rfl)(M:(bc a<|ag g X.env).any (·.1)=Y:=by rfl):
  PE X (.Call (.Name x p) (e::g) [] a) (X1 i c E t):=by
 intro u s U H Q I h;refine vF<|wN I O T ?_ N;refine PySem.W.callWith_K (h₀:=X.base) I.ok.mod.kin hk (thn (z a u s U H _ I h) λus s1 ⟨vs,Y',y,r,q⟩=>⟨y.kIn,?_⟩) L M;exact UO F G B hd J y r q
end
section
variable {X:Cx}{w:CXT}{k:Nat}{f C:iB}{u:mD}{n r:ji}{l:Sp}{E:XK}{x m:aB}{p c b a:bB}{e o:iK}{v:kh}{d:List c8}{i j:TE}{t h:TA}{q:Option aB}
variable {g:List iO->List iO->List iO}{s:List V->List V->List V}
end
structure FnScope(N P:ji)(sc:jJ):Prop where
 kind:sc.kind= .function
 co:sc.isCoroutine=O1
 gen:sc.isGenerator=O1
 nd:N.Nodup
 pre:N.take P.length=P
 par: ∀x∈P,sc.names.lookup x=N2 .local\/sc.names.lookup x=N2 .cell
 nofree: ∀y∈sc.names,y.2≠ .free
theorem C9{kindOf:aB->Option c6}{x:aB}: ∀{binds:List (aB×iO)} {m:lp},(∀v,(x,v)∉binds)->g0 kindOf binds m x=m x
 |[],_,_=>rfl
 |(n,v)::r,m,h=>by
  unfold g0;rw[C9 λw a=>h w<|kj _ a];split
  .have:x≠n:=by rintro rfl;exact h v kg
   simp[this]
  .rfl
theorem Dd{kindOf:aB->Option c6}{x:aB}: ∀{binds:List (aB×iO)} {m:lp},(∀v,(x,v)∉binds)->g6 kindOf binds m x=m x
 |[],_,_=>rfl
 |(n,v)::r,m,h=>by
  unfold g6;rw[Dd λw a=>h w<|kj _ a];split
  .rfl
  .have:x≠n:=by rintro rfl;exact h v kg
   simp[this]
theorem Dc{kindOf:aB->Option c6}{x:aB}{v:iO}: ∀{P:ji} {a:jD} {i:Nat} {m:lp},P.Nodup->P[i]?=C x->a[i]?=C v->kindOf x=C .local->
  g0 kindOf (P.zip a) m x=C v
 |[],_,_,_,_,h,_,_=>by simp at h
 |_::_,[],_,_,_,_,h,_=>by simp at h
 |p::P,w::a,0,m,c,h1,b,hk=>by simp at h1 b;subst h1;subst b;show g0 kindOf ((p,w)::P.zip a) m p=_;unfold g0;rw[C9 λv hv=>(Ah.mp c).1 (yb hv).1,iT hk];simp
 |p::P,w::a,i+1,m,c,h1,b,hk=>by show g0 kindOf ((p,w)::P.zip a) m x=_;unfold g0;exact Dc (i:=i) (Ah.mp c).2 (by simpa using h1) (by simpa using b) hk
theorem De{kindOf:aB->Option c6}{x:aB}{v:iO}: ∀{P:ji} {a:jD} {i:Nat} {m:lp},P.Nodup->P[i]?=C x->a[i]?=C v->kindOf x≠C .local->
  g6 kindOf (P.zip a) m x=C v
 |[],_,_,_,_,h,_,_=>by simp at h
 |_::_,[],_,_,_,_,h,_=>by simp at h
 |p::P,w::a,0,m,c,h1,b,hk=>by simp at h1 b;subst h1;subst b;show g6 kindOf ((p,w)::P.zip a) m p=_;unfold g6;rw[Dd λv hv=>(Ah.mp c).1 (yb hv).1,je hk];simp
 |p::P,w::a,i+1,m,c,h1,b,hk=>by show g6 kindOf ((p,w)::P.zip a) m x=_;unfold g6;exact De (i:=i) (Ah.mp c).2 (by simpa using h1) (by simpa using b) hk
noncomputable def pQ(N:ji)(vs:List V):St:=vs.map C++ac (Ps N-Ps vs) I
noncomputable def qd(CX:CXT)(P:jd)(w:iW)(K:jb)(c:lp)(base:ja)(N:ji)(qual:aB)(scope:jJ)(f:iB)(cd:iO)(A:jf)(a:List dh)(s:iI)(U:Hp)(E:XK):Cx where
 prog:=P
 w:=w
 K:=K
 mg:=c
 base:=base
 A:=A.deeper<|aV qual scope s.heap.objs.size f cd
 N:=N
 s₀:=s
 H₀:=U
 env:=aV qual scope s.heap.objs.size f cd
 outer:=a
 stack:=aV qual scope s.heap.objs.size f cd::a
 ex:=[]
 calm:=J
 fn:=λ_=>J
 pn:=[]
 xe:=λe h=>ah (ai P w) (A.deeper<|aV qual scope s.heap.objs.size f cd) (Gc (aV qual scope s.heap.objs.size f cd) e) (λ_ b=>CX a U s E e b) (λg b=>CX a U s E g b) h
def Gp{a:jJ}{n:Nat}{x:aB}(h:a.names.lookup x=C .cell): ∃c,(br n a.names []).lookup x=C c:=by have q:=DL a.names n []<|.inl h;exact LR.mp q
def CQ{Q:CXT}{P:jd}{w:iW}{K:jb}{L:lp}{base:ja}{N m:ji}{qual:aB}{scope:jJ}{f:iB}{cd:iO}{A:jf}{d:List dh}{s s1:iI}{H:Hp}{E:XK}{O:jD}{o:List V}
  (S:FnScope N m scope)(hd:A.handled=Op)(j:Env0 P w K L base A d s H)(U:(Ps o)=Ps m)(r:Vals o O)
  (x:InCallC s s.heap.objs.size (g0 (aV qual scope s.heap.objs.size f cd).kindOf (m.zip O) λ_=>Op) (br (s.heap.objs.size+1) scope.names []) (g6 (aV qual scope s.heap.objs.size f cd).kindOf (m.zip O) λ_=>Op) s1):
  Inv (qd Q P w K L base N qual scope f cd A d s H E) [] (pQ N o) H s1:=by
 have Y:(Ps m)<=(Ps N):=by have:=nD el S.pre;rw[rG] at this;lia
 obtain⟨h1,D,rfl,hk⟩:=x.done;have I: ∀b:iB,b∉(qd Q P w K L base N qual scope f cd A d s H E).ex:=λb z=>absurd (show b∈([]:List iB) from z) (by simp)
 refine⟨⟨j.mod,S.kind,rfl,rfl,jW _,λy z c h1 g=>?_,λy l=>?_,λy c _ h=>?_,λ_=>hd,ML j.frames,.inr ⟨rfl,rfl⟩,λb z=>absurd z<|I b,j.bs,j.bsz,λb _ _=>I b,λb z=>absurd z<|I b,j.funs,j.frf⟩,
  rfl,j.bare,Un.kept hk,⟨_,x.toInCall.ns,λi y v h1 g M=>?_⟩,λy c h=>⟨_,x.cell y c h⟩,j.hok.fresh<|jW _,λy c h=>?_,λp t=>absurd (show p∈([]:List (iB×ey)) from t)<|by simp,j.hok.kept hk,?_⟩
 .exact F2 x.apart (qi h1) (qi g)
 .have l:scope.names.lookup y=N2 .cell\/scope.names.lookup y=N2 .free:=l;rcases l with l|l
  .exact Gp l
  .exact absurd O9 (S.nofree _ (qi l))
 .exact sv (x.above y c<|qi h)
 .have C:i<(Ps o):=by
   unfold pQ at g;by_cases C:i<Ps o
   .exact C
   .rw[pO<|by simpa using C] at g;rw[wt] at g;split at g<;>cases g
  have G:o[i]?=N2 v:=by
   unfold pQ at g;rw[uO<|by simpa using C,ki] at g
   cases e:o[i]? with
   |none=>rw[e] at g;cases g
   |some a=>rw[e] at g;cases g;rfl
  obtain⟨u,T,J⟩:=r.get G
  have t:m[i]?=N2 y:=by rw[<-S.pre,MK<|by lia];exact h1
  have B:m.Nodup:=by rw[<-S.pre];exact S.nd.sublist<|ya _ _
  refine⟨u,J,?_⟩;rcases S.par y (nB t) with k|k
  .exact .inl ⟨k,Dc B t T k⟩
  .obtain⟨c,e⟩:=Gp (n:=s.heap.objs.size+1) k;refine .inr ⟨.inl k,c,e,?_⟩;have q:=x.cell y c e;rw[De B t T (by show scope.names.lookup y≠_;rw[k];decide)] at q;exact q
 .exact j.hok.fresh (sv<|x.above y c<|qi h)
 .unfold pQ;show _=Ps N;rw[lP,jF,MJ]
  lia
def Px{B:CXT}{P:jd}{w:iW}{K:jb}{C:lp}{base:ja}{k:Nat}{f:iB}{j qual:aB}{c:cI}{d:List bv}{scope:jJ}{dV kV p pm l ct oc:iO}{an od:Option iB}
  {v5:uC}{N L:ji}{U:Sp}(lk:K.lookup f=N2 ⟨oc,od,.func<|bX j qual c d scope dV kV p pm an l ct,v5⟩)(t8:dO K l qual=O0)(S:FnScope N L scope)
  (len: ∀g H Q E,U g H Q E->Ps g=Ps L)
  (m9: ∀(A:jf) (a:List dh) (s:iI) (H:Hp) (g:List V) (Q:VK) (E:XK),Room k (A.deeper<|aV qual scope s.heap.objs.size f l)->U g H Q E->
   ∃t,PSs (qd B P w K C base N qual scope f l A a s H E) d t/\t {nx:=λ_ i=>Q .non i,rt:=Q} (pQ N g) H):
  FnOk P w K C base B (k+1) f (bX j qual c d scope dV kV p pm an l ct) L U:=by
 refine⟨len,λA a s H D us g Q E O z hb r F=>?_⟩;have hl:=len _ _ _ _ F;have Y:K.In s.heap:=z.mod.kin.keeps λb o e=>(z.bs b o e).1;have T:s.heap.NoLimit:=z.mod.nolimit.keeps λb o e=>(z.bs b o e).1
 have R: ∀y∈L.zip us,scope.names.lookup y.1=N2 .local\/(scope.names.lookup y.1=N2 .cell/\((br (s.heap.objs.size+1) scope.names []).lookup y.1).isSome=O0):=λ⟨n,v⟩ hy=>by
  rcases S.par n (yb hy).1 with q|q
  .exact .inl q
  .exact .inr ⟨q,DL _ _ _ (.inl q)⟩
 refine MI O.depth (Y _ _ lk) O9 S.co S.gen O9 (PySem.W.codeRec_of Y t8)<|hb _ _ _ _ ?_;refine MH S.kind R λX he s1 x=>?_;subst he;refine⟨T.keeps x.toInCall.keep,Go ?_⟩;obtain⟨t,ht,hq⟩:=m9 A a s H g Q E (O.deeper _) F;have I:Inv (qd B P w K C base N qual scope f l A a s H E) [] (pQ N g) H s1:=CQ S O.hd z hl r x;refine oE (ht [] s1 (pQ N g) H _ I hq) (λZ M m=>?_) λe M m=>m
 have fin: ∀{h:St} {i:Hp} {v:V} {u:iO},Inv (qd B P w K C base N qual scope f l A a s H E) [] h i M->RelV v u->Q v i->CE a P w H s Q u M:=
  λ{h i v u} J G q=>⟨v,i,J.os,J.bare,J.base,J.hok,G,q⟩
 cases Z with
 |ret u=>obtain⟨v,h,i,J,G,q⟩:=m;exact fin J G q
 |next=>obtain⟨h,i,J,q⟩:=m;exact fin (v:=V.non) (u:=au) J O9 q
 |brk=>obtain⟨_,_,_,q⟩:=m;exact aZ q
 |cont=>obtain⟨_,_,_,q⟩:=m;exact aZ q
section
variable {X:Cx}{x:aB}{p a:bB}{e:iK}{b:kh}{t:TA}{id T:String}{r:List V->Hp->VK->Prop}
def tCB(r:List V->Hp->VK->Prop)(t:TA):TE:=λf U Q=>t f U λd c=>r d c Q
def AG(j:kR X (.builtin id) r)(l:Gl X x)(m:X.mg x=I)(hv:aK x=C (.builtin id))(i:PA X (e::b) t)(n:x≠"__name__":=by decide)(q:(x==("__debug__":aB))=Y:=by decide)
  (k:ag (e::b) X.env=(Y,aU e X.env)::ag b X.env:=by rfl)(o:(bc a<|ag b X.env).any (·.1)=Y:=by rfl):PE X (.Call (.Name x p) (e::b) [] a) (tCB r t):=by
 intro c s d O Q U h;refine vF<|qZ U l m hv ?_ n q;exact vv (thn (i a c s d O _ U h) λw s1 N=>by obtain⟨y,f,g,v,u⟩:=N;exact j c s1 d f y w Q g v u) k o
def qu(j:kR X (.type T) r)(l:Gl X x)(m:X.mg x=I)(hv:aK x=C (.type T))(i:PA X (e::b) t)(n:x≠"__name__":=by decide)(q:(x==("__debug__":aB))=Y:=by decide)
  (k:ag (e::b) X.env=(Y,aU e X.env)::ag b X.env:=by rfl)(o:(bc a<|ag b X.env).any (·.1)=Y:=by rfl):PE X (.Call (.Name x p) (e::b) [] a) (tCB r t):=by
 intro c s d O Q U h;refine vF<|qZ U l m hv ?_ n q;exact Ae (thn (i a c s d O _ U h) λw s1 N=>by obtain⟨y,f,g,v,u⟩:=N;exact j c s1 d f y w Q g v u) k o
end
end L2
namespace HT
section
open PySem.SeqAt
open PySem.AutoSeq1 (wpAny_loadPart')
open PySem.MeetsSeq PySem.MeetsSeq2 PySem.MeetsSeq3
end
section
variable {a:jd}{w:iW}{A:jf}{E:jw}{s:iI}
def Y8{t b:iB}{d c:jD}{Q:jw}(y:hL s.heap t d.toArray)(x:hL s.heap b c.toArray)(hv:d≠[])
  (h1:c=[]->Q (.ref t) s)(v:c≠[]->Q (.ref s.heap.objs.size) {s with heap:=s.heap.push {cls:= .type "tuple",data:= .seq (d++c).toArray}})
  (l:(Ps d)+Ps c<=sizeLine):ah (ai a w) A (bb .Add (.ref t)<|.ref b) Q E s:=by
 obtain⟨⟨k,dd,f,q⟩,h,m,n,hd⟩:=id y;obtain⟨⟨z,r,data2,p⟩,j,u,o,g⟩:=id x;simp only at m hd u g;subst m hd u g;have e:d.toArray++c.toArray=(d++c).toArray:=by simp
 by_cases i:c=[]
 .exact DK ⟨_,h,rfl⟩ ⟨_,j,rfl⟩ Hn Hm Hl Hk (Hj _ _)
   (tuple_addW1 t b d.toArray c.toArray n o dd r q p (by simpa using hv)<|by simp[i]) ⟨h,j,h1 i⟩
 .refine DK ⟨_,h,rfl⟩ ⟨_,j,rfl⟩ Hn Hm Hl Hk (Hj _ _)
   (tuple_addW2 t b d.toArray c.toArray n o dd r q p (by simpa using hv) (by simpa using i)<|by rw[jx,jx];exact l) ⟨h,j,?_⟩
  rw[e];exact v i
noncomputable def sIx(n d:Nat):Option Int->Nat
 |none=>d
 |some v=>if v<0 then(v+(n:Int)).toNat else min v.toNat n
theorem Tq(n d:Nat):sIx n d I=d:=rfl
def UM(n d k:Nat):sIx n d (C (k:Int))=min k n:=by show(if(k:Int)<0 then((k:Int)+(n:Int)).toNat else min (k:Int).toNat n)=min k n;rw[je<|by lia,qh]
def UN(n d:Nat)(hd:d<=n)(o:Option Int):sIx n d o<=n:=by
 cases o with
 |none=>exact hd
 |some v=>
  show(if v<0 then(v+(n:Int)).toNat else min v.toNat n)<=n;by_cases hv:v<0
  .rw[iT hv];lia
  .rw[je hv];exact Nat.min_le_right _ _
def Kk(v:Int)(n d:Nat):(if v<0 then max (v+(n:Int)) 0 else min v (n:Int))=((sIx n d (C v):Nat):Int):=by
 show(if v<0 then max (v+(n:Int)) 0 else min v (n:Int))=(((if v<0 then(v+(n:Int)).toNat else min v.toNat n):Nat):Int)
 by_cases hv:v<0
 .simp only[iT hv];lia
 .simp only[je hv];lia
def IZ(lo b:Option Int)(n:Nat):be lo b 1 (n:Int)=(((sIx n 0 lo:Nat):Int),((sIx n n b:Nat):Int)):=by
 have h1: ¬((1:Int)<0):=by lia
 unfold be;simp only[h1,kI];refine Prod.ext ?_ ?_
 .cases lo with
  |none=>rfl
  |some v=>exact Kk v n 0
 .cases b with
  |none=>rfl
  |some v=>exact Kk v n n
def HW(i j:Nat):aT (i:Int) (j:Int) 1=j-i:=by
 unfold aT;have h1:(1:Int)>0:=by lia
 simp only[h1,ky,tp];split<;>lia
def As{v:iO}{o:Option Int}{Q:Option Int->Shared->Prop}(p:dS v o)(h:Q o s):ah (ai a w) A (ss v) Q E s:=by
 cases p with
 |none=>exact DJ h
 |int i t=>exact Do h
def qo{g:iB}{e f:iO}{lo b:Option Int}{n:Nat}{Q:Int×Int×Nat->Shared->Prop}(i:s.heap.IsSliceOf g e f .none)(j:dS e lo)(k:dS f b)
  (h:Q (((sIx n 0 lo:Nat):Int),1,sIx n n b-sIx n 0 lo) s):ah (ai a w) A (bR (.ref g)<|pure (n:Int)) Q E s:=by
 obtain⟨os,c,l,d⟩:=id i;unfold bR eL;refine iF<|iF<|nA c d (x:=e) H<|iF<|nA c d (x:=f) H<|iF<|nA c d (x:= .none) H<|iR ?_;refine iF<|DJ ?_;show ah _ _ (if((1:Int)==0)=J then _ else _) _ _ s;rw[je<|by decide];refine iF<|As j<|iF<|As k<|iF<|iR ?_;show ah _ _ (match be lo b 1 (n:Int) with|(lo,b)=>pure (lo,(1:Int),aT lo b 1)) _ _ s;rw[IZ lo b n];show ah _ _ (pure (((sIx n 0 lo:Nat):Int),(1:Int),aT ((sIx n 0 lo:Nat):Int) ((sIx n n b:Nat):Int) 1)) _ _ s;rw[HW];exact iR h
def N3(b:mY)(i k:Nat):((aj k).filterMap λ(m:Nat)=>b[((i:Int)+(m:Int)*1).toNat]?).toArray=((b.toList.drop i).take k).toArray:=by
 have e:(λ(m:Nat)=>b[((i:Int)+(m:Int)*1).toNat]?)=λm=>b[i+m]?:=by
  funext m;have:((i:Int)+(m:Int)*1).toNat=i+m:=by lia
  rw[this]
 rw[e];have:=pick_run b i k;rw[hZ] at this;have c:((λx=>b[x]?)∘λx=>i+x)=λm=>b[i+m]?:=rfl;rw[c] at this;rw[this]
def Ir{t f:iB}{b:mY}{i j:iO}{lo c:Option Int}{Q:jw}(d:hL s.heap t b)(g:s.heap.IsSliceOf f i j .none)(u:dS i lo)(v:dS j c)
  (r: ¬(sIx b.size 0 lo=0/\sIx b.size b.size c=b.size))
  (h:Q (.ref s.heap.objs.size) {s with heap:=s.heap.push {cls:= .type "tuple",data:= .seq ((b.toList.drop<|sIx b.size 0 lo).take<|sIx b.size b.size c-sIx b.size 0 lo).toArray}})
  (p:b.size<=sizeLine):ah (ai a w) A (dv (.ref t)<|.ref f) Q E s:=by
 have e:sizeOk (.seq ((b.toList.drop<|sIx b.size 0 lo).take<|sIx b.size b.size c-sIx b.size 0 lo).toArray):=by show((b.toList.drop<|sIx b.size 0 lo).take<|sIx b.size b.size c-sIx b.size 0 lo).toArray.size<=sizeLine;rw[jx,rG,Ad,kE];omega
 have y:sIx b.size b.size c<=b.size:=UN _ _ (jW _) c;obtain⟨os,l,n,x⟩:=id g;have o:s.TypeIs (.ref f) "slice":=⟨os,l,n⟩
 unfold dv
 try with_reducible refine nC ?_
 first|refine iF (iR ?_)|skip
 refine iF<|Hh d.typeIs (by decide) ?_
 refine iF (rZ (name:=bf "__getitem__") d.typeIs zG
  (oB zG d.typeIs Hg ?_<|Hf _ _))
 show ah _ _ (cM (.ref t)>>=_) _ _ s;refine iF<|He d ?_;refine iF<|wq o ?_;rw[iT<|by decide];refine iF<|qo g u v ?_
 have k: ¬((((sIx b.size 0 lo:Nat):Int)==0&&(1:Int)==1&&(sIx b.size b.size c-sIx b.size 0 lo)==b.size)=J):=by intro q;rw[lE,lE] at q;have z:((sIx b.size 0 lo:Nat):Int)=0:=rY q.1.1;have B:sIx b.size b.size c-sIx b.size 0 lo=b.size:=rY q.2;exact r ⟨by omega,by omega⟩
 show ah _ _ (if(((sIx b.size 0 lo:Nat):Int)==0&&(1:Int)==1&&(sIx b.size b.size c-sIx b.size 0 lo)==b.size)=J then _ else _) _ _ s;rw[je k,N3]
 first
  |exact iF (m:=aH _)<|mx (iR ⟨_,rfl,iR h⟩) e
  |exact iF (m:=aH _)<|mx (iF<|iR<|iR ⟨_,rfl,iR h⟩) e
  |exact iF<|iF (m:=aH _)<|mx (iR<|iR ⟨_,rfl,iR h⟩) e
  |exact iF<|iF (m:=aH _)<|mx (iR ⟨_,rfl,iR h⟩) e
end
end HT
namespace L2
abbrev TO:=St->Hp->(Option Int->Hp->Prop)->Prop
def PO(X:Cx)(e:Option Expr)(t:TO):Prop:=
 ∀(a:jr) (s:iI) (b:St) (U:Hp) (Q:Option Int->Hp->Prop),Inv X a b U s->t b U Q->
  ah (ai X.prog X.w) X.A (evalPart e X.env) (λu d=> ∃o c,Inv X a b c d/\dS u o/\Q o c) X.xe s
noncomputable def Q1:TO:=λ_ U Q=>Q I U
def XR(t:TE):TO:=λb U Q=>t b U λx a=> ∃i,x= .int i/\Q (C i) a
section
variable {X:Cx}{e:iK}{d:TE}{lo c:Option Expr}{f g:TO}{k j:bB}
def JG:PO X I Q1:=by intro a s b T Q U h;rw[Hd];exact iR ⟨I,T,U,.none,h⟩
def JF(h:PE X e d):PO X (C e) (XR d):=by intro a s p T Q U m;rw[z7];refine thn (h a s p T _ U m) λu s1 O=>?_;obtain⟨x,b,l,o,n⟩:=O;obtain⟨i,rfl,q⟩:=n;obtain⟨t,rfl⟩:=o;exact⟨C i,b,l,.int i t,q⟩
def SlR(X:Cx)(r:V->Option Int->Option Int->Hp->VK->Prop):Prop:=
 ∀(a:jr) (s:iI) (l:St) (U:Hp) (x:V) (v h i:iO) (lo c:Option Int) (b:iB) (Q:VK),Inv X a l U s->RelV x v->s.heap.IsSliceOf b h i .none->dS h lo->dS i c->r x lo c U Q->
  ∃T id,typeLookup (.type T) "__getitem__"=pure (C<|.builtin id)/\s.TypeIs v T/\ah (ai X.prog X.w) X.A (dv v<|.ref b) (EP X a l Q) X.xe s
def tSl(r:V->Option Int->Option Int->Hp->VK->Prop)(d:TE)(f g:TO):TE:=λa U Q=>d a U λx b=>f a b λl h=>g a h λu i=>r x l u i Q
def Ft{r:V->Option Int->Option Int->Hp->VK->Prop}(M:SlR X r)(O:PE X e d)(J:PO X lo f)(U:PO X c g):PE X (.Subscript e (.Slice lo c Op j) k) (tSl r d f g):=by intro a s m H Q I h;refine oC<|thn (O a s m H _ I h) λv s1 a'=>?_;obtain⟨x,t,z,r1,q1⟩:=a';refine K2<|thn (J a s1 m t _ z q1) λn s2 ⟨l,y,B,Y',q2⟩=>thn (U a s2 m y _ B q2) λo i a'=>?_;obtain⟨u,p,C',pu,q3⟩:=a';rw[Hd];refine iR ?_;have E:Inv X a m p {i with heap:=i.heap.push {cls:= .type "slice",data:= .fields #[n,o,.none]}}:=C'.kept (t':=i.toks) λb D q=>kc _ q;obtain⟨T,id,L,N,G⟩:=M a {i with heap:=i.heap.push {cls:= .type "slice",data:= .fields #[n,o,.none]}} m p x v n o l u i.heap.objs.size Q E r1 (Heap.IsSliceOf.new ..) Y' pu q3;show ah (ai X.prog X.w) X.A (gJ e (.Slice lo c Op j) v<|.ref i.heap.objs.size) (EP X a m Q) X.xe {i with heap:=i.heap.push {cls:= .type "slice",data:= .fields #[n,o,.none]}};exact tail_any (ops:=[.ref i.heap.objs.size,v]) N L G (by with_unfolding_all rfl)
noncomputable def Gk(a:List V)(lo c:Option Int):List V:=(a.drop<|HT.sIx (Ps a) 0 lo).take<|HT.sIx (Ps a) (Ps a) c-HT.sIx (Ps a) 0 lo
def zb(a:List V)(lo c:Option Int):(Gk a lo c).length<=(Ps a):=by
 unfold Gk;rw[rG,Ad]
 lia
def aao(K:jb):V->Option Int->Option Int->Hp->VK->Prop:=λx lo c U Q=> ∃a b,x= .ref a/\SqT K U a b/\
 ¬(HT.sIx (Ps b) 0 lo=0/\HT.sIx (Ps b) (Ps b) c=Ps b)/\ ∀p,U p=I->Q (.ref p) (upd U p<|.tup<|Gk b lo c)
def UJ:SlR X (aao X.K):=by
 intro t s T M x v L O lo c E Q N B u z A h;obtain⟨a,l,rfl,y,w,q⟩:=h;cases B;obtain⟨m,r,n,p⟩:=N.tuple y;have i:m.toArray.size=(Ps l):=by rw[jx];exact r.length.symm
 refine⟨"tuple",_,zG.lookup,n.typeIs,?_⟩;refine HT.Ir n u z A (by rw[i];exact w) ?_ (by rw[i];exact p);rw[i];refine⟨.ref s.heap.objs.size,_,N.laid (t':=s.toks) (o:= .tup (Gk l lo c)) (λb U q=>kc _ q) (jW _) ?_,rfl,q _ (N.hok.fresh<|jW _)⟩;exact⟨lI (zb l lo c) p,_,(r.drop<|HT.sIx (Ps l) 0 lo).take<|HT.sIx (Ps l) (Ps l) c-HT.sIx (Ps l) 0 lo,Ac _ _⟩
def Yp(K:jb):R2:=λx y U Q=> ∃a b i h,x= .ref a/\y= .ref b/\SqT K U a i/\SqT K U b h/\i≠[]/\(Ps i)+Ps h<=sizeLine/\
 (h=[]->Q (.ref a) U)/\(h≠[]-> ∀p,U p=I->Q (.ref p) (upd U p<|.tup<|i++h))
def Vals.nil_iff{b:List V}{a:jD}(r:Vals b a):a=[]↔b=[]:=by
 cases r with
 |nil=>simp
 |cons _ _=>simp
def RP:OpR X (bb .Add) (Yp X.K):=by intro n s N H x y v u Q I L O h;obtain⟨a,b,T,G,rfl,rfl,p,r,t,m,U,E⟩:=h;cases L;cases O;obtain⟨A,l,B,_⟩:=I.tuple p;obtain⟨J,i,j,_⟩:=I.tuple r;refine HT.Y8 B j (λz=>t<|l.nil_iff.mp z) (λz=>⟨.ref a,H,I,rfl,U<|i.nil_iff.mp z⟩) (λz=>?_) (by rw[<-l.length,<-i.length];exact m);refine⟨.ref s.heap.objs.size,_,I.laid (t':=s.toks) (o:= .tup (T++G)) (λb M q=>kc _ q) (jW _) ?_,rfl,E (λw=>z<|i.nil_iff.mpr w) _ (I.hok.fresh<|jW _)⟩;exact⟨by rw[lP];exact m,_,l.append i,Ac _ _⟩
end
noncomputable def ixN(n:Nat)(i:Int):Option Nat:=if 0<=i then(if i<n then C i.toNat else I) else if -(n:Int)<=i then C (i+n).toNat else I
noncomputable def atI{b:Type}(a:List b)(i:Int):Option b:=(ixN (Ps a) i).bind λj=>a[j]?
def En{n:Nat}{i:Int}{j:Nat}(h:ixN n i=C j):rk i n=C j/\j<n/\ -(n:Int)<=i/\i<n:=by
 unfold ixN at h;by_cases a:0<=i
 .rw[iT a] at h;by_cases h1:i<n
  .rw[iT h1] at h;have e:i.toNat=j:=kN h;exact⟨by rw[Hc a h1,e],by lia,by lia,h1⟩
  .rw[je h1] at h;cases h
 .rw[je a] at h;by_cases h1: -(n:Int)<=i
  .rw[iT h1] at h;have e:(i+n).toNat=j:=kN h;exact⟨by rw[Hb (by lia) h1,e],by lia,h1,by lia⟩
  .rw[je h1] at h;cases h
def Kq{b:Type}{a:List b}{i:Int}{v:b}(h:atI a i=C v): ∃j,rk i (Ps a)=C j/\a[j]?=C v/\j<Ps a/\ -((Ps a):Int)<=i/\i<(Ps a):=by
 unfold atI at h
 cases e:ixN (Ps a) i with
 |none=>rw[e] at h;cases h
 |some j=>rw[e] at h;obtain⟨h1,c,d,f⟩:=En e;exact⟨j,h1,h,c,d,f⟩
def Ku(b:iK):Prop:= ∀o i,Ls b Y o i=operate [o,i] (dv o i)
def IxR(X:Cx)(r:R2):Prop:=
 ∀(b slice:iK) (a:jr) (s:iI) (c:St) (U:Hp) (x y:V) (v u:iO) (Q:VK),Inv X a c U s->RelV x v->RelV y u->r x y U Q->
  Ls slice Y v u=operate [v,u] (dv v u)->ah (ai X.prog X.w) X.A (gJ b slice v u) (EP X a c Q) X.xe s
def MtR(X:Cx)(id:String)(r:V->List V->Hp->VK->Prop):Prop:=
 ∀(a:jr) (s:iI) (d:St) (U:Hp) (x:V) (c:List V) (v:iO) (b:jD) (Q:VK),Inv X a d U s->RelV x v->Vals c b->r x c U Q->
  ah (ai X.prog X.w) X.A (call (.builtin id) (v::b)) (EP X a d Q) X.xe s
section
variable {X:Cx}{a b:iK}{O L:TE}{E:bB}
def Yu{r:R2}(i:IxR X r)(f:PE X a O)(g:PE X b L)(j:Ku b):PE X (.Subscript a b E) (tOp r O L):=by intro c s n T Q U h;exact oC<|Wt f g U h λv u m x y d e k l q=>i a b c m n d x y v u Q e k l q<|j _ _
def aat(K:jb):R2:=λx y U Q=> ∃p c i v,x= .ref p/\y= .int i/\SqL K U p c/\atI c i=C v/\Q v U
def aas(K:jb):R2:=λx y U Q=> ∃p c i v,x= .ref p/\y= .int i/\SqT K U p c/\atI c i=C v/\Q v U
def Sf:IxR X (aat X.K):=by
 intro g slice c s n H x y v u Q I M N h m;obtain⟨p,P,i,z,rfl,rfl,J,T,q⟩:=h;cases M;obtain⟨t,rfl⟩:=N;obtain⟨e,r,f,F⟩:=I.list J;obtain⟨j,h1,A,Y,B,C⟩:=Kq T;obtain⟨w,k,o⟩:=r.get A;have G:=r.length;have D:=El;have fin:EP X c n Q w s:=⟨z,H,I,o,q⟩
 by_cases l:0<=i
 .have d:i.toNat=j:=by rw[Hc l C] at h1;exact kN h1
  exact item_listR f.isList l (by lia) (by rw[d];simpa using k) fin m
 .have d:(i+(e.toArray.size:Int)).toNat=j:=by rw[Hb (by lia) B] at h1;rw[jx,<-G];exact kN h1
  exact MF (x:=w) f.isList.typeIs pw.lookup
   (wpAny_getItem_list_neg (Q:=λr U=>r=w/\EP X c n Q r U) f.isList (by lia) (by rw[jx]<;>lia) (by lia) (by rw[d];simpa using k) ⟨rfl,fin⟩) m
def VZ:IxR X (aas X.K):=by
 intro d slice c s f H x y v u Q I C T h A;obtain⟨p,D,i,z,rfl,rfl,o,m,q⟩:=h;cases C;obtain⟨t,rfl⟩:=T;obtain⟨B,r,e,Y⟩:=I.tuple o;obtain⟨j,h1,l,J,M,N⟩:=Kq m;obtain⟨w,k,g⟩:=r.get l;have n:=r.length;have U:=El;have fin:EP X c f Q w s:=⟨z,H,I,g,q⟩
 exact MF (x:=w) e.typeIs zG.lookup
  (getItem_tuple (j:=j) (Q:=λr G=>r=w/\EP X c f Q r G) e (by lia) (by lia) (by rw[jx,<-n];exact h1) (by simpa using k) ⟨rfl,fin⟩) A
def Ik(c:jD)(n j:Nat)(u:iO):aG (·.setIfInBounds j u) {cls:= .type "list",data:= .seq c.toArray n}={cls:= .type "list",data:= .seq (c.set j u).toArray n}:=by simp[aG]
def Inv.lst{d:jr}{f:St}{T:Hp}{s:iI}{p:iB}{xs:List V}(U:Inv X d f T s)(h:T p=C (.lst xs)):
  ∃(c:jD) (n:Nat),Vals xs c/\s.heap.get? p=C {cls:= .type "list",data:= .seq c.toArray n}/\(Ps xs)<=sizeLine:=by
 obtain⟨z,c,n,r,e⟩:=U.hok p _ h;exact⟨c,n,r,e,z⟩
def Inv.lstUpd{d:jr}{l:St}{T:Hp}{s:iI}{p:iB}{w j:List V}{g c:jD}{n i:Nat}{f:ey->ey}(U:Inv X d l T s)(h:T p=C (.lst w))
  (o:s.heap.get? p=C {cls:= .type "list",data:= .seq g.toArray n})(k:f {cls:= .type "list",data:= .seq g.toArray n}={cls:= .type "list",data:= .seq c.toArray i})(r:Vals j c)(v:(Ps j)<=sizeLine)(t:Nat):
  Inv X d l (upd T p<|.lst j) {s with heap:=s.heap.update p f,toks:=t}:=by
 have e:(s.heap.update p f).get? p=C {cls:= .type "list",data:= .seq c.toArray i}:=by rw[uN f o<|by rw[k]<;>rfl,k]
 refine U.write (x:=p) (e:=p) (by rw[h];trivial) (.inl H) (λb u m q=>(xZ _ _ (nV m)).trans q) ⟨_,e⟩ ?_;exact⟨v,c,i,r,e⟩
def Ym:V->V->V->Hp->(Hp->Prop)->Prop:=λo i v U Q=> ∃p c k j,o= .ref p/\i= .int k/\U p=C (.lst c)/\ixN (Ps c) k=C j/\Q (upd U p<|.lst<|c.set j v)
def Nn:WC X Ym:=by
 intro d s G H o i v U N u Q I B A C h;obtain⟨p,T,k,j,rfl,rfl,x,y,q⟩:=h;cases B;obtain⟨t,rfl⟩:=A;obtain⟨c,n,r,f,z⟩:=I.lst x;obtain⟨h1,J,m,w⟩:=En y;have e:=r.length;have M:=El
 have g:Inv X d G (upd H p<|.lst<|T.set j v) {s with heap:=s.heap.update p (aG (·.setIfInBounds j u))}:=
  I.lstUpd x f (Ik c n j u) (r.set C j) (by rw[wo];exact z) s.toks
 by_cases l:0<=k
 .have hk:k.toNat=j:=by rw[Hc l w] at h1;exact kN h1
  exact PySem.W.ki_setAt f l (by lia) (by rw[jx,<-e];exact w) (by rw[hk];exact⟨_,g,q⟩)
 .have hk:(k+(c.toArray.size:Int)).toNat=j:=by rw[Hb (by lia) m] at h1;rw[jx,<-e];exact kN h1
  exact PySem.W.ki_setBack f (by lia) (by rw[jx,<-e];exact m) (by lia) (by rw[hk];exact⟨_,g,q⟩)
def D1(lo c:Option Int)(n:Nat):(c5 lo c I n).1=((HT.sIx n 0 lo:Nat):Int)/\(c5 lo c I n).2.1=((HT.sIx n n c:Nat):Int)/\(c5 lo c I n).2.2=1:=by
 refine⟨?_,?_,rfl⟩
 .cases lo with
  |none=>simp[c5,HT.sIx]
  |some i=>
   simp only[c5,HT.sIx,hU,show(1:Int)>0 by decide,ky];by_cases h:i<0
   .simp only[h,ky]<;>lia
   .simp only[h,kI]<;>lia
 .cases c with
  |none=>simp[c5,HT.sIx]
  |some i=>
   simp only[c5,HT.sIx,hU,show(1:Int)>0 by decide,ky];by_cases h:i<0
   .simp only[h,ky]<;>lia
   .simp only[h,kI]<;>lia
def BO(c:jD)(lo d:Option Int):slicePick c.toArray lo d I=((c.drop<|HT.sIx (Ps c) 0 lo).take<|HT.sIx (Ps c) (Ps c) d-HT.sIx (Ps c) 0 lo).toArray:=by obtain⟨h1,e,f⟩:=D1 lo d c.toArray.size;unfold slicePick;rw[h1,e,f];simp only[sliceRange_one,pick_run,jx]<;>rfl
def aap(K:jb):V->Option Int->Option Int->Hp->VK->Prop:=λx lo d U Q=> ∃a c,x= .ref a/\SqL K U a c/\ ∀p,U p=I->Q (.ref p) (upd U p<|.lst<|Gk c lo d)
def Q4:SlR X (aap X.K):=by intro g s z T x v w y lo e u Q U p i m n h;obtain⟨a,c,rfl,j,q⟩:=h;cases p;obtain⟨l,r,f,k⟩:=U.list j;have d:=r.length;refine⟨"list",_,pw.lookup,f.isList.typeIs,?_⟩;refine wpAny_getItem_list_slice f.isList i m n .none (by simp) ?_ (by rw[jx]<;>lia);rw[BO,<-d];refine⟨.ref s.heap.objs.size,_,U.laid (t':=s.toks) (o:= .lst (Gk c lo e)) (λb t q=>kc _ q) (jW _) ?_,rfl,q _ (U.hok.fresh<|jW _)⟩;exact⟨lI (zb c lo e) k,_,0,(r.drop<|HT.sIx c.length 0 lo).take<|HT.sIx c.length c.length e-HT.sIx c.length 0 lo,kD _ rfl⟩
noncomputable def TV:V->Bool
 | .non=>J
 | .bl _=>J
 | .int _=>J
 | .str _=>J
 |_=>Y
noncomputable def eqV:V->V->Bool
 | .non,.non=>J
 | .bl a,.bl b=>a==b
 | .bl a,.int b=>(if a then 1 else 0)==b
 | .int a,.bl b=>a==(if b then 1 else 0)
 | .int a,.int b=>a==b
 | .str a,.str b=>a==b
 |_,_=>Y
def mC{A:jf}{s:iI}{y x:V}{u v:iO}(f:RelV y u)(c:RelV x v)(g:TV y=J)(e:TV x=J):SeqAt.EqAt A s u v (eqV y x):=by
 cases y with
 |non=>
  cases f
  cases x with
  |non=>cases c;exact gf _
  |bl b=>cases c;exact A2 b
  |int b=>obtain⟨t,rfl⟩:=c;exact A1 b t
  |str b=>obtain⟨t,rfl⟩:=c;exact AT b t
  |_=>exact absurd (show Y=J from e) kU
 |bl a=>
  cases f
  cases x with
  |non=>cases c;exact CK a
  |bl b=>cases c;exact gF a b
  |int b=>obtain⟨t,rfl⟩:=c;exact C2 a b t
  |str b=>obtain⟨t,rfl⟩:=c;exact Ch a b t
  |_=>exact absurd (show Y=J from e) kU
 |int a=>
  obtain⟨d,rfl⟩:=f
  cases x with
  |non=>cases c;exact B1 a d
  |bl b=>cases c;exact B4 a d b
  |int b=>obtain⟨t,rfl⟩:=c;exact B2 a d b t
  |str b=>obtain⟨t,rfl⟩:=c;exact fX a d b t
  |_=>exact absurd (show Y=J from e) kU
 |str a=>
  obtain⟨d,rfl⟩:=f
  cases x with
  |non=>cases c;exact At a d
  |bl b=>cases c;exact AC a d b
  |int b=>obtain⟨t,rfl⟩:=c;exact fW a d b t
  |str b=>obtain⟨t,rfl⟩:=c;exact z9 a d b t
  |_=>exact absurd (show Y=J from e) kU
 |_=>exact absurd (show Y=J from g) kU
def xm:kR X (.builtin "len") (λk T Q=> ∃p d,k=[.ref p]/\(SqL X.K T p d\/SqT X.K T p d)/\Q (.int d.length) T):=by
 intro j s t T k o Q U r h;obtain⟨p,d,rfl,e,q⟩:=h;obtain⟨u,rfl,m⟩:=rJ r;cases m;have n:=El;rcases e with e|e
 .obtain⟨f,i,g,l⟩:=U.list e;have c:=i.length;exact Calls.call_len_list g.isList (by simp only[jx]<;>lia) ⟨.int d.length,T,U.tok _,⟨s.toks+1,by rw[jx,c]⟩,q⟩
 .obtain⟨f,i,g,l⟩:=U.tuple e;have c:=i.length;exact len_tuple g (by simp only[jx]<;>lia) ⟨.int d.length,T,U.tok _,⟨s.toks+1,by rw[jx,c]⟩,q⟩
def xl:kR X (.type "list") (λB M Q=> ∃p i,B=[.ref p]/\(SqL X.K M p i\/SqT X.K M p i)/\ ∀l,M l=I->Q (.ref l) (upd M l<|.lst i)):=by
 intro v s T M B G Q N r h;obtain⟨p,i,rfl,k,q⟩:=h;obtain⟨u,rfl,U⟩:=rJ r;cases U
 have fin: ∀(c:jD),Vals i c->i.length<=sizeLine-> ∀(d:ja) (f:Nat),(∀b A,s.heap.get? b=C A->d.get? b=C A)->
   d.get? s.heap.objs.size=C {cls:= .type "list",dict:=I,data:= .seq c.toArray f,slots:= #[]}->EP X v T Q (.ref s.heap.objs.size) {s with heap:=d}:=λc g m d f t e=>
  ⟨.ref s.heap.objs.size,_,N.laid (t':=s.toks) t (jW _) (show ObjOk X.prog X.w _ d _ (.lst i) from⟨m,c,f,g,e⟩),rfl,q _ (N.hok.fresh<|jW _)⟩
 rcases k with k|k
 .obtain⟨c,g,z,m⟩:=N.list k;have j:=g.length;obtain⟨o,y,x,n,hd⟩:=z.isList;exact z8 p (.inl H) y x hd (λd f t e=>fin c g m d f t e) (by simp only[jx]<;>omega)
 .obtain⟨c,g,z,m⟩:=N.tuple k;have j:=g.length;obtain⟨o,y,x,n,hd⟩:=z;exact z8 p (.inr H) y x hd (λd f t e=>fin c g m d f t e) (by simp only[jx]<;>omega)
def vg:kR X (.type "tuple") (λv T Q=> ∃p f,v=[.ref p]/\((SqL X.K T p f/\ ∀l,T l=I->Q (.ref l) (upd T l<|.tup f))\/(SqT X.K T p f/\Q (.ref p) T))):=by
 intro c s x T v B Q U r h;obtain⟨p,f,rfl,h⟩:=h;obtain⟨u,rfl,A⟩:=rJ r;cases A;rcases h with⟨i,q⟩|⟨i,q⟩
 .obtain⟨d,k,j,t⟩:=U.list i;have n:=k.length;refine call_tuple_list j.isList (λg z=>?_) (by simp only[jx]<;>lia);have m:Inv X c x T {s with heap:=g}:=U.kept (t':=s.toks) z
  have y:Inv X c x (upd T g.objs.size<|.tup f) {s with heap:=g.push {cls:= .type "tuple",data:= .seq d.toArray}}:=
   m.laid (t':=s.toks) (λb o e=>kc _ e) (jW _) (show ObjOk X.prog X.w _ _ _ (.tup f) from⟨t,d,k,Ac _ _⟩)
  exact⟨.ref g.objs.size,_,y,rfl,q _ (m.hok.fresh<|jW _)⟩
 .obtain⟨d,k,j,t⟩:=U.tuple i;exact call_tuple_same j ⟨.ref p,T,U,rfl,q⟩
def tyV(K:jb)(T:String)(x:V)(U:Hp):Prop:=match x with
 | .str _=>T="str"
 | .int _=>T="int"
 | .ref p=>(T="list"/\ ∃d,SqL K U p d)\/(T="tuple"/\ ∃o,K.lookup p=C o/\o.cls= .type "tuple"/\o.dict=I)\/
   (T="dict"/\((∃c,U p=C (.dK c))\/ ∃c,U p=C (.dT c)))\/(T="set"/\ ∃S n,U p=C (.set S n))
 |_=>False
def M3{d:jr}{q:St}{Q:Hp}{s:iI}{T:String}{x:V}{v:iO}(U:Inv X d q Q s)(r:RelV x v)(ty:tyV X.K T x Q):
  s.TypeIs v T/\ ∀a,v= .ref a-> ∃h,s.heap.get? a=C h/\h.dict=I:=by
 cases x with
 |str z=>obtain⟨t,rfl⟩:=r;cases(show T="str" from ty);exact⟨typeIs_str s z t,λ_ e=>nomatch e⟩
 |int i=>obtain⟨t,rfl⟩:=r;cases(show T="int" from ty);exact⟨nP s i t,λ_ e=>nomatch e⟩
 |ref p=>
  cases r;rcases ty with⟨rfl,u,l⟩|⟨rfl,o,hk,k,hd⟩|⟨rfl,hk⟩|⟨rfl,S,n,hk⟩
  .obtain⟨m,_,j,_⟩:=U.list l;refine⟨j.isList.typeIs,λa e=>?_⟩;cases e;obtain⟨o,n,e,c,hd,_⟩:=j;exact⟨o,e,hd⟩
  .refine⟨⟨o,U.kIn p o hk,k⟩,λa e=>?_⟩;cases e;exact⟨o,U.kIn _ o hk,hd⟩
  .have z: ∃o,s.heap.get? p=C o/\o.ExactDict:=by
    rcases hk with⟨g,hk⟩|⟨g,hk⟩
    .obtain⟨_,_,_,_,o,_,_,e,ex,_⟩:=U.hok p _ hk;exact⟨o,e,ex⟩
    .obtain⟨_,_,_,_,o,_,_,e,ex,_⟩:=U.hok p _ hk;exact⟨o,e,ex⟩
   obtain⟨o,e,ex⟩:=z;refine⟨⟨o,e,ex.1⟩,λa f=>?_⟩;cases f;exact⟨o,e,ex.2.1⟩
  .obtain⟨o,_,_,_,e,ex,_⟩:=U.hok p _ hk;refine⟨⟨o,e,ex.1⟩,λa f=>?_⟩;cases f;exact⟨o,e,ex.2.1⟩
 |_=>exact aZ ty
def ZS(K:jb)(T:String)(r:V->List V->Hp->VK->Prop)(B:TE):TE:=λd U Q=>B d U λx c=>tyV K T x c/\r x [] c Q
def tBM(K:jb)(T:String)(r:V->List V->Hp->VK->Prop)(B:TE)(t:TA):TE:=λd U Q=>B d U λx c=>tyV K T x c/\t d c λf e=>r x f e Q
variable {o e:iK}{C:kh}{B:TE}{t:TA}{d:aB}{g m:bB}{T id:String}{r:V->List V->Hp->VK->Prop}
def Vv(y:PlainAttrs T)(slot:Slot T d id)(l:ia (.builtin id)=pure (.type "method_descriptor"))(p:MtR X id r)(q:PE X o B)
  (w:ca o d X.env (aU o X.env)=aU o X.env:=by rfl)(u:(g.endLine==m.line)=J:=by rfl):PE X (.Call (.Attribute o d g) [] [] m) (ZS X.K T r B):=by
 intro c s j N Q U h;refine wpAny_Call_method0_late w u<|thn (q c s j N _ U h) λv s1 M=>?_;obtain⟨x,k,f,i,ty,z⟩:=M;obtain⟨h1,n⟩:=M3 f i ty;exact⟨T,id,y,slot,l,h1,n,ME H<|PySem.evalArgs_none<|p c s1 j k x [] v [] Q f i .nil z⟩
def Od(N:PlainAttrs T)(slot:Slot T d id)(q:ia (.builtin id)=pure (.type "method_descriptor"))(y:MtR X id r)(z:PE X o B)(w:PA X (e::C) t)
  (M:ca o d X.env (aU o X.env)=aU o X.env:=by rfl)
  (u4:((bc m<|ag (e::C) X.env).all (λx=>!x.1)&&(gr m<|eP [] X.env).all (λx=>x.1.isSome)
   &&decide ((e::C).length+([]:List c8).length+(if([]:List c8).isEmpty then 0 else 1)<30))=O0:=by rfl)
  (J:(g.endLine==m.line)=O0:=by rfl)(A:ag (e::C) X.env=(Y,aU e X.env)::ag C X.env:=by rfl)(G:(bc m<|ag C X.env).any (·.1)=Y:=by rfl):
  PE X (.Call (.Attribute o d g) (e::C) [] m) (tBM X.K T r B t):=by
 intro c s f H Q I h;refine wpAny_Call_method_late M u4 J O9<|thn (z c s f H _ I h) λv s1 a'=>?_;obtain⟨x,l,i,k,ty,U⟩:=a';obtain⟨h1,u⟩:=M3 i k ty;refine⟨T,id,N,slot,q,h1,u,?_⟩;have j:=w m c s1 f l _ i U;rw[A] at j ⊢;refine ME (by show(Y||(bc m<|ag C X.env).any (·.1))=Y;rw[G]<;>rfl)<|MD ?_;exact thn j λus s2 ⟨vs,n,p,r2,Y'⟩=>y c s2 f n x vs v us Q p k r2 Y'
end
def MtM(X:Cx)(id:String)(r:V->List V->Hp->VK->Prop):Prop:=
 ∀(a:jr) (s:iI) (d:St) (U:Hp) (x:V) (c:List V) (v:iO) (b:jD) (Q:VK),Inv X a d U s->RelV x v->Vals c b->r x c U Q->
  ah (ai X.prog X.w) X.A (call (.builtin id) (v::b)) (EP X a d Q) X.xe s
def Vals.one{x:V}{a:jD}:Vals [x] a-> ∃u,a=[u]/\RelV x u:=rJ
def Vals.zero: ∀{a:jD},Vals [] a->a=[]
 |_,.nil=>rfl
def Vals.dropLast{b:List V}{a:jD}(h:Vals b a):Vals b.dropLast a.dropLast:=by
 induction h with
 |nil=>exact .nil
 |cons r t c=>
  cases t with
  |nil=>exact .nil
  |cons q d=>exact .cons r c
theorem Vals.eraseIdx: ∀{b:List V} {a:jD} (i:Nat),Vals b a->Vals (b.eraseIdx i) (a.eraseIdx i)
 |_,_,_,.nil=> .nil
 |_,_,0,.cons _ t=>t
 |_,_,i+1,.cons r t=> .cons r (Vals.eraseIdx i t)
def Vals.reverse{b:List V}{a:jD}(h:Vals b a):Vals b.reverse a.reverse:=by
 induction h with
 |nil=>exact .nil
 |cons r t c=>rw[DI,DI];exact Vals.append c<|.cons r .nil
theorem Vals.rep{b:List V}{a:jD}(h:Vals b a): ∀k:Nat,Vals (ac k b).flatten (ac k a).flatten
 |0=> .nil
 |k+1=>by rw[uM,uM,xY,xY];exact Vals.append h<|Vals.rep h k
def IG{d:Type}(l:List d):l.eraseIdx (Ps l-1)=l.dropLast:=by
 induction l with
 |nil=>rfl
 |cons a r c=>
  cases r with
  |nil=>rfl
  |cons b r=>
   have e:(a::b::r).length-1=((b::r).length-1)+1:=by
    have h1:(a::b::r).length=Ps r+2:=rfl;have f:(b::r).length=Ps r+1:=rfl
    lia
   rw[e,f5,c]
   all_goals rfl
theorem CJ{a:Type}: ∀(l:List a) (i:Nat),(l.eraseIdx i).length<=Ps l
 |[],_=>jW _
 |_::_,0=>xX _
 |_::r,i+1=>Nat.succ_le_succ<|CJ r i
theorem CU(b:jD): ∀(k:Nat) (a:jD),
  eO (λx1 x2=>x1++x2) a.toArray (ac k b.toArray)=(a++(ac k b).flatten).toArray
 |0,a=>by simp
 |k+1,a=>by
  have e:a.toArray++b.toArray=(a++b).toArray:=by simp
  have c:(a++b)++(ac k b).flatten=a++(ac (k+1) b).flatten:=by rw[uM,xY,ny]
  rw[<-c,<-CU b k (a++b),<-e,uM,sj]
section
variable {X:Cx}{a:jr}{c:St}{H:Hp}{s:iI}{l b:iB}{g d i:List V}
def Inv.lset{h its':jD}{n:Nat}{f:Array iO->Array iO}{r:Nat}(U:Inv X a c H s)(j:H l=C (.lst g))
  (e:s.heap.get? l=C {cls:= .type "list",data:= .seq h.toArray n})(m:f h.toArray=its'.toArray)(hv:Vals d its')(p:(Ps d)<=sizeLine):
  Inv X a c (upd H l<|.lst d) {s with heap:=s.heap.update l<|aG f,toks:=r}:=by
 have q:=PySem.IsL.update e f;rw[m] at q;refine U.write (x:=l) (e:=l) (by rw[j];exact trivial) (.inl O9) (λt u k o=>(xZ s.heap (aG f)<|nV k).trans o) ⟨_,q⟩ ?_;exact⟨p,its',_,hv,q⟩
def Inv.lnew{e:jD}{t':Nat}(U:Inv X a c H s)(hv:Vals d e)(f:(Ps d)<=sizeLine):
  Inv X a c (upd H s.heap.objs.size<|.lst d) {s with heap:=s.heap.push {cls:= .type "list",data:= .seq e.toArray},toks:=t'}:=
 U.laid (λ_ _ q=>kc _ q) (jW _) ⟨f,e,0,hv,kD _ rfl⟩
def Inv.fresh(U:Inv X a c H s):H s.heap.objs.size=I:=U.hok.fresh<|jW _
def Inv.lstM(U:Inv X a c H s)(h:H l=C (.lst g)):g.length<=sizeLine/\ ∃(f:jD) (n:Nat),Vals g f/\g.length=f.length/\s.heap.get? l=C {cls:= .type "list",data:= .seq f.toArray n}:=by obtain⟨z,f,n,r,e⟩:=U.hok l _ h;exact⟨z,f,n,r,r.length,e⟩
def OA{n:Nat}(h:n<=sizeLine):cZ n=Y:=by unfold cZ;exact mZ (by lia)
end
section
variable {X:Cx}
def Rg:V->List V->Hp->VK->Prop:=λx b U Q=> ∃l a y,x= .ref l/\b=[y]/\U l=C (.lst a)/\(Ps a)<sizeLine/\Q .non (upd U l<|.lst<|a++[y])
def Lf:MtM X "list.append" Rg:=by
 intro c s p T x m v k Q U g f h;obtain⟨l,o,y,rfl,rfl,b,j,q⟩:=h;cases g;obtain⟨u,rfl,d⟩:=f.one;obtain⟨z,a,n,r,i,e⟩:=U.lstM b;refine wm F.slot_list_append ⟨_,e,rfl⟩ MC (MA _ _) (gU l a.toArray n u<|by rw[jx];lia) ⟨e,?_⟩;refine⟨.non,_,U.lset (its':=a++[u]) b e (by simp) (r.append<|.cons d .nil) ?_,rfl,q⟩;rw[lP,uL]
 lia
def aar:V->List V->Hp->VK->Prop:=λx b U Q=> ∃l a y,x= .ref l/\b=[]/\U l=C (.lst a)/\a[Ps a-1]?=C y/\Q y (upd U l<|.lst a.dropLast)
def VQ:MtM X "list.pop" aar:=by
 intro d s A T x t v p Q U o m h;obtain⟨l,w,y,rfl,rfl,c,j,q⟩:=h;cases o;have b:=m.zero;subst b;obtain⟨z,a,n,r,g,e⟩:=U.lstM c;obtain⟨u,i,k⟩:=r.get j
 have f:a.toArray[a.toArray.size-1]?=C u:=by show a.toArray[Ps a-1]?=C u;rw[<-lO,<-g];exact i
 refine wm F.slot_list_pop ⟨_,e,rfl⟩ F.entry_list_pop (F.args_list_pop_1 _) (MeetsSeq.list_pop_last l a.toArray n u f<|by rw[jx];lia) ⟨e,?_⟩;refine⟨y,_,U.lset (its':=a.dropLast) c e ?_ r.dropLast ?_,k,q⟩
 .show a.toArray.eraseIdxIfInBounds (a.toArray.size-1)=a.dropLast.toArray;rw[jx,Mz,IG]
 .rw[Ha]
  lia
def U4:V->List V->Hp->VK->Prop:=λx b U Q=> ∃l a i k y,x= .ref l/\b=[.int i]/\U l=C (.lst a)/\ -(2^63)<=i/\i<2^63/\rk i (Ps a)=C k/\a[k]?=C y/\Q y (upd U l<|.lst<|a.eraseIdx k)
def OC:MtM X "list.pop" U4:=by
 intro c s L O x E v U Q T A p h;obtain⟨l,B,i,k,y,rfl,rfl,b,h1,f,hk,m,q⟩:=h;cases A;obtain⟨u,rfl,o⟩:=p.one;obtain⟨t,rfl⟩:=o;obtain⟨z,a,n,r,g,e⟩:=T.lstM b;obtain⟨w,j,d⟩:=r.get m
 refine wm F.slot_list_pop ⟨_,e,rfl⟩ F.entry_list_pop (F.args_list_pop_2 _ _)
  (MeetsSeq.list_pop_at l a.toArray n i t k w (wE h1 f) (by rw[jx,<-g];exact hk) (by rw[<-lO];exact j)<|by rw[jx];lia) ⟨e,?_⟩
 refine⟨y,_,T.lset (its':=a.eraseIdx k) b e ?_ (r.eraseIdx k) ?_,d,q⟩
 .show a.toArray.eraseIdxIfInBounds k=(a.eraseIdx k).toArray;rw[Mz]
 .have:=CJ B k
  lia
def R8{c:Type}(a:List c)(k:Nat):(ac k a).flatten.length=k*(Ps a):=by
 induction k with
 |zero=>simp
 |succ k b=>rw[uM,xY,lP,b,Nat.succ_mul,ta]
end
section
variable {a:jd}{w:iW}{A:jf}{E:jw}{s:iI}
end
section
variable {X:Cx}
end
end L2
namespace Att
open PySem.W PySem.Calls
def zk{P:Params}{h:ja}: ∀(c:iQ) (d:jD),WellAll P h d (c.map WData.int)->dG d c:=by
 intro c
 induction c with
 |nil=>intro d w;rw[rF] at w;cases w;exact .nil
 |cons n c e=>
  intro d w;rw[km] at w
  cases w with
  |cons a b=>
   cases a;exact .cons _ _ (e _ b)
def KO{l:OpenLaw}{n:Nat}(v:l.most=C n){P:Params}{h:ja}{b:List WData}{e:jD}
  (k:l.row.toRowW.claim.pre b=J)(s:WellAll P h e b):
  ∃a o c,e=[bM a]/\b=[WData.list<|c.map WData.int]/\h.get? a=C {cls:= .type "list",data:= .seq o.toArray}/\dG o c/\(Ps c)<=n:=by
 have j:WShape.hasAll [] b [.list .int]=J:=(pre_splitW k).1;have m:l.pre.holds [] {args:=b}=J:=(pre_splitW k).2;obtain⟨d,r,rfl,h1,t⟩:=hasAllW_cons j;obtain rfl:=hasAllW_nil t;obtain⟨A,rfl,u⟩:=hasW_list h1;obtain⟨c,rfl⟩:=items_int u
 have f:(Ps c)<=n:=by
  unfold OpenLaw.pre at m
  have g:(WTm.not<|.lt (.lit<|.int (n:Int))<|.len<|.arg 0).holds [] {args:=[.list<|c.map .int]}=J:=by have g:=(holds_andW m).1;rw[v] at g;exact g
  have i:=condW_of g<|w_not<|w_lt w_lit<|w_len_list<|w_arg H;rw[jF] at i;refine mm λq=>?_;have x:(n:Int)<(((Ps c):Nat):Int):=by omega
  first
   |(rw[pN x] at i;exact absurd i<|by decide)
   |(simp at i;omega)
 cases s with
 |cons y z=>
  cases z
  cases y with
  |list w p=>exact⟨_,_,c,rfl,rfl,w,zk c _ p,f⟩
def K0(l:OpenLaw)(a:List WData):l.row.toRowW.claim.post a (.bool J) a=J:=
 postW_of (r:=l.row.toRowW) (X:=J==J)
  (show WShape.has [] (.bool J) .bool=J by first|rfl|decide|simp[WShape.has,WShape.arms,WShape.armsAll])
  (show(WTm.eq .res<|.lit<|.bool J).value [] {args:=a,res:=C<|.bool J,after:=a}=C (.bool<|J==J) from w_eq_bool (w_res H) w_lit) rfl
def S7{l:OpenLaw}{n:Nat}{q:jd}{c:ji}{x:(aB->Option iO)->ja->Prop}{y:iW->ja->Prop}{d:DefRec}
  (hn:l.most=N2 n)(I:d.params.defaults=[])
  (call: ∀(w:iW) (e b:iI) (m u:lp) (j:iB) (o:ey) (v cd g:iO) (a:iB) (i:jD) (p:iQ),
   Ground q c [] x w e m u b.heap->y w b.heap->
   b.heap.get? j=N2 o->o.data= .func (docDef d.name d.params d.body d.scope v cd g)->b.heap.CodeRec cd d.name->m d.name=N2 (.ref j)->
   b.heap.get? a=N2 {cls:= .type "list",data:= .seq i.toArray}->dG i p->Ps p<=n->b.gens= #[]->
   cR (ai l.prog w) fG (.call (.ref j) ⟨[.ref a],[]⟩) (λr s=>r= .ok (.ret<|.bool O0)/\OldK b.heap s.heap/\s.os=b.os/\dI s.gens) b):
  WalkO q c x y l.row.toRowW d [] (λf i=>r0 f i):=by
 intro w e b m u G Y j o v cd g L kV D hd P A t M z C R E B K O N;obtain rfl:L= .none:=Dflts.none A I;obtain rfl:kV= .none:=Dflts.noKw A;obtain⟨a,i,p,rfl,rfl,H,h,k⟩:=KO hn E O;refine enter_call<|sm (call w e b m u j o v cd g a i p G Y D (fd_plain hd) P t H h k M) λr s F=>?_;obtain⟨rfl,Q,T,J⟩:=F;exact⟨.inl ⟨.bool O0,.bool O0,[],rfl,λ_=>rfl,.bool O0,K0 l _,λ_=>⟨ce,λ_ U=>(nomatch U)⟩⟩,Q,T,J⟩
section
variable {a:jd}{w:iW}{A:jf}{E:jw}{s:iI}{K:Frag}
end
end Att
namespace L2
def Kw{b:jD}{a:iQ}(h:dG b a):Vals (a.map V.int) b:=by
 induction h with
 |nil=>exact .nil
 |cons n t h c=>exact .cons ⟨t,rfl⟩ c
noncomputable def rp(s:bv):Arguments:=match s with
 | .FunctionDef _ a _ _ _ _ _ _ _ _=>a
 |_=>{posonlyargs:=[],args:=[],vararg:=I,kwonlyargs:=[],kw_defaults:=[],kwarg:=I,defaults:=[]}
noncomputable def lH(s:bv):List Stmt:=match s with
 | .FunctionDef _ _ b _ _ _ _ _ _ _=>b
 |_=>[]
noncomputable def iG(s:bv):Scope:=match s with
 | .FunctionDef _ _ _ _ _ _ a _ _ _=>a
 |_=>{kind:= .function,names:=[],isGenerator:=Y,isCoroutine:=Y}
abbrev CX0:CXT:=λ_ _ _ _ _ _=>False
abbrev E0:XK:=λ_ _ _=>False
def Yw{X:Cx}:ES CX0 X E0:=λ_ _ _ _ _ _ _ h=>h.elim
structure Fun(K:jb)(x qual:aB)(st:bv)(f:iB)(fd:mD):Prop where
 ex: ∃(oc:iO) (od:Option iB) (kV doc pm:iO) (an:Option iB) (b7 ct:iO) (v5:uC),
  fd=bX x qual (rp st) (lH st) (iG st) .none kV doc pm an b7 ct/\K.lookup f=N2 ⟨oc,od,.func fd,v5⟩/\dO K b7 qual=O0
 kp:bU K (.ref f)=O0
section
variable {P:jd}{w:iW}{K:jb}{a:lp}{base:ja}
def Fun.ok{x qual:aB}{st:bv}{f:iB}{g:mD}{N d:ji}{k:Nat}{e:Sp}(F:Fun K x qual st f g)(S:FnScope N d (iG st))(len: ∀vs U Q E,e vs U Q E->Ps vs=Ps d)
  (n: ∀(c:iO) (A:jf) (b:List dh) (s:iI) (U:Hp) (vs:List V) (Q:VK) (E:XK),Room k (A.deeper<|aV qual (iG st) s.heap.objs.size f c)->e vs U Q E->
   ∃t,PSs (qd CX0 P w K a base N qual (iG st) f c A b s U E).nox (lH st) t/\t {nx:=λ_ i=>Q .non i,rt:=Q} (pQ N vs) U):FnOk P w K a base CX0 (k+1) f g d e:=by
 obtain⟨r,u,kV,l,v,p,c,ct,y,rfl,lk,o⟩:=F.ex;refine Px lk o S len λA b s U vs Q E m j=>?_;obtain⟨t,h,q⟩:=n c A b s U vs Q E m j;exact⟨t,h.nox,q⟩
def Fun.binds{x qual:aB}{st:bv}{f:iB}{j:mD}{g:ji}(F:Fun K x qual st f j)
  (h: ∀(kV b e:iO) (c:Option iB) (d ct:iO) (i:jD),Ps i=Ps g->eR (bX x qual (rp st) (lH st) (iG st) .none kV b e c d ct) ⟨i,[]⟩=pure (g.zip i)):Binds K j g []:=by
 obtain⟨k,l,kV,b,e,c,d,ct,n,rfl,lk,m⟩:=F.ex;exact .all<|h kV b e c d ct
def Pq{x qual:aB}{st:bv}{f:iB}{h:iO}{i e:Option iB}{j:uC}{kV b g d ct:iO}(l:K.lookup f=C ⟨h,i,.func<|bX x qual (rp st) (lH st) (iG st) .none kV b g e d ct,j⟩)
  (c:dO K d qual=J)(k:bU K (.ref f)=J):Fun K x qual st f (bX x qual (rp st) (lH st) (iG st) .none kV b g e d ct):=⟨⟨h,i,kV,b,g,e,d,ct,j,rfl,l,c⟩,k⟩
end
section
variable {X:Cx}
end
def V1{A B:Prop}(h:B):if Y=J then A else B:=by rw[je kU];exact h
def V0{A B:Prop}(h:A):if J=J then A else B:=by rw[iT H];exact h
theorem we(b:dh): ∀(l:List (aB×c6)) (g:kX),(∀x∈l,x.2= .free-> ∃c,b.cells.lookup x.1=C c)->(∀x c,g.lookup x=C c->b.cells.lookup x=C c)->
  ∃cl,(forIn l g λx r=>if x.2==aL then do let a <-w6 b x.1;pure (bH ((x.1,a)::r)) else pure (bH r))=(pure cl:dP (List<|aB×iB))/\
   (∀x c,cl.lookup x=C c->b.cells.lookup x=C c)/\(∀x,(x,aL)∈l-> ∃c,cl.lookup x=C c)/\ ∀x c,g.lookup x=C c-> ∃c,cl.lookup x=C c
 |[],g,_,m=>⟨g,rfl,m,λx h=>by simp at h,λx c h=>⟨c,h⟩⟩
 |(n,k)::l,g,h,m=>by
  by_cases hk:k= .free
  .subst hk;obtain⟨c,e⟩:=h (n,.free) kg H;have q:b.cells.lookup n=C c:=e
   obtain⟨cl,h1,o,p,j⟩:=we b l ((n,c)::g) (λx f=>h x<|kj _ f) (λx d f=>by
    rw[oA] at f
    cases i:x==n with
    |true=>rw[i] at f;have:=rY i;subst this;cases f;exact q
    |false=>rw[i] at f;exact m x d f)
   refine⟨cl,?_,o,λx f=>?_,λx d f=>?_⟩
   .rw[d0];have:w6 b n=pure c:=by unfold w6;rw[q]
    simp -iota only[this,tl,beq_self_eq_true,ky];exact h1
   .rcases lz.mp f with z|z
    .cases z;exact j n c (by simp[oA])
    .exact p x z
   .cases i:x==n with
    |true=>have:=rY i;subst this;exact j x c (by simp[oA])
    |false=>exact j x d (by rw[oA,i];exact f)
  .obtain⟨cl,h1,o,p,j⟩:=we b l g (λx f=>h x<|kj _ f) m;have i:(k==aL)=Y:=by simpa using hk
   refine⟨cl,?_,o,λx f=>?_,j⟩
   .rw[d0];simp -iota only[i,kT,kI,tl];exact h1
   .rcases lz.mp f with z|z
    .cases z;exact absurd H hk
    .exact p x z
def rA(b:dh)(scope:jJ)(h: ∀x∈scope.names,x.2= .free-> ∃c,b.cells.lookup x.1=C c):
  ∃cl,on scope b=pure cl/\(∀x c,cl.lookup x=C c->b.cells.lookup x=C c)/\ ∀x,(x,aL)∈scope.names-> ∃c,cl.lookup x=C c:=by
 obtain⟨cl,h1,d,e,_⟩:=we b scope.names [] h (λx c f=>by simp at f);refine⟨cl,?_,d,e⟩;unfold on;have:(forIn scope.names ([]:List (aB×iB)) λx r=>if x.2==aL then do let a <-w6 b x.1;pure (bH ((x.1,a)::r)) else pure (bH r))=(pure cl:dP (List<|aB×iB)):=h1
 first
  |exact(nD (· >>=λr=>pure r) this).trans (tl _ _)
  |(simp -iota only[bind_pure];exact this)
  |exact this
theorem mJ: ∀(names:List (aB×c6)) (n:Nat) (a:kX),br n names a=br n names []++a
 |[],_,_=>rfl
 |(x,k)::r,n,a=>by
  unfold br;split
  .rw[mJ r (n+1) ((x,n)::a),mJ r (n+1) [(x,n)],ny];rfl
  .exact mJ r n a
theorem qe{x:aB}{c:iB}: ∀(names:List (aB×c6)) (n:Nat),(x,c)∈br n names []->(x,cG)∈names
 |[],_,h=>by simp[br] at h
 |(y,k)::r,n,h=>by
  unfold br at h;split at h
  .rename_i hk;rw[mJ] at h;rcases pJ.mp h with z|z
   .exact kj _ (qe r _ z)
   .cases zf.mp z;rw[rY hk];exact kg
  .exact kj _ (qe r _ h)
structure BCls(cells:kX)(scope:jJ)(C:iB)(h:ja)(cl:kX):Prop where
 one: ∀x c,cl.lookup x=N2 c->(cells.lookup x=N2 c/\scope.names.lookup x≠N2 .cell)\/(C<c/\scope.names.lookup x=N2 .cell/\h.IsCell c Op)
 all: ∀x,(x,aL)∈scope.names\/(x,cG)∈scope.names-> ∃c,cl.lookup x=N2 c
 inj: ∀x y c,C<c->cl.lookup x=N2 c->cl.lookup y=N2 c->(∀z d,cells.lookup z=N2 d->d<C)->x=y
 ex: ∀x c,cl.lookup x=N2 c->cells.lookup x=N2 c\/C<c
def RY{M:fY}{A:jf}{E:jw}{s:iI}{scope:jJ}{globals:iB}{a:dh}{cl:kX}{qual:aB}{Q:dh->Shared->Prop}(u: ∀y∈scope.names,y.2= .cell->scope.names.lookup y.1=C .cell)
  (m: ∀x c,cl.lookup x=C c->a.cells.lookup x=C c)(T: ∀x,(x,aL)∈scope.names-> ∃c,cl.lookup x=C c)
  (B: ∀k r,k.Ns s.heap.objs.size (λ_=>I)->(∀b o,s.heap.get? b=C o->k.get? b=C o)->BCls a.cells scope s.heap.objs.size k r->
   Q {scope,locals:=s.heap.objs.size,globals,cells:=r,qual,func:=I,code:=a.code,frame:=a.frame,builtins:=a.builtins} {s with heap:=k}):
  ah M A (gk scope globals cl [] qual I .none<|C a) Q E s:=by
 simp -iota only[gk,eD,ky];refine iF<|G9 ?_;refine iF<|wpAny_layCells _ (λv j i=>by cases n:j==cG<;>simp[n]) _ _ _ _ ?_;have ok:=cellsFrom_ok scope.names (s.heap.push {cls:= .type "dict",data:= .dict #[]}) (s.heap.objs.size+1) [] ⟨λ_ _ U=>(nomatch U),ce⟩ (by rw[rE];exact jW _);rw[rE] at ok;rw[show({s with heap:=s.heap.push {cls:= .type "dict",data:= .dict #[]}}:Shared).heap.objs.size=s.heap.objs.size+1 from rE ..];simp -iota only[nf];have g: ∀x,(br (s.heap.objs.size+1) scope.names cl).lookup x=((br (s.heap.objs.size+1) scope.names []).lookup x).or (cl.lookup x):=λx=>by rw[mJ,List.lookup_append]
 have f: ∀x c,(br (s.heap.objs.size+1) scope.names cl).lookup x=C c->(cl.lookup x=C c/\(br (s.heap.objs.size+1) scope.names []).lookup x=I)\/(x,c)∈br (s.heap.objs.size+1) scope.names []:=λx c h=>by
  rw[g] at h
  cases p:(br (s.heap.objs.size+1) scope.names []).lookup x with
  |none=>rw[p] at h;exact .inl ⟨h,rfl⟩
  |some d=>rw[p] at h;cases h;exact .inr<|qi p
 have lo: ∀{x:aB} {c:iB},(x,c)∈br (s.heap.objs.size+1) scope.names []->s.heap.objs.size<c:=λ{x c} h=>(ok.empty x c h).2;refine iF<|iR<|iR<|B _ _ ((Heap.Ns.new s.heap<|.type "dict").keeps<|ut _ _) (λb o e=>ut _ _ b o (kc _ e)) ⟨λx c h=>?_,λx h=>?_,λx y c l h1 w t=>?_,λx c h=>?_⟩
 .rcases f x c h with⟨z,O⟩|z
  .refine .inl ⟨m x c z,λe=>?_⟩;have:=DL scope.names (s.heap.objs.size+1) []<|.inl e;rw[O] at this;cases this
  .exact .inr ⟨lo z,u _ (qe _ _ z) rfl,(ok.empty x c z).1⟩
 .rcases h with h|h
  .obtain⟨c,l⟩:=T x h;rw[g,l];cases(br (s.heap.objs.size+1) scope.names []).lookup x<;>exact⟨_,rfl⟩
  .have:=DL scope.names (s.heap.objs.size+1) cl<|.inl<|u _ h rfl;exact LR.mp this
 .rcases f x c h1 with⟨z,_⟩|z
  .exact absurd (t x c<|m x c z) (G8 l)
  .rcases f y c w with⟨q,_⟩|q
   .exact absurd (t y c<|m y c q) (G8 l)
   .exact F2 ok.apart z q
 .rcases f x c h with⟨z,_⟩|z
  .exact .inl (m x c z)
  .exact .inr (lo z)
noncomputable def Cx.comp(X:Cx)(d:ji)(scope:jJ)(cl:kX)(U:iB)(f:iI)(c:Hp)(e:kG)(a:jr):Cx:=
 {X with N:=d,s₀:=f,H₀:=c,env:=compEnvC scope cl U X.env,outer:=X.stack,stack:=X.stack,ex:=e,fn:=λx=>scope.names.lookup x==C .cell,pn:=X.pn++a,xe:=λ_ _=>False}
abbrev TB:=St->Hp->(St->Hp->Prop)->Prop
def PB(X:Cx)(code:dP Unit)(t:TB):Prop:=
 ∀(a:jr) (s:iI) (c:St) (U:Hp) (N:St->Hp->Prop),Inv X a c U s->t c U N->
  ah (ai X.prog X.w) X.A code (λ_ d=> ∃b H',Inv X a b H' d/\N b H') X.xe s
def PIf(X:Cx)(b:kh)(t:TT):Prop:=
 ∀(a:jr) (s:iI) (d:St) (U:Hp) (Q:Bool->Hp->Prop),Inv X a d U s->t d U Q->
  ah (ai X.prog X.w) X.A (forIn b J λc r=>if r=J then do let ok <-isTrue c X.env (aU c X.env);pure (bH ok) else pure (bH r)) (TP X a d Q) X.xe s
noncomputable def XO:TT:=λ_ U Q=>Q J U
section
variable {X:Cx}
def Rw:PIf X [] XO:=λa s b T Q U h=>wpAny_tests_nil ⟨T,U,h⟩
def Rv{c:iK}{t:TT}(h:PT X c t):PIf X [c] t:=λa s d T Q U b=>wpAny_tests_one<|h a s d T Q U b
noncomputable def jK(e:iK)(depth:Nat)(acc:iO)(a:dh):dP Unit:=
 match(b9 e)[depth+1]? with
 |some c=>do
  let x <-aU c.iter a
  cN c.iter.pos
  let x <-ay c.iter a x
  let _ <-runOwn (.compStart e (depth+1) (<-cw [x] (en x)) acc a) a
 |none=>match e with
  | .ListComp b _ _ _=>do let _ <-call (.builtin "list.append") [acc,<-aU b a]
  | .SetComp b _ _ _=>do let v <-aU b a;cN b.pos;let _ <-call (.builtin "set.add") [acc,v]
  |_=>k9 "no"
def Jn(T:It)(g:TG)(n:TT)(l:TB):TB:=λd U N=> ∃W:Nat->Nat->St->Hp->Prop,(∃m,W 0 m d U)/\ ∀i m d U,W i m d U->
 (T.stop i U/\N d U)\/(T.go i U/\ ∀x f,T.yld i U x f->g x d f λa j=>n a j λb h=>if b=J then l a h λe k=> ∃c,c<m/\W (i+1) c e k else ∃c,c<m/\W (i+1) c a h)
def EH(e:iK)(depth:Nat)(k f:iO)(b:dh)(g:oy)(q:(∃d a i p,e= .ListComp d a i p)\/(∃d a i p,e= .SetComp d a i p))
  (j:(b9 e)[depth]?=C g)(o:g.is_async=0)(l: ∀h,(b9 e)[depth+1]?=C h->h.is_async=0):
  lv e depth k f b=(do
   cN g.iter.pos
   match <-cz k with
   |none=>pure<|.done .next
   |some v=>
    ev g.target k v
    cC g.target b v
    let ok <-forIn g.ifs J λc r=>if r=J then do let ok <-isTrue c b (aU c b);pure (bH ok) else pure (bH r)
    if ok=J then jK e depth f b
    again (.compLoop e depth k f b)):=by
 rcases q with⟨d,a,i,p,rfl⟩|⟨d,a,i,p,rfl⟩
 .have m:a[depth]?=C g:=j;unfold lv jK;simp only[clausesOf.eq_def] at j l ⊢;rw[m];simp only[o]
  cases n:a[depth+1]? with
  |none=>rfl
  |some h=>
   have:=l h n;simp only[this,uK,kT,kI]
   congr 1;funext _;congr 1;funext r
   cases r with
   |none=>rfl
   |some v=>
    dsimp only
    congr 1;funext _;congr 1;funext _;congr 1;funext ok
    cases ok with
    |false=>rfl
    |true=>simp only[ky,wk];rfl
 .have m:a[depth]?=C g:=j;unfold lv jK;simp only[clausesOf.eq_def] at j l ⊢;rw[m];simp only[o]
  cases n:a[depth+1]? with
  |none=>rfl
  |some h=>
   have:=l h n;simp only[this,uK,kT,kI]
   congr 1;funext _;congr 1;funext r
   cases r with
   |none=>rfl
   |some v=>
    dsimp only
    congr 1;funext _;congr 1;funext _;congr 1;funext ok
    cases ok with
    |false=>rfl
    |true=>simp only[ky,wk];rfl
def PY 
  (d:(∃b a c p,e= .ListComp b a c p)\/(∃b a c p,e= .SetComp b a c p))
  (h:ah (ai prog w) A ((lv e depth it acc env).onRaise (λx=>do gQ x env;theTreesLotGoes x)) Q E s):
  ah (ai prog w) (A.under<|.compLoop e depth it acc env) ((ai prog w).den<|.compLoop e depth it acc env) Q E s:=by
 rcases d with⟨b,a,c,p,rfl⟩|⟨b,a,c,p,rfl⟩
 .exact h
 .exact h
def JV{e:iK}{depth:Nat}{acc:iO}{c:oy}{g:TG}{ti:TT}{tb:TB}{J:It}{y:kG}{it:iB}{tn:Nat->ja->Prop}(aS:X.xe=λ_ _=>False)(hc:X.calm=O0)
  (hl:(∃B k sc p,e= .ListComp B k sc p)\/(∃B k sc p,e= .SetComp B k sc p))(hg:(b9 e)[depth]?=C c)(ha:c.is_async=0)(l9: ∀g',(b9 e)[depth+1]?=C g'->g'.is_async=0)
  (T:Turn X.prog X.w X.K c.target J y it tn)(pg:PG X c.target g)(bN:PIf X c.ifs ti)(pb:PB X (jK e depth acc X.env) tb)
  {a:jr}{s:iI}{σ:St}{H:Hp}{N:St->Hp->Prop}(I:Inv X a σ H s)(f2: ∀b∈y,tN X a H b)(st:tn 0 s.heap)(h:Jn J g ti tb σ H N):
  cR (ai X.prog X.w) X.A (.compLoop e depth (.ref it) acc X.env) (λr s'=>r= .ok .next/\ ∃f j,Inv X a f j s'/\(∀b∈y,j b=Op)/\N f j) s:=by
 obtain⟨W,⟨m0,w0⟩,G⟩:=h;have P: ∀{j:Hp},(∀b∈y,j b=Op)-> ∀b∈y,tN X a j b:=λhn b v=>⟨hn b v,(f2 b v).2⟩
 have D: ∀{Z:Type} {t:dP Z} {Q:Z->Shared->Prop} {E:jw} {s:iI},ah (ai X.prog X.w) X.A t Q X.xe s->ah (ai X.prog X.w) X.A t Q E s:=λh=>oE h (λ_ _ x=>x) λ_ _ z=>by rw[aS] at z;exact z.elim
 refine codeAny_loop O9 (λn s'=> ∃i f j,Inv X a f j s'/\tn i s'.heap/\(∀b∈y,j b=Op)/\W i n f j) (λn V hI=>?_) m0 ⟨0,σ,H,I,st,λb v=>(f2 b v).1,w0⟩;refine PY hl ?_;refine wpAny_noted ?_;rw[EH e depth (.ref it) acc X.env c hl hg ha l9];obtain⟨i,l,U,R,S,F,w3⟩:=hI;refine iF<|yd ?_;rcases G i n l U w3 with⟨stop,qn⟩|⟨go,step⟩
 .refine iF (thn (T.done X O9 O9 O9 hc i a V l U _ R (P F) S stop) λr s4 a'=>?_);obtain⟨hr,I4⟩:=a';subst hr;exact iR ⟨rfl,l,U,I4,F,qn⟩
 .refine iF (thn (T.item X O9 O9 O9 hc i a V l U _ R (P F) S go) λr s4 a'=>?_);obtain⟨u,hr,h4⟩:=a';subst hr;refine iF<|thn h4 λ_ s5 a'=>?_;obtain⟨x,H5,I5,r5,y5,cx,gZ⟩:=a';have iz:=I5.pinned (P gZ)<|T.obj _ _ cx;refine iF<|thn (D<|pg _ s5 l H5 x u _ iz r5 (step x H5 y5)) λ_ s6 a'=>?_;obtain⟨M,H6,I6,q6⟩:=a';refine iF<|thn (D<|bN _ s6 M H6 _ I6 q6) λok s7 a'=>?_;obtain⟨H7,I7,q7⟩:=a'
  have again: ∀{O:iI} {q:St} {C':Hp},Inv X (a++AD y s5.heap) q C' O->(∃Y',Y'<n/\W (i+1) Y' q C')-> ∃m,m<n/\ ∃i f j,Inv X a f j O/\tn i O.heap/\(∀b∈y,j b=Op)/\W i m f j:=λ{O q C'} L a'=>by
   obtain⟨Y',hm,w8⟩:=a'
   refine⟨Y',hm,i+1,q,C',L.unpinned,T.keep _ _ _ cx λb v o e=>(L.pin (b,o)<|qj _ (qj _ (qY v e))).1,λb v=>?_,w8⟩;obtain⟨o,e,d⟩:=T.obj _ _ cx b v;exact(L.pin (b,o)<|qj _ (qj _ (qY v e))).2.1
  cases ok with
  |false=>rw[je kU] at q7;exact iR ⟨rfl,again I7 q7⟩
  |true=>rw[iT O9] at q7;simp -iota only[ky];refine iF<|thn (D<|pb _ s7 M H7 _ I7 q7) λ_ O a'=>?_;obtain⟨q,C',L,q8⟩:=a';exact iR ⟨rfl,again L q8⟩
def XW(d:iB)(e:TE):TB:=λc U N=>e c U λy b=> ∃a,b d=C (.lst a)/\(Ps a)<sizeLine/\N c (upd b d<|.lst<|a++[y])
def RF{b:iK}{a:qg}{i:jJ}{p:bB}{depth:Nat}{d:iB}{j:TE}(o:a[depth+1]?=I)(m:PE X b j):PB X (jK (.ListComp b a i p) depth (.ref d) X.env) (XW d j):=by
 intro f s k T N U h
 have l:jK (.ListComp b a i p) depth (.ref d) X.env=(do let _ <-call (.builtin "list.append") [.ref d,<-aU b X.env]):=by unfold jK;simp -iota only[clausesOf.eq_def];rw[o]
 rw[l];refine iF<|thn (m f s k T _ U h) λu s1 Q=>?_;obtain⟨y,v,g,t,A,hd,x,q⟩:=Q;obtain⟨z,c,n,r,w,e⟩:=g.lstM hd;refine iF<|wm F.slot_list_append ⟨_,e,rfl⟩ MC (MA _ _) (gU d c.toArray n u<|by rw[jx];lia) ⟨e,?_⟩;refine iR ⟨k,_,g.lset (its':=c++[u]) hd e (by simp) (r.append<|.cons t .nil) ?_,q⟩;rw[lP,uL]
 lia
def Fe{b:jd}{w:iW}{A:jf}{e:iK}{depth:Nat}{i acc:iO}{d:dh}{R:iV->Shared->Prop}{s:iI}{c:oy}
  (r:(∃g a j p,e= .ListComp g a j p)\/(∃g a j p,e= .SetComp g a j p))(q:(b9 e)[depth]?=C c)(o:c.is_async=0)
  (m:cR (ai b w) A (.compLoop e depth i acc d) R s)
  (k: ∀(Q:jw) (E:jw),Q i s->ah (ai b w) A (en i) Q E s):
  cR (ai b w) A (.compStart e depth i acc d) R s:=by
 have h:ah (ai b w) A (gX e depth i acc d) (λfin l=>match fin with| .done f=>R (.ok f) l| .again n=>n.quiet=J/\cR (ai b w) A n R l) (notedBy (ai b w) A d λx l=>R (.error x) l) s:=by
  unfold gX;rw[q];simp only[Option.elim,o,uK,kT,kI];refine iF<|xS<|wpAny_ite ?_;split
  .first
    |exact iF<|iR<|iR<|And.intro H m
    |exact iR<|And.intro H m
  .exact iF (uJ<|iF<|yd<|iF<|k _ _ (iR<|And.intro H m))
 rcases r with⟨g,a,j,p,rfl⟩|⟨g,a,j,p,rfl⟩
 .refine G7 ?_;show ah _ A ((gX (.ListComp g a j p) depth i acc d).onRaise (λx=>do gQ x d;cN t5)) _ _ s;exact y6 h
 .refine G7 ?_;show ah _ A ((gX (.SetComp g a j p) depth i acc d).onRaise (λx=>do gQ x d;cN t5)) _ _ s;exact y6 h
noncomputable def Nb(e:TI)(g:TG)(d:TT)(c:TB):TB:=λa U N=>e a U λT b=>Jn T g d c a b N
def Vx{e:iK}{depth:Nat}{b:iO}{c:oy}{w:TI}{g:TG}{u:TT}{t:TB}(C:X.xe=λ_ _=>False)(M:X.calm=O0)
  (o:(∃d a j p,e= .ListComp d a j p)\/(∃d a j p,e= .SetComp d a j p))(i:(b9 e)[depth+1]?=N2 c)(n:c.is_async=0)(l9: ∀m,(b9 e)[depth+1+1]?=N2 m->m.is_async=0)
  (hs: ∀x,ay c.iter X.env x=pure x)(pi:PI X c.target c.iter w)(pg:PG X c.target g)(L:PIf X c.ifs u)(pb:PB X (jK e (depth+1) b X.env) t):
  PB X (jK e depth b X.env) (Nb w g u t):=by
 intro f s K H N I h
 have O:jK e depth b X.env=(do
  let x <-aU c.iter X.env
  cN c.iter.pos
  let x <-ay c.iter X.env x
  let _ <-runOwn (.compStart e (depth+1) (<-cw [x] (en x)) b X.env) X.env):=by
  unfold jK;rw[i]
 rw[O];refine iF<|thn (pi f s K H _ I h) λv s1 h1=>iF<|yd<|iF<|Ab (hs v)<|iF<|nC<|thn h1 λR F G=>?_;obtain⟨V,S,Z,J,P,rfl,z,T,l,f2,D⟩:=G;refine iF<|wpAny_runOwn ?_;refine Fe o i n ?_ λQ E U=>T.self X.A 0 F Q E l U;refine sm (JV C M o i n l9 T pg L pb z f2 l D) λr W Y=>?_;obtain⟨rfl,k,y,B,_,q⟩:=Y;exact iR ⟨k,y,B,q⟩
end
theorem oG{a:dh}: ∀{names:List (aB×c6)} {x:aB},names.lookup x=C .free->
  (names.map λ(n,k)=>if(k==aL&&a.scope.kind== .function&&a.kindOf n==C .cell) then(n,cG) else(n,k)).lookup x=C .cell\/
  (names.map λ(n,k)=>if(k==aL&&a.scope.kind== .function&&a.kindOf n==C .cell) then(n,cG) else(n,k)).lookup x=C .free
 |[],_,h=>by simp at h
 |(n,k)::r,x,h=>by
  have d:= @oG a r x;rw[km]
  cases b:x==n with
  |true=>
   simp only[oA,b] at h;cases h;by_cases c:(aL==aL&&a.scope.kind== .function&&a.kindOf n==C .cell)=J
   .left;simp only[c,ky,oA,b]
   .right;simp only[c,kI,oA,b,kT]
  |false=>
   simp only[oA,b] at h;by_cases c:(k==aL&&a.scope.kind== .function&&a.kindOf n==C .cell)=J
   .simp only[c,ky,oA,b];exact d h
   .simp only[c,kI,oA,b,kT];exact d h
theorem lq{a:dh}: ∀{names:List (aB×c6)} {x:aB} {f:c6},
  (names.map λ(n,k)=>if(k==aL&&a.scope.kind== .function&&a.kindOf n==C .cell) then(n,cG) else(n,k)).lookup x=C f-> ∃k,(x,k)∈names/\(k=f\/k= .free)
 |[],_,_,h=>by simp at h
 |(n,k)::r,x,f,h=>by
  rw[km] at h
  cases c:x==n with
  |true=>
   have e:=rY c;subst e;by_cases b:(k==aL&&a.scope.kind== .function&&a.kindOf x==C .cell)=J
   .refine⟨k,kg,.inr ?_⟩
    have h1:(k==aL)=J:=by
     cases hk:(k==aL) with
     |true=>rfl
     |false=>rw[hk] at b;simp at b
    exact rY h1
   .simp only[b,kI,oA,c,kT] at h;exact⟨k,kg,.inl<|by simpa using h⟩
  |false=>
   by_cases b:(k==aL&&a.scope.kind== .function&&a.kindOf n==C .cell)=J
   .simp only[b,ky,oA,c] at h;obtain⟨g,h1,d⟩:=lq h;exact⟨g,kj _ h1,d⟩
   .simp only[b,kI,oA,c,kT] at h;obtain⟨g,h1,d⟩:=lq h;exact⟨g,kj _ h1,d⟩
structure CompScope(X:Cx)(N':ji)(scope:jJ)(pre:St->St):Prop where
 cell: ∀y∈scope.names,y.2= .cell->scope.names.lookup y.1=N2 .cell
 kind:scope.kind= .function
 names: ∀y∈scope.names,y.2= .local->scope.names.lookup y.1=N2 .local
 free: ∀y∈scope.names,y.2= .free->X.env.scope.names.lookup y.1=N2 .cell\/X.env.scope.names.lookup y.1=N2 .free
 len: ∀σ:St,(pre σ).length=Ps N'
 pre: ∀(σ:St) (i:Nat) (v:V) (x:aB),(pre σ)[i]?=N2 (N2 v)->N'[i]?=N2 x->scope.names.lookup x=N2 .free/\ ∃j:Nat,X.N[j]?=N2 x/\σ[j]?=N2 (N2 v)
section
variable {X:Cx}
def SO{O:ji}{scope:jJ}{pre:St->St}(S:CompScope X O scope pre){d:jr}{f:iI}{L:St}{t:Hp}{E:kG}{cl:kX}{H:ja}{t':Nat}(I:Inv X d L t f)
  (B:BCls X.env.cells scope f.heap.objs.size H cl)
  (C: ∀b∈E,tN X d t b)(T: ∀b∈E,b<f.heap.objs.size)
  (M:H.Ns f.heap.objs.size (λ_=>Op))(hk: ∀b o,f.heap.get? b=N2 o->H.get? b=N2 o):
  Inv (X.comp O scope cl f.heap.objs.size f t E d) [] (pre L) t {f with heap:=H,toks:=t'}:=by
 have D: ∀b∈frs X.stack,t b=Op:=I.stkFree;have w: ∀b,b≠X.env.locals->b∉X.fs->b∉frs X.stack:=λb h1 a z=>(lz.mp<|I.stkSub b z).elim h1 a;have A: ∀x c,X.env.cells.lookup x=N2 c->c<f.heap.objs.size:=λx c e=>(I.cell x c e).elim λ_ z=>z.lt
 refine⟨⟨I.ok.mod,?_,I.ok.glob,I.ok.blt,jW _,λx y c h1 a=>?_,λx h=>?_,λx c q e=>?_,I.ok.hd,I.ok.frames,.inl O9,λb g=>?_,
  I.bs,lI I.ok.bsz I.sz,λb o e g=>?_,λb g=>w b (C b g).2.1 (C b g).2.2.1,I.stack,D⟩,rfl,I.bare,Un.kept hk,⟨_,M,λi x v h1 a G=>?_⟩,λx c h=>?_,I.hok.fresh<|jW _,λx c h=>?_,λp V=>?_,I.hok.kept hk,S.len L⟩
 .show(ie scope X.env).kind= .function;simp[ie,S.kind]
 .rcases B.ex x c h1 with z|z
  .rcases B.ex y c a with s|s
   .exact I.ok.inj x y c z s
   .exact absurd (A x c z) (G8 s)
  .exact B.inj x y c z h1 a A
 ·
  have F:(ie scope X.env).names.lookup x=N2 .cell\/(ie scope X.env).names.lookup x=N2 .free:=h;refine B.all x ?_;rcases F with z|z
  .obtain⟨k,h1,a⟩:=lq z;rcases a with a|a<;>subst a
   .exact .inr h1
   .exact .inl h1
  .obtain⟨k,h1,a⟩:=lq z;rcases a with a|a<;>(subst a;exact .inl h1)
 .rcases B.one x c e with⟨_,z⟩|⟨z,_⟩
  .exact absurd (rY q) z
  .exact sv z
 .refine⟨jM<|T b g,λx c h=>?_⟩;rcases B.ex x c h with z|z
  .exact(C b g).2.2.2.2.1 x c z
  .exact oD (DH (T b g) z)
 ·
  have Z:b∈E:=g;rcases(C b Z).2.2.2.1 with z|z
  .exact I.ok.noex b o e z
  .exact absurd (nE (ke e)<|lI I.ok.bsz z) (qk _)
 .obtain⟨q,j,P,hv⟩:=S.pre L i v x a h1;obtain⟨m,hn,R⟩:=I.loc;have J:=S.free (x,.free) (qi q) O9;obtain⟨u,r,l⟩:=R j x v P hv (by rcases J with z|z;exact .inr<|.inl z;exact .inr<|.inr z);refine⟨u,r,.inr ⟨oG q,?_⟩⟩;rcases l with⟨gu,_⟩|⟨_,c,K,W⟩
  .have N:X.env.scope.names.lookup x=N2 .local:=gu;rcases J with z|z<;>(have s:X.env.scope.names.lookup x=_:=z;rw[N] at s;cases s)
  .obtain⟨U,Q⟩:=B.all x<|.inl<|qi q;rcases B.one x U Q with⟨this,_⟩|⟨_,z,_⟩
   .rw[K] at this;cases this;exact⟨c,Q,W.keeps hk⟩
   .rw[q] at z;cases z
 .rcases B.one x c h with⟨z,_⟩|⟨_,_,z⟩
  .obtain⟨v,hv⟩:=I.cell x c z;exact⟨v,hv.keeps hk⟩
  .exact⟨_,z⟩
 .rcases B.ex x c h with z|z
  .exact I.freeC x c z
  .exact I.hok.fresh (sv z)
 .have Y:p∈X.pn++d:=by simpa[Cx.comp] using V
  obtain⟨e,n,h1,a,G⟩:=I.pin p Y;exact⟨hk _ _ e,n,jM<|ke e,w _ h1 a,G⟩
def Bs{q:ji}{scope:jJ}{a:jr}{f g:iI}{n k:St}{i l:Hp}{j:kG}{cl:kX}{m:ja}(U:Inv X a n i f)(h: ∀b∈j,tN X a i b)
  (T:Inv (X.comp q scope cl f.heap.objs.size f i j a) [] k l g)(t:aR f.heap.objs.size g.heap m):Inv X a n l {g with heap:=m}:=by
 have K:=U.call' (s':=g) (ch:=j) T.os T.base T.hok T.bare λb d=>⟨(h b d).2.2.2.1,(h b d).2.1,(h b d).2.2.2.2.1,(h b d).2.2.2.2.2⟩
 have r:X.env.locals<f.heap.objs.size:=U.lt;refine K.turned (it:=f.heap.objs.size) (t':=g.toks) (λb o d e=>by rw[t.2 b d];exact e) T.free (oD r) (.inr U.sz) (λx c u z=>?_) λp s z=>?_
 .obtain⟨v,o,e,_⟩:=U.cell x c u;exact absurd (ke e) (by rw[z];exact qk _)
 .obtain⟨e,_⟩:=U.pin p s;exact absurd (ke e) (by rw[z];exact qk _)
def Jo(o:HO)(T:It)(g:TG)(c:TT)(b:iB->TB)(pre:St->St)(e:St)(U:Hp)(Q:VK):Prop:=
 ∀d,U d=I->Jn T g c (b d) (pre e) (upd U d o) λ_ a=>Q (.ref d) a
def ZR(T:It)(g:TG)(b:TT)(a:iB->TB)(pre:St->St)(c:St)(U:Hp)(Q:VK):Prop:=Jo (.lst []) T g b a pre c U Q
def yG{e:iK}{o:HO}{l:ey}{c:oy}{jG:qg}{scope:jJ}{u:ji}{pre:St->St}{g:TG}{ti:TT}{tb:iB->TB}{M:kX}{J:It}{i:kG}{it:iB}{tn:Nat->ja->Prop}
  (hl:(∃N k sc p,e= .ListComp N k sc p)\/ ∃N k sc p,e= .SetComp N k sc p)(hg:b9 e=c::jG)
  (S:CompScope X u scope pre)(hc:X.calm=O0)(ha:c.is_async=0)(l9: ∀I',jG[0]?=N2 I'->I'.is_async=0)
  (u6: ∀(cl:kX) (C:iB) (s:iI) (t:Hp) (i:kG) (a:jr),let H':=X.comp u scope cl C s t i a
   PG H' c.target g/\PIf H' c.ifs ti/\ ∀d,PB H' (jK e 0 (.ref d) H'.env)<|tb d)
  (k7: ∀x c,M.lookup x=N2 c->X.env.cells.lookup x=N2 c)(l5: ∀x,(x,aL)∈scope.names-> ∃c,M.lookup x=N2 c)
  {a:jr}{f:iI}{L:St}{m:Hp}{Q:VK}{E:jw}{RR:iO->iB->iV->Shared->Prop}(I2:Inv X a L m f)(T:Turn X.prog X.w X.K c.target J i it tn)(av:tn 0 f.heap)(f2: ∀b∈i,tN X a m b)
  (G:Inv X a L (upd m f.heap.objs.size o) {f with heap:=f.heap.push l})
  (h:Jo o J g ti tb pre L m Q)
  (hRR: ∀(d:iB) (cl:kX) (s:iI) (t O:Hp) (σ':St) (s4:iI),Inv X a L t s->(∀b∈i,tN X a t b)->Inv (X.comp u scope cl s.heap.objs.size s t i a) [] σ' O s4->Q (.ref d) O->RR (.ref d) s.heap.objs.size (.ok .next) s4):
  ah (ai X.prog X.w) X.A (gk scope X.env.globals M [] X.env.qual I .none<|N2 X.env) (λn y=>
   cR (ai X.prog X.w) X.A (.compStart e 0 (.ref it) (.ref f.heap.objs.size) {n with scope:=ie scope X.env}) (RR (.ref f.heap.objs.size) n.locals) y) E {f with heap:=f.heap.push l}:=by
 have R: ∀b∈i,b<f.heap.objs.size:=λb j=>by obtain⟨o,e,_⟩:=T.obj _ _ av b j;exact ke e
 have U: ∀b∈i,tN X a (upd m f.heap.objs.size o) b:=λb j=>⟨by rw[jg<|jM<|R b j];exact(f2 b j).1,(f2 b j).2⟩
 refine RY S.cell k7 l5 λh1 cl aJ F B=>?_;have hk: ∀b o,(f.heap.push l).get? b=N2 o->h1.get? b=N2 o:=F;have D: ∀b∈i,b<(f.heap.push l).objs.size:=λb j=>by rw[rE];exact vE<|R b j
 have J0:=SO (t':=f.toks) S G B U D aJ hk;obtain⟨pg,bN,pb⟩:=u6 cl (f.heap.push l).objs.size {f with heap:=f.heap.push l} (upd m f.heap.objs.size o) i a;have v:tn 0 h1:=T.keep _ _ _ av λb j o e=>hk b o<|kc _ e;have hw:=h f.heap.objs.size<|I2.hok.fresh<|jW _
 have Y: ∀b∈i,tN (X.comp u scope cl (f.heap.push l).objs.size {f with heap:=f.heap.push l} (upd m f.heap.objs.size o) i a) []
   (upd m f.heap.objs.size o) b:=λb j=>by
  obtain⟨z1,z2,z3,z4,z5,z6⟩:=U b j;refine⟨z1,jM<|D b j,λz=>(lz.mp<|G.stkSub b z).elim z2 z3,.inl j,λx c hx=>(B.ex x c hx).elim (z5 x c) λz=>oD<|DH (D b j) z,λp hp=>z6 p<|by simpa[Cx.comp] using hp⟩
 have V:(b9 e)[0]?=N2 c:=by rw[hg];rfl
 refine Fe hl V ha ?_ λQ' W hq=>T.self X.A 0 _ Q' W v hq
 refine sm (JV (X:=X.comp u scope cl (f.heap.push l).objs.size {f with heap:=f.heap.push l} (upd m f.heap.objs.size o) i a)
  (depth:=0) (acc:= .ref f.heap.objs.size) rfl hc hl V ha (λI' P=>l9 I'<|by rw[hg] at P;exact P) T pg bN (pb _) J0 Y v hw) λr s4 hr=>?_
 obtain⟨rfl,σ4,O,Z,_,q⟩:=hr;exact hRR _ _ _ _ _ _ _ G U Z q
noncomputable def Nc(e:TI)(g:TG)(d:TT)(c:iB->TB)(pre:St->St):TE:=λa U Q=>e a U λT b=>ZR T g d c pre a b Q
def N9{b:iK}{c:oy}{jG:qg}{scope:jJ}{e:bB}{o:ji}{pre:St->St}{y:TI}{g:TG}{ti:TT}{tb:iB->TB}
  (S:CompScope X o scope pre)(hc:X.calm=O0)(Y:c.is_async=0)(l9: ∀t,jG[0]?=N2 t->t.is_async=0)
  (hs: ∀x,ay c.iter X.env x=pure x)(pi:PI X c.target c.iter y)
  (u6: ∀(cl:kX) (C:iB) (u:iI) (k:Hp) (r:kG) (a:jr),let f:=X.comp o scope cl C u k r a
   PG f c.target g/\PIf f c.ifs ti/\ ∀d,PB f (jK (.ListComp b (c::jG) scope e) 0 (.ref d) f.env)<|tb d):
  PE X (.ListComp b (c::jG) scope e) (Nc y g ti tb pre):=by
 intro a s z H Q I h;obtain⟨tg,p,j,O⟩:=c;obtain rfl:O=0:=Y;obtain⟨cl,W,R,V⟩:=rA X.env scope λx P D=>I.ok.has x.1<|S.free x P D;rw[eval_ListComp];show ah _ X.A (gH _ scope X.env _ (ik []) O1 (aU p X.env)) _ _ s;refine G6 (use:=Op) (g:=⟨tg,p,j,0⟩) (gs:=jG) O9 hs W S.kind S.names<|thn (pi a s z H _ I h) λv s1 h1=>thn h1 λdg Z U=>?_;obtain⟨it,r,tn,J,H2,rfl,l,T,L,f2,K⟩:=U;refine mx<|yG (RR:=λi C=>wT (ai X.prog X.w) X.A X.xe Op (EP X a z Q) i C) (.inl ⟨_,_,_,_,rfl⟩) O9 S hc O9 l9 u6 R V l T L f2 (l.lnew (t':=Z.toks) .nil<|by simp) K λd M u k B σ' s4 E N n q=>?_;obtain⟨m,F,_⟩:=id n.loc;exact⟨m,F,λh' G=>⟨.ref d,B,Bs E N n G,rfl,q⟩⟩
def NQ{f:iK}{c:oy}{jG:qg}{scope:jJ}{j j4 k:bB}{N':ji}{pre:St->St}{wi:TI}{g:TG}{ti:TT}{tb:iB->TB}{y:aB}{i:Nat}
  (bQ:b6 (.ListComp f (c::jG) scope j) (N2<|.Name y k) j4.line X.env=pure O0)
  (S:CompScope X N' scope pre)(hc:X.calm=O0)(ha:c.is_async=0)(l9: ∀g',jG[0]?=N2 g'->g'.is_async=0)
  (hs: ∀x,ay c.iter X.env x=pure x)(pi:PI X c.target c.iter wi)(fR:PG X (.Name y k) (F5 i))
  (u6: ∀(cl:kX) (C:iB) (l:iI) (H3:Hp) (fp:kG) (a:jr),let u:=X.comp N' scope cl C l H3 fp a
   PG u c.target g/\PIf u c.ifs ti/\ ∀d,PB u (jK (.ListComp f (c::jG) scope j) 0 (.ref d) u.env)<|tb d):
  PS X (.Assign [.Name y k] (.ListComp f (c::jG) scope j) j4) (UE (Nc wi g ti tb pre)<|F5 i):=by
 intro a s E H D I h;obtain⟨V,M,t,az⟩:=c;obtain rfl:az=0:=ha;obtain⟨cl,n4,k7,l5⟩:=rA X.env scope λx Y hf=>I.ok.has x.1<|S.free x Y hf;rw[exec_Assign_Name_used _ _ _ _ bQ];refine iF<|yd<|iF ?_;show ah _ X.A (do let _ <-gH (.ListComp f (⟨V,M,t,0⟩::jG) scope j) scope X.env _ (ik []) O1 (aU M X.env) (N2<|cC (.Name y k) X.env)) _ _ s
 refine iF (oE (G6 (use:=N2<|cC (.Name y k) X.env) (g:=⟨V,M,t,0⟩) (gs:=jG) (Q:=λ_ B=>SP X a D .next B) O9 hs n4 S.kind S.names
  (thn (pi a s E H _ I h) λv s1 h1=>thn h1 λdg s2 h2=>?_)) (λ_ B hq=>iR<|iR hq) λ_ _ e=>e)
 obtain⟨it,fp,tn,J,H2,rfl,P,T,Z,f2,hw⟩:=h2;refine mx<|yG (RR:=λG C=>wT (ai X.prog X.w) X.A X.xe (N2<|cC (.Name y k) X.env) (λ_ B=>SP X a D .next B) G C) (.inl ⟨_,_,_,_,rfl⟩) O9 S hc O9 l9 u6 k7 l5 P T Z f2 (P.lnew (t':=s2.toks) .nil<|by simp) hw λd cl' l H3 L σ' K n ff O q=>?_;obtain⟨m,hn,_⟩:=id O.loc;obtain⟨F,es,ep,ho,hd,hr⟩:=id hn;have R:Inv X a E L K:=Bs n ff O (DG ..);have r:l.heap.objs.size≠X.env.locals:=oD n.lt;have N:l.heap.objs.size∉X.fs:=λz=>n.nofs (jW _) z
 have W:Inv X (a++[(l.heap.objs.size,F)]) E L K:=R.pins_of λp U=>by
  rcases pJ.mp U with z|z
  .exact R.pin p (qj _ z)
  .rcases zf.mp z with rfl
   exact⟨ho,O.free,r,N,λv z=>by rw[hd] at z;cases z⟩
 show ah _ X.A (cC (.Name y k) X.env<|.ref d) _ _ _;refine thn (fR _ K E L (.ref d) (.ref d) _ W rfl q) λ_ s5 a'=>?_;obtain⟨σ5,H5,I5,q5⟩:=a';have pC:=I5.pin (l.heap.objs.size,F) (by simp);refine⟨m,⟨F,es,ep,pC.1,hd,hr⟩,λh' bz=>⟨σ5,H5,?_,q5⟩⟩;refine I5.unpinned.turned (it:=l.heap.objs.size) (t':=s5.toks) (λb o hb e=>by rw[bz.2 b hb];exact e) pC.2.1 r (.inr n.sz) (λx c Y z=>?_) λp U z=>?_
 .obtain⟨v,o,e,_⟩:=n.cell x c Y;exact absurd (ke e) (by rw[z];exact qk _)
 .obtain⟨e,_⟩:=n.pin p U;exact absurd (ke e) (by rw[z];exact qk _)
end
end L2
namespace PX
open L2
inductive OK where
 |dct|set|fn(i:Nat)|exc(c:Nat)
 deriving DecidableEq
inductive D where
 |non|bl(b:Bool)|int(i:Int)|str(x:aB)|tup(l:List D)|lst(l:List D)|oth(k:OK)(ks vs:List D)
mutual
/-- the hash of ints and of tuples of such -/
noncomputable def D.hash:D->Int
 | .int i=>px i
 | .tup l=>reduceHash<|sa<|D.hashL l
 |_=>0
noncomputable def D.hashL:List D->List Int
 |[]=>[]
 |d::l=>D.hash d::D.hashL l
end
noncomputable def kx:Key->D
 | .inl i=> .int i
 | .inr x=> .str x
def aaS(K:jb)(o:ey)(U:Nat):Prop:=o.cls= .ref U/\(∀a:iB,PySem.W.KitX K (.ref a) (.ref U) λh=>h.get? a=C o)/\ ∀n∈["int","bool","str","tuple","list","dict"],dN K (.ref U) (.type n)=C Y
def OthB(K:jb)(h:Option HO)(k:OK)(a c:List D)(b:List V):Prop:=
 match k with
 | .dct=>(∃kvs:List (Key×V),h=C (.dK kvs)/\a=kvs.map (λp=>kx p.1)/\b=kvs.map (·.2))\/
   (∃kvs:List (List Key×V),h=C (.dT kvs)/\a=kvs.map (λp=> .tup (p.1.map kx))/\b=kvs.map (·.2))
 | .set=>a=[]/\ ∃d:List (Int×V),h=C (.stt d)/\d.Perm ((D.hashL c).zip b)
 | .exc U=>(a=[]/\c=[]/\b=[])/\ ∃o,h=C (.frz o<|.own 0)/\aaS K o U
 |_=>False
def OthB.ex{K h k a vs us}(x:OthB K h k a vs us): ∃o,h=C o:=by
 cases k with
 |dct=>rcases x with⟨_,e,_⟩|⟨_,e,_⟩<;>exact⟨_,e⟩
 |set=>obtain⟨_,_,e,_⟩:=x;exact⟨_,e⟩
 |exc U=>obtain⟨_,_,e,_⟩:=x;exact⟨_,e⟩
 |_=>exact x.elim
def OthB.keep{K k a b us}(x:OthB K h k a b us)(c: ∀o,h=C o->h'=C o):OthB K h' k a b us:=by obtain⟨o,e⟩:=x.ex;rw[c o e,<-e];exact x
abbrev AP':=iB->Prop
def KT(K:jb)(a:iB)(c:List V):Prop:= ∃(o:ey) (b:mY) (n:Nat),K.lookup a=C o/\o.cls= .type "tuple"/\o.data= .seq b n/\b.size<=sizeLine/\Vals c b.toList
def KL(K:jb)(a:iB)(c:List V):Prop:= ∃(o:ey) (b:mY) (n:Nat),K.lookup a=C o/\o.cls= .type "list"/\o.dict=I/\o.data= .seq b n/\b.size<=sizeLine/\Vals c b.toList
def SqTO(K:jb)(U:Hp)(O:AP')(a:iB)(b:List V):Prop:=U a=C (.tup b)/\ ¬O a
def SqLO(K:jb)(U:Hp)(O:AP')(a:iB)(b:List V):Prop:=(Rd U a (.lst b)/\ ¬O a)\/KL K a b
def SqTO.sq{K U O a xs}(h:SqTO K U O a xs):SqT K U a xs:= .inl (.inl h.1)
def SqLO.sq{K U O a xs}(h:SqLO K U O a xs):SqL K U a xs:=h.elim (λz=> .inl z.1) .inr
def Rd.mono{a u}(h:Rd U a u)(k: ∀o,U a=C o->H' a=C o):Rd H' a u:=by
 rcases h with h|⟨o,h⟩
 .exact .inl (k _ h)
 .exact .inr ⟨o,k _ h⟩
def SqTO.mono{K U H'}{a xs}(h:SqTO K U O a xs)(k: ∀b o,U b=C o-> ¬O b->H' b=C o)(c: ∀b,U b≠I->O' b->O b):SqTO K H' O' a xs:=
 ⟨k a _ h.1 h.2,λz=>h.2<|c a (by rw[h.1];simp) z⟩
def SqLO.mono{K U H'}{a xs}(h:SqLO K U O a xs)(k: ∀b o,U b=C o-> ¬O b->H' b=C o)(c: ∀b,U b≠I->O' b->O b):SqLO K H' O' a xs:=by
 rcases h with⟨r,n⟩|h
 .refine .inl ⟨Rd.mono r λo e=>k a o e n,λz=>n<|c a ?_ z⟩;rcases r with r|⟨_,r⟩<;>(rw[r];simp)
 .exact .inr h
mutual
/-- v is the datum,in H;nothing of it stands at an address of O -/
def Rep(K:jb)(U:Hp)(O:AP'):D->V->Prop
 | .non,v=>v= .non
 | .bl b,v=>v= .bl b
 | .int i,v=>v= .int i
 | .str x,v=>v= .str x
 | .tup l,v=> ∃a xs,v= .ref a/\SqTO K U O a xs/\RepL K U O l xs
 | .lst l,v=> ∃a xs,v= .ref a/\SqLO K U O a xs/\RepL K U O l xs
 | .oth k c vs,v=> ∃a us,v= .ref a/\(¬O a/\OthB K (U a) k c vs us)/\RepL K U O vs us
def RepL(K:jb)(U:Hp)(O:AP'):List D->List V->Prop
 |[],vs=>vs=[]
 |d::l,vs=> ∃v r,vs=v::r/\Rep K U O d v/\RepL K U O l r
end
mutual
theorem Rep.mono{K U H'}{O O':AP'}(k: ∀b o,U b=C o-> ¬O b->H' b=C o)(c: ∀b,U b≠I->O' b->O b): ∀{d:D} {v:V},Rep K U O d v->Rep K H' O' d v
 | .non,_,h=>h
 | .bl _,_,h=>h
 | .int _,_,h=>h
 | .str _,_,h=>h
 | .tup l,_,h=>by rw[Rep] at h ⊢;obtain⟨a,f,e,s,r⟩:=h;exact⟨a,f,e,s.mono k c,RepL.mono k c r⟩
 | .lst l,_,h=>by rw[Rep] at h ⊢;obtain⟨a,f,e,s,r⟩:=h;exact⟨a,f,e,s.mono k c,RepL.mono k c r⟩
 | .oth g i vs,_,h=>by rw[Rep] at h ⊢;obtain⟨a,us,e,s,r⟩:=h;exact⟨a,us,e,⟨λz=>s.1<|c a (by obtain⟨o,q⟩:=s.2.ex;rw[q];simp) z,s.2.keep λo q=>k a o q s.1⟩,RepL.mono k c r⟩
theorem RepL.mono{K U H'}{O O':AP'}(k: ∀b o,U b=C o-> ¬O b->H' b=C o)(a: ∀b,U b≠I->O' b->O b): ∀{l:List D} {vs:List V},RepL K U O l vs->RepL K H' O' l vs
 |[],_,h=>h
 |d::l,_,h=>by rw[RepL] at h ⊢;obtain⟨v,r,e,h1,c⟩:=h;exact⟨v,r,e,Rep.mono k a h1,RepL.mono k a c⟩
end
def Rep.mkInt{K U O i}:Rep K U O (.int i) (.int i):=by rw[Rep]
def Rep.mkBl{K U O i}:Rep K U O (.bl i) (.bl i):=by rw[Rep]
def Rep.mkNon{K U O}:Rep K U O .non .non:=by rw[Rep]
def Rep.mkStr{K U O i}:Rep K U O (.str i) (.str i):=by rw[Rep]
def Rep.int{K U O i v}(h:Rep K U O (.int i) v):v= .int i:=by rwa [Rep] at h
def Rep.bl{K U O i v}(h:Rep K U O (.bl i) v):v= .bl i:=by rwa [Rep] at h
def Rep.non{K U O v}(h:Rep K U O .non v):v= .non:=by rwa [Rep] at h
def Rep.str{K U O i v}(h:Rep K U O (.str i) v):v= .str i:=by rwa [Rep] at h
def Rep.tup{K U O l v}(h:Rep K U O (.tup l) v): ∃a b,v= .ref a/\SqTO K U O a b/\RepL K U O l b:=by rwa [Rep] at h
def Rep.lst{K U O l v}(h:Rep K U O (.lst l) v): ∃a xs,v= .ref a/\SqLO K U O a xs/\RepL K U O l xs:=by rwa [Rep] at h
def Rep.oth{K U O k b vs v}(h:Rep K U O (.oth k b vs) v): ∃a us,v= .ref a/\(¬O a/\OthB K (U a) k b vs us)/\RepL K U O vs us:=by rwa [Rep] at h
def Rep.mkOth{K U O k b vs a us}(n: ¬O a)(h:OthB K (U a) k b vs us)(r:RepL K U O vs us):Rep K U O (.oth k b vs) (.ref a):=by rw[Rep];exact⟨a,us,rfl,⟨n,h⟩,r⟩
def Rep.mkTup{K U O l a xs}(h:SqTO K U O a xs)(r:RepL K U O l xs):Rep K U O (.tup l) (.ref a):=by rw[Rep];exact⟨a,xs,rfl,h,r⟩
def Rep.mkLst{K U O l a xs}(h:SqLO K U O a xs)(r:RepL K U O l xs):Rep K U O (.lst l) (.ref a):=by rw[Rep];exact⟨a,xs,rfl,h,r⟩
theorem RepL.length{K U O}: ∀{l:List D} {vs:List V},RepL K U O l vs->Ps vs=Ps l
 |[],vs,h=>by rw[RepL] at h;rw[h];rfl
 |d::l,vs,h=>by rw[RepL] at h;obtain⟨v,r,rfl,_,a⟩:=h;simp[RepL.length a]
theorem RepL.get{K U O}: ∀{l:List D} {a:List V} {i:Nat} {d:D},RepL K U O l a->l[i]?=C d-> ∃v,a[i]?=C v/\Rep K U O d v
 |[],_,_,_,_,e=>by simp at e
 |d::l,a,0,b,h,e=>by rw[RepL] at h;obtain⟨v,r,rfl,h1,_⟩:=h;simp at e;subst e;exact⟨v,rfl,h1⟩
 |d::l,a,i+1,b,h,e=>by rw[RepL] at h;obtain⟨v,r,rfl,_,c⟩:=h;obtain⟨w,f,g⟩:=RepL.get (i:=i) c (by simpa using e);exact⟨w,by simpa using f,g⟩
def RepL.append{K U O}: ∀{l m:List D} {a c:List V},RepL K U O l a->RepL K U O m c->RepL K U O (l++m) (a++c):=by
 intro g
 induction g with
 |nil=>intro _ a _ h b;rw[RepL] at h;subst h;exact b
 |cons d l f=>intro _ a _ h b;rw[RepL] at h;obtain⟨v,r,rfl,h1,e⟩:=h;show RepL K U O (d::(l++_)) _;rw[RepL];exact⟨v,_,rfl,h1,f e b⟩
def RepL.one{K U O}{d:D}{v:V}(h:Rep K U O d v):RepL K U O [d] [v]:=by rw[RepL];exact⟨v,[],rfl,h,by rw[RepL]⟩
def RepL.nil{K U O}:RepL K U O [] []:=by rw[RepL]
def RepL.cons{K U O}{l vs}(h:Rep K U O d v)(a:RepL K U O l vs):RepL K U O (d::l) (v::vs):=by rw[RepL];exact⟨v,vs,rfl,h,a⟩
theorem RepL.take{K U O}: ∀{l:List D} {a:List V} (n:Nat),RepL K U O l a->RepL K U O (l.take n) (a.take n)
 |_,_,0,_=>by simp[RepL]
 |[],a,n+1,h=>by rw[RepL] at h;subst h;simp[RepL]
 |d::l,a,n+1,h=>by rw[RepL] at h;obtain⟨v,r,rfl,h1,b⟩:=h;exact RepL.cons h1<|RepL.take n b
theorem RepL.drop{K U O}: ∀{l:List D} {a:List V} (n:Nat),RepL K U O l a->RepL K U O (l.drop n) (a.drop n)
 |_,_,0,h=>h
 |[],a,n+1,h=>by rw[RepL] at h;subst h;simp[RepL]
 |d::l,a,n+1,h=>by rw[RepL] at h;obtain⟨v,r,rfl,h1,b⟩:=h;exact RepL.drop n b
theorem RepL.set{K U O}{d:D}{v:V}(hv:Rep K U O d v): ∀{l:List D} {vs:List V} (i:Nat),RepL K U O l vs->RepL K U O (l.set i d) (vs.set i v)
 |[],vs,i,h=>by rw[RepL] at h;subst h;simp[RepL]
 |e::l,vs,0,h=>by rw[RepL] at h;obtain⟨w,r,rfl,h1,a⟩:=h;exact RepL.cons hv a
 |e::l,vs,i+1,h=>by rw[RepL] at h;obtain⟨w,r,rfl,h1,a⟩:=h;exact RepL.cons h1<|RepL.set hv i a
abbrev Sl:=Option<|D×Bool
abbrev Dn:=List Sl
def OwnA(b:L2.St)(δ:Dn)(a:iB):Prop:= ∃(i:Nat) (d:D),δ[i]?=C (C (d,J))/\b[i]?=C (C<|V.ref a)
def OwnOk(K:jb)(U:Hp)(O:AP'):D->iB->Prop
 | .lst l,a=> ∃d,U a=C (.lst d)/\RepL K U O l d
 | .oth k e c,a=> ∃b,OthB K (U a) k e c b/\RepL K U O c b
 |_,_=>False
def OwnOk.mono{K U H'}(h:OwnOk K U O d a)(k: ∀b o,U b=C o-> ¬O b->H' b=C o)(c: ∀b,U b≠I->O' b->O b)(f: ∀o,U a=C o->H' a=C o):OwnOk K H' O' d a:=by
 cases d with
 |lst l=>obtain⟨g,e,r⟩:=h;exact⟨g,f _ e,RepL.mono k c r⟩
 |oth i j vs=>obtain⟨us,e,r⟩:=h;exact⟨us,e.keep f,RepL.mono k c r⟩
 |_=>exact h
def OwnOk.rep{K U}(h:OwnOk K U O d a)(f: ¬O' a)(c: ∀b,U b≠I->O' b->O b):Rep K U O' d (.ref a):=by
 cases d with
 |lst l=>obtain⟨g,e,r⟩:=h;rw[Rep];exact⟨a,g,rfl,.inl ⟨.inl e,f⟩,RepL.mono (λb o e _=>e) c r⟩
 |oth i j m=>obtain⟨k,e,r⟩:=h;exact Rep.mkOth f e<|RepL.mono (λb o e _=>e) c r
 |_=>exact h.elim
def Ow:Option HO->Prop
 |none=>False
 |some (.tup _)=>False
 |_=>True
def Ow.ne{o:Option HO}(h:Ow o):o≠I:=λe=>by rw[e] at h;exact h
def Ow.up{o a:Option HO}(h:Ow o)(k: ∀x,o=C x->a=C x):Ow a:=by
 cases o with
 |none=>exact h.elim
 |some x=>rw[k x H];exact h
def nOw{o:Option HO}(h:o=I): ¬Ow o:=λz=>z.ne h
def Ow.nt{o:Option HO}(h:Ow o)(a:List V):o≠C (.tup a):=λe=>by rw[e] at h;exact h
def OwnOk.ow{K T}{O:AP'}{d:D}{a:iB}(h:OwnOk K T O d a):Ow (T a):=by
 cases d with
 |lst l=>obtain⟨g,e,_⟩:=h;rw[e];trivial
 |oth k b f=>
  obtain⟨c,e,_⟩:=h
  cases k with
  |dct=>rcases e with⟨_,e,_⟩|⟨_,e,_⟩<;>(rw[e];trivial)
  |set=>obtain⟨_,_,e,_⟩:=e;rw[e];trivial
  |exc U=>obtain⟨_,_,e,_⟩:=e;rw[e];trivial
  |_=>exact e.elim
 |_=>exact h.elim
structure ER(K:jb)(H:Hp)(T:AP')(σ:L2.St)(δ:Dn):Prop where
 len:(Ps σ)=Ps δ
 val: ∀(i:Nat) (d:D),δ[i]?=N2 (N2 (d,O1))-> ∃v,σ[i]?=N2 (N2 v)/\Rep K H (λa=>OwnA σ δ a\/T a) d v
 own: ∀(i:Nat) (d:D),δ[i]?=N2 (N2 (d,O0))-> ∃a,σ[i]?=N2 (N2<|V.ref a)/\OwnOk K H (λa=>OwnA σ δ a\/T a) d a
 inj: ∀(i j:Nat) (d e:D) (a:iB),δ[i]?=N2 (N2 (d,O0))->δ[j]?=N2 (N2 (e,O0))->σ[i]?=N2 (N2<|V.ref a)->σ[j]?=N2 (N2<|V.ref a)->i=j
 nT: ∀a,OwnA σ δ a-> ¬T a
 dom: ∀a,T a->Ow (H a)
def ER.ownOw{K U T σ e}(E:ER K U T σ e)(h:OwnA σ e a):Ow (U a):=by obtain⟨i,d,h1,f⟩:=h;obtain⟨b,c,g⟩:=E.own i d h1;rw[f] at c;cases c;exact g.ow
def ER.ownDom{K U T σ δ}(E:ER K U T σ δ)(h:OwnA σ δ a):U a≠I:=(E.ownOw h).ne
def ER.mono{K U H' σ δ}(E:ER K U T σ δ)(k: ∀b o,U b=C o-> ¬T b->H' b=C o)(f: ∀b,U b≠I->T' b->T b)(hd: ∀a,T' a->Ow (H' a)):ER K H' T' σ δ where
 len:=E.len
 val:=λi d h=>by obtain⟨v,h1,c⟩:=E.val i d h;exact⟨v,h1,Rep.mono (λb o e n=>k b o e λz=>n<|.inr z) (λb g z=>z.elim .inl λz=> .inr (f b g z)) c⟩
 own:=λi d h=>by obtain⟨a,h1,c⟩:=E.own i d h;exact⟨a,h1,c.mono (λb o e n=>k b o e λz=>n<|.inr z) (λb g z=>z.elim .inl λz=> .inr (f b g z)) λo e=>k a o e<|E.nT a ⟨i,d,h,h1⟩⟩
 inj:=E.inj
 nT:=λa h z=>E.nT a h<|f a (E.ownDom h) z
 dom:=hd
def OwnA.set(h:OwnA σ (δ.set i<|C (d,Y)) a):OwnA σ δ a:=by
 obtain⟨j,e,h1,b⟩:=h;rw[Aa] at h1;split at h1
 .split at h1<;>simp at h1
 .exact⟨j,e,h1,b⟩
def ER.freeze{K U T σ m}(E:ER K U T σ m){i:Nat}{d:D}{b:Bool}(h:m[i]?=C (C (d,b))):ER K U T σ (m.set i<|C (d,Y))/\ ∃v,σ[i]?=C (C v)/\Rep K U (λa=>OwnA σ (m.set i<|C (d,Y)) a\/T a) d v:=by
 have o:i<(Ps m):=(rQ.mp h).1
 have p: ∃v,σ[i]?=C (C v)/\Rep K U (λa=>OwnA σ (m.set i<|C (d,Y)) a\/T a) d v:=by
  cases b with
  |false=>obtain⟨v,h1,l⟩:=E.val i d h;exact⟨v,h1,Rep.mono (λ_ _ e _=>e) (λb _ z=>z.elim (λz=> .inl z.set) .inr) l⟩
  |true=>
   obtain⟨a,h1,l⟩:=E.own i d h;refine⟨.ref a,h1,l.rep (λz=>?_) λb _ z=>z.elim (λz=> .inl z.set) .inr⟩;rcases z with⟨j,e,n,q⟩|z
   .rw[Aa] at n;split at n
    .first
      |(split at n<;>simp at n)
      |simp at n
    .rename_i r;exact r<|E.inj i j d e a h n h1 q
   .exact E.nT a ⟨i,d,h,h1⟩ z
 refine⟨⟨by rw[wo];exact E.len,λj e c=>?_,λj e c=>?_,λj k e f a c hk h1 l=>?_,λa z=>E.nT a z.set,E.dom⟩,p⟩
 .by_cases g:i=j
  .subst g;rw[oF o] at c;cases c;exact p
  .rw[oP g] at c;obtain⟨v,h1,l⟩:=E.val j e c;exact⟨v,h1,Rep.mono (λ_ _ e _=>e) (λb _ z=>z.elim (λz=> .inl z.set) .inr) l⟩
 .by_cases g:i=j
  .subst g;rw[oF o] at c;cases c
  .rw[oP g] at c;obtain⟨a,h1,l⟩:=E.own j e c;exact⟨a,h1,l.mono (λ_ _ e _=>e) (λb _ z=>z.elim (λz=> .inl z.set) .inr) λ_ e=>e⟩
 .have g1:m[j]?=C (C (e,J)):=by
   by_cases g:i=j
   .subst g;rw[oF o] at c;cases c
   .rwa [oP g] at c
  have g2:m[k]?=C (C (f,J)):=by
   by_cases g:i=k
   .subst g;rw[oF o] at hk;cases hk
   .rwa [oP g] at hk
  exact E.inj j k e f a g1 g2 h1 l
def OwnI(b:L2.St)(δ:Dn)(i:Nat)(a:iB):Prop:= ∃d:D,δ[i]?=C (C (d,J))/\b[i]?=C (C<|V.ref a)
structure Keep(σ:L2.St)(δ:Dn)(H:Hp)(δ':Dn)(H':Hp):Prop where
 kp: ∀a o,H a=N2 o-> ¬OwnA σ δ a->H' a=N2 o
 owi: ∀i a,OwnI σ δ' i a->OwnI σ δ i a
 dm: ∀a,H a≠Op->H' a≠Op
def Keep.ow{σ c U b f}(k:Keep σ c U b f)(a:iB)(h:OwnA σ b a):OwnA σ c a:=by obtain⟨i,d,h1,g⟩:=h;obtain⟨e,j,l⟩:=k.owi i a ⟨d,h1,g⟩;exact⟨i,e,j,l⟩
def Keep.refl{σ a U}:Keep σ a U a U:=⟨λ_ _ e _=>e,λ_ _ z=>z,λ_ z=>z⟩
def Keep.trans{σ δ δ1 δ2 U H1 b}(x:Keep σ δ U δ1 H1)(y:Keep σ δ1 H1 δ2 b):Keep σ δ U δ2 b:=
 ⟨λa o e n=>y.kp a o (x.kp a o e n) λz=>n<|x.ow a z,λi a z=>x.owi i a<|y.owi i a z,λa z=>y.dm a<|x.dm a z⟩
def Keep.ext{σ b U H1}(k: ∀a o,U a=C o->H1 a=C o):Keep σ b U b H1:=⟨λa o e _=>k a o e,λ_ _ z=>z,λa z=>by
 cases h:U a with
 |none=>exact absurd h z
 |some o=>rw[k a o h];simp⟩
def OwnI.set(h:OwnI σ (δ.set i<|C (d,Y)) j a):OwnI σ δ j a:=by
 obtain⟨e,h1,b⟩:=h;rw[Aa] at h1;split at h1
 .split at h1<;>simp at h1
 .exact⟨e,h1,b⟩
def Keep.set{σ δ U i d}:Keep σ δ U (δ.set i<|C (d,Y)) U:=⟨λ_ _ e _=>e,λ_ _ z=>z.set,λ_ z=>z⟩
def Post(K:jb)(T:AP')(c:L2.St)(e:Dn)(U:Hp)(r:D×Bool)(b:Dn)(v:V)(H':Hp):Prop:=
 Keep c e U b H'/\
 match r with
 |(d,Y)=>ER K H' T c b/\Rep K H' (λa=>OwnA c b a\/T a) d v
 |(d,J)=> ∃p,v= .ref p/\U p=I/\ER K H' (λa=>T a\/a=p) c b/\OwnOk K H' (λa=>OwnA c b a\/T a\/a=p) d p
abbrev F:=Dn->Option ((D×Bool)×Dn)
def tF(K:jb)(f:F):TE:=λd U Q=> ∃b T r a,ER K U T d b/\f b=C (r,a)/\ ∀v c,Post K T d b U r a v c->Q v c
def PX(X:Cx)(e:iK)(f:F):Prop:=PE X e<|tF X.K f
noncomputable def Tmp(T:AP')(r:D×Bool)(v:V):AP':=λa=>T a\/(r.2=J/\v= .ref a)
section
variable {K:jb}{T:AP'}{c:L2.St}{δ δ1 δ2:Dn}{H f g:Hp}{x y:D×Bool}{v u:V}
def Post.er(E:ER K H T c δ)(P:Post K T c δ H x δ1 v f):ER K f (Tmp T x v) c δ1:=by
 obtain⟨d,b⟩:=x
 cases b with
 |false=>
  refine P.2.1.mono (λ_ _ e _=>e) (λb _ z=>z.elim id λz=>absurd z.1<|by simp) λa z=>?_;rcases z with z|z
  .exact P.2.1.dom a z
  .exact absurd z.1 (by simp)
 |true=>
  obtain⟨p,rfl,i,h,j⟩:=P.2;refine h.mono (λ_ _ e _=>e) (λb _ z=>z.elim .inl λz=> .inr (by have:=z.2;cases this;rfl)) λa z=>?_;rcases z with z|z
  .exact h.dom a (.inl z)
  .have:=z.2;cases this;exact h.dom _ (.inr O9)
def Post.rep(E:ER K H T c δ)(P:Post K T c δ H x δ1 v f):ER K f T c δ1/\Rep K f (λa=>OwnA c δ1 a\/T a) x.1 v:=by
 obtain⟨d,b⟩:=x
 cases b with
 |false=>exact P.2
 |true=>
  obtain⟨p,rfl,i,h,j⟩:=P.2;refine⟨h.mono (λ_ _ e _=>e) (λb _ z=> .inl z) λa z=>h.dom a<|.inl z,j.rep (λz=>?_) λb _ z=>z.elim .inl λz=> .inr (.inl z)⟩;rcases z with z|z
  .exact h.nT p z (.inr O9)
  .exact(E.dom p z).ne i
def Post.val(k:Keep c δ H δ2 g)(E:ER K g T c δ2)(r:Rep K g (λa=>OwnA c δ2 a\/T a) d w):Post K T c δ H (d,Y) δ2 w g:=⟨k,E,r⟩
end
def jc{e f:Type}{a c:e}{b d:f}(h:C (a,b)=C (c,d)):a=c/\b=d:=by cases h;exact⟨rfl,rfl⟩
noncomputable def fC(d:D):F:=λδ=>C ((d,Y),δ)
noncomputable def jS(i:Nat):F:=λδ=>match δ[i]? with
 |some (C (d,_))=>C ((d,Y),δ.set i<|C (d,Y))
 |_=>I
section
variable {X:Cx}{a b c:iK}{d:bB}{m l g:F}
def PX.imp(h:PE X e t)(k: ∀j T Q,tF X.K f j T Q->t j T Q):PX X e f:=λi s j T Q U n=>h i s j T Q U<|k j T Q n
def Tv{i j}:PX X (.Constant (.bool i) j d) (fC<|.bl i):=PX.imp Yv λo U Q h=>by obtain⟨n,T,r,f,E,e,k⟩:=h;cases e;exact k _ _ (Post.val .refl E (by first|exact Rep.mkInt|exact Rep.mkBl|exact Rep.mkNon|exact Rep.mkStr))
end
inductive Opd where
 |val(r:D×Bool)|slot(i:Nat)
noncomputable def res(a:Dn):Opd->Option D
 | .val r=>C r.1
 | .slot i=>match a[i]? with
  |some (C (d,_))=>C d
  |_=>I
def kM(K:jb)(U:Hp)(O:AP')(d:D)(v:V):Prop:=Rep K U O d v\/ ∃a,v= .ref a/\OwnOk K U O d a
abbrev FO:=Dn->Option (Opd×Dn)
def PostO(K:jb)(T:AP')(b:L2.St)(d:Dn)(U:Hp)(o:Opd)(a:Dn)(v:V)(c:Hp):Prop:=
 match o with
 | .val r=>Post K T b d U r a v c
 | .slot i=>Keep b d U a c/\ER K c T b a/\b[i]?=C (C v)
noncomputable def BH(T:AP')(o:Opd)(v:V):AP':=match o with
 | .val r=>Tmp T r v
 | .slot _=>T
def tO(K:jb)(f:FO):TE:=λd U Q=> ∃b T o a,ER K U T d b/\f b=C (o,a)/\ ∀v c,PostO K T d b U o a v c->Q v c
def PO(X:Cx)(e:iK)(f:FO):Prop:=PE X e<|tO X.K f
noncomputable def iJ(f:F):FO:=λδ=>(f δ).bind λp=>C (.val p.1,p.2)
noncomputable def iC(i:Nat):FO:=λδ=>match δ[i]? with
 |some (C _)=>C (.slot i,δ)
 |_=>I
def PE.imp'(h:PE X e t)(k: ∀b T Q,d b T Q->t b T Q):PE X e d:=λa s b T Q U c=>h a s b T Q U<|k b T Q c
section
variable {X:Cx}{a:bB}
def PX.po(h:PX X e f):PO X e (iJ f):=PE.imp' h λj U Q g=>by
 obtain⟨c,T,o,i,E,e,k⟩:=g;unfold iJ at e
 cases h1:f c with
 |none=>rw[h1] at e;cases e
 |some p=>obtain⟨r,b⟩:=p;rw[h1] at e;obtain⟨rfl,rfl⟩:=jc e;exact⟨c,T,r,b,E,h1,λv d P=>k v d P⟩
end
structure Ops(K:jb)(T:AP')(σ:L2.St)(δ:Dn)(H:Hp)(os:List Opd)(vs:List V)(δ':Dn)(H':Hp)(T':AP'):Prop where
 len:os.length=Ps vs
 keep:Keep σ δ H δ' H'
 er:ER K H' T' σ δ'
 tt: ∀a,T a->T' a
 val: ∀(j:Nat) (d:D) (v:V),os[j]?=N2 (.val (d,O1))->vs[j]?=N2 v->Rep K H' (λa=>OwnA σ δ' a\/T a) d v
 tmp: ∀(j:Nat) (d:D) (v:V),os[j]?=N2 (.val (d,O0))->vs[j]?=N2 v-> ∃p,v= .ref p/\T' p/\H p=Op/\OwnOk K H' (λa=>OwnA σ δ' a\/T a) d p
 slt: ∀(j i:Nat) (v:V),os[j]?=N2 (.slot i)->vs[j]?=N2 v->σ[i]?=N2 (N2 v)
section
variable {K:jb}{T T':AP'}{b:L2.St}{δ a c:Dn}{H H' e:Hp}{os:List Opd}{vs:List V}{o:Opd}{v:V}
def Ops.nil(E:ER K H T b δ):Ops K T b δ H [] [] δ H T:=⟨rfl,.refl,E,λ_ z=>z,λj d v h=>by simp at h,λj d v h=>by simp at h,λj i v h=>by simp at h⟩
def PostO.keep(P:PostO K T b δ H o a v H'):Keep b δ H a H':=by
 cases o with
 |val r=>exact P.1
 |slot i=>exact P.1
def PostO.er(E:ER K H T b δ)(P:PostO K T b δ H o a v H'):ER K H' (BH T o v) b a:=by
 cases o with
 |val r=>exact Post.er E P
 |slot i=>exact P.2.1
end
def Gen(K:jb)(U:Hp)(O:AP')(z:D×Bool)(Q:VK):Prop:=
 match z with
 |(d,Y)=> ∀w b,(∀a o,U a=C o->b a=C o)->Rep K b O d w->Q w b
 |(d,J)=> ∀p b,U p=I->(∀a o,U a=C o->b a=C o)->OwnOk K b (λa=>O a\/a=p) d p->Q (.ref p) b
section
variable {K:jb}{T m:AP'}{f:L2.St}{δ δ1 c δ2:Dn}{H s H' h:Hp}{os:List Opd}{vs:List V}{o:Opd}{v:V}{z:D×Bool}{Q:VK}
def Ops.cons(E:ER K H T f δ)(P:PostO K T f δ H o δ1 v s)(B:Ops K (BH T o v) f δ1 s os vs δ2 h m):Ops K T f δ H (o::os) (v::vs) δ2 h m:=by
 have A:=P.er E;have x:=B.keep.kp;have y:=B.keep.ow
 have t: ∀a,T a->BH T o v a:=λa z=>by
  cases o with
  |val r=>exact .inl z
  |slot i=>exact z
 refine⟨by simp[B.len],P.keep.trans B.keep,B.er,λa z=>B.tt a<|t a z,λj d w h1 g=>?_,λj d w h1 g=>?_,λj i w h1 g=>?_⟩
 .cases j with
  |zero=>simp at h1 g;subst h1;subst g;have q:Post K T f δ H (d,Y) δ1 v s:=P;exact Rep.mono (λb k e n=>x b k e λz=>n<|.inl z) (λb _ z=>z.elim (λz=>bC<|y b z) bI) (q.rep E).2
  |succ j=>exact Rep.mono (λ_ _ e _=>e) (λb _ z=>z.elim bC λz=>bI<|t b z)<|B.val j d w (by simpa using h1) (by simpa using g)
 .cases j with
  |zero=>simp at h1 g;subst h1;subst g;have q:Post K T f δ H (d,J) δ1 v s:=P;obtain⟨p,rfl,u,O,ok⟩:=q.2;have l:BH T (.val (d,J)) (V.ref p) p:= .inr ⟨rfl,rfl⟩;refine⟨p,rfl,B.tt p l,u,ok.mono (λb k e n=>x b k e λz=>n<|.inl z) (λb _ z=>z.elim (λz=>bC<|y b z) λz=>bI<|bC z) λk e=>x p k e λz=>A.nT p z l⟩
  |succ j=>
   obtain⟨p,rfl,l,u,ok⟩:=B.tmp j d w (by simpa using h1) (by simpa using g);refine⟨p,rfl,l,?_,ok.mono (λ_ _ e _=>e) (λb _ z=>z.elim bC λz=>bI<|t b z) λ_ e=>e⟩
   cases U:H p with
   |none=>rfl
   |some k=>exact absurd u<|P.keep.dm p (by rw[U];simp)
 .cases j with
  |zero=>simp at h1 g;subst h1;subst g;exact P.2.2
  |succ j=>exact B.slt j i w (by simpa using h1) (by simpa using g)
def Ops.view(B:Ops K T f δ H os vs c H' m){j:Nat}{d:D}(h1:os[j]?=C o)(n:vs[j]?=C v)(g:res c o=C d):kM K H' (λa=>OwnA f c a\/T a) d v:=by
 cases o with
 |val r=>
  obtain⟨e,b⟩:=r;have hd:e=d:=kN g;subst hd
  cases b with
  |false=>exact .inl<|B.val j e v h1 n
  |true=>obtain⟨p,rfl,_,_,ok⟩:=B.tmp j e v h1 n;exact .inr ⟨p,rfl,ok⟩
 |slot i=>
  have u:=B.slt j i v h1 n;unfold res at g;dsimp only at g
  cases l:c[i]? with
  |none=>rw[l] at g;cases g
  |some q=>
   cases q with
   |none=>rw[l] at g;cases g
   |some p=>
    obtain⟨e,b⟩:=p;rw[l] at g;have hd:e=d:=kN g;subst hd
    cases b with
    |false=>obtain⟨w,k,t⟩:=B.er.val i e l;rw[u] at k;cases k;exact .inl<|Rep.mono (λ_ _ e _=>e) (λb _ z=>z.elim bC λz=>bI<|B.tt b z) t
    |true=>obtain⟨a,k,t⟩:=B.er.own i e l;rw[u] at k;cases k;exact .inr ⟨a,rfl,t.mono (λ_ _ e _=>e) (λb _ z=>z.elim bC λz=>bI<|B.tt b z) λ_ e=>e⟩
def Ops.done(B:Ops K T f δ H os vs c H' m)(k: ∀v h,Post K T f δ H z c v h->Q v h):Gen K H' (λa=>OwnA f c a\/T a) z Q:=by
 obtain⟨d,b⟩:=z;have i: ∀{h:Hp},(∀a o,H' a=C o->h a=C o)-> ∀a,T a->Ow (h a):=λ{h} g a z=>(B.er.dom a<|B.tt a z).up<|g a
 cases b with
 |false=>intro w h g r;exact k w h ⟨B.keep.trans<|.ext g,B.er.mono (λb o e _=>g b o e) (λb _ z=>B.tt b z)<|i g,r⟩
 |true=>
  intro p h l g ok
  have j:H p=I:=by
   cases n:H p with
   |none=>rfl
   |some t=>exact absurd l<|B.keep.dm p (by rw[n];simp)
  refine k (.ref p) h ⟨B.keep.trans<|.ext g,p,rfl,j,B.er.mono (λb o e _=>g b o e) (λb q z=>z.elim (B.tt b) λz=>absurd (z▸l) q) λa z=>?_,ok.mono (λ_ _ e _=>e) (λb _ z=>?_) λ_ e=>e⟩
  .rcases z with z|z
   .exact i g a z
   .subst z;exact ok.ow
  .rcases z with z|z|z
   .exact bC (bC z)
   .exact bC (bI z)
   .exact bI z
def Gen.int(g:Gen K H O (.int i,Y) Q):Q (.int i) H:=g _ H (λ_ _ e=>e) Rep.mkInt
def Gen.bl(g:Gen K H O (.bl i,Y) Q):Q (.bl i) H:=g _ H (λ_ _ e=>e) Rep.mkBl
def mK{H:Hp}{p:iB}{o:HO}(b:H p=I): ∀a u,H a=C u->upd H p o a=C u:=λa u e=>by rw[jg (by intro z;subst z;rw[e] at b;cases b)];exact e
def Gen.lst{O:AP'}{l:List D}{xs:List V}{p:iB}(g:Gen K H O (.lst l,J) Q)(a:H p=I)(r:RepL K H O l xs):Q (.ref p) (upd H p<|.lst xs):=
 g p _ a (mK a) ⟨xs,jk,RepL.mono (λb o e _=>mK a b o e) (λb d z=>z.elim id λz=>absurd (z▸a) d) r⟩
def Gen.tup(g:Gen K H O (.tup l,Y) Q)(a:H p=I)(np: ¬O p)(r:RepL K H O l xs):Q (.ref p) (upd H p<|.tup xs):=
 g _ _ (mK a) (Rep.mkTup ⟨jk,np⟩<|RepL.mono (λb o e _=>mK a b o e) (λb d z=>z) r)
def Ops.np(B:Ops K T f δ H os vs c H' m)(a: ¬Ow (H' p)): ¬(OwnA f c p\/T p):=λz=>a<|z.elim (λz=>B.er.ownOw z) λz=>B.er.dom p<|B.tt p z
end
noncomputable def lB(g:D->Option (D×Bool))(a:FO):F:=λδ=>(a δ).bind λp=>(res p.2 p.1).bind λx=>(g x).bind λz=>C (z,p.2)
noncomputable def iU(g:D->D->Option (D×Bool))(fa fb:FO):F:=λδ=>(fa δ).bind λp=>(fb p.2).bind λq=>(res q.2 p.1).bind λx=>(res q.2 q.1).bind λy=>(g x y).bind λz=>C (z,q.2)
noncomputable def kF:List FO->Dn->Option (List Opd×Dn)
 |[],a=>C ([],a)
 |f::fs,a=>(f a).bind λp=>(kF fs p.2).bind λq=>C (p.1::q.1,q.2)
noncomputable def vP(a:Dn):List Opd->Option (List D)
 |[]=>C []
 |o::os=>(res a o).bind λd=>(vP a os).bind λl=>C (d::l)
noncomputable def jm(g:List D->Option (D×Bool))(fs:List FO):F:=λδ=>(kF fs δ).bind λp=>(vP p.2 p.1).bind λds=>(g ds).bind λz=>C (z,p.2)
def tA(K:jb)(fs:List FO):TA:=λe U Q=> ∃b T os a,ER K U T e b/\kF fs b=C (os,a)/\ ∀d c f,Ops K T e b U os d a c f->Q d c
section
variable {X:Cx}{e a b:iK}{m:kh}{i n:FO}{fs:List FO}{c:bB}
def iA{d g:Type}{x:Option d}{f:d->Option g}{b:g}(h:x.bind f=C b): ∃a,x=C a/\f a=C b:=by
 cases x with
 |none=>cases h
 |some a=>exact⟨a,rfl,h⟩
def aaQ(K:jb)(r:V->Hp->VK->Prop)(g:D->Option (D×Bool)):Prop:=
 ∀x z v U (O:AP') (Q:VK),(∀p,¬Ow (U p)-> ¬O p)->kM K U O x v->g x=C z->Gen K U O z Q->r v U Q
def WB(K:jb)(r:R2)(g:D->D->Option (D×Bool)):Prop:=
 ∀x y z v u U (O:AP') (Q:VK),(∀p,¬Ow (U p)-> ¬O p)->kM K U O x v->kM K U O y u->g x y=C z->Gen K U O z Q->r v u U Q
def aaP(K:jb)(r:List V->Hp->VK->Prop)(g:List D->Option (D×Bool)):Prop:=
 ∀ds z f U (O:AP') (Q:VK),(∀p,¬Ow (U p)-> ¬O p)->Ps ds=Ps f->(∀(j:Nat) d v,ds[j]?=C d->f[j]?=C v->kM K U O d v)->g ds=C z->Gen K U O z Q->r f U Q
def Vb{r:V->Hp->VK->Prop}{g:D->Option (D×Bool)}(h:PE X e (tUn r<|tO X.K i))(u:aaQ X.K r g):PX X e (lB g i):=PX.imp h λO N Q w=>by obtain⟨y,T,U,A,E,e,k⟩:=w;obtain⟨⟨o,d⟩,h1,e⟩:=iA e;obtain⟨x,q,e⟩:=iA e;obtain⟨z,s,e⟩:=iA e;obtain⟨rfl,rfl⟩:=jc e;refine⟨y,T,o,d,E,h1,λv l f=>?_⟩;have B:=Ops.cons E f<|Ops.nil<|f.er E;exact u x z v l _ Q (λp t=>B.np t) (B.view (j:=0) H H q) s (B.done k)
def Va{r:R2}{g:D->D->Option (D×Bool)}(h:PE X e (tOp r (tO X.K i)<|tO X.K n))(L:WB X.K r g):PX X e (iU g i n):=PX.imp h λY H Q O=>by obtain⟨J,T,U,M,E,e,k⟩:=O;obtain⟨⟨o,d⟩,h1,e⟩:=iA e;obtain⟨⟨G,l⟩,t,e⟩:=iA e;obtain⟨x,w,e⟩:=iA e;obtain⟨y,A,e⟩:=iA e;obtain⟨z,C,e⟩:=iA e;obtain⟨rfl,rfl⟩:=jc e;refine⟨J,T,o,d,E,h1,λv N f=>⟨d,BH T o v,G,l,f.er E,t,λu s q=>?_⟩⟩;have B:=Ops.cons E f<|Ops.cons (f.er E) q<|Ops.nil<|q.er<|f.er E;exact L x y z v u s _ Q (λp I=>B.np I) (B.view (j:=0) O9 O9 w) (B.view (j:=1) O9 O9 A) C (B.done k)
def zt:PA X [] (tA X.K []):=λc d s g O Q U h=>by obtain⟨j,T,os,f,E,e,k⟩:=h;obtain⟨rfl,rfl⟩:=jc e;exact sV c d s g O Q U<|k [] O T<|Ops.nil E
def sY(t:PO X e i)(u:PA X m (tA X.K fs))(w:ag (e::m) X.env=(Y,aU e X.env)::ag m X.env):PA X (e::m) (tA X.K (i::fs)):=λc d s z N Q O h=>by obtain⟨x,T,os,y,E,e,k⟩:=h;unfold kF at e;obtain⟨⟨o,f⟩,h1,e⟩:=iA e;obtain⟨⟨g,j⟩,r,e⟩:=iA e;obtain⟨rfl,rfl⟩:=jc e;exact nQ t u w c d s z N Q O ⟨x,T,o,f,E,h1,λv A l=>⟨f,BH T o v,g,j,l.er E,r,λU p q B=>k _ p q (Ops.cons E l B)⟩⟩
def oZ{k:Dn}: ∀{os:List Opd} {f:List D},vP k os=C f->Ps f=os.length/\ ∀(j:Nat) d,f[j]?=C d-> ∃o,os[j]?=C o/\res k o=C d:=by
 intro t
 induction t with
 |nil=>intro f h;cases h;exact⟨rfl,λj d h=>by simp at h⟩
 |cons o os s=>
  intro f h;unfold vP at h;obtain⟨d,h1,h⟩:=iA h;obtain⟨l,p,h⟩:=iA h;cases h;obtain⟨q,r⟩:=s p;refine⟨by simp[q],λj e g=>?_⟩
  cases j with
  |zero=>simp at g;subst g;exact⟨o,rfl,h1⟩
  |succ j=>obtain⟨u,v,w⟩:=r j e (by simpa using g);exact⟨u,by simpa using v,w⟩
def Rl{r:List V->Hp->VK->Prop}{g:List D->Option (D×Bool)}(h:PE X e (tCB r<|tA X.K fs))(U:aaP X.K r g):PX X e (jm g fs):=PX.imp h λN H Q I=>by obtain⟨O,T,M,G,E,e,k⟩:=I;obtain⟨⟨os,l⟩,h1,e⟩:=iA e;obtain⟨s,t,e⟩:=iA e;obtain⟨z,u,e⟩:=iA e;obtain⟨rfl,rfl⟩:=jc e;obtain⟨w,x⟩:=oZ t;refine⟨O,T,os,l,E,h1,λL q J B=>?_⟩;refine U s z L q _ Q (λp A=>B.np A) (w.trans B.len) (λj d v hd hv=>?_) u (B.done k);obtain⟨o,y,f⟩:=x j d hd;exact B.view y hv f
end
open PySem.SeqAt
mutual
/-- ==of data -/
noncomputable def D.eqb:D->D->Bool
 | .non,.non=>J
 | .bl a,.bl b=>a==b
 | .bl a,.int b=>(if a then 1 else 0)==b
 | .int a,.bl b=>a==(if b then 1 else 0)
 | .int a,.int b=>a==b
 | .str a,.str b=>a==b
 | .tup l,.tup m=>D.eqbL l m
 | .lst l,.lst m=>D.eqbL l m
 | .oth _ _ _,.oth _ _ _=>J
 |_,_=>Y
noncomputable def D.eqbL:List D->List D->Bool
 |[],[]=>J
 |a::l,b::m=>D.eqb a b&&D.eqbL l m
 |_,_=>Y
end
mutual
noncomputable def D.dep:D->Nat
 | .tup l=>D.depL l+1
 | .lst l=>D.depL l+1
 | .oth _ _ _=>20000
 |_=>0
noncomputable def D.depL:List D->Nat
 |[]=>0
 |d::l=>max (D.dep d)<|D.depL l
end
mutual
theorem D.eqb_refl: ∀d:D,D.eqb d d=J
 | .non=>rfl
 | .bl a=>by simp[D.eqb]
 | .int a=>by simp[D.eqb]
 | .str a=>by simp[D.eqb]
 | .tup l=>by rw[D.eqb];exact D.eqbL_refl l
 | .lst l=>by rw[D.eqb];exact D.eqbL_refl l
 | .oth _ _ _=>by rw[D.eqb]
theorem D.eqbL_refl: ∀l:List D,D.eqbL l l=J
 |[]=>rfl
 |d::l=>by rw[D.eqbL,D.eqb_refl d,D.eqbL_refl l];rfl
end
theorem D.dep_mem{d:D}: ∀{l:List D} {j:Nat},l[j]?=C d->d.dep<=D.depL l
 |[],j,h=>by simp at h
 |e::l,0,h=>by simp at h;subst h;rw[D.depL];exact Nat.le_max_left _ _
 |e::l,j+1,h=>by rw[D.depL];exact lI (D.dep_mem<|by simpa using h)<|Nat.le_max_right _ _
noncomputable def tK(l m:List D)(j:Nat):Bool:=match l[j]?,m[j]? with
 |some d,C e=>D.eqb d e
 |_,_=>J
theorem nM: ∀l m:List D,((aj<|min (Ps l)<|Ps m).all (tK l m)&&(Ps l)==Ps m)=D.eqbL l m
 |[],[]=>rfl
 |[],e::m=>by simp[D.eqbL]
 |d::l,[]=>by simp[D.eqbL]
 |d::l,e::m=>by
  rw[D.eqbL,<-nM l m];simp only[mw,Nat.succ_min_succ,dL,eJ,si,uI];have a:tK (d::l) (e::m) 0=D.eqb d e:=rfl;have h1:(λx=>tK (d::l) (e::m)<|Nat.succ x)=tK l m:=by funext x;simp[tK]
  rw[a];simp only[h1,Bool.and_assoc]
  congr 2
  simp
section
variable {X:Cx}{pins:jr}{σ:L2.St}{H:Hp}{s:iI}
def lY(h:kM X.K H O (.tup l) v): ∃a b,v= .ref a/\SqT X.K H a b/\RepL X.K H O l b:=by
 rcases h with h|⟨a,rfl,h⟩
 .obtain⟨a,b,e,q,r⟩:=h.tup;exact⟨a,b,e,q.sq,r⟩
 .exact h.elim
def kO(h:kM X.K H O (.lst l) v): ∃a b,v= .ref a/\SqL X.K H a b/\RepL X.K H O l b:=by
 rcases h with h|⟨a,rfl,h⟩
 .obtain⟨a,b,e,q,r⟩:=h.lst;exact⟨a,b,e,q.sq,r⟩
 .obtain⟨b,e,r⟩:=h;exact⟨a,b,rfl,.inl<|.inl e,r⟩
def RepL.views{O:AP'}{l:List D}{b:List V}(r:RepL X.K H O l b){j:Nat}{d:D}{v:V}(h1:l[j]?=C d)(c:b[j]?=C v):Rep X.K H O d v:=by obtain⟨w,a,e⟩:=r.get h1;rw[c] at a;cases a;exact e
def Oi(T:Inv X pins σ H s)(h:OthB X.K (H a) k l i us): ∃o,s.heap.get? a=C o/\(o.cls= .type "dict"\/o.cls= .type "set"\/ ∃U,o.cls= .ref U):=by
 cases k with
 |dct=>
  rcases h with⟨b,e,_⟩|⟨b,e,_⟩
  .obtain⟨_,_,i,_,o,d,g,h1,c,_⟩:=(show ObjOk X.prog X.w H s.heap a (.dK b) from T.hok a _ e)
   exact⟨o,h1,.inl c.1⟩
  .obtain⟨_,_,m,_,o,d,g,h1,c,_⟩:=(show ObjOk X.prog X.w H s.heap a (.dT b) from T.hok a _ e)
   exact⟨o,h1,.inl c.1⟩
 |set=>
  obtain⟨_,j,e,_⟩:=h;obtain⟨d,n,t,h1,_⟩:=(show ObjOk X.prog X.w H s.heap a (.stt j) from T.hok a _ e)
  exact⟨_,h1,.inr<|.inl O9⟩
 |exc U=>
  obtain⟨_,o,e,h1,_⟩:=h;obtain⟨f,_⟩:=(show ObjOk X.prog X.w H s.heap a (.frz o<|.own 0) from T.hok a _ e)
  exact⟨o,f,.inr<|.inr ⟨U,h1⟩⟩
 |_=>exact h.elim
def Ff(U:Inv X pins σ H s)(h1:SqT X.K H a xs)(f:SqL X.K H a k):False:=by obtain⟨g,_,⟨o,e,c,_⟩,_⟩:=U.tuple h1;obtain⟨h,_,⟨j,i,d,b,_⟩,_⟩:=U.list f;rw[e] at d;cases d;rw[c] at b;exact absurd b (by simp)
def RG(T:Inv X pins σ H s)(h1:SqT X.K H a xs)(f:OthB X.K (H a) k h j us):False:=by obtain⟨g,_,⟨o,e,c,_⟩,_⟩:=T.tuple h1;obtain⟨i,d,b⟩:=Oi T f;rw[e] at d;cases d;rw[c] at b;rcases b with b|b|⟨U,b⟩<;>exact absurd b (by simp)
def RH(T:Inv X pins σ H s)(h1:SqL X.K H a xs)(f:OthB X.K (H a) k h j us):False:=by obtain⟨g,_,⟨o,n,e,c,_⟩,_⟩:=T.list h1;obtain⟨i,d,b⟩:=Oi T f;rw[e] at d;cases d;rw[c] at b;rcases b with b|b|⟨U,b⟩<;>exact absurd b (by simp)
mutual
theorem Rep.inj(U:Inv X pins σ H s): ∀{d e:D} {v:V},d.dep<20000->Rep X.K H O d v->Rep X.K H u e v->d=e
 | .non,e,v,i,h,c=>by
  have:=h.non;subst this
  cases e with
  |non=>rfl
  |bl b=>have:=c.bl;cases this
  |int b=>have:=c.int;cases this
  |str b=>have:=c.str;cases this
  |tup m=>obtain⟨a,f,z,_⟩:=c.tup;cases z
  |lst m=>obtain⟨a,f,z,_⟩:=c.lst;cases z
  |oth m n o=>obtain⟨a,f,z,_⟩:=c.oth;cases z
 | .bl b,e,v,i,h,c=>by
  have:=h.bl;subst this
  cases e with
  |non=>have:=c.non;cases this
  |bl b=>have:=c.bl;cases this;rfl
  |int b=>have:=c.int;cases this
  |str b=>have:=c.str;cases this
  |tup m=>obtain⟨a,f,z,_⟩:=c.tup;cases z
  |lst m=>obtain⟨a,f,z,_⟩:=c.lst;cases z
  |oth m n o=>obtain⟨a,f,z,_⟩:=c.oth;cases z
 | .int b,e,v,i,h,c=>by
  have:=h.int;subst this
  cases e with
  |non=>have:=c.non;cases this
  |bl b=>have:=c.bl;cases this
  |int b=>have:=c.int;cases this;rfl
  |str b=>have:=c.str;cases this
  |tup m=>obtain⟨a,f,z,_⟩:=c.tup;cases z
  |lst m=>obtain⟨a,f,z,_⟩:=c.lst;cases z
  |oth m n o=>obtain⟨a,f,z,_⟩:=c.oth;cases z
 | .str b,e,v,i,h,c=>by
  have:=h.str;subst this
  cases e with
  |non=>have:=c.non;cases this
  |bl b=>have:=c.bl;cases this
  |int b=>have:=c.int;cases this
  |str b=>have:=c.str;cases this;rfl
  |tup m=>obtain⟨a,f,z,_⟩:=c.tup;cases z
  |lst m=>obtain⟨a,f,z,_⟩:=c.lst;cases z
  |oth m n o=>obtain⟨a,f,z,_⟩:=c.oth;cases z
 | .tup l,e,v,i,h,c=>by
  rw[D.dep] at i;obtain⟨a,f,rfl,q,r⟩:=h.tup
  cases e with
  |non=>have:=c.non;cases this
  |bl b=>have:=c.bl;cases this
  |int b=>have:=c.int;cases this
  |str b=>have:=c.str;cases this
  |tup m=>obtain⟨k,p,z,g,j⟩:=c.tup;cases z;have:=U.tuple_inj q.sq g.sq;subst this;rw[RepL.inj U (by lia) r j]
  |lst m=>obtain⟨k,p,z,g,j⟩:=c.lst;cases z;exact(Ff U q.sq g.sq).elim
  |oth m n o=>obtain⟨k,t,z,g,j⟩:=c.oth;cases z;exact(RG U q.sq g.2).elim
 | .lst l,e,v,i,h,c=>by
  rw[D.dep] at i;obtain⟨a,f,rfl,q,r⟩:=h.lst
  cases e with
  |non=>have:=c.non;cases this
  |bl b=>have:=c.bl;cases this
  |int b=>have:=c.int;cases this
  |str b=>have:=c.str;cases this
  |tup m=>obtain⟨k,p,z,g,j⟩:=c.tup;cases z;exact(Ff U g.sq q.sq).elim
  |lst m=>obtain⟨k,p,z,g,j⟩:=c.lst;cases z;have:=U.list_inj q.sq g.sq;subst this;rw[RepL.inj U (by lia) r j]
  |oth m n o=>obtain⟨k,t,z,g,j⟩:=c.oth;cases z;exact(RH U q.sq g.2).elim
 | .oth _ _ _,e,v,i,h,c=>by rw[D.dep] at i;lia
theorem RepL.inj(U:Inv X pins σ H s){O b:AP'}: ∀{l m:List D} {vs:List V},D.depL l<20000->RepL X.K H O l vs->RepL X.K H b m vs->l=m
 |[],m,vs,_,h,a=>by
  rw[RepL] at h;subst h
  cases m with
  |nil=>rfl
  |cons e m=>rw[RepL] at a;obtain⟨_,_,z,_⟩:=a;cases z
 |d::l,m,vs,i,h,a=>by
  rw[D.depL] at i;rw[RepL] at h;obtain⟨v,r,rfl,h1,c⟩:=h
  cases m with
  |nil=>rw[RepL] at a;cases a
  |cons e m=>rw[RepL] at a;obtain⟨k,j,z,f,g⟩:=a;cases z;rw[Rep.inj U (by lia) h1 f,RepL.inj U (by lia) c g]
end
def xb(h:kM X.K H O d v)(hd:d.dep=0)(nt: ∀l,d≠ .tup l)(b: ∀l,d≠ .lst l):Rep X.K H O d v:=by
 rcases h with h|⟨a,rfl,h⟩
 .exact h
 .cases d with
  |lst l=>exact absurd O9<|b l
  |oth _ _ _=>rw[D.dep] at hd;lia
  |_=>exact h.elim
inductive Sh(X:Cx)(H:Hp)(s:iI)(O:AP'):D->V->iO->Prop
 |non:Sh X H s O .non .non .none
 |bl (b:Bool):Sh X H s O (.bl b) (.bl b) (.bool b)
 |int (i:Int) (t:m5):Sh X H s O (.int i) (.int i) (.int i t)
 |str (x:aB) (t:m5):Sh X H s O (.str x) (.str x) (.str x t)
 |tup {l:List D} {p:iB} {xs:List V} {its:jD} (q:SqT X.K H p xs) (r:RepL X.K H O l xs) (v:Vals xs its) (pl:hL s.heap p its.toArray):Sh X H s O (.tup l) (.ref p) (.ref p)
 |lst {l:List D} {p:iB} {xs:List V} {its:jD} (q:SqL X.K H p xs) (r:RepL X.K H O l xs) (v:Vals xs its) (pl:s.heap.IsList p its.toArray):Sh X H s O (.lst l) (.ref p) (.ref p)
def tU(U:Inv X pins σ H s)(h:kM X.K H O d v)(b:RelV v a)(i:d.dep<20000):Sh X H s O d v a:=by
 cases d with
 |oth m k n=>rw[D.dep] at i;omega
 |tup l=>obtain⟨p,j,rfl,q,r⟩:=lY h;cases b;obtain⟨e,g,f,_⟩:=U.tuple q;exact .tup q r g f
 |lst l=>obtain⟨p,j,rfl,q,r⟩:=kO h;cases b;obtain⟨e,g,f,_⟩:=U.list q;exact .lst q r g f.isList
 |non=>have:=(xb h O9 (by simp)<|by simp).non;subst this;cases b;exact .non
 |bl c=>have:=(xb h O9 (by simp)<|by simp).bl;subst this;cases b;exact .bl c
 |int c=>have:=(xb h O9 (by simp)<|by simp).int;subst this;obtain⟨t,rfl⟩:=b;exact .int c t
 |str c=>have:=(xb h O9 (by simp)<|by simp).str;subst this;obtain⟨t,rfl⟩:=b;exact .str c t
def CW(I:Inv X pins σ H s)(n:Nat)
  (ih: ∀(d e:D) (v u:V) (a b:iO) (O O':AP') (A:jf),kM X.K H O d v->kM X.K H O' e u->RelV v a->RelV u b->d.dep+1<=n->e.dep<20000->A.units+n<bi+1->EqAt A s a b (D.eqb d e)):
  ∀(d e:D) (v u:V) (a b:iO) (O O':AP') (A:jf),kM X.K H O d v->kM X.K H O' e u->RelV v a->RelV u b->d.dep<=n->e.dep<20000->A.units+n<bi->EqAt A s a b (D.eqb d e):=by
 intro d e v u a b O O' A hd he o t N t7 hA;have h:A.units<cLine:=by lia
 have n4:bi=9900:=rfl
 have L: ∀(l m:List D) (T G:List V) (c C':jD) (R S:AP'),D.depL l+1<=n->D.depL m<20000->RepL X.K H R l T->RepL X.K H S m G->Vals T c->Vals G C'->
   ∀j (h1:j<c.toArray.size) (Q:j<C'.toArray.size),EqAt A.in1 s c.toArray[j] C'.toArray[j] (tK l m j):=λl m T G c C' R S F P r1 i M k j h1 Q=>by
  have e1:=M.length;have e2:=k.length;have e3:=r1.length;have e4:=i.length;simp only[jx] at h1 Q;have hx:T[j]?=C T[j]:=jA (by lia);have hy:G[j]?=C G[j]:=jA (by lia);have Z:l[j]?=C l[j]:=jA (by lia);have W:m[j]?=C m[j]:=jA (by lia);obtain⟨w,w1,w2⟩:=M.get hx;obtain⟨w',w3,w4⟩:=k.get hy
  have i1:c.toArray[j]=w:=by have:c[j]?=C c[j]:=jA (by lia);rw[this] at w1;simpa using w1
  have i2:C'.toArray[j]=w':=by have:C'[j]?=C C'[j]:=jA (by lia);rw[this] at w3;simpa using w3
  rw[i1,i2];have hj:tK l m j=D.eqb l[j] m[j]:=by unfold tK;rw[Z,W]
  rw[hj];have aF:=D.dep_mem Z;have hdep2:=D.dep_mem W;exact ih _ _ _ _ _ _ R S A.in1 (.inl<|r1.views Z hx) (.inl<|i.views W hy) w2 w4 (by lia) (by lia) (by show A.units+1+n<bi+1;lia)
 have h1:=tU I hd o (by lia);have Q:=tU I he t t7
 cases h1 with
 |non=>
  cases Q with
  |non=>exact mC o t O9 O9
  |bl g=>exact mC o t O9 O9
  |int g x=>exact mC o t O9 O9
  |str g x=>exact mC o t O9 O9
  |tup B i k f=>exact EqAt.none_tuple f h
  |lst B i k f=>exact EqAt.none_list f h
 |bl J'=>
  cases Q with
  |non=>exact mC o t O9 O9
  |bl g=>exact mC o t O9 O9
  |int g x=>exact mC o t O9 O9
  |str g x=>exact mC o t O9 O9
  |tup B i k f=>exact EqAt.bool_tuple J' f h
  |lst B i k f=>exact EqAt.bool_list J' f h
 |int J' Y'=>
  cases Q with
  |non=>exact mC o t O9 O9
  |bl g=>exact mC o t O9 O9
  |int g x=>exact mC o t O9 O9
  |str g x=>exact mC o t O9 O9
  |tup B i k f=>exact EqAt.int_tuple J' Y' f h
  |lst B i k f=>exact EqAt.int_list J' Y' f h
 |str J' Y'=>
  cases Q with
  |non=>exact mC o t O9 O9
  |bl g=>exact mC o t O9 O9
  |int g x=>exact mC o t O9 O9
  |str g x=>exact mC o t O9 O9
  |tup B i k f=>exact EqAt.str_tuple J' Y' f h
  |lst B i k f=>exact EqAt.str_list J' Y' f h
 | @tup l p T c q r M y=>
  cases Q with
  |non=>exact EqAt.tuple_none y h
  |bl g=>exact EqAt.tuple_bool g y h
  |int g x=>exact EqAt.tuple_int g x y h
  |str g x=>exact EqAt.tuple_str g x y h
  | @tup m p2 G C' B i k f=>
   by_cases U:p=p2
   .subst U;have:=I.tuple_inj q B;subst this;rw[RepL.inj I (by rw[D.dep] at N;lia) r i,D.eqb_refl];exact gf _
   .refine .of_refs U ?_;have F:D.depL l+1<=n:=by rw[D.dep] at N;exact N
    have P:D.depL m<20000:=by rw[D.dep] at t7;lia
    have z:=RcAt.tuples y f h<|L l m T G c C' _ _ F P r i M k;have e1:=M.length;have e2:=k.length;have e3:=r.length;have e4:=i.length;simp only[jx] at z;rw[show c.length=l.length by lia,show C'.length=m.length by lia,nM] at z;rw[D.eqb];exact z
  |lst B i k f=>exact EqAt.tuple_list y f h
 | @lst l p T c q r M y=>
  cases Q with
  |non=>exact EqAt.list_none y h
  |bl g=>exact EqAt.list_bool g y h
  |int g x=>exact EqAt.list_int g x y h
  |str g x=>exact EqAt.list_str g x y h
  |tup B i k f=>exact EqAt.list_tuple y f h
  | @lst m p2 G C' B i k f=>
   by_cases U:p=p2
   .subst U;have:=I.list_inj q B;subst this;rw[RepL.inj I (by rw[D.dep] at N;lia) r i,D.eqb_refl];exact gf _
   .refine .of_refs U ?_;have F:D.depL l+1<=n:=by rw[D.dep] at N;exact N
    have P:D.depL m<20000:=by rw[D.dep] at t7;lia
    have e1:=M.length;have e2:=k.length;have e3:=r.length;have e4:=i.length;have al:=nM l m;by_cases E:l.length=m.length
    .have z:=RcAt.lists y f (by simp only[jx];lia) h<|L l m T G c C' _ _ F P r i M k;simp only[jx] at z;rw[show c.length=min l.length m.length by lia] at z;rw[D.eqb,<-al,E];rw[E] at z;simpa using z
    .have z:=RcAt.lists_lengths y f (by simp only[jx,bne_iff_ne,ne_eq];lia) h;rw[D.eqb,<-al];rw[show(l.length==m.length)=Y by simpa using E];simpa using z
def EE(U:Inv X pins σ H s): ∀(n:Nat) (d e:D) (v u:V) (a b:iO) (O c:AP') (A:jf),kM X.K H O d v->kM X.K H c e u->RelV v a->RelV u b->d.dep<=n->e.dep<20000->A.units+n<bi->EqAt A s a b (D.eqb d e):=by
 intro n
 induction n with
 |zero=>intro d e v u a b O c A hd f h i g j k;exact CW U 0 (λd e v u a b O c A hd f h i g j k=>absurd g<|by lia) d e v u a b O c A hd f h i g j k
 |succ n l=>intro d e v u a b O c A hd f h i g j k;exact CW U (n+1) (λd e v u a b O c A hd f h i g j k=>l d e v u a b O c A hd f h i (by lia) j<|by lia) d e v u a b O c A hd f h i g j k
end
section
variable {X:Cx}{c:jr}{f:L2.St}{H:Hp}{s:iI}
def Gi(I:Inv X c f H s){A:jf}{n:Nat}(U:A.units+n<bi): ∀(l m:List D) (d e:List V) (a b:jD) (g h:AP'),D.depL l+1<=n->D.depL m<20000->RepL X.K H g l d->RepL X.K H h m e->Vals d a->Vals e b->
   ∀j (h1:j<a.toArray.size) (p:j<b.toArray.size),EqAt A.in1 s a.toArray[j] b.toArray[j] (tK l m j):=λl m d e a b g h Y F t u v x j h1 p=>by
 have G:=v.length;have J:=x.length;have M:=t.length;have N:=u.length;simp only[jx] at h1 p;have q:d[j]?=N2 d[j]:=jA (by omega);have r:e[j]?=N2 e[j]:=jA (by omega);have k:l[j]?=N2 l[j]:=jA (by omega);have i:m[j]?=N2 m[j]:=jA (by omega);obtain⟨w,y,O⟩:=v.get q;obtain⟨L,z,Q⟩:=x.get r
 have C:a.toArray[j]=w:=by have:a[j]?=N2 a[j]:=jA (by omega);rw[this] at y;simpa using y
 have E:b.toArray[j]=L:=by have:b[j]?=N2 b[j]:=jA (by omega);rw[this] at z;simpa using z
 rw[C,E];have B:tK l m j=D.eqb l[j] m[j]:=by unfold tK;rw[k,i]
 rw[B];have T:=D.dep_mem k;have o:=D.dep_mem i;exact EE I (n-1) _ _ _ _ _ _ g h A.in1 (.inl<|t.views k q) (.inl<|u.views i r) O Q (by omega) (by omega) (by show A.units+1+(n-1)<bi;omega)
def UT(I:Inv X c f H s)(hd:kM X.K H O d v)(he:kM X.K H O' e u)(ra:RelV v a)(rb:RelV u b)(G:d.dep<=n)(N:e.dep<20000)(hA:A.units+n<bi):RcAt A s a b (D.eqb d e):=by
 have j:A.units<cLine:=by lia
 have B:=Gi I hA;have W:bi=9900:=rfl;have h1:=tU I hd ra (by lia);have L:=tU I he rb N
 cases h1 with
 |non=>
  cases L with
  |non=>exact RcAt.none_none
  |bl g=>exact RcAt.none_bool g
  |int g i=>exact RcAt.none_int g i
  |str g i=>exact RcAt.none_str g i
  |tup E o t h=>exact RcAt.none_tuple h j
  |lst E o t h=>exact RcAt.none_list h j
 |bl k=>
  cases L with
  |non=>exact RcAt.bool_none k
  |bl g=>exact RcAt.bool_bool k g
  |int g i=>exact RcAt.bool_int k g i
  |str g i=>exact RcAt.bool_str k g i
  |tup E o t h=>exact RcAt.bool_tuple k h j
  |lst E o t h=>exact RcAt.bool_list k h j
 |int k x=>
  cases L with
  |non=>exact RcAt.int_none k x
  |bl g=>exact RcAt.int_bool k x g
  |int g i=>exact RcAt.int_int k x g i
  |str g i=>exact RcAt.int_str k x g i
  |tup E o t h=>exact RcAt.int_tuple k x h j
  |lst E o t h=>exact RcAt.int_list k x h j
 |str k x=>
  cases L with
  |non=>exact RcAt.str_none k x
  |bl g=>exact RcAt.str_bool k x g
  |int g i=>exact RcAt.str_int k x g i
  |str g i=>exact RcAt.str_str k x g i
  |tup E o t h=>exact RcAt.str_tuple k x h j
  |lst E o t h=>exact RcAt.str_list k x h j
 | @tup l p U C' q r Q w=>
  cases L with
  |non=>exact RcAt.tuple_none w j
  |bl g=>exact RcAt.tuple_bool g w j
  |int g i=>exact RcAt.tuple_int g i w j
  |str g i=>exact RcAt.tuple_str g i w j
  | @tup m p2 Y' T E o t h=>
   have J:D.depL l+1<=n:=by rw[D.dep] at G;exact G
   have M:D.depL m<20000:=by rw[D.dep] at N;lia
   have P:=Q.length;have R:=t.length;have S:=r.length;have V:=o.length;have z:=RcAt.tuples w h j<|B l m U Y' C' T _ _ J M r o Q t;simp only[jx] at z;rw[show C'.length=l.length by lia,show T.length=m.length by lia,nM] at z;rw[D.eqb];exact z
  |lst E o t h=>exact RcAt.tuple_list w h j
 | @lst l p U C' q r Q w=>
  cases L with
  |non=>exact RcAt.list_none w j
  |bl g=>exact RcAt.list_bool g w j
  |int g i=>exact RcAt.list_int g i w j
  |str g i=>exact RcAt.list_str g i w j
  |tup E o t h=>exact RcAt.list_tuple w h j
  | @lst m p2 Y' T E o t h=>
   have J:D.depL l+1<=n:=by rw[D.dep] at G;exact G
   have M:D.depL m<20000:=by rw[D.dep] at N;lia
   have P:=Q.length;have R:=t.length;have S:=r.length;have V:=o.length;have F:=nM l m;by_cases y:l.length=m.length
   .have z:=RcAt.lists w h (by simp only[jx];lia) j<|B l m U Y' C' T _ _ J M r o Q t;simp only[jx] at z;rw[show C'.length=min l.length m.length by lia] at z;rw[D.eqb,<-F,y];rw[y] at z;simpa using z
   .have z:=RcAt.lists_lengths w h (by simp only[jx,bne_iff_ne,ne_eq];lia) j;rw[D.eqb,<-F];rw[show(l.length==m.length)=Y by simpa using y];simpa using z
def Nz(I:Inv X c f H s)(hd:kM X.K H O d v)(he:kM X.K H O' e u)(ra:RelV v a)(rb:RelV u b)(G:d.dep<=n)(N:e.dep<20000)(hA:A.units+n<bi):RcNeAt A s a b (!D.eqb d e):=by
 have j:A.units<cLine:=by lia
 have B:=Gi I hA;have W:bi=9900:=rfl;have h1:=tU I hd ra (by lia);have L:=tU I he rb N
 cases h1 with
 |non=>
  cases L with
  |non=>exact RcNeAt.none_none
  |bl g=>exact RcNeAt.none_bool g
  |int g i=>exact RcNeAt.none_int g i
  |str g i=>exact RcNeAt.none_str g i
  |tup E o t h=>exact RcNeAt.none_tuple h j
  |lst E o t h=>exact RcNeAt.none_list h j
 |bl k=>
  cases L with
  |non=>exact RcNeAt.bool_none k
  |bl g=>exact RcNeAt.bool_bool k g
  |int g i=>exact RcNeAt.bool_int k g i
  |str g i=>exact RcNeAt.bool_str k g i
  |tup E o t h=>exact RcNeAt.bool_tuple k h j
  |lst E o t h=>exact RcNeAt.bool_list k h j
 |int k x=>
  cases L with
  |non=>exact RcNeAt.int_none k x
  |bl g=>exact RcNeAt.int_bool k x g
  |int g i=>exact RcNeAt.int_int k x g i
  |str g i=>exact RcNeAt.int_str k x g i
  |tup E o t h=>exact RcNeAt.int_tuple k x h j
  |lst E o t h=>exact RcNeAt.int_list k x h j
 |str k x=>
  cases L with
  |non=>exact RcNeAt.str_none k x
  |bl g=>exact RcNeAt.str_bool k x g
  |int g i=>exact RcNeAt.str_int k x g i
  |str g i=>exact RcNeAt.str_str k x g i
  |tup E o t h=>exact RcNeAt.str_tuple k x h j
  |lst E o t h=>exact RcNeAt.str_list k x h j
 | @tup l p U C' q r Q w=>
  cases L with
  |non=>exact RcNeAt.tuple_none w j
  |bl g=>exact RcNeAt.tuple_bool g w j
  |int g i=>exact RcNeAt.tuple_int g i w j
  |str g i=>exact RcNeAt.tuple_str g i w j
  | @tup m p2 Y' T E o t h=>
   have J:D.depL l+1<=n:=by rw[D.dep] at G;exact G
   have M:D.depL m<20000:=by rw[D.dep] at N;lia
   have P:=Q.length;have R:=t.length;have S:=r.length;have V:=o.length;have z:=RcNeAt.tuples w h j<|B l m U Y' C' T _ _ J M r o Q t;simp only[jx] at z;rw[show C'.length=l.length by lia,show T.length=m.length by lia,nM] at z;rw[D.eqb];exact z
  |lst E o t h=>exact RcNeAt.tuple_list w h j
 | @lst l p U C' q r Q w=>
  cases L with
  |non=>exact RcNeAt.list_none w j
  |bl g=>exact RcNeAt.list_bool g w j
  |int g i=>exact RcNeAt.list_int g i w j
  |str g i=>exact RcNeAt.list_str g i w j
  |tup E o t h=>exact RcNeAt.list_tuple w h j
  | @lst m p2 Y' T E o t h=>
   have J:D.depL l+1<=n:=by rw[D.dep] at G;exact G
   have M:D.depL m<20000:=by rw[D.dep] at N;lia
   have P:=Q.length;have R:=t.length;have S:=r.length;have V:=o.length;have F:=nM l m;by_cases y:l.length=m.length
   .have z:=RcNeAt.lists w h (by simp only[jx];lia) j<|B l m U Y' C' T _ _ J M r o Q t;simp only[jx] at z;rw[show C'.length=min l.length m.length by lia] at z;rw[D.eqb,<-F,y];rw[y] at z;simpa using z
   .have z:=RcNeAt.lists_lengths w h (by simp only[jx,bne_iff_ne,ne_eq];lia) j;rw[D.eqb,<-F];rw[show(l.length==m.length)=Y by simpa using y];simpa using z
def VH(j:X.A.units+60<bi):OpR X (aw .Eq) (λx y H Q=> ∃O d e,kM X.K H O d x/\kM X.K H O e y/\(d.dep<=50/\e.dep<=50)/\Q (.bl<|D.eqb d e) H):=by intro c s f H x y v u Q U g i h;obtain⟨O,d,e,h1,a,b,q⟩:=h;exact UT (A:=X.A) U h1 a g i b.1 (by lia) (by lia) _ _ _ _ ⟨.bl _,H,U,rfl,q⟩
def VD(j:X.A.units+60<bi):OpR X (aw .NotEq) (λx y H Q=> ∃O d e,kM X.K H O d x/\kM X.K H O e y/\(d.dep<=50/\e.dep<=50)/\Q (.bl (!D.eqb d e)) H):=by intro c s f H x y v u Q U g i h;obtain⟨O,d,e,h1,a,b,q⟩:=h;exact Nz (A:=X.A) U h1 a g i b.1 (by lia) (by lia) _ _ _ _ ⟨.bl _,H,U,rfl,q⟩
end
def jl{e:Type}{c:Prop}[Decidable c]{a b:e}(h:(if c then C a else I)=C b):c/\a=b:=by
 split at h
 .rename_i d;exact⟨d,kN h⟩
 .cases h
section
variable {X:Cx}{c:jr}{f:L2.St}{H:Hp}{s:iI}
def Es(I:Inv X c f H s){A:jf}{l:List D}{o:List V}{a:jD}{O C:AP'}{b:D}{T:V}{x:iO}(r:RepL X.K H O l o)(v:Vals o a)(hx:kM X.K H C b T)(rx:RelV T x)(hn:D.depL l<=50)(hxn:b.dep<=50)(hA:A.units+60<bi):
  ∃e:iO->Bool,(∀y∈a,EqAt A.in1 s y x<|e y)/\a.any e=l.any λd=>D.eqb d b:=by
 let e:iO->Bool:=λy=>match(a.zip l).find? (λp=>p.1==y) with
  |some p=>D.eqb p.2 b
  |none=>O1
 have Z:=v.length;have e3:=r.length
 have m: ∀(j:Nat) (g:j<a.length) (h:j<l.length),e a[j]=D.eqb l[j] b:=λj g h=>by
  show(match(a.zip l).find? (λp=>p.1==a[j]) with|some p=>D.eqb p.2 b|none=>O1)=_
  cases t:(a.zip l).find? (λp=>p.1==a[j]) with
  |none=>
   have:=List.find?_eq_none.mp t (a[j],l[j]) (by
    have:(a.zip l)[j]?=N2 (a[j],l[j]):=by simp[ET,jA g,jA h]
    exact nB this)
   simp at this
  |some p=>
   have P:=List.find?_some t;have F:=List.mem_of_find?_eq_some t;obtain⟨i,Q⟩:=rX F;obtain⟨S,p2⟩:=p;rw[ET] at Q;have M:S=a[j]:=rY P;obtain⟨h1,k⟩:=Q;have E:i<o.length:=by have:=(rQ.mp h1).1;lia
   obtain⟨w,n,B⟩:=v.get<|jA E;have q:j<o.length:=by lia
   obtain⟨w',G,W⟩:=v.get<|jA q;rw[h1] at n;cases n;rw[jA g] at G;cases G;subst M;have hv:=B.inj W;have a1:=r.views k<|jA E;have J:=r.views (jA h)<|jA q;rw[hv] at a1;have Y:=D.dep_mem k;have:=Rep.inj I (by lia) a1 J;exact nD (λz=>D.eqb z b) this
 refine⟨e,λy R=>?_,?_⟩
 .obtain⟨j,g⟩:=rX R;have u:=(rQ.mp g).1;have q:=(rQ.mp g).2;have h:j<l.length:=by lia
  have L:j<o.length:=by lia
  obtain⟨w,n,B⟩:=v.get<|jA L;rw[g] at n;cases n;have hk:=m j u h;rw[q] at hk;rw[hk];have hd:=D.dep_mem<|jA h;exact EE I 50 _ _ _ _ _ _ O C A.in1 (.inl<|r.views (jA h)<|jA L) hx B rx (by lia) (by lia) (by show A.units+1+50<bi;lia)
 .have:a.map e=l.map λd=>D.eqb d b:=by
   apply G5
   .simp;lia
   .intro j h1 k;simp only[jF] at h1 k;simp only[dt];exact m j h1 k
  have N:a.any e=(a.map e).any id:=by rw[xR];rfl
  have U:(l.any λd=>D.eqb d b)=(l.map λd=>D.eqb d b).any id:=by rw[xR];rfl
  rw[N,U,this]
noncomputable def inD(x:D):D->Option Bool
 | .tup l=>if D.depL l<=50/\x.dep<=50 then C (l.any λd=>D.eqb d x) else I
 | .lst l=>if D.depL l<=50/\x.dep<=50 then C (l.any λd=>D.eqb d x) else I
 |_=>I
def VG(B:X.A.units+60<bi):OpR X (aw .In) (λx y H Q=> ∃O d e b,kM X.K H O d x/\kM X.K H O e y/\inD d e=C b/\Q (.bl b) H):=by
 intro c s f H x y v u Q T U E h;obtain⟨O,d,e,b,h1,z,j,q⟩:=h
 cases e with
 |tup l=>
  obtain⟨i,rfl⟩:=jl j
  .skip
   obtain⟨a,L,rfl,n,r⟩:=lY z;cases E;obtain⟨g,t,p,_⟩:=T.tuple n;obtain⟨e,m,k⟩:=Es (A:=X.A) T r t h1 U i.1 i.2 B;refine in_tupleAt e p (λw o=>m w<|by simpa using o) ⟨.bl _,H,T,rfl,?_⟩;rw[show g.toArray.any e=g.any e by simp,k];exact q
 |lst l=>
  obtain⟨i,rfl⟩:=jl j
  .skip
   obtain⟨a,L,rfl,n,r⟩:=kO z;cases E;obtain⟨g,t,p,_⟩:=T.list n;obtain⟨e,m,k⟩:=Es (A:=X.A) T r t h1 U i.1 i.2 B;refine in_listAt e p.isList (λw o=>m w<|by simpa using o) ⟨.bl _,H,T,rfl,?_⟩;rw[show g.toArray.any e=g.any e by simp,k];exact q
 |_=>cases j
def K9(B:X.A.units+60<bi):OpR X (aw .NotIn) (λx y H Q=> ∃O d e b,kM X.K H O d x/\kM X.K H O e y/\inD d e=C b/\Q (.bl (!b)) H):=by
 intro c s f H x y v u Q T U E h;obtain⟨O,d,e,b,h1,z,j,q⟩:=h
 cases e with
 |tup l=>
  obtain⟨i,rfl⟩:=jl j
  .skip
   obtain⟨a,L,rfl,n,r⟩:=lY z;cases E;obtain⟨g,t,p,_⟩:=T.tuple n;obtain⟨e,m,k⟩:=Es (A:=X.A) T r t h1 U i.1 i.2 B;refine notIn_tupleAt e p (λw o=>m w<|by simpa using o) ⟨.bl _,H,T,rfl,?_⟩;rw[show g.toArray.any e=g.any e by simp,k];exact q
 |lst l=>
  obtain⟨i,rfl⟩:=jl j
  .skip
   obtain⟨a,L,rfl,n,r⟩:=kO z;cases E;obtain⟨g,t,p,_⟩:=T.list n;obtain⟨e,m,k⟩:=Es (A:=X.A) T r t h1 U i.1 i.2 B;refine notIn_listAt e p.isList (λw o=>m w<|by simpa using o) ⟨.bl _,H,T,rfl,?_⟩;rw[show g.toArray.any e=g.any e by simp,k];exact q
 |_=>cases j
end
def rD1(K:jb)(g:D->Option (D×Bool)):V->Hp->VK->Prop:=λx U Q=> ∃(O:AP') (d:D) (z:D×Bool),(∀p,¬Ow (U p)-> ¬O p)/\kM K U O d x/\g d=C z/\Gen K U O z Q
def rD(K:jb)(g:D->D->Option (D×Bool)):R2:=λx y U Q=> ∃(O:AP') (d e:D) (z:D×Bool),(∀p,¬Ow (U p)-> ¬O p)/\kM K U O d x/\kM K U O e y/\g d e=C z/\Gen K U O z Q
def rDn(K:jb)(g:List D->Option (D×Bool)):List V->Hp->VK->Prop:=λb U Q=> ∃(O:AP') (a:List D) (z:D×Bool),(∀p,¬Ow (U p)-> ¬O p)/\(Ps a)=Ps b/\(∀(j:Nat) d v,a[j]?=C d->b[j]?=C v->kM K U O d v)/\g a=C z/\Gen K U O z Q
section
variable {X:Cx}{e a b:iK}{fa fb:FO}{fs:List FO}{c:bB}
def px1(h:PE X e (tUn (rD1 X.K g)<|tO X.K fa)):PX X e (lB g fa):=Vb h λx z v U O Q np f d G=>⟨O,x,z,np,f,d,G⟩
def px2(h:PE X e (tOp (rD X.K g) (tO X.K fa)<|tO X.K fb)):PX X e (iU g fa fb):=Va h λx y z v u U O Q np f i d G=>⟨O,x,y,z,np,f,i,d,G⟩
def pxn(h:PE X e (tCB (rDn X.K g)<|tA X.K fs)):PX X e (jm g fs):=Rl h λd z j U O Q np i hv f G=>⟨O,d,z,np,i,hv,f,G⟩
def jq{K U}{O:AP'}{i:Int}{v:V}(h:kM K U O (.int i) v):v= .int i:=h.elim (λh=>h.int) λ⟨_,_,h⟩=>h.elim
def Jh{K U}(h:kM K U O (.bl i) v):v= .bl i:=h.elim (λh=>h.bl) λ⟨_,_,h⟩=>h.elim
def An{K U}(h:kM K U O (.str i) v):v= .str i:=h.elim (λh=>h.str) λ⟨_,_,h⟩=>h.elim
def MZ{K U}(h:kM K U O .non v):v= .non:=h.elim (λh=>h.non) λ⟨_,_,h⟩=>h.elim
def Gen.str{K U}(g:Gen K U O (.str i,Y) Q):Q (.str i) U:=g _ U (λ_ _ e=>e) Rep.mkStr
noncomputable def gI(f:Int->Int->Option D):D->D->Option (D×Bool)
 | .int i,.int j=>(f i j).map λz=>(z,Y)
 |_,_=>I
def zB{f:Int->Int->Option D}{d e:D}{z:D×Bool}(h:gI f d e=C z): ∃i j y,d= .int i/\e= .int j/\f i j=C y/\z=(y,Y):=by
 cases d with
 |int i=>
  cases e with
  |int j=>
   cases g:f i j with
   |none=>simp only[gI,g] at h;cases h
   |some y=>simp only[gI,g] at h;cases h;exact⟨i,j,y,rfl,rfl,g,rfl⟩
  |_=>cases h
 |_=>cases h
def uj{f:yJ}{U:Int->Int->Prop}[∀i j,Decidable<|U i j]{g:Int->Int->Int}(p:OpR X f (rI U λi j=> .int (g i j))):OpR X f (rD X.K (gI λi j=>if U i j then C (.int<|g i j) else I)):=by intro k s t N x y v u Q T q r h;obtain⟨O,d,e,z,np,h1,l,o,G⟩:=h;obtain⟨i,j,w,rfl,rfl,n,rfl⟩:=zB o;obtain⟨m,rfl⟩:=jl n;exact p k s t N x y v u Q T q r ⟨i,j,jq h1,jq l,m,G.int⟩
def Fv{f:yJ}{g:Int->Int->Int}(o:OpR X f (rI0 λi j=> .int (g i j))):OpR X f (rD X.K<|gI λi j=>C<|.int<|g i j):=by intro k s r T x y v u Q U p q h;obtain⟨O,d,e,z,np,h1,l,n,G⟩:=h;obtain⟨i,j,w,rfl,rfl,m,rfl⟩:=zB n;cases m;exact o k s r T x y v u Q U p q ⟨i,j,jq h1,jq l,G.int⟩
instance(i j:Int):Decidable (CMul i j):=by unfold CMul;exact inferInstance
instance(i j:Int):Decidable (LQ i j):=by unfold LQ;exact inferInstance
instance(i j:Int):Decidable (tP i j):=by unfold tP;exact inferInstance
noncomputable def gSub:=gI λi j=>C<|.int<|i-j
noncomputable def pk:=gI λi j=>if CMul i j then C (.int<|i*j) else I
noncomputable def Pp:=gI λi j=>if LQ i j then C (.int<|i / j) else I
noncomputable def BZ:=gI λi j=>if 0<j then C (.int<|i%j) else I
noncomputable def Iv:=gI λi j=>if tP i j then C (.int<|i^j.toNat) else I
def nR:OpR X (bb .Sub) (rD X.K gSub):=Fv Vz
def nS:OpR X (bb .Mult) (rD X.K pk):=uj VE
def JM:OpR X (bb .FloorDiv) (rD X.K Pp):=uj RO
def ui:OpR X (bb .Mod) (rD X.K BZ):=uj VF
def zu:OpR X (bb .Pow) (rD X.K Iv):=uj VC
noncomputable def lA:D->D->Option (D×Bool)
 | .int i,.int j=>C (.int<|i+j,Y)
 | .str i,.str j=>if i.length+j.length<=sizeLine then C (.str<|i++j,Y) else I
 | .tup l,.tup m=>if l.length+m.length<=sizeLine then C (.tup<|l++m,Y) else I
 | .lst l,.lst m=>if l.length+m.length<=sizeLine then C (.lst<|l++m,J) else I
 |_,_=>I
def jz:OpR X (bb .Add) (rD X.K lA):=by
 intro k s σ H x y v u Q I L T h;obtain⟨O,d,e,z,np,h1,M,o,G⟩:=h
 cases d with
 |int i=>
  cases e with
  |int j=>cases o;exact VJ k s σ H x y v u Q I L T ⟨i,j,jq h1,jq M,G.int⟩
  |_=>cases o
 |str i=>
  cases e with
  |str j=>obtain⟨V,rfl⟩:=jl o;exact Ib k s σ H x y v u Q I L T ⟨i,j,An h1,An M,V,G.str⟩
  |_=>cases o
 |tup l=>
  cases e with
  |tup m=>
   obtain⟨V,rfl⟩:=jl o;have k1:Rep X.K H O (.tup l) x:=h1.elim id λ⟨_,_,z⟩=>z.elim;have k2:Rep X.K H O (.tup m) y:=M.elim id λ⟨_,_,z⟩=>z.elim;obtain⟨N,xs,rfl,U,C⟩:=k1.tup;obtain⟨B,ys,rfl,Y,E⟩:=k2.tup;have l1:=C.length;have l2:=E.length;by_cases hx:xs=[]
   .subst hx;have:l=[]:=by simpa using l1.symm
    subst this;cases L;cases T;obtain⟨g,D,R,_⟩:=I.tuple U.sq;obtain⟨r,v2,S,_⟩:=I.tuple Y.sq;have e1:g=[]:=by have:=D.length;simpa using this.symm
    subst e1;obtain⟨⟨P,dd,q,sl⟩,t,A,n,hd⟩:=id R;obtain⟨⟨bq,t9,data2,Z⟩,J,w,W,f⟩:=id S;simp only at A hd w f;subst A hd w f
    refine DK ⟨_,t,rfl⟩ ⟨_,J,rfl⟩ Hn Hm Hl Hk (Hj _ _)
     (tuple_addW0 N B #[] r.toArray n W dd t9 sl Z (by simp)) ⟨t,J,⟨.ref B,H,I,rfl,?_⟩⟩
    exact G _ H (λ_ _ e=>e) (by simpa using k2)
   .refine RP k s σ H _ _ v u Q I L T ⟨N,B,xs,ys,rfl,rfl,U.sq,Y.sq,hx,by lia,λhy=>?_,λhy p hp=>?_⟩
    .subst hy;have:m=[]:=by simpa using l2.symm
     subst this;exact G _ H (λ_ _ e=>e) (by simpa using k1)
    .exact G.tup hp (np p<|nOw hp) (C.append E)
  |_=>cases o
 |lst l=>
  cases e with
  |lst m=>
   obtain⟨V,rfl⟩:=jl o;obtain⟨N,xs,rfl,U,C⟩:=kO h1;obtain⟨B,ys,rfl,Y,E⟩:=kO M;have l1:=C.length;have l2:=E.length;cases L;cases T;obtain⟨g,D,R,_⟩:=I.list U;obtain⟨r,v2,S,_⟩:=I.list Y;have e1:=D.length;have e2:=v2.length;obtain⟨⟨P,dd,q,sl⟩,t,A,n,hd⟩:=id R.isList;obtain⟨⟨bq,t9,data2,Z⟩,J,w,W,f⟩:=id S.isList;simp only at A hd w f;subst A hd w f
   refine DK ⟨_,t,rfl⟩ ⟨_,J,rfl⟩ noFill_list_add seq_list_add PySem.F.slot_list_add PySem.F.entry_list_add (PySem.F.args_list_add_2 _ _)
    (list_addW N B g.toArray r.toArray n W dd t9 sl Z<|by simp only[jx];lia) ⟨t,J,?_⟩
   rw[show g.toArray++r.toArray=(g++r).toArray by simp];exact⟨.ref _,_,I.lnew (t':=s.toks) (D.append v2)<|by rw[lP];lia,rfl,G.lst I.fresh<|C.append E⟩
  |_=>cases o
 |_=>cases o
noncomputable def gEq(d e:D):Option (D×Bool):=if d.dep<=50/\e.dep<=50 then C (.bl<|D.eqb d e,Y) else I
noncomputable def gNe(d e:D):Option (D×Bool):=if d.dep<=50/\e.dep<=50 then C (.bl (!D.eqb d e),Y) else I
noncomputable def gIn(d e:D):Option (D×Bool):=(inD d e).map λb=>(.bl b,Y)
noncomputable def rg(d e:D):Option (D×Bool):=(inD d e).map λb=>(.bl (!b),Y)
def qW(k:X.A.units+60<bi):OpR X (aw .Eq) (rD X.K gEq):=by intro f s n T x y v u Q U l m h;obtain⟨O,d,e,z,np,h1,g,j,G⟩:=h;obtain⟨i,rfl⟩:=jl j;exact VH k f s n T x y v u Q U l m ⟨O,d,e,h1,g,i,G.bl⟩
def vS(k:X.A.units+60<bi):OpR X (aw .NotEq) (rD X.K gNe):=by intro f s n T x y v u Q U l m h;obtain⟨O,d,e,z,np,h1,g,j,G⟩:=h;obtain⟨i,rfl⟩:=jl j;exact VD k f s n T x y v u Q U l m ⟨O,d,e,h1,g,i,G.bl⟩
def ju{d g:Type}{x:Option d}{f:d->g}{b:g}(h:x.map f=C b): ∃a,x=C a/\f a=b:=by
 cases x with
 |none=>cases h
 |some a=>exact⟨a,rfl,kN h⟩
def Ol(k:X.A.units+60<bi):OpR X (aw .In) (rD X.K gIn):=by intro f s n T x y v u Q U l m h;obtain⟨O,d,e,z,np,h1,g,j,G⟩:=h;obtain⟨b,i,rfl⟩:=ju j;exact VG k f s n T x y v u Q U l m ⟨O,d,e,b,h1,g,i,G.bl⟩
def yt(k:X.A.units+60<bi):OpR X (aw .NotIn) (rD X.K rg):=by intro f s n T x y v u Q U l m h;obtain⟨O,d,e,z,np,h1,g,j,G⟩:=h;obtain⟨b,i,rfl⟩:=ju j;exact K9 k f s n T x y v u Q U l m ⟨O,d,e,b,h1,g,i,G.bl⟩
noncomputable def uB:D->Option (D×Bool)
 | .int i=>C (.int (-i),Y)
 |_=>I
def QZ:UnR X (EQ .USub) (rD1 X.K uB):=by
 intro f s k T x v Q U j h;obtain⟨O,d,z,np,h1,g,G⟩:=h
 cases d with
 |int i=>cases g;exact Uz f s k T x v Q U j ⟨i,jq h1,G.int⟩
 |_=>cases g
noncomputable def gIx:D->D->Option (D×Bool)
 | .tup l,.int i=>(atI l i).map λd=>(d,Y)
 | .lst l,.int i=>(atI l i).map λd=>(d,Y)
 |_,_=>I
def Kp{K U}{O:AP'}{l:List D}{f:List V}{i:Int}{d:D}(r:RepL K U O l f)(h:atI l i=C d): ∃v,atI f i=C v/\Rep K U O d v:=by unfold atI at h ⊢;rw[r.length];obtain⟨j,h1,g⟩:=iA h;rw[h1];exact r.get g
def YM:IxR X (rD X.K gIx):=by
 intro f slice g s E N x y v u Q T B U h A;obtain⟨O,d,e,z,np,h1,t,j,G⟩:=h
 cases d with
 |tup l=>
  cases e with
  |int i=>obtain⟨w,m,rfl⟩:=ju j;obtain⟨p,o,rfl,q,r⟩:=lY h1;obtain⟨n,hv,k⟩:=Kp r m;exact VZ f slice g s E N _ _ v u Q T B U ⟨p,o,i,n,rfl,jq t,q,hv,G _ N (λ_ _ e=>e) k⟩ A
  |_=>cases j
 |lst l=>
  cases e with
  |int i=>obtain⟨w,m,rfl⟩:=ju j;obtain⟨p,o,rfl,q,r⟩:=kO h1;obtain⟨n,hv,k⟩:=Kp r m;exact Sf f slice g s E N _ _ v u Q T B U ⟨p,o,i,n,rfl,jq t,q,hv,G _ N (λ_ _ e=>e) k⟩ A
  |_=>cases j
 |_=>cases j
end
noncomputable def pX:List Opd->Option (List D)
 |[]=>C []
 | .val r::os=>(pX os).map (r.1:: ·)
 | .slot _::_=>I
noncomputable def ly(fs:List F):F:=λδ=>(kF (fs.map iJ) δ).bind λp=>(pX p.1).bind λa=>if (Ps a)<=sizeLine then C ((.tup a,Y),p.2) else I
noncomputable def lS(fs:List F):F:=λδ=>(kF (fs.map iJ) δ).bind λp=>(pX p.1).bind λa=>if (Ps a)<=sizeLine then C ((.lst a,J),p.2) else I
section
variable {K:jb}{T m:AP'}{f:L2.St}{g e:Dn}{H H':Hp}{os:List Opd}{c:List V}
def Ops.rep(E:ER K H T f g)(B:Ops K T f g H os c e H' m){j:Nat}{r:D×Bool}{v:V}(h1:os[j]?=C (.val r))(h:c[j]?=C v):Rep K H' (λa=>OwnA f e a\/T a) r.1 v:=by
 obtain⟨d,b⟩:=r
 cases b with
 |false=>exact B.val j d v h1 h
 |true=>
  obtain⟨p,rfl,k,i,ok⟩:=B.tmp j d v h1 h;refine ok.rep (λz=>?_) λb _ z=>z;rcases z with z|z
  .exact B.er.nT p z k
  .exact(E.dom p z).ne i
theorem vJ{O:AP'}: ∀{os:List Opd} {c:List V} {d:List D},pX os=C d->os.length=Ps c->(∀(j:Nat) (r:D×Bool) (v:V),os[j]?=C (.val r)->c[j]?=C v->Rep K H' O r.1 v)->RepL K H' O d c
 |[],c,d,h,n,_=>by
  cases h;have:c=[]:=by simpa using n.symm
  subst this;exact RepL.nil
 | .slot i::os,c,d,h,_,_=>by cases h
 | .val r::os,c,d,h,n,k=>by
  obtain⟨l,h1,rfl⟩:=ju h
  cases c with
  |nil=>simp at n
  |cons v c=>exact RepL.cons (k 0 r v O9 O9)<|vJ h1 (by simpa using n) λj o p a b=>k (j+1) o p (by simpa using a) (by simpa using b)
end
section
variable {X:Cx}{e a b:iK}{m:kh}{n fb:FO}{fs:List F}{c:bB}
def U5{x1}(h:PA X m (tA X.K<|fs.map iJ)):PX X (.Tuple m x1 c) (ly fs):=PX.imp (Vp h) λy U Q l=>by obtain⟨o,T,w,q,E,e,k⟩:=l;obtain⟨⟨os,d⟩,h1,e⟩:=iA e;obtain⟨u,g,e⟩:=iA e;obtain⟨i,e⟩:=jl e;obtain⟨rfl,rfl⟩:=qR e;refine⟨o,T,os,d,E,h1,λx s t B=>?_⟩;have r:=vJ g B.len λj r v a b=>B.rep E a b;exact⟨by rw[r.length];exact i,λp f=>(B.done k).tup f (B.np<|nOw f) r⟩
def Vc(h:PA X m (tA X.K<|fs.map iJ)):PX X (.List m c) (lS fs):=PX.imp (Vu h) λy U Q l=>by obtain⟨o,T,w,q,E,e,k⟩:=l;obtain⟨⟨os,d⟩,h1,e⟩:=iA e;obtain⟨u,f,e⟩:=iA e;obtain⟨g,e⟩:=jl e;obtain⟨rfl,rfl⟩:=qR e;refine⟨o,T,os,d,E,h1,λx s t B=>?_⟩;have r:=vJ f B.len λj r v a b=>B.rep E a b;exact⟨by rw[r.length];exact g,λp i=>(B.done k).lst i r⟩
def JO{g:List D}{f:List V}{d:D}(h:(Ps g)=Ps f)(hd:g=[d]): ∃v,f=[v]:=by
 subst hd
 cases f with
 |nil=>simp at h
 |cons v r=>
  cases r with
  |nil=>exact⟨v,rfl⟩
  |cons _ _=>simp at h
noncomputable def g1(g:D->Option (D×Bool)):List D->Option (D×Bool)
 |[d]=>g d
 |_=>I
noncomputable def g2(g:D->D->Option (D×Bool)):List D->Option (D×Bool)
 |[d,e]=>g d e
 |_=>I
def nN{f:iO}{g:D->Option (D×Bool)}(h: ∀(i:jr) (s:iI) (j:L2.St) (T:Hp) (x:V) (u:iO) (Q:VK) (O:AP') (d:D) (z:D×Bool),Inv X i j T s->RelV x u->(∀p,¬Ow (T p)-> ¬O p)->kM X.K T O d x->g d=C z->Gen X.K T O z Q->
  ah (ai X.prog X.w) X.A (call f [u]) (EP X i j Q) X.xe s):kR X f (rDn X.K<|g1 g):=by
 intro i s j T B y Q U r q;obtain⟨O,l,z,np,o,hv,k,G⟩:=q
 match l,k with
 |[d],k=>obtain⟨v,rfl⟩:=JO o H;obtain⟨u,rfl,t⟩:=rJ r;exact h i s j T v u Q O d z U t np (hv 0 d v H H) k G
def P7{f:iO}{g:D->D->Option (D×Bool)}(h: ∀(i:jr) (s:iI) (k:L2.St) (T:Hp) (x y:V) (j:jD) (Q:VK) (O:AP') (d e:D) (z:D×Bool),Inv X i k T s->Vals [x,y] j->(∀p,¬Ow (T p)-> ¬O p)->kM X.K T O d x->kM X.K T O e y->g d e=C z->Gen X.K T O z Q->
  ah (ai X.prog X.w) X.A (call f j) (EP X i k Q) X.xe s):kR X f (rDn X.K<|g2 g):=by
 intro i s k T u j Q U r t;obtain⟨O,o,z,np,q,hv,l,G⟩:=t;rcases o with _|⟨d,_|⟨e,_|⟨_,_⟩⟩⟩<;>try cases l
 rcases u with _|⟨x,_|⟨y,_|⟨_,_⟩⟩⟩<;>try cases q
 exact h i s k T x y j Q O d e z U r np (hv 0 d x H H) (hv 1 e y H H) l G
noncomputable def F7:D->Option (D×Bool)
 | .tup l=>C (.int<|Ps l,Y)
 | .lst l=>C (.int<|Ps l,Y)
 |_=>I
def mq:kR X (.builtin "len") (rDn X.K<|g1 F7):=nN λf s j T x u Q O d z U i np hd g G=>by
 cases d with
 |tup l=>
  cases g;obtain⟨p,h,rfl,q,r⟩:=lY hd;refine xm f s j T [_] [u] Q U (.cons i .nil) ⟨p,h,rfl,.inr q,?_⟩;rw[r.length];exact G.int
 |lst l=>
  cases g;obtain⟨p,h,rfl,q,r⟩:=kO hd;refine xm f s j T [_] [u] Q U (.cons i .nil) ⟨p,h,rfl,.inl q,?_⟩;rw[r.length];exact G.int
 |_=>cases g
noncomputable def Ey:D->Option (D×Bool)
 | .int i=>C (.int (if i<0 then -i else i),Y)
 |_=>I
def lM:kR X (.builtin "abs") (rDn X.K<|g1 Ey):=nN λf s j T x u Q O d z U h np hd g G=>by
 cases d with
 |int i=>cases g;exact P8 f s j T [x] [u] Q U (.cons h .nil) ⟨i,by rw[jq hd],G.int⟩
 |_=>cases g
noncomputable def Iy:D->Option (D×Bool)
 | .int i=>C (.int i,Y)
 | .bl b=>C (.int (if b then 1 else 0),Y)
 |_=>I
def uz:kR X (.type "int") (rDn X.K<|g1 Iy):=nN λf s j T x u Q O d z U h np hd g G=>by
 cases d with
 |int i=>cases g;exact C5 f s j T [x] [u] Q U (.cons h .nil)<|.inl ⟨i,by rw[jq hd],G.int⟩
 |bl i=>
  cases g;refine C5 f s j T [x] [u] Q U (.cons h .nil)<|.inr ⟨i,by rw[Jh hd],?_⟩;have:=G.int;cases i<;>exact this
 |_=>cases g
noncomputable def pj:D->Option (D×Bool)
 | .tup l=>C (.tup l,Y)
 | .lst l=>C (.tup l,Y)
 |_=>I
def lF:kR X (.type "tuple") (rDn X.K<|g1 pj):=nN λf s o T x u Q O d z U k np hd g G=>by
 cases d with
 |tup l=>
  cases g;have j:Rep X.K T O (.tup l) x:=hd.elim id λ⟨_,_,z⟩=>z.elim;obtain⟨p,h,rfl,q,r⟩:=j.tup;exact vg f s o T [_] [u] Q U (.cons k .nil) ⟨p,h,rfl,.inr ⟨q.sq,G _ T (λ_ _ e=>e) j⟩⟩
 |lst l=>
  cases g;obtain⟨p,h,rfl,q,r⟩:=kO hd;exact vg f s o T [_] [u] Q U (.cons k .nil) ⟨p,h,rfl,.inl ⟨q,λt i=>G.tup i (np t<|nOw i) r⟩⟩
 |_=>cases g
noncomputable def Ba:D->Option (D×Bool)
 | .tup l=>C (.lst l,J)
 | .lst l=>C (.lst l,J)
 |_=>I
def Bw:kR X (.type "list") (rDn X.K<|g1 Ba):=nN λf s k T x u Q O d z U j np hd g G=>by
 cases d with
 |tup l=>
  cases g;obtain⟨p,i,rfl,q,r⟩:=lY hd;exact xl f s k T [_] [u] Q U (.cons j .nil) ⟨p,i,rfl,.inr q,λt h=>G.lst h r⟩
 |lst l=>
  cases g;obtain⟨p,i,rfl,q,r⟩:=kO hd;exact xl f s k T [_] [u] Q U (.cons j .nil) ⟨p,i,rfl,.inl q,λt h=>G.lst h r⟩
 |_=>cases g
end
abbrev FT:=Dn->Option (Bool×Dn)
def tT(K:jb)(f:FT):TT:=λe U Q=> ∃d T b a,ER K U T e d/\f d=C (b,a)/\ ∀c,Keep e d U a c->ER K c T e a->Q b c
def PTX(X:Cx)(e:iK)(f:FT):Prop:=PT X e<|tT X.K f
def PWX(X:Cx)(e:iK)(f:FT):Prop:=PW X e<|tT X.K f
noncomputable def asB:(D×Bool)×Dn->Option (Bool×Dn)
 |((.bl b,_),a)=>C (b,a)
 |_=>I
noncomputable def fT(f:F):FT:=λδ=>(f δ).bind asB
def xq(h:asB p=C q): ∃o,p=((.bl q.1,o),q.2):=by
 obtain⟨⟨d,o⟩,a⟩:=p
 cases d with
 |bl b=>cases h;exact⟨o,rfl⟩
 |_=>cases h
def Na{K:jb}{f:F}{a:L2.St}{U:Hp}{Q:Bool->Hp->Prop}(h:tT K (fT f) a U Q):tF K f a U λx i=> ∃c,x= .bl c/\Q c i:=by obtain⟨l,T,b,m,E,e,k⟩:=h;obtain⟨p,h1,j⟩:=iA e;obtain⟨o,rfl⟩:=xq j;refine⟨l,T,_,_,E,h1,λv g P=>?_⟩;obtain⟨d,r⟩:=P.rep E;exact⟨b,r.bl,k g P.1 d⟩
section
variable {X:Cx}{e a b c:iK}{n:kh}{fa fb:FO}{f g:F}{m l:FT}{i:bB}
def PT.imp'(h:PT X e t)(k: ∀j T Q,p j T Q->t j T Q):PT X e p:=λd s j T Q U o=>h d s j T Q U<|k j T Q o
def PW.imp'(h:PW X e t)(k: ∀j T Q,p j T Q->t j T Q):PW X e p:=λwh d s j T Q U o=>h wh d s j T Q U<|k j T Q o
def RS{r:R2}{g:D->D->Option (D×Bool)}(G:WB X.K r g){t:L2.St}{H:Hp}{Q:VK}(J:tF X.K (iU g fa fb) t H Q):tOp r (tO X.K fa) (tO X.K fb) t H Q:=by obtain⟨N,T,F,U,E,e,k⟩:=J;obtain⟨⟨o,d⟩,h1,e⟩:=iA e;obtain⟨⟨M,q⟩,A,e⟩:=iA e;obtain⟨x,C,e⟩:=iA e;obtain⟨y,I,e⟩:=iA e;obtain⟨z,L,e⟩:=iA e;obtain⟨rfl,rfl⟩:=jc e;refine⟨N,T,o,d,E,h1,λv Y h=>⟨d,BH T o v,M,q,h.er E,A,λu w s=>?_⟩⟩;have B:=Ops.cons E h<|Ops.cons (h.er E) s<|Ops.nil<|s.er<|h.er E;exact G x y z v u w _ Q (λp O=>B.np O) (B.view (j:=0) O9 O9 C) (B.view (j:=1) O9 O9 I) L (B.done k)
def Yo{K:jb}{g:D->D->Option (D×Bool)}:WB K (rD K g) g:=λx y z v u U O Q np h j d G=>⟨O,x,y,z,np,h,j,d,G⟩
noncomputable def Gg(f g:FT):FT:=λd=>(f d).bind λp=>if p.1=J then g p.2 else C (Y,p.2)
noncomputable def B8(f g:FT):FT:=λd=>(f d).bind λp=>if p.1=J then C (J,p.2) else g p.2
noncomputable def nY(f:FT):FT:=λδ=>(f δ).bind λp=>C (!p.1,p.2)
noncomputable def Bm(f g:F):F:=λd=>(f d).bind λp=>(asB p).bind λq=>if q.1=J then g q.2 else C ((.bl Y,Y),q.2)
noncomputable def fOr(f g:F):F:=λδ=>(f δ).bind λp=>(asB p).bind λq=>if q.1=J then C ((.bl J,Y),q.2) else g q.2
noncomputable def SA(f:F):F:=λd=>(f d).bind λp=>(asB p).bind λq=>C ((.bl (!q.1),Y),q.2)
def Post.pre{K:jb}{T:AP'}{h:L2.St}{δ δ1 δ2:Dn}{U j q:Hp}{r:D×Bool}{v:V}(k:Keep h δ U δ1 j)(P:Post K T h δ1 j r δ2 v q):Post K T h δ U r δ2 v q:=by
 refine⟨k.trans P.1,?_⟩;obtain⟨d,o⟩:=r
 cases o with
 |false=>exact P.2
 |true=>
  obtain⟨p,h1,s,t⟩:=P.2;refine⟨p,h1,?_,t⟩
  cases u:U p with
  |none=>rfl
  |some w=>exact absurd s<|k.dm p (by rw[u];simp)
noncomputable def fIf(t:FT)(f g:F):F:=λd=>(t d).bind λp=>if p.1=J then f p.2 else g p.2
end
inductive Out where
 |nx(δ:Dn)|rt(r:D×Bool)(δ:Dn)|bk(δ:Dn)|ct(δ:Dn)
abbrev FS:=Dn->Option Out
structure SK(A:jT)(σ:L2.St)(δ:Dn)(H:Hp)(σ':L2.St)(δ':Dn)(H':Hp):Prop where
 kp: ∀a o,H a=N2 o-> ¬OwnA σ δ a->H' a=N2 o
 owi: ∀i a,OwnI σ' δ' i a->OwnI σ δ i a\/H a=Op\/(A i/\ ∃j,A j/\OwnI σ δ j a)
 dm: ∀a,H a≠Op->H' a≠Op
 as: ∀i,¬A i->σ'[i]?=σ[i]?
structure FI(A L:jT)(H0:Hp)(σ:L2.St)(δ:Dn)(H:Hp):Prop where
 ow: ∀i a,OwnI σ δ i a->L i\/H0 a=Op
 dm: ∀a,H0 a≠Op->H a≠Op
 al: ∀j,A j-> ¬L j
def RV(K:jb)(T:AP')(f:Hp)(r:D×Bool)(c:L2.St)(b:Dn)(v:V)(e:Hp):Prop:=
 match r with
 |(d,Y)=>ER K e T c b/\Rep K e (λa=>OwnA c b a\/T a) d v
 |(d,J)=> ∃p,v= .ref p/\f p=I/\ER K e (λa=>T a\/a=p) c b/\OwnOk K e (λa=>OwnA c b a\/T a\/a=p) d p
section
variable {A:jT}{c b m:L2.St}{δ δ1 δ2:Dn}{H l g q:Hp}{L:jT}{K:jb}{T:AP'}
def SK.refl:SK A c δ H c δ H:=⟨λ_ _ e _=>e,λ_ _ z=> .inl z,λ_ z=>z,λ_ _=>rfl⟩
def SK.ow(k:SK A c δ H b δ1 g)(a:iB)(h:OwnA b δ1 a):OwnA c δ a\/H a=I:=by
 obtain⟨i,d,h1,o⟩:=h;rcases k.owi i a ⟨d,h1,o⟩ with⟨e,f,n⟩|z|⟨_,j,_,e,f,n⟩
 .exact .inl ⟨i,e,f,n⟩
 .exact .inr z
 .exact .inl ⟨j,e,f,n⟩
def SK.trans(x:SK A c δ H b δ1 g)(y:SK A b δ1 g m δ2 q):SK A c δ H m δ2 q where
 kp:=λa o e n=>y.kp a o (x.kp a o e n) λz=>(x.ow a z).elim n λz=>by rw[z] at e;cases e
 owi:=λi a z=>(y.owi i a z).elim (x.owi i a) λz=>z.elim (λz=> .inr (.inl (by
  cases h:H a with
  |none=>rfl
  |some o=>exact absurd z<|x.dm a<|by rw[h];simp))) λ⟨d,j,f,z⟩=>(x.owi j a z).elim (λz=> .inr (.inr ⟨d,j,f,z⟩)) λz=>z.elim (λz=> .inr (.inl z)) λ⟨_,k,ak,z⟩=> .inr (.inr ⟨d,k,ak,z⟩)
 dm:=λa z=>y.dm a<|x.dm a z
 as:=λi h=>(y.as i h).trans<|x.as i h
def Keep.sk(k:Keep c δ H δ1 g):SK A c δ H c δ1 g:=⟨k.kp,λi a z=> .inl (k.owi i a z),k.dm,λ_ _=>rfl⟩
def FI.step(f:FI A L l c δ H)(k:SK A c δ H b δ1 g):FI A L l b δ1 g where
 ow:=λi a z=>(k.owi i a z).elim (f.ow i a) λz=> .inr (z.elim (λz=>by
  cases h:l a with
  |none=>rfl
  |some o=>exact absurd z<|f.dm a<|by rw[h];simp) λU=>by obtain⟨_,j,d,z⟩:=U;exact (f.ow j a z).resolve_left<|f.al j d)
 dm:=λa z=>k.dm a<|f.dm a z
 al:=f.al
def FI.fresh(f:FI A L l c δ H)(a:H p=I):l p=I:=by
 cases h:l p with
 |none=>rfl
 |some o=>exact absurd a<|f.dm p (by rw[h];simp)
end
def tS(K:jb)(A L:jT)(h:Hp)(f:FS):TS:=λD e U=> ∃d T g,ER K U T e d/\FI A L h e d U/\f d=C g/\
 match g with
 | .nx b=> ∀a c,SK A e d U a b c->ER K c T a b->D.nx a c
 | .bk b=> ∀a c,SK A e d U a b c->ER K c T a b->D.bk a c
 | .ct b=> ∀a c,SK A e d U a b c->ER K c T a b->D.ct a c
 | .rt r b=> ∀v a c,SK A e d U a b c->RV K T h r a b v c->D.rt v c
def PSX(X:Cx)(A L:jT)(a:Hp)(st:bv)(f:FS):Prop:=PS X st<|tS X.K A L a f
def Jc(X:Cx)(A L:jT)(a:Hp)(st:List bv)(f:FS):Prop:=PSs X st<|tS X.K A L a f
noncomputable def jn:FS:=λδ=>C<|.nx δ
noncomputable def iP(f g:FS):FS:=λδ=>(f δ).bind λo=>match o with
 | .nx δ1=>g δ1
 |o=>C o
noncomputable def mG(f:F):FS:=λδ=>(f δ).bind λp=>C<|.nx p.2
noncomputable def lh(f:F):FS:=λδ=>(f δ).bind λp=>C<|.rt p.1 p.2
noncomputable def Jv:FS:=λδ=>C<|.rt (.non,Y) δ
noncomputable def oI(i:Nat):FS:=λa=>match a[i]? with
 |some (C (d,J))=>C<|.rt (d,J)<|a.set i I
 |some (C (d,Y))=>C<|.rt (d,Y) a
 |_=>I
noncomputable def sIf(t:FT)(f g:FS):FS:=λδ=>(t δ).bind λp=>if p.1=J then f p.2 else g p.2
noncomputable def kL(i:Nat)(f:F):FS:=λδ=>(f δ).bind λp=>if i<(Ps p.2) then C (.nx<|p.2.set i<|C p.1) else I
section
variable {X:Cx}{A L:jT}{d:Hp}{st:bv}{l:List bv}{f g:FS}{m:F}{j:FT}{e c:iK}{i:bB}
def PS.imp'(h:PS X st t)(k: ∀D b T,o D b T->t D b T):PS X st o:=λa s b T D U n=>h a s b T D U<|k D b T n
def PSs.imp'(h:PSs X l t)(k: ∀D b T,o D b T->t D b T):PSs X l o:=λa s b T D U n=>h a s b T D U<|k D b T n
def Vh(G:PTX X c j)(O:Jc X A L d a f)(Q:Jc X A L d b g):PSX X A L d (.If c a b i) (sIf j f g):=PS.imp' (NS G O Q) λD x H M=>by
 obtain⟨z,T,s,E,N,e,k⟩:=M;obtain⟨⟨c,o⟩,h1,e⟩:=iA e;refine⟨z,T,c,o,E,h1,λy U B=>?_⟩;have w:SK A x z H x o y:=U.sk
 have fin: ∀(h:FS),h o=C s->tS X.K A L d h D x y:=λh J=>by
  refine⟨o,T,s,B,N.step w,J,?_⟩
  cases s with
  |nx t=>exact λn p q u=>k n p (w.trans q) u
  |bk t=>exact λn p q u=>k n p (w.trans q) u
  |ct t=>exact λn p q u=>k n p (w.trans q) u
  |rt r t=>exact λv n p q R2=>k v n p (w.trans q) R2
 cases c with
 |true=>rw[iT O9] at e;exact(show(if O0=O0 then tS X.K A L d f D x y else _) from by rw[iT O9];exact fin f e)
 |false=>rw[je kU] at e;exact(show(if Y=O0 then _ else tS X.K A L d g D x y) from by rw[je kU];exact fin g e)
end
def lQ{b:Type}{l:List b}{i j:Nat}{x y:b}(h:(l.set i x)[j]?=C y):(i=j/\i<Ps l/\y=x)\/(i≠j/\l[j]?=C y):=by
 rw[Aa] at h;split at h
 .rename_i a;split at h
  .rename_i c;exact .inl ⟨a,c,(kN h).symm⟩
  .cases h
 .rename_i a;exact .inr ⟨a,h⟩
section
variable {K:jb}{T:AP'}{f:L2.St}{l c:Dn}{H g:Hp}{x:D×Bool}{v:V}{i:Nat}
def OwnI.store{j:Nat}{a:iB}(h:OwnI (f.set i<|C v) (l.set i<|C x) j a):(i≠j/\OwnI f l j a)\/(i=j/\x.2=J/\v= .ref a):=by
 obtain⟨d,h1,m⟩:=h;rcases lQ h1 with⟨e,_,q⟩|⟨ne,q⟩
 .rcases lQ m with⟨_,_,k⟩|⟨b,_⟩
  .right;cases q;exact⟨e,rfl,(kN k).symm⟩
  .exact absurd e b
 .rcases lQ m with⟨n,_,_⟩|⟨_,k⟩
  .exact absurd n ne
  .exact .inl ⟨ne,d,q,k⟩
def OwnA.store(h:OwnA (f.set i<|C v) (l.set i<|C x) a):OwnA f l a\/(x.2=J/\v= .ref a):=by
 obtain⟨j,d,h1,k⟩:=h;rcases OwnI.store ⟨d,h1,k⟩ with⟨_,e,b,m⟩|⟨_,b⟩
 .exact .inl ⟨j,e,b,m⟩
 .exact .inr b
def ER.store(h:ER K g (Tmp T x v) f c)(E:i<Ps c)(u:match x with|(d,Y)=>Rep K g (λa=>OwnA f c a\/T a) d v|(d,J)=> ∃p,v= .ref p/\ ¬T p/\OwnOk K g (λa=>OwnA f c a\/T a\/a=p) d p):
  ER K g T (f.set i<|C v) (c.set i<|C x):=by
 have r:i<(Ps f):=by rw[h.len];exact E
 have sub: ∀b,g b≠I->(OwnA (f.set i<|C v) (c.set i<|C x) b\/T b)->(OwnA f c b\/Tmp T x v b):=λb _ z=>by
  rcases z with z|z
  .rcases z.store with z|z
   .exact .inl z
   .exact .inr (.inr z)
  .exact .inr (.inl z)
 refine⟨by rw[wo,wo];exact h.len,λj d o=>?_,λj d o=>?_,λj k d e a o hk h1 n=>?_,λa z=>?_,λa z=>h.dom a<|.inl z⟩
 .rcases lQ o with⟨rfl,_,q⟩|⟨ne,q⟩
  .have q:=kN q;subst q
   exact⟨v,oF r,Rep.mono (λ_ _ e _=>e) (λb U z=>by
    rcases z with z|z
    .rcases z.store with z|z
     .exact .inl z
     .exact absurd z.1 (by simp)
    .exact .inr z) u⟩
  .obtain⟨w,h1,n⟩:=h.val j d q;exact⟨w,by rw[oP ne];exact h1,Rep.mono (λ_ _ e _=>e) sub n⟩
 .rcases lQ o with⟨rfl,_,q⟩|⟨ne,q⟩
  .have q:=kN q;subst q;obtain⟨p,rfl,np,ok⟩:=u;refine⟨p,oF r,ok.mono (λ_ _ e _=>e) (λb U z=>?_) λ_ e=>e⟩;rcases z with z|z
   .rcases z.store with z|z
    .exact .inl z
    .have:=z.2;cases this;exact .inr<|.inr O9
   .exact .inr (.inl z)
  .obtain⟨a,h1,n⟩:=h.own j d q;exact⟨a,by rw[oP ne];exact h1,n.mono (λ_ _ e _=>e) sub λ_ e=>e⟩
 .rcases OwnI.store ⟨d,o,h1⟩ with⟨L,y,g1,g2⟩|⟨B,g1,g2⟩
  .rcases OwnI.store ⟨e,hk,n⟩ with⟨Q,s,g3,m⟩|⟨A,g3,m⟩
   .exact h.inj j k y s a g1 g3 g2 m
   .exact absurd (bI ⟨g3,m⟩) (h.nT a ⟨j,y,g1,g2⟩)
  .rcases OwnI.store ⟨e,hk,n⟩ with⟨Q,s,g3,m⟩|⟨A,g3,m⟩
   .exact absurd (bI ⟨g1,g2⟩) (h.nT a ⟨k,s,g3,m⟩)
   .exact B.symm.trans A
 .rcases z.store with z|z
  .exact λt=>h.nT a z<|.inl t
  .obtain⟨d,b⟩:=x
   cases b with
   |false=>exact absurd z.1 (by simp)
   |true=>obtain⟨p,rfl,np,_⟩:=u;have:=z.2;cases this;exact np
def SK.store(k:Keep f l H c g)(b:A i)(h:x.2=J-> ∀p,v= .ref p->H p=I):SK A f l H (f.set i<|C v) (c.set i<|C x) g where
 kp:=k.kp
 owi:=λj a z=>by
  rcases z.store with⟨_,z⟩|⟨_,m,n⟩
  .exact .inl (k.owi j a z)
  .exact .inr (.inl<|h m a n)
 dm:=k.dm
 as:=λj d=>oP λ(e:i=j)=>d (by subst e;exact b)
end
section
variable {X:Cx}{A L:jT}{g:Hp}{f:F}{e c:iK}{b a:bB}
def Aq{K:jb}{T:AP'}{k:L2.St}{n j:Dn}{U l:Hp}{r:D×Bool}{v:V}{i:Nat}(E:ER K U T k n)(P:Post K T k n U r j v l)(u:i<Ps j)(t:A i):
  SK A k n U (k.set i<|C v) (j.set i<|C r) l/\ER K l T (k.set i<|C v) (j.set i<|C r):=by
 have w:r.2=J-> ∀p,v= .ref p->U p=I:=λh p hv=>by
  obtain⟨d,o⟩:=r
  cases o with
  |false=>cases h
  |true=>obtain⟨q,h1,m,_⟩:=P.2;rw[hv] at h1;cases h1;exact m
 refine⟨SK.store P.1 t w,ER.store (P.er E) u ?_⟩;obtain⟨d,o⟩:=r
 cases o with
 |false=>exact P.2.2
 |true=>obtain⟨p,rfl,m,x,s⟩:=P.2;exact⟨p,rfl,λz=>(E.dom p z).ne m,s⟩
end
abbrev Tg:=D->Dn->Option Dn
def tG(K:jb)(A:jT)(g:Tg):TG:=λv f U Q=> ∃e T d b,ER K U T f e/\Rep K U (λa=>OwnA f e a\/T a) d v/\g d e=C b/\ ∀c,SK A f e U c b U->ER K U T c b->Q c U
def PGX(X:Cx)(A:jT)(e:iK)(a:Tg):Prop:=PG X e<|tG X.K A a
noncomputable def iL(i:Nat):Tg:=λd δ=>if i<(Ps δ) then C (δ.set i<|C (d,Y)) else I
noncomputable def Jm:List Tg->List D->Dn->Option Dn
 |[],[],a=>C a
 |t::b,d::ds,a=>(t d a).bind<|Jm b ds
 |_,_,_=>I
noncomputable def wy(a:List Tg):Tg
 | .tup ds,δ=>Jm a ds δ
 |_,_=>I
def tGs(K:jb)(A:jT)(g:List Tg):TGs:=λh e U Q=> ∃d T f b,ER K U T e d/\RepL K U (λa=>OwnA e d a\/T a) f h/\Jm g f d=C b/\ ∀c,SK A e d U c b U->ER K U T c b->Q c U
section
variable {X:Cx}{A:jT}{g:bB}{e:iK}{f:kh}{t:Tg}{c:List Tg}
def PG.imp'{t d:TG}(h:PG X e t)(k: ∀v b T Q,d v b T Q->t v b T Q):PG X e d:=λa s b T v u Q U r i=>h a s b T v u Q U r<|k v b T Q i
def PGs.imp'{t d:TGs}(h:PGs X f t)(k: ∀v b T Q,d v b T Q->t v b T Q):PGs X f d:=λa s b T v u Q U r i=>h a s b T v u Q U r<|k v b T Q i
def N5:PGs X [] (tGs X.K A []):=PGs.imp' Rz λv h U Q b=>by
 obtain⟨i,T,a,d,E,r,e,k⟩:=b
 cases a with
 |nil=>
  cases e;rw[RepL] at r;exact⟨r,k h .refl E⟩
 |cons _ _=>cases e
def Cr(h1:PGX X A e t)(p:PGs X f (tGs X.K A c))(u:(aW (e::f) X.env).map (·.2)=cC e X.env::(aW f X.env).map (·.2)):PGs X (e::f) (tGs X.K A (t::c)):=PGs.imp' (N6 h1 p u) λv O M Q w=>by
 obtain⟨N,T,h,i,E,r,e,k⟩:=w
 cases h with
 |nil=>cases e
 |cons d h=>rw[RepL] at r;obtain⟨B,U,rfl,x,y⟩:=r;obtain⟨a,q,e⟩:=iA e;refine⟨B,U,rfl,N,T,d,a,E,x,q,λL l m=>⟨a,T,h,i,m,?_,e,λj o n=>k j (l.trans o) n⟩⟩;exact RepL.mono (λ_ _ e _=>e) (λb s z=>z.elim (λz=>(l.ow b z).elim bC λz=>absurd z s) bI) y
def Ry{k:Nat}(o:X.calm=J)(h:PGs X f (tGs X.K A c)){n:Nat}(s:(aW f X.env).length=n)(p:c.length=n)(x:(aW f X.env).findIdx? (·.1)=I):PGX X A (.Tuple f k g) (wy c):=PG.imp' (Vn o h s x) λv z U Q u=>by
 obtain⟨i,T,d,j,E,r,e,k⟩:=u
 cases d with
 |tup b=>
  obtain⟨a,y,rfl,q,m⟩:=r.tup;refine⟨a,y,rfl,q.sq,?_,i,T,b,j,E,m,e,k⟩
  have: ∀(c:List Tg) (b:List D) (i:Dn),Jm c b i=C j->b.length=c.length:=by
   intro c
   induction c with
   |nil=>intro b i h;cases b with|nil=>rfl|cons _ _=>cases h
   |cons t c w=>
    intro b i h
    cases b with
    |nil=>cases h
    |cons d b=>obtain⟨l,_,h⟩:=iA h;simp[w b l h]
  rw[m.length,this c b i e,p]
 |_=>cases e
end
abbrev SB:=Nat->Prop
def OwB(B:SB)(T:AP')(c:L2.St)(b:Dn):AP':=λa=>(∃i,¬B i/\OwnI c b i a)\/T a
def OwB.own(h:OwB B T σ δ a):OwnA σ δ a\/T a:=h.imp (λU=>by obtain⟨i,_,d,h1,b⟩:=U;exact ⟨i,d,h1,b⟩) id
structure ItOk(K:jb)(J:It)(ds:List D)(P O:AP')(H1:Hp):Prop where
 go: ∀(i:Nat) d Hi,ds[i]?=N2 d->(∀a o,H1 a=N2 o-> ¬P a->Hi a=N2 o)->J.go i Hi/\ ∀x H',J.yld i Hi x H'->(∀a o,Hi a=N2 o->H' a=N2 o)/\
  ∀O':AP',(∀b,H1 b≠Op->O' b->O b)->(∀b,Hi b=Op-> ¬O' b)->Rep K H' O' d x
 stop: ∀(i:Nat) Hi,Ps ds<=i->(∀a o,H1 a=N2 o-> ¬P a->Hi a=N2 o)->J.stop i Hi
abbrev FIt:=Dn->Option (List D×Dn)
def tI(K:jb)(B:SB)(g:FIt):TI:=λc U R=> ∃e T f b,ER K U T c e/\g e=C (f,b)/\ ∀Q d,Keep c e U b d->ER K d T c b->ItOk K Q f (OwB B T c b) (λa=>OwnA c b a\/T a) d->R Q d
def PIX(X:Cx)(B:SB)(tg iter:iK)(a:FIt):Prop:=PI X tg iter<|tI X.K B a
noncomputable def pT:D->Option (List D)
 | .tup l=>C l
 | .lst l=>C l
 |_=>I
noncomputable def A5(f:FO):FIt:=λa=>(f a).bind λp=>(res p.2 p.1).bind λd=>(pT d).bind λl=>C (l,p.2)
noncomputable def kb(f:F):FIt:=λδ=>(f δ).bind λp=>match p.1.1 with
 | .lst l=>C (l,p.2)
 | .tup l=>C (l,p.2)
 |_=>I
noncomputable def jB(lo:Int)(n:Nat):List D:=(aj n).map λ(k:Nat)=> .int (lo+k)
noncomputable def BX(f:FO):FIt:=λa=>(kF [f] a).bind λp=>match vP p.2 p.1 with
 |some [.int j]=>if -(2^62)<=j/\j<2^62 then C (jB 0 j.toNat,p.2) else I
 |_=>I
def SlB(B:SB)(f:FO):Prop:= ∀b i a,f b=C (.slot i,a)->B i
def D2:SlB B (iJ f):=λb i a h=>by obtain⟨p,_,h⟩:=iA h;cases h
def Q5(h:B i):SlB B (iC i):=λb j a e=>by
 unfold iC at e;split at e<;>cases e
 exact h
noncomputable def isL:D->Bool
 | .lst _=>J
 |_=>Y
def SqA(b:Bool)(K:jb)(U:Hp)(P:AP')(a:iB)(c:List V):Prop:=if b=J then SqLO K U P a c else SqTO K U P a c
def SqA.mono{K U H'}{P P':AP'}(q:SqA b K U P a xs)(k: ∀b o,U b=C o-> ¬P b->H' b=C o)(c: ∀b,P' b->P b):SqA b K H' P' a xs:=by
 cases b with
 |true=>exact SqLO.mono q k λb _=>c b
 |false=>exact SqTO.mono (K:=K) q k λb _=>c b
def SqA.l{K U}(q:SqA J K U P a xs):SqL K U a xs:=SqLO.sq q
def SqA.t{K U}(q:SqA Y K U P a xs):SqT K U a xs:=SqTO.sq (K:=K) q
def Cq{K U}(h:pT d=C l)(r:Rep K U O d v): ∃a b,v= .ref a/\SqA (isL d) K U O a b/\RepL K U O l b:=by
 cases d with
 |tup m=>cases h;obtain⟨a,b,rfl,q,c⟩:=r.tup;exact⟨a,b,rfl,q,c⟩
 |lst m=>cases h;obtain⟨a,b,rfl,q,c⟩:=r.lst;exact⟨a,b,rfl,q,c⟩
 |_=>cases h
def Ops.seq{K:jb}{T U:AP'}{h:L2.St}{A c:Dn}{M n:Hp}{os:List Opd}{y:List V}(E:ER K M T h A)(W:Ops K T h A M os y c n U){j:Nat}(h1:os[j]?=C o)(x:y[j]?=C v)(s:res c o=C d)(t:pT d=C l)(L: ∀i,o= .slot i->B i):
  ∃a g,v= .ref a/\SqA (isL d) K n (OwB B T h c) a g/\RepL K n (λa=>OwnA h c a\/T a) l g:=by
 have fin:Rep K n (λa=>OwnA h c a\/T a) d v-> ∃a g,v= .ref a/\SqA (isL d) K n (OwB B T h c) a g/\RepL K n (λa=>OwnA h c a\/T a) l g:=λr=>by obtain⟨a,g,rfl,q,u⟩:=Cq t r;exact⟨a,g,rfl,q.mono (λ_ _ e _=>e) λa z=>z.own,u⟩
 cases o with
 |val r=>cases s;exact fin<|W.rep E h1 x
 |slot i=>
  have hk:=W.slt j i _ h1 x
  have hd: ∃f,c[i]?=C (C (d,f)):=by
   unfold res at s;dsimp only at s;split at s<;>cases s
   exact⟨_,by assumption⟩
  obtain⟨f,hd⟩:=hd
  cases f with
  |false=>obtain⟨w,p,N⟩:=W.er.val i _ hd;rw[hk] at p;cases p;exact fin<|Rep.mono (λ_ _ e _=>e) (λb _ z=>z.imp id<|W.tt b) N
  |true=>
   obtain⟨a,p,ok⟩:=W.er.own i _ hd;rw[hk] at p;cases p
   cases d with
   |lst m=>
    cases t;obtain⟨g,e,u⟩:=ok;exact⟨a,g,rfl,.inl ⟨.inl e,λz=>z.elim (λG=>by obtain⟨k,O,Q,g1,g2⟩:=G;exact O<|W.er.inj i k _ _ a hd g1 hk g2▸L i H) λz=>W.er.nT a ⟨i,_,hd,hk⟩<|W.tt a z⟩,RepL.mono (λ_ _ e _=>e) (λb _ z=>z.imp id<|W.tt b) u⟩
   |tup m=>exact ok.elim
   |_=>cases t
section
variable {X:Cx}{B:SB}{tg e:iK}{f:F}{c:FO}{g p:bB}
def PI.imp'(h:PI X tg e t)(k: ∀b T R,i b T R->t b T R):PI X tg e i:=λa s b T R U d=>h a s b T R U<|k b T R d
def PI.or(h:PI X tg e t)(d:PI X tg e j):PI X tg e (λb T R=>t b T R\/j b T R):=λa s b T R U i=>i.elim (h a s b T R U)<|d a s b T R U
noncomputable def ItS(b:Bool)(K:jb)(a:iB):It:=if b=J then Itl K a else Itt K a
def Pd{K:jb}{P O:AP'}{m:Hp}{a:iB}{k:List V}{l:List D}(q:SqA b K m P a k)(r:RepL K m O l k)(v: ∀a,P a->O a):ItOk K (ItS b K a) l P O m:=by
 cases b<;>(
  refine⟨λi d Hi hd j=>?_,λi Hi w j=>?_⟩
  .have h:=SqA.mono q j λ_ z=>z
   first|replace h:=h.l|replace h:=h.t
   obtain⟨x,u,A⟩:=r.get hd;refine⟨⟨k,x,h,u⟩,λy U s=>?_⟩;obtain⟨rfl,s⟩:=s;have:=s k h;rw[u] at this;cases this;exact⟨λ_ _ e=>e,λE h1 T=>Rep.mono (λb o e n=>j b o e λz=>n<|v b z) h1 A⟩
  .exact⟨k,by first|exact(SqA.mono q j λ_ z=>z).l|exact(SqA.mono q j λ_ z=>z).t,by rw[r.length];exact w⟩)
def A7{K:jb}{P O:AP'}{b:Hp}(lo:Int)(n:Nat):ItOk K (Itr lo n) (jB lo n) P O b:=by
 refine⟨λi d Hi hd j=>?_,λi Hi a j=>?_⟩
 .unfold jB at hd;rw[ki] at hd;obtain⟨k,h1,h⟩:=ju hd;have a:i<n:=by have:=(rQ.mp h1).1;simpa using this
  have hk:k=i:=by rw[My a] at h1;exact(kN h1).symm
  subst hk;refine⟨a,λy m l=>?_⟩;obtain⟨rfl,rfl⟩:=l;refine⟨λ_ _ e=>e,λo _ _=>?_⟩;rw[<-h];exact Rep.mkInt
 .unfold jB at a;have:n<=i:=by simpa using a
  exact this
def Fq(h:PO X e c)(N:SlB B c):PIX X B tg e (A5 c):=PI.imp' (PI.or (Rx (tg:=tg) h)<|Vm h) λA M R O=>by
 obtain⟨x,T,J,G,E,e,k⟩:=O;obtain⟨⟨o,w⟩,h1,e⟩:=iA e;obtain⟨d,U,e⟩:=iA e;obtain⟨l,y,e⟩:=iA e;obtain⟨rfl,rfl⟩:=jc e
 have u: ∀v n,PostO X.K T A x M o w v n-> ∃a s,v= .ref a/\SqA (isL d) X.K n (OwB B T A w) a s/\R (ItS (isL d) X.K a) n:=λv n P=>by have W:=Ops.cons E P<|Ops.nil<|P.er E;obtain⟨a,s,rfl,q,Q⟩:=W.seq E (j:=0) H H U y λi L=>N _ _ _ (L▸h1);exact⟨a,s,rfl,q,k _ n W.keep (W.er.mono (λ_ _ e _=>e) (λb _ z=>W.tt b z) λa z=>W.er.dom a<|W.tt a z) (Pd q Q λa z=>z.own)⟩
 cases d with
 |lst m=>exact .inl ⟨x,T,_,_,E,h1,λv n P=>let⟨a,s,e,q,r⟩:=u v n P;⟨a,e,⟨s,q.l⟩,r⟩⟩
 |tup m=>exact .inr ⟨x,T,_,_,E,h1,λv n P=>let⟨a,s,e,q,r⟩:=u v n P;⟨a,e,⟨s,q.t⟩,r⟩⟩
 |_=>cases y
end
noncomputable def qD(tg:Tg)(fb:FS):List D->FS
 |[],δ=>C<|.nx δ
 |d::ds,δ=>(tg d δ).bind λb=>(fb b).bind λo=>match o with
  | .nx a=>qD tg fb ds a
  | .ct a=>qD tg fb ds a
  | .bk a=>C<|.nx a
  | .rt r a=>C<|.rt r a
noncomputable def qt(b:FIt)(c:Tg)(a:FS):FS:=λδ=>(b δ).bind λp=>qD c a p.1 p.2
section
variable {X:Cx}{A L:jT}{l:Hp}{g iter:iK}{c:List bv}{j:FIt}{t:Tg}{f:FS}{h:bB}
def Rq(hp:eT (ai X.prog X.w) X.A X.env X.xe)(hc:X.calm=O0)(hi:PIX X (λ_=>False) g iter j)(hg:PGX X A g t)(G:Jc X A L l c f)(hs: ∀x,ay iter X.env x=pure x):
  PSX X A L l (.For g iter c [] h) (qt j t f):=PS.imp' (Vj hp hc hi hg G hs) λD M H hw=>by
 obtain⟨δ,T,R,E,hJ,e,k⟩:=hw;obtain⟨⟨u,q⟩,h1,e⟩:=iA e;refine⟨δ,T,u,q,E,h1,λJ Y K1 E1 ok=>?_⟩;have V:SK A M δ H M q Y:=K1.sk;refine⟨λi m s C'=>m=Ps u-i/\i<=Ps u/\ ∃p,SK A M q Y s p C'/\ER X.K C' T s p/\qD t f (u.drop i) p=C R,⟨Ps u,by simp,lN _,q,.refl,E1,by simpa using e⟩,?_⟩;rintro i m O H2 ⟨rfl,hle,I',S2,N,e2⟩;have aP: ∀a o,Y a=C o-> ¬OwB (λ_=>False) T M q a->H2 a=C o:=λa o ea n=>S2.kp a o ea λ⟨i,d,z⟩=>n<|.inl ⟨i,id,d,z⟩;by_cases Z:i<Ps u
 .refine .inr ?_;have hd:u[i]?=C u[i]:=jA Z;obtain⟨go,yl⟩:=ok.go i _ H2 hd aP;rw[xQ Z] at e2;obtain⟨S,h3,e3⟩:=iA e2;obtain⟨o,h4,W⟩:=iA e3;refine⟨go,λs C'=> ∃p,SK A M q Y s p C'/\ER X.K C' T s p/\qD t f (u.drop<|i+1) p=C R,λs C' ⟨p,q1,q2,q3⟩=>⟨Ps u-(i+1),by omega,rfl,Z,p,q1,q2,q3⟩,λx C' hy=>?_⟩;obtain⟨ext,rep⟩:=yl x C' hy;have fK:ER X.K C' T O I':=N.mono (λb ob eb _=>ext b ob eb) (λ_ _ z=>z) λa z=>(N.dom a z).up<|ext a;have ip:SK A M q Y O I' C':=S2.trans (Keep.ext ext).sk;have rx:=rep (λa=>OwnA O I' a\/T a) (λb G z=>z.elim (λz=>(S2.ow b z).elim bC λz=>absurd z G) bI) λb G z=>z.elim (λz=>N.ownDom z G) λz=>(N.dom b z).ne G;refine⟨I',T,u[i],S,fK,rx,h3,λσ3 S3 E3=>?_⟩;have P:=ip.trans S3;refine⟨S,T,o,E3,(hJ.step V).step P,h4,?_⟩
  cases o with
  |nx y=>exact λB F Q U=>⟨y,P.trans Q,U,W⟩
  |ct y=>exact λB F Q U=>⟨y,P.trans Q,U,W⟩
  |bk y=>cases W;exact λB F Q U=>k B F (V.trans<|P.trans Q) U
  |rt r y=>cases W;exact λv B F Q R4=>k v B F (V.trans<|P.trans Q) R4
 .refine .inl ⟨ok.stop i H2 (by omega) aP,?_⟩;rw[zZ<|by omega] at e2;cases e2;exact k O H2 (V.trans S2) N
end
noncomputable def nJ(b:FT)(a:FS):Nat->FS
 |0,_=>I
 |n+1,c=>(b c).bind λp=>if p.1=J then(a p.2).bind λo=>(match o with
   | .nx δ2=>nJ b a n δ2
   | .ct δ2=>nJ b a n δ2
   | .bk δ2=>C<|.nx δ2
   | .rt r δ2=>C<|.rt r δ2) else C (.nx p.2)
noncomputable def A6(f g:FO):FIt:=λδ=>(kF [f,g] δ).bind λp=>match vP p.2 p.1 with
 |some [.int i,.int j]=>if -(2^62)<=i/\i<2^62/\ -(2^62)<=j/\j<2^62 then C (jB i (j-i).toNat,p.2) else I
 |_=>I
section
variable {X:Cx}{A L:jT}{s:Hp}{B:SB}{t e c a b:iK}{d:List bv}{f:FT}{g:FS}{x u:FO}{l p:bB}
def KW{n:Nat}(hp:eT (ai X.prog X.w) X.A X.env X.xe)(hc:PTX X c f)(hb:Jc X A L s d g):PSX X A L s (.While c d [] l) (nJ f g n):=PS.imp' (NM hp hc hb) λD F H hw=>by
 obtain⟨Y,T,J,E,hJ,e,k⟩:=hw;refine⟨λm i I=> ∃h,SK A F Y H i h I/\ER X.K I T i h/\nJ f g m h=N2 J,⟨n,Y,.refl,E,e⟩,?_⟩;rintro m M H2 ⟨δ2,S2,E2,e2⟩
 cases m with
 |zero=>cases e2
 |succ m=>
  obtain⟨⟨S,C⟩,Z,N⟩:=iA e2;refine⟨δ2,T,S,C,E2,Z,λR V P=>?_⟩;have O:SK A F Y H M C R:=S2.trans V.sk
  cases S with
  |false=>rw[je kU] at N;cases N;exact V1<|k M R O P
  |true=>
   rw[iT O9] at N;obtain⟨o,h4,U⟩:=iA N;refine V0 ⟨λi I=> ∃h,SK A F Y H i h I/\ER X.K I T i h/\nJ f g m h=N2 J,λi I q=>⟨m,sh _,q⟩,C,T,o,P,hJ.step O,h4,?_⟩
   cases o with
   |nx j=>exact λy G z Q=>⟨j,O.trans z,Q,U⟩
   |ct j=>exact λy G z Q=>⟨j,O.trans z,Q,U⟩
   |bk j=>cases U;exact λy G z Q=>k y G (O.trans z) Q
   |rt r j=>cases U;exact λv y G z W=>k v y G (O.trans z) W
def tY{K:jb}{T v:AP'}{E:L2.St}{U m:Dn}{Q r:Hp}{os:List Opd}{k:List V}{n:List D}(B:Ops K T E U Q os k m r v)(h:vP m os=C n){j:Nat}{i:Int}(hd:n[j]?=C (.int i)):k[j]?=C (.int i):=by
 obtain⟨h1,w⟩:=oZ h;obtain⟨o,q,y⟩:=w j _ hd;have z:j<(Ps k):=by have:=(rQ.mp q).1;have:=B.len;lia
 have hv:k[j]?=C k[j]:=jA z;have:=jq<|B.view q hv y;rw[hv,this]
end
abbrev EvF:=List (D×Bool)->Option ((D×Bool)×Dn)
def spF(K:jb)(e:EvF):Sp:=λd U Q _=> ∃T a r b,ER K U T (d.map C) (a.map C)/\e a=C (r,b)/\ ∀v c,Post K T (d.map C) (a.map C) U r b v c->Q v c
noncomputable def jv(args:List (D×Bool))(δ:Dn):Dn:=args.zipIdx.map λp=>if p.1.2=J then(δ[p.2]?).join else C p.1
noncomputable def evF(n np:Nat)(asg:jL)(f:FS):EvF:=λargs=>
 if (Ps args)=np/\np<=n/\(args.zipIdx.all λp=>!(p.1.2&&asg.contains p.2))=J then
  match f (args.map C++ac (n-np) I) with
  |some (.rt r δ)=>C (r,jv args δ)
  |some (.nx δ)=>C ((.non,Y),jv args δ)
  |_=>I
 else I
def Oh(a:List (D×Bool))(b:Dn)(i:Nat):(jv a b)[i]?=a[i]?.map λx=>if x.2=J then(b[i]?).join else C x:=by
 unfold jv;rw[ki,G4]
 cases a[i]? with
 |none=>rfl
 |some x=>simp
def qA(h:x.join=C p):x=C (C p):=by
 cases x with
 |none=>cases h
 |some y=>exact nD C h
section
variable {K:jb}{T:AP'}{A:jT}{k:List V}{f:List (D×Bool)}{H q:Hp}{m:Nat}{l:L2.St}{g:Dn}{r:D×Bool}{v:V}
def EU{b:Type}{a:List b}{m i:Nat}{y:b}:(a.map C++ac m I)[i]?=C (C y)↔a[i]?=C y:=by
 by_cases h:i<Ps a
 .rw[uO<|by simpa using h,ki];cases a[i]?<;>simp
 .rw[pO<|by simpa using h];constructor
  .intro e;rw[wt] at e;split at e<;>cases e
  .intro e;exact absurd (rQ.mp e).1 h
def ur{b:Type}{a:List b}{i:Nat}{y:b}:(a.map C)[i]?=C (C y)↔a[i]?=C y:=by rw[ki];cases a[i]?<;>simp
def LW{i:Nat}{a:iB}:OwnI (k.map C++ac m I) (f.map C++ac m I) i a↔OwnI (k.map C) (f.map C) i a:=by unfold OwnI;simp only[EU,ur]
def Fu:OwnA σ b a↔ ∃i,OwnI σ b i a:=Iff.rfl
def Og:OwnA (k.map C++ac m I) (f.map C++ac m I) a↔OwnA (k.map C) (f.map C) a:=by rw[Fu,Fu];exact exists_congr λi=>LW
def ER.pad(E:ER K H T (k.map C) (f.map C)):ER K H T (k.map C++ac m I) (f.map C++ac m I):=by
 have len:(Ps k)=(Ps f):=by simpa using E.len
 refine⟨by simp[len],λi d h=>?_,λi d h=>?_,λi j d e a h1 o p s=>?_,λa z=>E.nT a<|Og.mp z,E.dom⟩
 .obtain⟨w,c,n⟩:=E.val i d<|ur.mpr<|EU.mp h;exact⟨w,EU.mpr<|ur.mp c,Rep.mono (λ_ _ e _=>e) (λb _ z=>z.imp Og.mp id) n⟩
 .obtain⟨w,c,n⟩:=E.own i d<|ur.mpr<|EU.mp h;exact⟨w,EU.mpr<|ur.mp c,n.mono (λ_ _ e _=>e) (λb _ z=>z.imp Og.mp id) λ_ e=>e⟩
 .exact E.inj i j d e a (ur.mpr<|EU.mp h1) (ur.mpr<|EU.mp o) (ur.mpr<|EU.mp p) (ur.mpr<|EU.mp s)
def JL{J:AP'}(E:ER K H T (k.map N2) (f.map N2))(S:SK A (k.map N2++ac m Op) (f.map N2++ac m Op) H l g q)(hA: ∀(i:Nat) d,f[i]?=N2 (d,O0)-> ¬A i)
  (Q:ER K q J l g)(hT: ∀b,H b≠Op->J b->T b):ER K q J (k.map N2) (jv f g)/\(∀b,OwnA (k.map N2) (jv f g) b->OwnA l g b)/\Keep (k.map N2) (f.map N2) H (jv f g) q:=by
 have len:(Ps k)=(Ps f):=by simpa using E.len
 have s: ∀(i:Nat) d w,f[i]?=N2 (d,O0)->k[i]?=N2 w->l[i]?=N2 (N2 w):=λi d w h1 p=>by rw[S.as i<|hA i d h1];exact EU.mpr p
 have t: ∀(i:Nat) d b,(jv f g)[i]?=N2 (N2 (d,b))->(∃e,f[i]?=N2 (e,O0)/\g[i]?=N2 (N2 (d,b)))\/(b=O1/\f[i]?=N2 (d,O1)):=λi d b h=>by
  rw[Oh] at h;obtain⟨⟨e,c⟩,h1,p⟩:=ju h
  cases c with
  |true=>left;exact⟨e,h1,qA<|by simpa using p⟩
  |false=>
   right;have:N2 (e,O1)=N2 (d,b):=by simpa using p
   cases this;exact⟨rfl,h1⟩
 have B: ∀i a,OwnI (k.map N2) (jv f g) i a->OwnI l g i a/\OwnI (k.map N2) (f.map N2) i a:=λi a a'=>by
  obtain⟨d,h1,p⟩:=a'
  rcases t i d O0 h1 with⟨e,u,x⟩|⟨z,_⟩
  .exact⟨⟨d,x,s i e _ u (ur.mp p)⟩,⟨e,ur.mpr u,p⟩⟩
  .cases z
 have G: ∀b,OwnA (k.map N2) (jv f g) b->OwnA l g b:=λb a'=>by
  obtain⟨i,d,h1,p⟩:=a'
  obtain⟨⟨e,I,L⟩,_⟩:=B i b ⟨d,h1,p⟩;exact⟨i,e,I,L⟩
 have C: ∀b,OwnA (k.map N2) (jv f g) b->OwnA (k.map N2) (f.map N2) b:=λb a'=>by
  obtain⟨i,d,h1,p⟩:=a'
  obtain⟨_,⟨e,I,L⟩⟩:=B i b ⟨d,h1,p⟩;exact⟨i,e,I,L⟩
 have U: ∀a o,H a=N2 o-> ¬OwnA (k.map N2) (f.map N2) a->q a=N2 o:=λa o e n=>S.kp a o e λz=>n<|Og.mp z;refine⟨⟨?_,λi d h=>?_,λi d h=>?_,λi j d e a h1 p u x=>?_,λa z=>Q.nT a<|G a z,Q.dom⟩,G,⟨U,λi a z=>(B i a z).2,S.dm⟩⟩
 .simp[jv,len]
 .have M:i<(Ps k):=by
   have:=(rQ.mp h).1;simp[jv] at this
   lia
  have hv:k[i]?=N2 k[i]:=jA M;rcases t i d O1 h with⟨e,u,x⟩|⟨_,u⟩
  .obtain⟨w,y,O⟩:=Q.val i d x;rw[s i e _ u hv] at y;cases y;exact⟨_,ur.mpr hv,Rep.mono (λ_ _ e _=>e) (λb _ z=>z.imp (G b) id) O⟩
  .obtain⟨w,y,O⟩:=E.val i d<|ur.mpr u;exact⟨w,y,Rep.mono (λb o e n=>U b o e λz=>n<|.inl z) (λb F z=>z.imp (C b)<|hT b F) O⟩
 .have M:i<(Ps k):=by
   have:=(rQ.mp h).1;simp[jv] at this
   lia
  have hv:k[i]?=N2 k[i]:=jA M;rcases t i d O0 h with⟨e,u,x⟩|⟨z,_⟩
  .obtain⟨w,y,O⟩:=Q.own i d x;rw[s i e _ u hv] at y;have N:k[i]=V.ref w:=by simpa using y
   exact⟨w,by rw[<-N];exact ur.mpr hv,O.mono (λ_ _ e _=>e) (λb _ z=>z.imp (G b) id) λ_ e=>e⟩
  .cases z
 .obtain⟨_,⟨Y,I,L⟩⟩:=B i a ⟨d,h1,u⟩;obtain⟨_,⟨D,P,R⟩⟩:=B j a ⟨e,p,x⟩;exact E.inj i j Y D a I P L R
def qH(E:ER K H T (k.map C) (f.map C))(S:SK A (k.map C++ac m I) (f.map C++ac m I) H l g q)(j: ∀(i:Nat) d,f[i]?=C (d,J)-> ¬A i)
  (R:RV K T H r l g v q):Post K T (k.map C) (f.map C) H r (jv f g) v q:=by
 obtain⟨d,b⟩:=r
 cases b with
 |false=>obtain⟨a,s⟩:=R;obtain⟨c,ow,h⟩:=JL E S j a λ_ _ z=>z;exact⟨h,c,Rep.mono (λ_ _ e _=>e) (λb _ z=>z.imp (ow b) id) s⟩
 |true=>obtain⟨p,rfl,n,a,ok⟩:=R;obtain⟨c,ow,h⟩:=JL E S j a (λb o z=>z.elim id λz=>by subst z;exact absurd n o);exact⟨h,p,rfl,n,c,ok.mono (λ_ _ e _=>e) (λb _ z=>z.imp (ow b) id) λ_ e=>e⟩
end
section
variable {P:jd}{w:iW}{K:jb}{g:lp}{base:ja}{N:ji}{m:Nat}{b:jL}{fs:FS}{c:List V}{H:Hp}{Q:VK}{E:XK}
def Jp(h:spF K (evF (Ps N) m b fs) c H Q E):(Ps c)=m:=by
 obtain⟨T,a,r,d,E0,e,_⟩:=h;unfold evF at e;split at e
 .rename_i f;have:=E0.len;simp at this;rw[this];exact f.1
 .cases e
def Nh(h:spF K (evF (Ps N) m b fs) c H Q E): ∃L:Nat->Prop,(∀i,L i->i<m)/\tS K (λi=>i∈b) L H fs {nx:=λ_ l=>Q .non l,rt:=Q} (L2.pQ N c) H:=by
 obtain⟨T,f,r,x,E0,e,u⟩:=h;unfold evF at e;split at e
 .rename_i I;obtain⟨h1,Y,C⟩:=I;have n:(Ps c)=(Ps f):=by simpa using E0.len
  refine⟨λi=> ∃d,f[i]?=N2 (d,O0),λi ⟨d,hd⟩=>by have:=(rQ.mp hd).1;lia,?_⟩;have U:L2.pQ N c=c.map N2++ac (Ps N-m) Op:=by unfold L2.pQ;rw[n,h1]
  have q: ∀(i:Nat) d,f[i]?=N2 (d,O0)-> ¬(i∈b):=λi d hd G=>by
   have J:(f.zipIdx)[i]?=N2 ((d,O0),i):=by rw[G4,hd];simp
   have:=lU.mp C _ (nB J);simp at this;exact this G
  rw[U]
  have B:FI (λi=>i∈b) (λi=> ∃d,f[i]?=N2 (d,O0)) H (c.map N2++ac (Ps N-m) Op) (f.map N2++ac (Ps N-m) Op) H:=⟨λi a z=>by obtain⟨d,M,_⟩:=LW.mp z;exact .inl ⟨d,ur.mp M⟩,λ_ z=>z,λj O ⟨d,hd⟩=>q j d hd O⟩
  cases s:fs (f.map N2++ac (Ps N-m) Op) with
  |none=>rw[s] at e;cases e
  |some o=>
   rw[s] at e;refine⟨_,T,o,E0.pad,B,s,?_⟩
   cases o with
   |rt r1 k=>obtain⟨rfl,rfl⟩:=jc e;exact λv t l p A=>u v l<|qH E0 p q A
   |nx k=>obtain⟨rfl,rfl⟩:=jc e;exact λt l p y=>u .non l<|qH (r:=(.non,O1)) E0 p q ⟨y,Rep.mkNon⟩
   |bk k=>cases e
   |ct k=>cases e
 .cases e
def V9{x qual:aB}{st:bv}{f:iB}{j:mD}{e:ji}{k:Nat}(F:Fun K x qual st f j)(S:FnScope N e (iG st))
  (o: ∀(d:iO) (A:jf) (a:List dh) (s:iI) (H:Hp) (E:XK) (L:jT),(∀i,L i->i<Ps e)->Room k (A.deeper<|aV qual (iG st) s.heap.objs.size f d)->
   Jc (qd CX0 P w K g base N qual (iG st) f d A a s H E).nox (λi=>i∈b) L H (lH st) fs):FnOk P w K g base CX0 (k+1) f j e (spF K<|evF (Ps N) (Ps e) b fs):=
 F.ok S (λc H Q E h=>Jp h) λd A a s H c Q E n h=>let⟨L,h1,l⟩:=Nh h;⟨_,o d A a s H E L h1 n,l⟩
end
noncomputable def zd(a:Dn):Opd->Option (D×Bool)
 | .val r=>C (r.1,Y)
 | .slot i=>(a[i]?).join
noncomputable def jZ(δ:Dn):List Opd->Option (List<|D×Bool)
 |[]=>C []
 |o::os=>(zd δ o).bind λa=>(jZ δ os).bind λl=>C (a::l)
noncomputable def jh:List Opd->List (D×Bool)->List Nat
 | .slot i::os,(_,J)::as=>i::jh os as
 |_::os,_::as=>jh os as
 |_,_=>[]
noncomputable def wb:List Opd->List (D×Bool)->Dn->Dn->Dn
 | .slot i::os,(_,J)::as,o::outs,δ=>wb os as outs<|δ.set i o
 |_::os,_::as,_::outs,δ=>wb os as outs δ
 |_,_,_,δ=>δ
noncomputable def iX(a:EvF)(fs:List FO):F:=λδ=>(kF fs δ).bind λp=>(jZ p.2 p.1).bind λargs=>if(jh p.1 args).Nodup then(a args).bind λq=>C (q.1,wb p.1 args q.2 p.2) else I
def pH{δ:Dn}: ∀{os:List Opd} {b:List (D×Bool)},jZ δ os=C b->Ps b=os.length/\ ∀(j:Nat) a,b[j]?=C a-> ∃o,os[j]?=C o/\zd δ o=C a:=by
 intro m
 induction m with
 |nil=>intro b h;cases h;exact⟨rfl,λj d h=>by simp at h⟩
 |cons o os k=>
  intro b h;unfold jZ at h;obtain⟨d,h1,h⟩:=iA h;obtain⟨l,f,h⟩:=iA h;cases h;obtain⟨g,i⟩:=k f;refine⟨by simp[g],λj e c=>?_⟩
  cases j with
  |zero=>simp at c;subst c;exact⟨o,rfl,h1⟩
  |succ j=>obtain⟨n,p,q⟩:=i j e (by simpa using c);exact⟨n,by simpa using p,q⟩
theorem um: ∀{os:List Opd} {as:List (D×Bool)} {j i:Nat} {d:D},os[j]?=C (.slot i)->as[j]?=C (d,J)->i∈jh os as
 |[],_,_,_,_,h,_=>by simp at h
 |_::_,[],_,_,_,_,h=>by simp at h
 |o::os,(e,b)::as,0,i,d,h1,a=>by simp at h1 a;obtain⟨rfl,rfl⟩:=a;subst h1;simp[jh]
 |o::os,(e,b)::as,j+1,i,d,h1,a=>by
  have c:=um (os:=os) (as:=as) (j:=j) (i:=i) (d:=d) (by simpa using h1) (by simpa using a)
  cases o with
  |val r=>simpa[jh] using c
  |slot k=>
   cases b with
   |true=>simp[jh,c]
   |false=>simpa[jh] using c
theorem CG: ∀{os:List Opd} {a:List (D×Bool)} {i:Nat},i∈jh os a-> ∃(j:Nat) (d:D),os[j]?=C (.slot i)/\a[j]?=C (d,J)
 |[],_,_,h=>by simp[jh] at h
 |o::_,[],_,h=>by cases o<;>simp[jh] at h
 |o::os,(e,b)::a,i,h=>by
  have c:i∈jh os a-> ∃(j:Nat) (d:D),(o::os)[j]?=C (.slot i)/\((e,b)::a)[j]?=C (d,J):=λh=>by obtain⟨j,d,h1,f⟩:=CG h;exact⟨j+1,d,by simpa using h1,by simpa using f⟩
  cases o with
  |val r=>exact c (by simpa[jh] using h)
  |slot k=>
   cases b with
   |true=>
    simp[jh] at h;rcases h with rfl|h
    .exact⟨0,e,rfl,rfl⟩
    .exact c h
   |false=>exact c (by simpa[jh] using h)
theorem CH: ∀{os:List Opd} {as:List (D×Bool)} {j k i:Nat} {d e:D},(jh os as).Nodup->os[j]?=C (.slot i)->as[j]?=C (d,J)->os[k]?=C (.slot i)->as[k]?=C (e,J)->j=k
 |[],_,_,_,_,_,_,_,h,_,_,_=>by simp at h
 |_::_,[],_,_,_,_,_,_,_,h,_,_=>by simp at h
 |o::os,(n,b)::as,j,k,i,d,e,a,h1,c,f,g=>by
  cases j with
  |zero=>
   cases k with
   |zero=>rfl
   |succ k=>simp at h1 c;obtain⟨rfl,rfl⟩:=c;subst h1;have:=um (os:=os) (as:=as) (j:=k) (by simpa using f) (by simpa using g);simp[jh] at a;exact absurd this a.1
  |succ j=>
   cases k with
   |zero=>simp at f g;obtain⟨rfl,rfl⟩:=g;subst f;have:=um (os:=os) (as:=as) (j:=j) (by simpa using h1) (by simpa using c);simp[jh] at a;exact absurd this a.1
   |succ k=>
    have l:(jh os as).Nodup:=by
     cases o with
     |val r=>simpa[jh] using a
     |slot m=>
      cases b with
      |true=>simp[jh] at a;exact a.2
      |false=>simpa[jh] using a
    have:=CH (os:=os) (as:=as) (j:=j) (k:=k) l (by simpa using h1) (by simpa using c) (by simpa using f) (by simpa using g)
    lia
theorem Al: ∀{os:List Opd} {c:List (D×Bool)} {a δ:Dn} {i:Nat},i∉jh os c->(wb os c a δ)[i]?=δ[i]?
 |[],_,_,_,_,_=>by simp[wb]
 |o::_,[],_,_,_,_=>by cases o<;>simp[wb]
 |o::os,(e,b)::c,[],_,_,_=>by cases o<;>cases b<;>simp[wb]
 |o::os,(e,b)::c,x::a,δ,i,h=>by
  cases o with
  |val r=>simp only[wb];exact Al (by simpa[jh] using h)
  |slot k=>
   cases b with
   |true=>simp[jh] at h;rw[wb,Al h.2,oP<|nV h.1]
   |false=>simp only[wb];exact Al (by simpa[jh] using h)
theorem Am: ∀{os:List Opd} {c:List (D×Bool)} {a δ:Dn},(wb os c a δ).length=Ps δ
 |[],_,_,_=>by simp[wb]
 |o::_,[],_,_=>by cases o<;>simp[wb]
 |o::os,(e,b)::c,[],_=>by cases o<;>cases b<;>simp[wb]
 |o::os,(e,b)::c,x::a,δ=>by
  cases o with
  |val r=>simp only[wb];exact Am
  |slot k=>
   cases b with
   |true=>simp only[wb];rw[Am,wo]
   |false=>simp only[wb];exact Am
theorem Jg: ∀{os:List Opd} {c:List (D×Bool)} {a δ:Dn} {i j:Nat} {d:D} {x:Sl},(jh os c).Nodup->os[j]?=C (.slot i)->c[j]?=C (d,J)->a[j]?=C x->i<Ps δ->(wb os c a δ)[i]?=C x
 |[],_,_,_,_,_,_,_,_,h,_,_,_=>by simp at h
 |o::_,[],_,_,_,_,_,_,_,_,h,_,_=>by simp at h
 |o::os,(e,b)::c,[],_,_,_,_,_,_,_,_,h,_=>by simp at h
 |o::os,(e,b)::c,y::a,δ,i,0,d,x,f,h1,g,l,n=>by simp at h1 g l;obtain⟨rfl,rfl⟩:=g;subst h1;subst l;simp[jh] at f;rw[wb,Al f.1,oF n]
 |o::os,(e,b)::c,y::a,δ,i,j+1,d,x,f,h1,g,l,n=>by
  have p:(jh os c).Nodup:=by
   cases o with
   |val r=>simpa[jh] using f
   |slot m=>
    cases b with
    |true=>simp[jh] at f;exact f.2
    |false=>simpa[jh] using f
  cases o with
  |val r=>simp only[wb];exact Jg p (by simpa using h1) (by simpa using g) (by simpa using l) n
  |slot k=>
   cases b with
   |true=>simp only[wb];exact Jg p (by simpa using h1) (by simpa using g) (by simpa using l) (by rw[wo];exact n)
   |false=>simp only[wb];exact Jg p (by simpa using h1) (by simpa using g) (by simpa using l) n
section
variable {K:jb}{T u:AP'}{l:L2.St}{δ f:Dn}{H m s:Hp}{os:List Opd}{vs:List V}{c:List (D×Bool)}{g:Dn}{r:D×Bool}{v:V}
noncomputable def Tc(T:AP')(l:L2.St)(f:Dn)(vs:List V)(c:List (D×Bool)):AP':=λa=>T a\/(OwnA l f a/\ ¬OwnA (vs.map C) (c.map C) a)
def wM(B:Ops K T l δ H os vs f m u)(p:jZ f os=C c){j:Nat}{d:D}(h:c[j]?=C (d,J)): ∃(i:Nat) (a:iB),os[j]?=C (.slot i)/\f[i]?=C (C (d,J))/\vs[j]?=C (.ref a)/\l[i]?=C (C<|.ref a):=by
 obtain⟨w,q⟩:=pH p;obtain⟨o,h1,b⟩:=q j _ h
 cases o with
 |val r=>cases b
 |slot i=>
  have e:f[i]?=C (C (d,J)):=qA b;have t:j<(Ps vs):=by have:=(rQ.mp h1).1;have:=B.len;lia
  have hv:vs[j]?=C vs[j]:=jA t;have k:=B.slt j i _ h1 hv;obtain⟨a,n,_⟩:=B.er.own i d e;rw[k] at n;have:vs[j]=V.ref a:=by simpa using n
  exact⟨i,a,h1,e,by rw[hv,this],by rw[k,this]⟩
def FP(B:Ops K T l δ H os vs f m u)(n:jZ f os=C c){j:Nat}{a:iB}(h:OwnI (vs.map C) (c.map C) j a): ∃(i:Nat) (d:D),os[j]?=C (.slot i)/\c[j]?=C (d,J)/\OwnI l f i a:=by obtain⟨d,h1,k⟩:=h;have e:=ur.mp h1;obtain⟨i,b,o,p,q,t⟩:=wM B n e;have:=ur.mp k;rw[q] at this;cases this;exact⟨i,d,o,e,d,p,t⟩
def JZ(B:Ops K T l δ H os vs f m u)(k:jZ f os=C c)(h:OwnA (vs.map C) (c.map C) a):OwnA l f a:=by obtain⟨j,d,h1,b⟩:=h;obtain⟨i,_,_,_,e,n,o⟩:=FP B k ⟨d,h1,b⟩;exact⟨i,e,n,o⟩
def zD(E:ER K H T l δ)(B:Ops K T l δ H os vs f m u)(n:jZ f os=N2 c)(nd:(jh os c).Nodup):ER K m (Tc T l f vs c) (vs.map N2) (c.map N2):=by
 obtain⟨D,U⟩:=pH n
 have sub: ∀b,(OwnA (vs.map N2) (c.map N2) b\/Tc T l f vs c b)->OwnA l f b\/T b:=λb z=>by
  rcases z with z|z|z
  .exact .inl (JZ B n z)
  .exact .inr z
  .exact .inl z.1
 refine⟨by simp[D,B.len],λj d h=>?_,λj d h=>?_,λj k d e a h1 p x y=>?_,λa z t=>?_,λa z=>?_⟩
 .have h:=ur.mp h;obtain⟨o,h1,p⟩:=U j _ h;have Y:j<(Ps vs):=by have:=(rQ.mp h1).1;have:=B.len;lia
  have hv:vs[j]?=N2 vs[j]:=jA Y;refine⟨_,ur.mpr hv,?_⟩
  cases o with
  |val q=>
   have:q.1=d:=by cases p;rfl
   subst this;exact Rep.mono (λ_ _ e _=>e) (λb _ z=>sub b z)<|B.rep E h1 hv
  |slot i=>
   have x:f[i]?=N2 (N2 (d,O1)):=qA p;have y:=B.slt j i _ h1 hv;obtain⟨w,Q,P⟩:=B.er.val i d x;rw[y] at Q;have:vs[j]=w:=by simpa using Q
   rw[this];exact Rep.mono (λ_ _ e _=>e) (λb _ z=>(sub b z).imp id<|B.tt b) P
 .obtain⟨i,a,O,A,C,I⟩:=wM B n<|ur.mp h;obtain⟨b,L,N⟩:=B.er.own i d A;rw[I] at L;cases L;exact⟨a,ur.mpr C,N.mono (λ_ _ e _=>e) (λb _ z=>(sub b z).imp id<|B.tt b) λ_ e=>e⟩
 .obtain⟨i,R,O,A,G,C,I⟩:=FP B n ⟨d,h1,x⟩;obtain⟨F,S,g1,g2,J,g3,M⟩:=FP B n ⟨e,p,y⟩;have:=B.er.inj i F G J a C g3 I M;subst this;exact CH nd O A g1 g2
 .rcases t with t|t
  .exact B.er.nT a (JZ B n z) (B.tt a t)
  .exact t.2 z
 .rcases z with z|z
  .exact B.er.dom a (B.tt a z)
  .exact B.er.ownOw z.1
def Kl{T' Y:AP'}(E:ER K H T l δ)(B:Ops K T l δ H os vs f m u)(M:jZ f os=C c)(nd:(jh os c).Nodup)(kC:Keep (vs.map C) (c.map C) m g s)
  (U:ER K s Y (vs.map C) g)(t1: ∀b,Tc T l f vs c b->Y b)(t2: ∀b,T' b->Y b)(t3: ∀b,m b≠Op->T' b->T b):
  ER K s T' l (wb os c g f)/\(∀b,OwnA l (wb os c g f) b->OwnA (vs.map C) g b\/Tc T l f vs c b)/\Keep l f m (wb os c g f) s:=by
 obtain⟨hl,hg⟩:=pH M;have ol:(Ps g)=(Ps c):=by have:=U.len;have:=B.len;simp at*;lia
 have R: ∀(i:Nat) (x:Sl),(wb os c g f)[i]?=C x->(i∉jh os c/\f[i]?=C x)\/ ∃(j:Nat) (d:D),os[j]?=C (.slot i)/\c[j]?=C (d,O0)/\g[j]?=C x:=λi x h=>by
  by_cases A:i∈jh os c
  .right;obtain⟨j,d,h1,p⟩:=CG A;have hj:j<(Ps g):=by have:=(rQ.mp p).1;lia
   have Z:g[j]?=C g[j]:=jA hj;have hi:i<(Ps f):=by have:=(rQ.mp h).1;rwa [Am] at this
   have:=Jg (δ:=f) nd h1 p Z hi;rw[h] at this;cases this;exact⟨j,d,h1,p,Z⟩
  .left;rw[Al A] at h;exact⟨A,h⟩
 have I: ∀{i:Nat} {a:iB},i∉jh os c->OwnI l f i a-> ¬OwnA (vs.map C) (c.map C) a:=λ{i a} A ⟨e,q,C'⟩ ⟨j,d,h1,p⟩=>by obtain⟨P,d2,g1,g2,S,g3,g4⟩:=FP B M ⟨d,h1,p⟩;have:=B.er.inj i P e S a q g3 C' g4;subst this;exact A<|um g1 g2
 have N: ∀i a,OwnI l (wb os c g f) i a->OwnI l f i a/\(OwnA (vs.map C) g a\/Tc T l f vs c a):=λi a a'=>by
  obtain⟨d,h1,p⟩:=a'
  rcases R i _ h1 with⟨A,y⟩|⟨j,e,g1,g2,g3⟩
  .exact⟨⟨d,y,p⟩,.inr<|.inr ⟨⟨i,d,y,p⟩,I A ⟨d,y,p⟩⟩⟩
  .obtain⟨P,b,q,C',G,L⟩:=wM B M g2;rw[g1] at q;cases q;rw[p] at L;cases L;exact⟨⟨e,C',p⟩,.inl ⟨j,d,g3,ur.mpr G⟩⟩
 have X: ∀b,OwnA l (wb os c g f) b->OwnA (vs.map C) g b\/Tc T l f vs c b:=λb ⟨i,d,h1,p⟩=>(N i b ⟨d,h1,p⟩).2
 have F: ∀b,OwnA l (wb os c g f) b->OwnA l f b:=λb a'=>by
  obtain⟨i,d,h1,p⟩:=a'
  obtain⟨⟨e,q,C'⟩,_⟩:=N i b ⟨d,h1,p⟩;exact⟨i,e,q,C'⟩
 have W: ∀a o,m a=C o-> ¬OwnA l f a->s a=C o:=λa o e n=>kC.kp a o e λz=>n<|JZ B M z
 have O: ∀b,(OwnA l (wb os c g f) b\/T' b)->OwnA (vs.map C) g b\/Y b:=λb z=>by
  rcases z with z|z
  .exact(X b z).imp id (t1 b)
  .exact .inr (t2 b z)
 refine⟨⟨by rw[Am];exact B.er.len,λi d h=>?_,λi d h=>?_,λi k d e a h1 p y h4=>?_,λa z t=>?_,λa z=>U.dom a<|t2 a z⟩,X,⟨W,λi a z=>(N i a z).1,kC.dm⟩⟩
 .rcases R i _ h with⟨A,y⟩|⟨j,e,g1,g2,g3⟩
  .obtain⟨w,Q,J⟩:=B.er.val i d y;exact⟨w,Q,Rep.mono (λb o e n=>W b o e λz=>n<|.inl z) (λb V z=>z.imp (F b) λz=>B.tt b<|t3 b V z) J⟩
  .obtain⟨P,b,q,C',G,L⟩:=wM B M g2;rw[g1] at q;cases q;obtain⟨w,Q,J⟩:=U.val j d g3;have:=ur.mp Q;rw[G] at this;cases this;exact⟨_,L,Rep.mono (λ_ _ e _=>e) (λb _ z=>O b z) J⟩
 .rcases R i _ h with⟨A,y⟩|⟨j,e,g1,g2,g3⟩
  .obtain⟨a,Q,J⟩:=B.er.own i d y;exact⟨a,Q,J.mono (λb o e n=>W b o e λz=>n<|.inl z) (λb V z=>z.imp (F b) λz=>B.tt b<|t3 b V z) λo e=>kC.kp a o e<|I A ⟨d,y,Q⟩⟩
  .obtain⟨P,b,q,C',G,L⟩:=wM B M g2;rw[g1] at q;cases q;obtain⟨a,Q,J⟩:=U.own j d g3;have:=ur.mp Q;rw[G] at this;cases this;exact⟨_,L,J.mono (λ_ _ e _=>e) (λb _ z=>O b z) λ_ e=>e⟩
 .obtain⟨⟨e1,q,C'⟩,_⟩:=N i a ⟨d,h1,y⟩;obtain⟨⟨S,G,L⟩,_⟩:=N k a ⟨e,p,h4⟩;exact B.er.inj i k e1 S a q G C' L
 .exact B.er.nT a (F a z) (B.tt a<|t3 a (B.er.ownDom<|F a z) t)
def xj(E:ER K H T l δ)(B:Ops K T l δ H os vs f m u)(k:jZ f os=C c)(o:(jh os c).Nodup)(P:Post K (Tc T l f vs c) (vs.map C) (c.map C) m r g v s):
  Post K T l δ H r (wb os c g f) v s:=by
 obtain⟨d,b⟩:=r
 cases b with
 |false=>
  obtain⟨kC,h,w⟩:=P;obtain⟨i,ow,j⟩:=Kl (T':=T) E B k o kC h (λ_ z=>z) (λ_ z=> .inl z) λ_ _ z=>z;refine⟨B.keep.trans j,i,Rep.mono (λ_ _ e _=>e) (λb _ z=>?_) w⟩;rcases z with z|z
  .exact ow b z
  .exact .inr (.inl z)
 |true=>
  obtain⟨kC,p,rfl,n,h,ok⟩:=P;obtain⟨i,ow,j⟩:=Kl (T':=λa=>T a\/a=p) E B k o kC h (λ_ z=> .inl z) (λb z=>z.elim (λz=> .inl (.inl z)) .inr) (λb t z=>z.elim id λz=>by subst z;exact absurd n t);refine⟨B.keep.trans j,p,rfl,?_,i,ok.mono (λ_ _ e _=>e) (λb _ z=>?_) λ_ e=>e⟩
  .cases q:H p with
   |none=>rfl
   |some x=>exact absurd n<|B.keep.dm p (by rw[q];simp)
  .rcases z with z|z|z
   .exact(ow b z).imp id .inl
   .exact .inr (.inl<|.inl z)
   .exact .inr (.inr z)
end
section
variable {X:Cx}{e:iK}{b:kh}{fs:List FO}{a p:bB}{k:Nat}{f:iB}{g:mD}{d:ji}{c:EvF}{x:aB}
def Rh(F:FnOk X.prog X.w X.K X.mg X.base CX0 k f g d (spF X.K c))(I:Room k X.A)(z:Gl X x)(C:X.mg x=N2 (.ref f))(hk:bU X.K (.ref f)=O0)(u:Binds X.K g d [])
  (t:PA X (e::b) (tA X.K fs))(G:(x==("__debug__":aB))=O1)(y:ag (e::b) X.env=(O1,aU e X.env)::ag b X.env)(O:(bc a<|ag b X.env).any (·.1)=O1):
  PX X (.Call (.Name x p) (e::b) [] a) (iX c fs):=PX.imp (JJ F I z C hk u (.nil) Yw t G y O) λN H Q L=>by
 obtain⟨J,T,Y,M,E,e,k⟩:=L;obtain⟨⟨os,j⟩,h1,e⟩:=iA e;obtain⟨h,l,e⟩:=iA e;dsimp only at e;split at e
 .rename_i m;obtain⟨⟨r,i⟩,s,e⟩:=iA e;obtain⟨rfl,rfl⟩:=jc e;refine⟨J,T,os,j,E,h1,λn q U B=>?_⟩;show spF X.K c (n++[]) q Q E0;rw[uP];exact⟨Tc T N j n h,h,r,i,zD E B l m,s,λv o P=>k v o<|xj E B l m P⟩
 .cases e
end
structure SKd(A:jT)(d:iB)(σ:L2.St)(δ:Dn)(H:Hp)(σ':L2.St)(δ':Dn)(H':Hp):Prop where
 kp: ∀a o,H a=N2 o-> ¬OwnA σ δ a->a≠d->H' a=N2 o
 owi: ∀i a,OwnI σ' δ' i a->OwnI σ δ i a\/H a=Op\/(A i/\ ∃j,A j/\OwnI σ δ j a)
 dm: ∀a,H a≠Op->H' a≠Op
 as: ∀i,¬A i->σ'[i]?=σ[i]?
section
variable {A:jT}{d:iB}{c b f:L2.St}{δ δ1 δ2:Dn}{H g l:Hp}
def SK.skd(k:SK A c δ H b δ1 g):SKd A d c δ H b δ1 g:=⟨λa o e n _=>k.kp a o e n,k.owi,k.dm,k.as⟩
def SKd.ow(k:SKd A d c δ H b δ1 g)(a:iB)(h:OwnA b δ1 a):OwnA c δ a\/H a=I:=by
 obtain⟨i,e,h1,o⟩:=h;rcases k.owi i a ⟨e,h1,o⟩ with⟨e,m,n⟩|z|⟨_,j,_,e,m,n⟩
 .exact .inl ⟨i,e,m,n⟩
 .exact .inr z
 .exact .inl ⟨j,e,m,n⟩
def SKd.trans(x:SKd A d c δ H b δ1 g)(y:SKd A d b δ1 g f δ2 l):SKd A d c δ H f δ2 l where
 kp:=λa o e n p=>y.kp a o (x.kp a o e n p) (λz=>(x.ow a z).elim n λz=>by rw[z] at e;cases e) p
 owi:=λi a z=>(y.owi i a z).elim (x.owi i a) λz=>z.elim (λz=> .inr (.inl (by
  cases h:H a with
  |none=>rfl
  |some o=>exact absurd z<|x.dm a<|by rw[h];simp))) λ⟨m,j,q,z⟩=>(x.owi j a z).elim (λz=> .inr (.inr ⟨m,j,q,z⟩)) λz=>z.elim (λz=> .inr (.inl z)) λ⟨_,k,ak,z⟩=> .inr (.inr ⟨m,k,ak,z⟩)
 dm:=λa z=>y.dm a<|x.dm a z
 as:=λi h=>(y.as i h).trans<|x.as i h
end
noncomputable def Q6(p:(Int->Bool)×Nat)(d:D):(Int->Bool)×Nat:=match d with
 | .int k=>(λa=>p.1 a||decide (a=k),if p.1 k then p.2 else p.2+1)
 |_=>p
noncomputable def KN(l:List D):(Int->Bool)×Nat:=l.foldl Q6 (λ_=>Y,0)
def AtD(S:Option Bool)(K:jb)(U:Hp)(O:AP')(d:iB)(a:List D):Prop:=match S with
 |some Y=> ∃c,U d=C (.lst c)/\RepL K U O a c
 |some J=>U d=C (.set (KN a).1 (KN a).2)
 |none=> ∃b,OthB K (U d) .set [] a b/\RepL K U O a b
structure BS(S:Option Bool)(K:jb)(d:iB)(T:AP')(σ:L2.St)(δ:Dn)(acc:List D)(H:Hp):Prop where
 er:ER K H T σ δ
 td:T d
 at':AtD S K H (λa=>OwnA σ δ a\/T a) d acc
abbrev FB:=List D->Dn->Option (List D×Dn)
def tBx(S:Option Bool)(K:jb)(A:jT)(d:iB)(f:FB):TB:=λh U N=> ∃e T c g a,BS S K d T h e c U/\f c e=C (g,a)/\ ∀b H',SKd A d h e U b a H'->BS S K d T b a g H'->N b H'
noncomputable def jQ(f:F):FB:=λa δ=>(f δ).bind λp=>if (Ps a)<sizeLine then C (a++[p.1.1],p.2) else I
noncomputable def kJ(b:Tg)(c:FT)(a:FB):List D->FB
 |[],acc,δ=>C (acc,δ)
 |x::xs,acc,δ=>(b x δ).bind λδ1=>(c δ1).bind λp=>(if p.1=J then a acc p.2 else C (acc,p.2)).bind λq=>kJ b c a xs q.1 q.2
noncomputable def LN(c:FIt)(d:Tg)(e:FT)(b:FB):FB:=λa f=>(c f).bind λp=>kJ d e b p.1 a p.2
section
variable {K:jb}{A:jT}{d:iB}{T:AP'}{f r:L2.St}{j s:Dn}{p:List D}{H q:Hp}
def BS.step(b:BS S K d T f j p H)(k:SK A f j H r s q)(t:ER K q T r s):BS S K d T r s p q:=by
 refine⟨t,b.td,?_⟩;have h:=b.at'
 have m: ∀{l:List D} {i:List V},RepL K H (λa=>OwnA f j a\/T a) l i->RepL K q (λa=>OwnA r s a\/T a) l i:=λg=>by
  refine RepL.mono (λb o e n=>k.kp b o e λz=>n<|.inl z) (λc u z=>?_) g;rcases z with z|z
  .exact(k.ow c z).elim bC λz=>absurd z u
  .exact .inr z
 rcases S with _|_|_
 .obtain⟨v,h1,g⟩:=h;exact⟨v,h1.keep λo e=>k.kp d o e λz=>b.er.nT d z b.td,m g⟩
 .obtain⟨i,h1,g⟩:=h;exact⟨i,k.kp d _ h1 λz=>b.er.nT d z b.td,m g⟩
 .exact k.kp d _ h λz=>b.er.nT d z b.td
def JW(hg: ∀v f H Q,tG K A tg v f H Q->g v f H Q)(hi: ∀f H Q,tT K ft f H Q->ti f H Q)(hb: ∀f H N,tBx S K A d fb f H N->tb f H N)
  (b:BS S K d T f j p H)(P O:AP')(ok:ItOk K J' ds P O q)(s1: ∀a o,q a=N2 o-> ¬P a->H a=N2 o)(s0: ∀a,q a≠I->OwnA f j a\/a=d->P a)(s2: ∀a,q a≠I->(OwnA f j a\/T a)->O a)(s3: ∀a,q a≠I->H a≠I)(e:kJ tg ft fb ds p j=N2 (i9,B))
  (k: ∀E t,SKd A d f j H E B t->BS S K d T E B i9 t->N E t):Jn J' g ti tb f H N:=by
 refine⟨λi m l w=>m=Ps ds-i/\i<=Ps ds/\ ∃h G,SKd A d f j H l h w/\BS S K d T l h G w/\kJ tg ft fb (ds.drop i) G h=N2 (i9,B),⟨Ps ds,by simp,lN _,j,p,SK.refl.skd,b,by simpa using e⟩,?_⟩;rintro i m l w ⟨rfl,hle,h,G,Y',I',e2⟩
 have hO: ∀a,q a≠I->(OwnA l h a\/T a)->O a:=λa W z=>by
  rcases z with z|z
  .exact(Y'.ow a z).elim (λz=>s2 a W<|.inl z) λz=>absurd z<|s3 a W
  .exact s2 a W (.inr z)
 have aP: ∀a o,q a=N2 o-> ¬P a->w a=N2 o:=λa o V n=>Y'.kp a o (s1 a o V n) (λz=>n<|s0 a (by rw[V];simp)<|.inl z) λz=>n<|s0 a (by rw[V];simp)<|.inr z;by_cases F:i<Ps ds
 .refine .inr ?_;have hd:ds[i]?=N2 ds[i]:=jA F;obtain⟨go,yl⟩:=ok.go i _ w hd aP;rw[xQ F] at e2;obtain⟨C,h3,e3⟩:=iA e2;obtain⟨⟨c,u⟩,h4,e4⟩:=iA e3;obtain⟨⟨y,M⟩,D,e5⟩:=iA e4;refine⟨go,λx t hy=>?_⟩;obtain⟨ext,rep⟩:=yl x t hy;have fK:ER K t T l h:=I'.er.mono (λb ob eb _=>ext b ob eb) (λ_ _ z=>z) λa z=>(I'.er.dom a z).up<|ext a;have SX:SK A l h w l h t:=(Keep.ext ext).sk;have R:=I'.step SX fK;have ip:SKd A d f j H l h t:=Y'.trans SX.skd;have rx:=rep (λa=>OwnA l h a\/T a) hO λb hb z=>z.elim (λz=>I'.er.ownDom z hb) λz=>(I'.er.dom b z).ne hb;refine hg _ _ _ _ ⟨h,T,ds[i],C,fK,rx,h3,λU S3 Z=>?_⟩;have B3:=R.step S3 Z;have de:=ip.trans S3.skd;refine hi _ _ _ ⟨C,T,c,u,Z,h4,λH4 K4 E4=>?_⟩;have S4:SK A U C t U u H4:=K4.sk;have X:=B3.step S4 E4;have L:=de.trans S4.skd
  cases c with
  |false=>rw[je kU] at D;obtain⟨rfl,rfl⟩:=jc D;exact V1 ⟨Ps ds-(i+1),by lia,rfl,F,u,G,L,X,e5⟩
  |true=>rw[iT O9] at D;exact V0<|hb _ _ _ ⟨u,T,G,y,M,X,D,λσ5 H5 S5 B5=>⟨Ps ds-(i+1),by lia,rfl,F,M,y,L.trans S5,B5,e5⟩⟩
 .refine .inl ⟨ok.stop i w (by lia) aP,?_⟩;rw[zZ<|by lia] at e2;obtain⟨rfl,rfl⟩:=jc e2;exact k l w Y' I'
end
section
variable {X:Cx}{A:jT}{d:iB}{b:iK}{f:F}
def PB.imp'{code:dP Unit}{t e:TB}(h:PB X code t)(k: ∀c T N,e c T N->t c T N):PB X code e:=λa s c T N U g=>h a s c T N U<|k c T N g
def RE{S:Option Bool}{e:iK}{depth:Nat}{c:oy}{r:FIt}{u:Tg}{s:FT}{q:FB}(Q:X.xe=λ_ _=>False)(hc:X.calm=O0)
  (hl:(∃b g l p,e= .ListComp b g l p)\/(∃b g l p,e= .SetComp b g l p))(hg:(b9 e)[depth+1]?=N2 c)(Y:c.is_async=0)(l9: ∀t,(b9 e)[depth+1+1]?=N2 t->t.is_async=0)
  (hs: ∀x,ay c.iter X.env x=pure x)(pi:PIX X (λ_=>False) c.target c.iter r)(pg:PGX X A c.target u)(M:PIf X c.ifs (tT X.K s))(pb:PB X (jK e (depth+1) (.ref d) X.env) (tBx S X.K A d q)):
  PB X (jK e depth (.ref d) X.env) (tBx S X.K A d<|LN r u s q):=PB.imp' (Vx Q hc hl hg Y l9 hs pi pg M pb) λw H N D=>by
 obtain⟨v,T,G,P,F,B,e,k⟩:=D;obtain⟨⟨U,j⟩,h1,e⟩:=iA e;refine⟨v,T,U,j,B.er,h1,λJ I L C ok=>?_⟩;have n:SK A w v H w j I:=L.sk;exact JW (λ_ _ _ _ h=>h) (λ_ _ _ h=>h) (λ_ _ _ h=>h) (B.step n C) _ _ ok (λa o e _=>e) (λa _ z=>z.elim (λa'=>by obtain⟨i,x,z⟩:=a';exact .inl ⟨i,id,x,z⟩) λz=> .inr (z▸B.td)) (λa _ z=>z) (λa z=>z) e λm E O y=>k m E (n.skd.trans O) y
end
noncomputable def jy(caps:jL)(k:Nat)(fi:FIt)(tg:Tg)(ti:FT)(a:FB):F:=λδ=>(fi δ).bind λp=>(jZ p.2<|caps.map .slot).bind λargs=>if(jh (caps.map .slot) args).Nodup then(kJ tg ti a p.1 []<|args.map C++ac k I).bind λq=>C ((.lst q.1,J),wb (caps.map .slot) args (jv args q.2) p.2) else I
noncomputable def D8(a:jL)(k:Nat)(b:L2.St):L2.St:=(a.map λj=>(b[j]?).join)++ac k I
noncomputable def o0(S:Option Bool):HO:=match S with
 |some Y=> .lst []
 |some J=> .set (λ_=>Y) 0
 |none=> .stt []
noncomputable def qS(S:Option Bool)(Q:VK):VK:=match S with
 |some Y|none=>Q
 |some J=>λx b=> ∃S n,∃a,x= .ref a/\b a=C (.set S n)/\Q (.int n) b
noncomputable def rS(S:Option Bool)(a:List D):D×Bool:=match S with
 |some Y=>(.lst a,J)
 |none=>(.oth .set [] a,J)
 |some J=>(.int (KN a).2,Y)
noncomputable def IE(S:Option Bool)(b:jL)(k:Nat)(d:FIt)(e:Tg)(ti:FT)(c:FB):F:=λf=>(d f).bind λp=>(jZ p.2<|b.map .slot).bind λa=>if(jh (b.map .slot) a).Nodup then(kJ e ti c p.1 []<|a.map C++ac k I).bind λq=>C (rS S q.1,wb (b.map .slot) a (jv a q.2) p.2) else I
def CY{S:Option Bool}{K:jb}{f:jL}{k:Nat}{fi:FIt}{tg:Tg}{ti:FT}{fb:FB}{p:L2.St}{H:Hp}{Q:VK}(h:tF K (IE S f k fi tg ti fb) p H Q):
  tI K (λi=>i∉f) fi p H λJ' q=>Jo (o0 S) J' (tG K (λi=>Ps f<=i) tg) (tT K ti) (λd=>tBx S K (λi=>Ps f<=i) d fb) (D8 f k) p q (qS S Q):=by
 obtain⟨δ,T,rr,δr,E,e,kq⟩:=h;obtain⟨⟨ds,s⟩,h1,e⟩:=iA e;obtain⟨g,t,e⟩:=iA e;dsimp only at e t;split at e
 case isFalse=>cases e
 rename_i Y;obtain⟨⟨m,δ'⟩,h2,e⟩:=iA e;obtain⟨rfl,rfl⟩:=jc e;refine⟨δ,T,ds,s,E,h1,λJ' q D A ok d hd=>?_⟩;obtain⟨hl,hg⟩:=pH t;have eh:(Ps g)=(Ps f):=by simpa using hl
 let C:List V:=f.map λj=>((p[j]?).join).getD .non
 have there: ∀(i j:Nat),f[i]?=N2 j-> ∃v,p[j]?=N2 (N2 v):=λi j l=>by
  have hi:i<(Ps g):=by have:=(rQ.mp l).1;lia
  obtain⟨o,u,q2⟩:=hg i _ (jA hi);rw[ki,l] at u;cases u;have O:=qA q2;generalize g[i]=y at O;obtain⟨x,b⟩:=y
  cases b with
  |false=>obtain⟨v,h,_⟩:=A.val j x O;exact⟨v,h⟩
  |true=>obtain⟨a,h,_⟩:=A.own j x O;exact⟨_,h⟩
 have gi: ∀(i j:Nat),f[i]?=N2 j-> ∃v,C[i]?=N2 v/\p[j]?=N2 (N2 v):=λi j l=>by obtain⟨v,hv⟩:=there i j l;refine⟨v,?_,hv⟩;show(f.map λj=>((p[j]?).join).getD .non)[i]?=N2 v;rw[ki,l];simp[hv]
 have ax:D8 f k p=C.map N2++ac k Op:=by
  unfold D8
  congr 1
  apply xP;intro i;show _=((f.map λj=>((p[j]?).join).getD .non).map N2)[i]?;rw[ki,ki,ki]
  cases l:f[i]? with
  |none=>rfl
  |some j=>obtain⟨v,hv⟩:=there i j l;simp[hv]
 have I:Ops K T p s q (f.map Opd.slot) C s q T:=by
  refine⟨by simp[C],.refl,A,λ_ z=>z,λj x v l=>?_,λj x v l=>?_,λj i v l hv=>?_⟩
  .rw[ki] at l;obtain⟨_,_,z⟩:=ju l;cases z
  .rw[ki] at l;obtain⟨_,_,z⟩:=ju l;cases z
  .rw[ki] at l;obtain⟨c,X,z⟩:=ju l;cases z;obtain⟨v',u,q2⟩:=gi j i X;rw[hv] at u;cases u;exact q2
 have L:=zD A I t Y
 have W: ∀(i:Nat) x,g[i]?=N2 (x,J)-> ¬(Ps f<=i):=λi x B=>by
  have:=(rQ.mp B).1
  lia
 rw[ax];have B:=mK (o:=o0 S) hd
 have nz: ∀a,q a≠Op->upd q d (o0 S) a≠Op:=λa z=>by
  cases U:q a with
  |none=>exact absurd U z
  |some o=>rw[B a o U];simp
 have b0:BS S K d (λa=>Tc T p s C g a\/a=d) (C.map N2++ac k Op) (g.map N2++ac k Op) [] (upd q d<|o0 S):=by
  refine⟨(L.pad).mono (λb o eb _=>B b o eb) (λb hb z=>z.elim id λz=>by subst z;exact absurd hd hb) λa z=>?_,.inr O9,?_⟩
  .rcases z with z|z
   .exact(L.dom a z).up (B a)
   .subst z;rw[jk];rcases S with _|_|_<;>trivial
  .rcases S with _|_|_
   .exact⟨[],⟨rfl,[],jk,.nil⟩,RepL.nil⟩
   .exact⟨[],jk,RepL.nil⟩
   .exact jk
 refine JW (λ_ _ _ _ h=>h) (λ_ _ _ h=>h) (λ_ _ _ h=>h) b0 _ _ ok (λa o N _=>B a o N) (λa R z=>?_) (λa R z=>?_) nz h2 λσ' G M w=>?_
 .rcases z with z|z
  .obtain⟨j,x,g1,g2⟩:=Og.mp z;obtain⟨i,_,u,_,O⟩:=FP I t ⟨x,g1,g2⟩;refine .inl ⟨i,λn=>n ?_,O⟩;rw[ki] at u;obtain⟨c,X,e⟩:=ju u;cases e;exact nB X
  .subst z;exact absurd hd R
 .rcases z with z|z|z
  .exact .inl (JZ I t<|Og.mp z)
  .rcases z with z|z
   .exact .inr z
   .exact .inl z.1
  .subst z;exact absurd hd R
 .have F:SK (λi=>Ps f<=i) (C.map N2++ac k Op) (g.map N2++ac k Op) q σ' δ' G:=
   ⟨λa o N n=>M.kp a o (B a o N) n (by intro z;subst z;rw[N] at hd;cases hd),λi a z=>(M.owi i a z).imp id λz=>z.imp (λz=>by
    cases U:q a with
    |none=>rfl
    |some o=>exact absurd z<|nz a<|by rw[U];simp) id,λa z=>M.dm a<|nz a z,M.as⟩
  rcases S with _|_|_
  .obtain⟨us,Z,ry⟩:=w.at';have P:=qH (r:=(.oth .set [] m,J)) (v:= .ref d) L F W ⟨d,rfl,hd,w.er,us,Z,RepL.mono (λ_ _ e _=>e) (λb _ z=>z) ry⟩;exact kq (.ref d) G<|(xj A I t Y P).pre D
  .obtain⟨ys,Z,ry⟩:=w.at';have P:=qH (r:=(.lst m,J)) (v:= .ref d) L F W ⟨d,rfl,hd,w.er,ys,Z,RepL.mono (λ_ _ e _=>e) (λb _ z=>z) ry⟩;exact kq (.ref d) G<|(xj A I t Y P).pre D
  .have P:=qH (r:=(.int (KN m).2,O1)) (v:= .int (KN m).2) L F W ⟨w.er.mono (λ_ _ e _=>e) (λb _ z=> .inl z) λa z=>w.er.dom a<|.inl z,Rep.mkInt⟩;exact⟨_,_,d,rfl,w.at',kq (.int (KN m).2) G<|(xj A I t Y P).pre D⟩
def Gm{K:jb}{a:jL}{k:Nat}{c:FIt}{e:Tg}{ti:FT}{b:FB}{f:L2.St}{U:Hp}{Q:VK}(h:tF K (jy a k c e ti b) f U Q):
  Nc (tI K (λi=>i∉a) c) (tG K (λi=>Ps a<=i) e) (tT K ti) (λd=>tBx Y K (λi=>Ps a<=i) d b) (D8 a k) f U Q:=CY (S:=Y) h
section
variable {X:Cx}{elt:iK}{c:oy}{jG:qg}{scope:jJ}{pos j4 py:bB}{N':ji}{caps:jL}{k:Nat}{fi:FIt}{tg:Tg}{ti:FT}{fb:FB}{A L:jT}{H0:Hp}
structure CompOk(X:Cx)(N':ji)(scope:jJ)(caps:jL)(k:Nat):Prop where
 cell: ∀y∈scope.names,y.2= .cell->scope.names.lookup y.1=N2 .cell
 kind:scope.kind= .function
 names: ∀y∈scope.names,y.2= .local->scope.names.lookup y.1=N2 .local
 free: ∀y∈scope.names,y.2= .free->X.env.scope.names.lookup y.1=N2 .cell\/X.env.scope.names.lookup y.1=N2 .free
 len:(Ps caps)+k=Ps N'
 caps: ∀(i j:Nat) (x:aB),caps[i]?=N2 j->N'[i]?=N2 x->X.N[j]?=N2 x/\scope.names.lookup x=N2 .free
def CompOk.sco(U:CompOk X N' scope caps k):CompScope X N' scope (D8 caps k):=by
 refine⟨U.cell,U.kind,U.names,U.free,λd=>by simp[D8,U.len],λd i v x h1 f=>?_⟩;unfold D8 at h1;by_cases b:i<Ps caps
 .rw[uO<|by simpa using b,ki,jA b] at h1;obtain⟨g,h⟩:=U.caps i caps[i] x (jA b) f;refine⟨h,caps[i],g,?_⟩;have a:(d[caps[i]]?).join=C v:=by simpa using h1
  cases e:d[caps[i]]? with
  |none=>rw[e] at a;cases a
  |some y=>rw[e] at a;exact nD C a
 .rw[pO<|by simpa using b,wt] at h1;split at h1<;>cases h1
def Rk(U:CompOk X N' scope caps k)(m:X.calm=J)(l:c.is_async=0)(o: ∀e,jG[0]?=C e->e.is_async=0)
  (n: ∀x,ay c.iter X.env x=pure x)(p:PIX X (λi=>i∉caps) c.target c.iter fi)
  (r: ∀(cl:kX) (U:iB) (q:iI) (f:Hp) (j:kG) (a:jr),let b:=X.comp N' scope cl U q f j a
   PGX b (λi=>Ps caps<=i) c.target tg/\PIf b c.ifs (tT X.K ti)/\ ∀d,PB b (jK (.ListComp elt (c::jG) scope pos) 0 (.ref d) b.env)<|tBx Y X.K (λi=>Ps caps<=i) d fb):
  PX X (.ListComp elt (c::jG) scope pos) (jy caps k fi tg ti fb):=PX.imp (N9 (g:=tG X.K (λi=>Ps caps<=i) tg) (ti:=tT X.K ti) (tb:=λd=>tBx Y X.K (λi=>Ps caps<=i) d fb) U.sco m l o n p r) λs T Q h=>Gm h
def NL{y:aB}{i:Nat}(m:b6 (.ListComp elt (c::jG) scope pos) (C<|.Name y py) j4.line X.env=pure O0)
  (U:CompOk X N' scope caps k)(u:X.calm=O0)(t:c.is_async=0)(I: ∀h,jG[0]?=C h->h.is_async=0)
  (z: ∀x,ay c.iter X.env x=pure x)(Q:PIX X (λi=>i∉caps) c.target c.iter fi)(n:PG X (.Name y py) (F5 i))(s:A i)
  (J: ∀(cl:kX) (U:iB) (G:iI) (l:Hp) (o:kG) (a:jr),let b:=X.comp N' scope cl U G l o a
   PGX b (λi=>Ps caps<=i) c.target tg/\PIf b c.ifs (tT X.K ti)/\ ∀d,PB b (jK (.ListComp elt (c::jG) scope pos) 0 (.ref d) b.env)<|tBx Y X.K (λi=>Ps caps<=i) d fb):
  PSX X A L H0 (.Assign [.Name y py] (.ListComp elt (c::jG) scope pos) j4) (kL i<|jy caps k fi tg ti fb):=PS.imp' (NQ (g:=tG X.K (λi=>Ps caps<=i) tg) (ti:=tT X.K ti) (tb:=λd=>tBx Y X.K (λi=>Ps caps<=i) d fb) m U.sco u t I z Q n J) λD N H B=>by
 obtain⟨M,T,O,E,fi,e,k⟩:=B;obtain⟨⟨r,f⟩,q,e⟩:=iA e;obtain⟨w,rfl⟩:=jl e;refine Gm ⟨M,T,r,f,E,q,λv j P=>?_⟩;obtain⟨h1,p⟩:=Aq (A:=A) E P w s;exact k _ j h1 p
end
section
variable {K:jb}{T:AP'}{d:L2.St}{c:Dn}{H:Hp}{i:Nat}{l g:List D}{a:iB}{m:List V}
def OwnI.write{j:Nat}{b:iB}(hd:c[i]?=C (C (.lst l,J)))(h:OwnI d (c.set i<|C (.lst g,J)) j b):OwnI d c j b:=by
 obtain⟨e,h1,f⟩:=h;rcases lQ h1 with⟨rfl,_,_⟩|⟨_,q⟩
 .exact⟨_,hd,f⟩
 .exact⟨e,q,f⟩
def ER.write(E:ER K H T d c)(hd:c[i]?=C (C (.lst l,O0)))(t:d[i]?=C (C<|.ref a))(r:RepL K H (λb=>OwnA d c b\/T b) g m):
  ER K (upd H a<|.lst m) T d (c.set i<|C (.lst g,O0))/\Keep d c H (c.set i<|C (.lst g,O0)) (upd H a<|.lst m):=by
 have N:i<(Ps c):=(rQ.mp hd).1;have v:OwnA d c a:=⟨i,_,hd,t⟩
 have B: ∀b,OwnA d (c.set i<|C (.lst g,O0)) b->OwnA d c b:=λb a'=>by
  obtain⟨j,e,h1,s⟩:=a'
  obtain⟨L,x,y⟩:=OwnI.write hd ⟨e,h1,s⟩;exact⟨j,L,x,y⟩
 have u: ∀b o,H b=C o-> ¬(OwnA d c b\/T b)->upd H a (.lst m) b=C o:=λb o e n=>by rw[jg<|by intro z;subst z;exact n<|.inl v];exact e
 have I: ∀b,H b≠Op->upd H a (.lst m) b≠Op:=λb z=>by
  by_cases U:b=a
  .subst U;rw[jk];simp
  .rw[jg U];exact z
 have sub: ∀b,H b≠Op->(OwnA d (c.set i<|C (.lst g,O0)) b\/T b)->OwnA d c b\/T b:=λb _ z=>z.imp (B b) id;refine⟨⟨by rw[wo];exact E.len,λj e h=>?_,λj e h=>?_,λj k e f b h hk h1 s=>?_,λb z=>E.nT b<|B b z,λb z=>by have ne:b≠a:=λe=>E.nT a v<|e▸z;rw[jg ne];exact E.dom b z⟩,⟨λb o e n=>by rw[jg<|by intro z;subst z;exact n v];exact e,λj b z=>OwnI.write hd z,I⟩⟩
 .rcases lQ h with⟨_,_,q⟩|⟨_,q⟩
  .cases q
  .obtain⟨w,p,A⟩:=E.val j e q;exact⟨w,p,Rep.mono u sub A⟩
 .rcases lQ h with⟨rfl,_,q⟩|⟨ne,q⟩
  .cases q;exact⟨a,t,m,jk,RepL.mono u sub r⟩
  .obtain⟨b,p,A⟩:=E.own j e q;refine⟨b,p,A.mono u sub λo G=>?_⟩;rw[jg]
   .exact G
   .intro z;subst z;exact ne<|E.inj i j _ _ _ hd q t p
 .obtain⟨O,x,y⟩:=OwnI.write hd ⟨e,h,h1⟩;obtain⟨Q,J,M⟩:=OwnI.write hd ⟨f,hk,s⟩;exact E.inj j k O Q b x J y M
end
noncomputable def lG(i:Nat)(f:F):F:=λδ=>match δ[i]? with
 |some (C (.lst _,J))=>(f δ).bind λp=>match p.2[i]? with
  |some (C (.lst l,J))=>if (Ps l)<sizeLine then C ((.non,Y),p.2.set i<|C (.lst<|l++[p.1.1],J)) else I
  |_=>I
 |_=>I
noncomputable def Bk(i:Nat)(f:FO):F:=λa=>match a[i]? with
 |some (C (.lst _,J))=>(f a).bind λp=>match res p.2 p.1,p.2[i]? with
  |some (.int k),C (C (.lst l,J))=>if -(2^63)<=k/\k<2^63 then(ixN (Ps l) k).bind λj=>(l[j]?).bind λd=>C ((d,Y),p.2.set i<|C (.lst<|l.eraseIdx j,J)) else I
  |_,_=>I
 |_=>I
noncomputable def Az(i:Nat)(f:F)(g:FO):FS:=λa=>(f a).bind λp=>match p.2[i]? with
 |some (C _)=>(g p.2).bind λq=>match res q.2 q.1,q.2[i]? with
  |some (.int k),C (C (.lst l,J))=>(ixN (Ps l) k).bind λj=>C<|.nx<|q.2.set i<|C (.lst<|l.set j p.1.1,J)
  |_,_=>I
 |_=>I
section
variable {X:Cx}{e c:iK}{f:F}{k:FO}{b m a g:bB}{i:Nat}{x:aB}{A L:jT}{n:Hp}
theorem RepL.erase{K U}{O:AP'}: ∀{l:List D} {o:List V} (j:Nat),RepL K U O l o->RepL K U O (l.eraseIdx j) (o.eraseIdx j)
 |[],o,j,h=>by rw[RepL] at h;subst h;simp[RepL]
 |d::l,o,0,h=>by rw[RepL] at h;obtain⟨v,r,rfl,h1,p⟩:=h;exact p
 |d::l,o,j+1,h=>by rw[RepL] at h;obtain⟨v,r,rfl,h1,p⟩:=h;exact RepL.cons h1<|RepL.erase j p
end
noncomputable def Q8(b:Tg)(f:F):FS:=λc=>(f c).bind λp=>(b p.1.1 p.2).bind λa=>C<|.nx a
section
variable {X:Cx}{A L:jT}{m:Hp}{a b h e:iK}{fs:List F}{f:F}{t:Tg}{c l k pt d:bB}{x y:aB}{i j:Nat}{kt k2}
def JC{id:String}{p:bB}{n:kh}{o:List FO}{g:List D->Option (D×Bool)}{z:aB}(r:kR X (.builtin id) (rDn X.K g))(u:Gl X z)(v:X.mg z=I)(hv:aK z=C (.builtin id))(q:PA X (e::n) (tA X.K o))(w:z≠"__name__")(U:(z==("__debug__":aB))=Y)
  (s:ag (e::n) X.env=(Y,aU e X.env)::ag n X.env)(B:(bc c<|ag n X.env).any (·.1)=Y):PX X (.Call (.Name z p) (e::n) [] c) (jm g o):=pxn<|AG r u v hv q w U s B
def Ri{id:String}{p:bB}{n:kh}{o:List FO}{g:List D->Option (D×Bool)}{z:aB}(r:kR X (.type id) (rDn X.K g))(u:Gl X z)(v:X.mg z=I)(hv:aK z=C (.type id))(q:PA X (e::n) (tA X.K o))(w:z≠"__name__")(U:(z==("__debug__":aB))=Y)
  (s:ag (e::n) X.env=(Y,aU e X.env)::ag n X.env)(B:(bc c<|ag n X.env).any (·.1)=Y):PX X (.Call (.Name z p) (e::n) [] c) (jm g o):=pxn<|qu r u v hv q w U s B
end
def Wr:aK "abs"=C (.builtin "abs"):=by decide+kernel
noncomputable def EI(N:ji)(c scope:jJ)(b:ji)(a:jL)(k:Nat):Bool:=
 (scope.names.all λy=>y.2 != .cell||scope.names.lookup y.1==C .cell)&&decide (scope.kind= .function)&&(scope.names.all λy=>y.2 != .local||scope.names.lookup y.1==C .local)&&
 (scope.names.all λy=>y.2 != .free||(c.names.lookup y.1==C .cell||c.names.lookup y.1==C .free))&&decide (Ps a+k=Ps b)&&
 ((a.zip b).all λp=>N[p.1]?==C p.2&&scope.names.lookup p.2==C .free)
def P4(m:X.N=N)(p:X.env.scope=sc)(h:EI N sc scope N' a k=J):CompOk X N' scope a k:=by
 subst m;subst p;unfold EI at h;simp only[lE,lU,rC] at h;obtain⟨⟨⟨⟨⟨h1,c⟩,d⟩,f⟩,g⟩,l⟩:=h;refine⟨λy b e=>?_,c,λy b e=>?_,λy b e=>?_,g,λi j x n q=>?_⟩
 .have:=h1 y b;rw[e] at this;simpa using this
 .have:=d y b;rw[e] at this;simpa using this
 .have:=f y b;rw[e] at this;simpa using this
 .have o:(j,x)∈a.zip N':=by
   have:(a.zip N')[i]?=C (j,x):=by rw[ET];exact⟨n,q⟩
   exact nB this
  have:=l _ o;simpa using this
noncomputable def jH:FT:=λδ=>C (J,δ)
inductive Ty where
 |int|bool|str|tuple|list|dict
noncomputable def Ty.n:Ty->String
 | .int=>"int"| .bool=>"bool"| .str=>"str"| .tuple=>"tuple"| .list=>"list"| .dict=>"dict"
noncomputable def isT:D->Ty->Bool
 | .bl _,.bool=>J
 | .bl _,.int=>J
 | .int _,.int=>J
 | .str _,.str=>J
 | .tup _,.tuple=>J
 | .lst _,.list=>J
 | .oth .dct _ _,.dict=>J
 |_,_=>Y
noncomputable def tyD:D->String
 | .non=>"NoneType"| .bl _=>"bool"| .int _=>"int"| .str _=>"str"| .tup _=>"tuple"| .lst _=>"list"| .oth .dct _ _=>"dict"| .oth .set _ _=>"set"| .oth _ _ _=>"NoneType"
section
variable {X:Cx}{b:jr}{c:L2.St}{H:Hp}{s:iI}
def FW(K:jb)(d:D)(t:Ty):dN K (.type<|tyD d) (.type t.n)=C (isT d t):=by
 cases d with
 |oth k _ _=>cases k<;>cases t<;>with_unfolding_all rfl
 |_=>cases t<;>with_unfolding_all rfl
def H9(T:Inv X b c H s)(h:OthB X.K (H a) k l i us)(hk:k= .dct\/k= .set:=by first|exact .inl rfl|exact .inr O9):s.TypeIs (.ref a) (tyD<|.oth k l i):=by
 cases k with
 |dct=>
  rcases h with⟨d,e,_⟩|⟨d,e,_⟩
  .obtain⟨_,_,i,_,o,g,j,h1,f,_⟩:=(show ObjOk X.prog X.w H s.heap a (.dK d) from T.hok a _ e)
   exact⟨o,h1,f.1⟩
  .obtain⟨_,_,p,_,o,g,j,h1,f,_⟩:=(show ObjOk X.prog X.w H s.heap a (.dT d) from T.hok a _ e)
   exact⟨o,h1,f.1⟩
 |set=>
  obtain⟨_,m,e,_⟩:=h;obtain⟨g,n,t,h1,_⟩:=(show ObjOk X.prog X.w H s.heap a (.stt m) from T.hok a _ e)
  exact⟨_,h1,rfl⟩
 |exc U=>rcases hk with z|z<;>cases z
 |_=>exact h.elim
def oS{K H}(h:kM K H O (.oth k g f) v): ∃a d,v= .ref a/\OthB K (H a) k g f d/\RepL K H O f d:=by
 rcases h with h|⟨a,rfl,h⟩
 .obtain⟨a,d,e,q,r⟩:=h.oth;exact⟨a,d,e,q.2,r⟩
 .obtain⟨d,e,r⟩:=h;exact⟨a,d,rfl,e,r⟩
end
def Y3{K:jb}{U:Nat}(h: ∀n∈["int","bool","str","tuple","list","dict"],dN K (.ref U) (.type n)=C Y)(t:Ty){a b:List D}:dN K (.ref U) (.type t.n)=C (isT (.oth (.exc U) a b) t):=by
 cases t<;>exact h _ (by simp[Ty.n])
section
variable {X:Cx}{c:jr}{f:L2.St}{H:Hp}{s:iI}
def aaz(T:Inv X c f H s)(hd:kM X.K H O d x)(g:RelV x u)(h: ∀m,Q (.bool<|isT d t) {s with toks:=m}):
  ah (ai X.prog X.w) A (call (.builtin "isinstance") [u,.type t.n]) Q E s:=by
 cases d with
 |non=>have:=MZ hd;subst this;cases g;exact qQ PySem.W.kitx_none T.kIn bA (FW X.K .non t) (λz=>nomatch z) h
 |bl b=>have:=Jh hd;subst this;cases g;exact qQ PySem.W.kitx_bool T.kIn bA (FW X.K (.bl b) t) (λz=>nomatch z) h
 |int b=>have:=jq hd;subst this;obtain⟨m,rfl⟩:=g;exact qQ PySem.W.kitx_int T.kIn bA (FW X.K (.int b) t) (λz=>nomatch z) h
 |str b=>have:=An hd;subst this;obtain⟨m,rfl⟩:=g;exact qQ PySem.W.kitx_str T.kIn bA (FW X.K (.str b) t) (λz=>nomatch z) h
 |tup l=>obtain⟨a,y,rfl,q,_⟩:=lY hd;cases g;obtain⟨j,_,⟨o,h1,i,_⟩,_⟩:=T.tuple q;exact qQ PySem.W.kitx_tuple T.kIn ⟨o,h1,i⟩ (FW X.K (.tup l) t) (λz=>nomatch z) h
 |lst l=>obtain⟨a,y,rfl,q,_⟩:=kO hd;cases g;obtain⟨j,_,⟨o,n,h1,i,_⟩,_⟩:=T.list q;exact qQ PySem.W.kitx_list T.kIn ⟨o,h1,i⟩ (FW X.K (.lst l) t) (λz=>nomatch z) h
 |oth k p r=>
  obtain⟨a,B,rfl,q,_⟩:=oS hd;cases g
  cases k with
  |dct=>exact qQ PySem.W.kitx_dict T.kIn (H9 T q) (FW X.K (.oth .dct p r) t) (λz=>nomatch z) h
  |set=>exact qQ PySem.W.kitx_set T.kIn (H9 T q) (FW X.K (.oth .set p r) t) (λz=>nomatch z) h
  |exc U=>obtain⟨_,o,e,h1,i,v⟩:=q;exact qQ (i a) T.kIn (show ObjOk X.prog X.w H s.heap a (.frz o<|.own 0) from T.hok a _ e).1 (Y3 v t) (λz=>nomatch z) h
  |_=>exact q.elim
end
noncomputable def Ex(a:List Ty)(d:D):Option (D×Bool):=C (.bl<|a.any<|isT d,Y)
section
variable {X:Cx}{e:iK}{c:FO}{b p a:bB}{z:aB}
def Vd{t:Ty}(L:PO X e c)(J:Gl X "isinstance")(M:X.mg "isinstance"=Op)(w:Gl X z)(y:X.mg z=Op)(Y:aK z=N2 (.type t.n))(N:z≠"__name__")(l7:(z==("__debug__":aB))=O1)(hv:aK "isinstance"=N2 (.builtin "isinstance"))
  (s1:ag [e,.Name z a] X.env=(O1,aU e X.env)::ag [.Name z a] X.env)(s2:ag [.Name z a] X.env=(O1,aU (.Name z a) X.env)::ag [] X.env)(i6:(bc b<|ag [.Name z a] X.env).any (·.1)=O1):
  PX X (.Call (.Name "isinstance" p) [e,.Name z a] [] b) (lB (Ex [t]) c):=by
 have G:kR X (.builtin "isinstance") (λl H Q=> ∃(O:AP') (d:D) (x:V),l=[x,.ty t.n]/\kM X.K H O d x/\Q (.bl<|isT d t) H):=by intro i s S H l us Q I r h;obtain⟨O,d,x,rfl,hd,q⟩:=h;obtain⟨u,w',rfl,F,m⟩:=Cj r;cases m;exact aaz I hd F λtk=>⟨.bl _,H,I.tok _,rfl,q⟩
 refine PX.imp (AG G J M hv (nQ L (nQ (JK (v:= .ty t.n) w y Y O9 N l7) sV s2) s1) (by decide) (by decide) s1 i6) λS H Q U=>?_;obtain⟨P,T,Z,R,E,e,k⟩:=U;obtain⟨⟨o,f⟩,h1,e⟩:=iA e;obtain⟨x,A,e⟩:=iA e;obtain⟨zz,C,e⟩:=iA e;cases C;obtain⟨rfl,rfl⟩:=jc e;refine⟨P,T,o,f,E,h1,λv W g=>?_⟩;have B:=Ops.cons E g<|Ops.nil<|g.er E;refine⟨_,x,v,rfl,B.view (j:=0) O9 O9 A,?_⟩;have:=(B.done k).bl;simpa using this
end
noncomputable def mP:List D->Option (List Bool)
 |[]=>C []
 | .bl b::l=>(mP l).map (b:: ·)
 |_::_=>I
noncomputable def tD:D->Option (D×Bool)
 | .lst l=>(mP l).map λbs=>(.bl<|bs.all id,Y)
 |_=>I
noncomputable def Iz:D->Option (D×Bool)
 | .lst l=>(mP l).map λbs=>(.bl<|bs.any id,Y)
 |_=>I
theorem tM{K U}{O:AP'}: ∀{l:List D} {bs:List Bool} {e:List V} {d:jD},mP l=C bs->RepL K U O l e->Vals e d->LSm.BoolsAre d bs
 |[],bs,e,d,h,r,v=>by
  cases h;rw[RepL] at r;subst r;cases v;exact .nil
 | .bl b::l,bs,e,d,h,r,v=>by
  obtain⟨f,h1,rfl⟩:=ju h;rw[RepL] at r;obtain⟨x,j,rfl,g,i⟩:=r;have:=g.bl;subst this
  cases v with
  |cons a c=>cases a;exact .cons b<|tM h1 i c
 | .non::l,_,_,_,h,_,_=>by cases h
 | .int _::l,_,_,_,h,_,_=>by cases h
 | .str _::l,_,_,_,h,_,_=>by cases h
 | .tup _::l,_,_,_,h,_,_=>by cases h
 | .lst _::l,_,_,_,h,_,_=>by cases h
 | .oth _ _ _::l,_,_,_,h,_,_=>by cases h
section
variable {X:Cx}
def wV{h a:ja}{o:ey}(hk: ∀b x,b∉[h.objs.size]->(h.push o).get? b=C x->a.get? b=C x)(b:iB)(x:ey)(e:h.get? b=C x):a.get? b=C x:=
 hk b x (λz=>by have:=zf.mp z;subst this;exact absurd (ke e)<|qk _) (kc _ e)
def mv(o:X.calm=O0):kR X (.builtin "all") (rDn X.K<|g1 tD):=nN λj s M H x u Q O d z N y np hd h G=>by
 cases d with
 |lst l=>
  obtain⟨bs,n,rfl⟩:=ju h;obtain⟨p,J,rfl,q,r⟩:=kO hd;cases y;obtain⟨c,v,g,_⟩:=N.list q;have a:=tM n r v;have t:X.A.in1.handled=I:=N.ok.hd o;have k:p<s.heap.objs.size:=by obtain⟨_,e,_⟩:=g.isList;exact ke e
  refine call_all_walk (DO g.isList ⟨s.heap.objs.size,[s.heap.objs.size,p],[s.heap.objs.size],c.toArray.size,_,_,λi=>(bs[i]?).getD O0,rfl,Walks.list t _ p (jM k) c.toArray,
   ⟨⟨_,kD _ rfl,rfl,rfl⟩,g.isList.push _⟩,λi w L U B m f=>?_,λE T hk=>?_⟩)
  .obtain⟨b,e,rfl⟩:=a.get i w (by simpa using m);dsimp only at f;rw[e] at f;exact uQ f
  .rw[jx,a.length,LSm.range_all];exact⟨.bl _,H,N.kept<|wV hk,rfl,G.bl⟩
 |_=>cases h
def C6(o:X.calm=O0):kR X (.builtin "any") (rDn X.K<|g1 Iz):=nN λj s M H x u Q O d z N y np hd h G=>by
 cases d with
 |lst l=>
  obtain⟨bs,n,rfl⟩:=ju h;obtain⟨p,J,rfl,q,r⟩:=kO hd;cases y;obtain⟨c,v,g,_⟩:=N.list q;have a:=tM n r v;have t:X.A.in1.handled=I:=N.ok.hd o;have k:p<s.heap.objs.size:=by obtain⟨_,e,_⟩:=g.isList;exact ke e
  refine call_any_walk (DO g.isList ⟨s.heap.objs.size,[s.heap.objs.size,p],[s.heap.objs.size],c.toArray.size,_,_,λi=>(bs[i]?).getD Y,rfl,Walks.list t _ p (jM k) c.toArray,
   ⟨⟨_,kD _ rfl,rfl,rfl⟩,g.isList.push _⟩,λi w L U B m f=>?_,λE T hk=>?_⟩)
  .obtain⟨b,e,rfl⟩:=a.get i w (by simpa using m);dsimp only at f;rw[e] at f;exact uQ f
  .rw[jx,a.length,LSm.range_any];exact⟨.bl _,H,N.kept<|wV hk,rfl,G.bl⟩
 |_=>cases h
noncomputable def Pn:=gI λi j=>C<|.int (if j>i then j else i)
noncomputable def Pm:=gI λi j=>C<|.int (if j<i then j else i)
def IM(c:X.calm=J):kR X (.builtin "max") (rDn X.K<|g2 Pn):=P7 λa s k T x y h Q O d e z U r np h1 b g G=>by obtain⟨i,j,w,rfl,rfl,f,rfl⟩:=zB g;cases f;exact LJ c a s k T [x,y] h Q U r ⟨i,j,by rw[jq h1,jq b],G.int⟩
def IL(c:X.calm=J):kR X (.builtin "min") (rDn X.K<|g2 Pm):=P7 λa s k T x y h Q O d e z U r np h1 b g G=>by obtain⟨i,j,w,rfl,rfl,f,rfl⟩:=zB g;cases f;exact LH c a s k T [x,y] h Q U r ⟨i,j,by rw[jq h1,jq b],G.int⟩
def AA{lo:Int}{n:Nat}{a:mY}(h:i3 (λi v=> ∃t,v= .int (lo+(i:Int)*1) t) a n):Vals ((aj n).map λ(k:Nat)=>V.int<|lo+k) a.toList:=by
 have b: ∀(l:jD) (m:Nat),(∀(j:Nat) v,l[j]?=C v-> ∃t,v= .int (lo+((m+j:Nat):Int)) t)->Vals ((c9 m<|Ps l).map λ(k:Nat)=>V.int<|lo+k) l:=by
  intro l
  induction l with
  |nil=>intro m _;exact .nil
  |cons v l f=>intro m hv;obtain⟨t,e⟩:=hv 0 v H;refine .cons ⟨t,by simpa using e⟩<|f (m+1) λj w d=>?_;obtain⟨g,c⟩:=hv (j+1) w (by simpa using d);exact⟨g,by rw[c];congr 2;first|done|lia⟩
 have:=b a.toList 0 λj v hv=>by obtain⟨t,e⟩:=h.2 j v (by simpa using hv);exact⟨t,by rw[e];congr 1⟩
 rw[kE,h.1,<-List.range_eq_range'] at this;exact this
def HR{K U}(lo:Int)(n:Nat):RepL K U O (jB lo n) ((aj n).map λ(k:Nat)=>V.int<|lo+k):=by
 unfold jB
 induction(aj n) with
 |nil=>exact RepL.nil
 |cons k l a=>exact RepL.cons Rep.mkInt a
end
def RgOk(lo a:Int):Prop:= -(2^62)<=lo/\lo<2^62/\ -(2^62)<=a/\a<2^62/\(a-lo).toNat<=2^24
instance(lo hi:Int):Decidable (RgOk lo hi):=by unfold RgOk;infer_instance
noncomputable def rgV(lo a:Int):List V:=(aj (a-lo).toNat).map λ(k:Nat)=>V.int<|lo+k
def RgOk.small{lo a:Int}(h:RgOk lo a):sB lo a 1=J:=small_one h.1 h.2.1 h.2.2.1 h.2.2.2.1
def Jw(lo a:Int):eU lo a 1=((a-lo).toNat:Nat):=by rw[zn];split<;>lia
section
variable {c:jd}{w:iW}{A:jf}{E:jw}{s:iI}
def IK{Q:List iO->Shared->Prop}{r:iB}{lo n:Int}{t u v:m5}(O:A.handled=I)(x:Ix s.heap r lo n 1 t u v)(ok:RgOk lo n)
  (B: ∀(g:ja) k (d:mY),(∀b o,s.heap.get? b=C o->g.get? b=C o)->i3 (λi v=> ∃t,v= .int (lo+(i:Int)*1) t) d (n-lo).toNat->Q d.toList {s with heap:=g,toks:=k}):
  ah (ai c w) A (fE<|.ref r) Q E s:=by
 unfold fE;refine iF<|G3<|sf F.entry_proto_collect ?_;rw[vD F.plain_proto_collect _];refine iF (m:=ik [])<|mx ?_;refine iR ⟨xN F.plain_list_iadd _,sf F.entry_list_iadd ?_⟩;rw[vD F.plain_list_iadd _];have z:=kD s.heap (o:=({cls:= .type "list",data:= .seq ([]:List iO).toArray}:ey)) H
 let R:iV->Shared->Prop:=λr j=> ∃(g:ja) (k:Nat) (d:mY) (l:Nat),r= .ok (.ret<|.ref s.heap.objs.size)/\j={s with heap:=g,toks:=k}/\(∀b o,s.heap.get? b=C o->g.get? b=C o)/\
  g.get? s.heap.objs.size=C {cls:= .type "list",dict:=I,data:= .seq d l,slots:= #[]}/\i3 (λi v=> ∃t,v= .int (lo+(i:Int)*1) t) d (n-lo).toNat
 have fin: ∀{r j},R r j-> ∃v,r= .ok (.ret v)/\ah (ai c w) A (match v with
   |Value.ref a=>do
    match(<-load a).data with
     |Data.seq xs _=>pure xs.toList
     |_=>k9 "internal:collect"
   |_=>k9 "internal:collect") Q E j:=λ{r j} U=>by
  obtain⟨g,k,d,l,rfl,rfl,hk,p,y⟩:=U;exact⟨_,rfl,iF (m:=load s.heap.objs.size)<|yc p<|iR<|B g k d hk y⟩
 refine oE (wpAny_extend_range (A:=A) (R:=R) (s:={s with heap:=s.heap.push {cls:= .type "list",data:= .seq ([]:List iO).toArray}}) O (kc _ x) ok.small (Jw lo n) ok.2.2.2.2 _ _ 0 z λg k T l hk p y=>⟨g,k,T,l,rfl,rfl,λb o e=>hk b o (jM<|ke e)<|kc _ e,p,y⟩) (λf j h=>?_) λe j h=>?_
 .cases f with
  |done f=>obtain⟨v,hv,q⟩:=fin h;cases hv;exact q
  |again l=>exact⟨h.1,sm h.2 λr L x=>by obtain⟨v,rfl,q⟩:=fin x;exact q⟩
 .obtain⟨v,hv,_⟩:=fin h;cases hv
def DW{Q₁:jw}{r:iB}{lo g:Int}{t u v:m5}(q:A.handled=I)(l:Ix s.heap r lo g 1 t u v)(ok:RgOk lo g)
  (h: ∀(d:ja) k (a:mY),(∀b o,s.heap.get? b=C o->d.get? b=C o)->i3 (λi v=> ∃t,v= .int (lo+(i:Int)*1) t) a (g-lo).toNat->Q₁ (.ref d.objs.size) {s with heap:=d.push {cls:= .type "tuple",data:= .seq a},toks:=k}):
  cR (ai c w) A (.call (.builtin "tuple.__new__") ⟨[.type "tuple",.ref r],[]⟩) (wants Q₁ E) s:=by
 refine G7 ?_;refine iF (m:=ro "tuple.__new__" _)<|Ab (F.newCall_tuple_1 _)<|iR ⟨xN F.plain_tuple_new _,sf F.entry_tuple_new ?_⟩;rw[vD F.plain_tuple_new _];have n:=sub_tuple_self;have j:=init_tuple_lookup;have x:=madeHere_tuple;have z:s.TypeIs (.ref r) "range":=⟨_,l,rfl⟩
 have f:A.in1.handled=I:=q
 wp_walk using wq z,IK f l ok
 intro d k a hk p;have y:a.size<=sizeLine:=by rw[p.1,kf];have:=ok.2.2.2.2;omega
 refine iF (m:=aH a.toList.toArray) ?_;unfold aH;refine mx ?_ (by show a.toList.toArray.size<=sizeLine;simpa using y);refine iR ?_;have e:a.toList.toArray=a:=by simp
 rw[e];exact h d k a hk p
def Cc{Q:jw}{r:iB}{lo g:Int}{t u v:m5}(k:A.handled=I)(m:Ix s.heap r lo g 1 t u v)(ok:RgOk lo g)
  (h: ∀(f:ja) j (e:mY),(∀b o,s.heap.get? b=C o->f.get? b=C o)->i3 (λi v=> ∃t,v= .int (lo+(i:Int)*1) t) e (g-lo).toNat->Q (.ref f.objs.size) {s with heap:=f.push {cls:= .type "tuple",data:= .seq e},toks:=j}):
  ah (ai c w) A (call (.type "tuple") [.ref r]) Q E s:=by
 refine callType_codes (Q₁:=λobj a=>a.TypeIs obj "tuple"/\Q obj a) Qt (F.typeCall_tuple_1 _) F.entry_object_init
  (DW k m ok λf j e l n=>⟨⟨_,kD _ rfl,rfl⟩,h f j e l n⟩) λobj a d=>?_
 exact⟨d.1,Mx obj _,object_init_meets Qt.init.lookup Qt.made (by decide) c w A.in1 _ a ⟨d.1,rfl,d.2⟩⟩
end
section
variable {X:Cx}
def C4:kR X (.type "range") (λc T Q=> ∃i j,c=[.int i,.int j]/\ ∀r,T r=I->Q (.ref r) (upd T r<|.rng i j)):=by intro a s k T c g Q U r h;obtain⟨i,j,rfl,h⟩:=h;obtain⟨u,f,rfl,⟨t,rfl⟩,⟨d,rfl⟩⟩:=Cj r;exact G0 ⟨.ref _,_,U.laid (o:= .rng i j) (λb o e=>kc _ e) (jW _) ⟨_,_,_,kD _ rfl⟩,rfl,h _ U.fresh⟩
def Cd(j:X.calm=J):kR X (.type "list") (λg T Q=> ∃r lo b,g=[.ref r]/\T r=C (.rng lo b)/\RgOk lo b/\ ∀l,T l=I->Q (.ref l) (upd T l<|.lst<|rgV lo b)):=by intro f s y T g x Q U i h;obtain⟨r,lo,b,rfl,k,ok,h⟩:=h;obtain⟨u,rfl,n⟩:=rJ i;cases n;obtain⟨t,u,v,er⟩:=U.hok r _ k;refine call_list_range (A:=X.A) (U.ok.hd j) er ok.small (Jw lo b) ok.2.2.2.2 λp q d c m e a=>?_;have o:=AA a;refine⟨.ref _,_,U.laid m (jW _) (show ObjOk X.prog X.w _ _ _ (.lst<|rgV lo b) from⟨?_,d.toList,c,o,by simpa using e⟩),rfl,h _ U.fresh⟩;have:=ok.2.2.2.2;simp only[rgV,jF,eY,kf];omega
def Bv(m:X.calm=J):kR X (.type "tuple") (λj T Q=> ∃r lo d,j=[.ref r]/\T r=C (.rng lo d)/\RgOk lo d/\ ∀l,T l=I->Q (.ref l) (upd T l<|.tup<|rgV lo d)):=by intro f s z T j B Q U k h;obtain⟨r,lo,d,rfl,n,ok,h⟩:=h;obtain⟨u,rfl,q⟩:=rJ k;cases q;obtain⟨t,u,v,er⟩:=U.hok r _ n;refine Cc (A:=X.A) (U.ok.hd m) er ok λi y c p a=>?_;have x:=AA a;have g:Inv X f z T {s with heap:=i,toks:=y}:=U.kept p;refine⟨.ref _,_,g.laid (λb o e=>kc _ e) (jW _) (show ObjOk X.prog X.w _ _ _ (.tup<|rgV lo d) from⟨?_,c.toList,x,by have:=Ac i c;simpa using this⟩),rfl,h _ g.fresh⟩;have:=ok.2.2.2.2;simp only[rgV,jF,eY,kf];omega
noncomputable def gRg(mk:List D->D)(o:Bool):List D->Option (D×Bool)
 |[.int j]=>if RgOk 0 j then C (mk<|jB 0 j.toNat,o) else I
 |[.int i,.int j]=>if RgOk i j then C (mk<|jB i (j-i).toNat,o) else I
 |_=>I
def Jx{K U}(lo a:Int):RepL K U O (jB lo (a-lo).toNat) (rgV lo a):=HR lo _
variable {a b:iK}{n m:FO}{p g d f:bB}
def Fc(h:upd U r o l=I):U l=I:=by
 by_cases e:l=r
 .subst e;rw[jk] at h;cases h
 .rwa [jg e] at h
def Df{K:jb}{T q:AP'}{s:L2.St}{r c:Dn}{U o:Hp}{os:List Opd}{l:List V}{e:List D}(B:Ops K T s r U os l c o q)(h:vP c os=C e){is:iQ}(hd:e=is.map .int):l=is.map .int:=by
 obtain⟨h1,t⟩:=oZ h;apply xP;intro j;by_cases k:j<Ps is
 .rw[tY B h (j:=j) (i:=is[j])<|by rw[hd];simp[k]];simp[k]
 .have u:=B.len;subst hd;simp at h1;rw[gD<|by lia,gD<|by simp;lia]
def U7{T:String}{z:aB}{mk:List D->D}{o:Bool}(hT:(T="list"/\mk= .lst/\o=O0)\/(T="tuple"/\mk= .tup/\o=O1))(N:X.calm=O0)(U:Gl X z)(Y:X.mg z=Op)(hv:aK z=N2 (.type T))(hn:z≠"__name__")(l7:(z==("__debug__":aB))=O1)
  (J:Gl X "range")(O:X.mg "range"=Op)(M:PA X [a,b] (tA X.K [n,m]))
  (s1:ag [.Call (.Name "range" g) [a,b] [] f] X.env=(O1,aU (.Call (.Name "range" g) [a,b] [] f) X.env)::ag [] X.env)(s2:ag [a,b] X.env=(O1,aU a X.env)::ag [b] X.env)
  (i6:(bc d<|ag [] X.env).any (·.1)=O1)(G:(bc f<|ag [b] X.env).any (·.1)=O1):
  PX X (.Call (.Name z p) [.Call (.Name "range" g) [a,b] [] f] [] d) (jm (gRg mk o) [n,m]):=by
 have t: ∀{w c:Dn} {os:List Opd},kF [n,m] w=N2 (os,c)->os.length=2:=λ{w c os} h1=>by unfold kF at h1;obtain⟨p,q1,h1⟩:=iA h1;obtain⟨q,v,h1⟩:=iA h1;unfold kF at v;obtain⟨p3,q3,v⟩:=iA v;obtain⟨q4,F,v⟩:=iA v;unfold kF at F;cases F;obtain⟨rfl,rfl⟩:=jc h1;cases v;rfl
 rcases hT with⟨rfl,rfl,rfl⟩|⟨rfl,rfl,rfl⟩
 .refine PX.imp (qu (Cd N) U Y hv (nQ (qu C4 J O DN M (by decide) (by decide) s2 G) sV s1) hn l7 s1 i6) λZ H Q C=>?_;obtain⟨w,T,S,L,E,e,k⟩:=C;obtain⟨⟨os,c⟩,h1,e⟩:=iA e;obtain⟨R,y,e⟩:=iA e;obtain⟨W,h,e⟩:=iA e;obtain⟨rfl,rfl⟩:=jc e;refine⟨w,T,os,c,E,h1,λV x P B=>?_⟩;unfold gRg at h;split at h
  .obtain⟨s,_⟩:=oZ y;have:=t h1;simp at s;omega
  .rename_i i j;obtain⟨ok,rfl⟩:=jl h;refine⟨i,j,Df B y (is:=[i,j]) O9,λr A=>⟨r,i,j,rfl,jk,ok,λl s=>?_⟩⟩;have I: ∀a u,x a=N2 u->upd (upd x r<|.rng i j) l (.lst<|rgV i j) a=N2 u:=λa u e=>mK s a u<|mK A a u e;exact(B.done k) l _ (Fc s) I ⟨rgV i j,jk,Jx i j⟩
  .cases h
 .refine PX.imp (qu (Bv N) U Y hv (nQ (qu C4 J O DN M (by decide) (by decide) s2 G) sV s1) hn l7 s1 i6) λZ H Q C=>?_;obtain⟨w,T,S,L,E,e,k⟩:=C;obtain⟨⟨os,c⟩,h1,e⟩:=iA e;obtain⟨R,y,e⟩:=iA e;obtain⟨W,h,e⟩:=iA e;obtain⟨rfl,rfl⟩:=jc e;refine⟨w,T,os,c,E,h1,λV x P B=>?_⟩;unfold gRg at h;split at h
  .obtain⟨s,_⟩:=oZ y;have:=t h1;simp at s;omega
  .rename_i i j;obtain⟨ok,rfl⟩:=jl h;refine⟨i,j,Df B y (is:=[i,j]) O9,λr A=>⟨r,i,j,rfl,jk,ok,λl s=>?_⟩⟩;have I: ∀a u,x a=N2 u->upd (upd x r<|.rng i j) l (.tup<|rgV i j) a=N2 u:=λa u e=>mK s a u<|mK A a u e;exact(B.done k) _ _ I (Rep.mkTup ⟨jk,B.np<|nOw<|Fc s⟩<|Jx i j)
  .cases h
end
def Src(h:ja)(a l:iB)(i:Nat)(b:mY):Prop:=(h.IsListIter a l i/\h.IsList l b)\/(h.IsTupleIter a l i/\h.IsTuple l b)
section
variable {prog:jd}{w:iW}{A:jf}{E:jw}{s:iI}{it l:iB}{i:Nat}{c:mY}
def Src.ne(x:Src h it l i c):l≠it:=by intro e;subst e;rcases x with⟨⟨o,h1,b,a⟩,d,g1,g2,n,g3⟩|⟨⟨o,h1,b,a⟩,d,g1,g2,n,g3⟩<;>(rw[h1] at g1;cases g1;rw[a] at g3;cases g3)
def Src.lt(x:Src h it l i c):it<h.objs.size/\l<h.objs.size:=by rcases x with⟨⟨o,h1,_⟩,a,g1,_⟩|⟨⟨o,h1,_⟩,a,g1,_⟩<;>exact⟨ke h1,ke g1⟩
def Src.keep(x:Src h it l i c)(d: ∀o,h.get? it=C o->h'.get? it=C o)(e: ∀o,h.get? l=C o->h'.get? l=C o):Src h' it l i c:=by
 rcases x with⟨⟨o,h1,r⟩,a,g1,b⟩|⟨⟨o,h1,r⟩,a,g1,b⟩
 .exact .inl ⟨⟨o,d _ h1,r⟩,a,e _ g1,b⟩
 .exact .inr ⟨⟨o,d _ h1,r⟩,a,e _ g1,b⟩
def Cn{Q:jw}(d:s.heap.IsTupleIter it l i)(r:s.heap.IsTuple l c)(p: ∀x,c[i]?=C x-> ∀b,b.IsTupleIter it l (i+1)->aR it s.heap b->Q x {s with heap:=b})
  (h:c[i]?=I->A.handled=I/\ ∀b e,ej it s.heap b->(∃o,b.get? e=C o/\o.cls= .type "StopIteration")->E (.ref e) {s with heap:=b}):ah (ai prog w) A (aO<|.ref it) Q E s:=by
 obtain⟨o,f,q,hd⟩:=id d;obtain⟨u,j,_,t,n⟩:=r;unfold aO;refine iF<|rZ (name:=bf "__next__") d.typeIs Mw<|oB Mw d.typeIs F.entry_tuple_iterator_next ?_<|F.args_tuple_iterator_next_1 _;refine iF (m:=gW (.ref it) 0)<|nA f hd (x:= .ref l) H ?_;show ah _ _ (if(bM l==au)=J then _ else _) _ _ s;rw[je (by show ¬(bM l==au)=J;exact kU)];refine iF (m:=gW (.ref it) 1)<|nA f hd (x:= .int i 0) H ?_;refine iF (m:=seqItems?<|.ref l)<|zY j n ?_
 cases g:c[i]? with
 |some x=>simp only[qh,g];refine iF<|vC f hd (by simp)<|iR ⟨x,rfl,iR<|p x g _ ⟨_,uN _ f (DF<|uH hd _),(DE ..).trans q,?_⟩ (rB ..)⟩;rw[uH hd];simp[cO]
 |none=>
  obtain⟨k,h⟩:=h g;simp only[qh,g];refine iF<|uJ<|iF<|vC f hd (by simp) ?_;refine iF (m:=il (.type "StopIteration") []) ?_;simp -iota only[il,lm];refine iF<|mx (iF (m:=cP _ _)<|Ab (a:=au) (by first|rfl|(simp -iota only[cP];rfl)) ?_) (by size_fits);refine mx ?_ (by size_fits);simp -iota only[ww];refine iF<|G2 ?_
  first|rw[show A.in1.handled=I from k]|rw[k]
  exact iF<|iR<|GZ<|h _ _ (((rB ..).extBut.push _).push _) ⟨_,kD _ rfl,rfl⟩
def Src.item{x:iO}{Q:jw}(st:Src s.heap it l i c)(h:c[i]?=C x)(j: ∀d,Src d it l (i+1) c->aR it s.heap d->Q x {s with heap:=d}):
  ah (ai prog w) A (aO<|.ref it) Q E s:=by
 have ne:=st.ne;rcases st with⟨a,b⟩|⟨a,b⟩
 .exact wpAny_nextOf_list_item a b h λd g f=>j d (.inl ⟨g,b.extBut f.extBut ne⟩) f
 .exact Cn a b (λk e d g f=>by rw[h] at e;cases e;exact j d (.inr ⟨g,b.extBut f.extBut ne⟩) f) λe=>by rw[h] at e;cases e
def Src.stop{Q:jw}(g:A.handled=I)(st:Src s.heap it l i c)(h:c[i]?=I)
  (f: ∀d e,ej it s.heap d->(∃o,d.get? e=C o/\o.cls= .type "StopIteration")->E (.ref e) {s with heap:=d}):ah (ai prog w) A (aO<|.ref it) Q E s:=by
 rcases st with⟨a,b⟩|⟨a,b⟩
 .exact wpAny_nextOf_list_end g a b h f
 .exact Cn a b (λx e=>by rw[h] at e;cases e) λ_=>⟨g,f⟩
def Src.new(a:s.heap.IsList l c\/s.heap.IsTuple l c)(f: ∀d,Src d s.heap.objs.size l 0 c->d.objs.size=s.heap.objs.size+1->(∀b o,s.heap.get? b=C o->d.get? b=C o)->Q (.ref s.heap.objs.size) {s with heap:=d}):
  ah (ai prog w) A (en<|.ref l) Q E s:=by
 rcases a with a|a
 .exact DO a (f _ (.inl ⟨⟨_,kD _ rfl,rfl,rfl⟩,a.push _⟩) (rE ..) λb o e=>kc _ e)
 .exact nw a (f _ (.inr ⟨⟨_,kD _ rfl,rfl,rfl⟩,a.push _⟩) (rE ..) λb o e=>kc _ e)
end
section
variable {h:jd}{w:iW}{A:jf}{E:jw}{s:iI}{e f l:iB}{i:Nat}{c:Int}{j:mY}
def LA{x z:iO}{Q:jw}(he:eo s.heap e f c z)(st:Src s.heap f l i j)(hx:j[i]?=N2 x)(Y:e≠f)(dX:e≠l)
  (hQ: ∀O,hH O e f (c+1) x s.heap.objs.size->Src O f l (i+1) j->O.get? s.heap.objs.size=N2 {cls:= .type "tuple",data:= .seq #[.int c s.toks,x]}->O.objs.size=s.heap.objs.size+1->
   (∀b o,b≠e->b≠f->s.heap.get? b=N2 o->O.get? b=N2 o)->Q (.ref s.heap.objs.size) {s with heap:=O,toks:=s.toks+1}):
  ah (ai h w) A (bn.«enumerate.__next__» ⟨[.ref e],[]⟩) (λfin s'=> ∃v,fin= .done (.ret v)/\Q v s') E s:=by
 obtain⟨H,g,d,n,os⟩:=s;refine iF (m:=gW (.ref e) 2)<|nA he O9 (x:= .ref f) O9<|iF<|st.item hx λk L J=>?_;replace J:aR f H k:=J;have W:eo k e f c z:=(J.2 e Y).trans he;refine iF (m:=gW (.ref e) 3)<|nA (s:=⟨k,g,d,n,os⟩) W O9 (x:=cO c) O9 ?_;refine iF (m:=gW (.ref e) 4)<|nA (s:=⟨k,g,d,n,os⟩) W O9 (x:= .none) O9 ?_;refine iF (m:=mkInt c)<|wpAny_mkInt (s:=⟨k,g,d,n,os⟩) ?_;refine iF (m:=li (.ref e) 3<|cO<|c+1)<|uG (s:=⟨k,g,d,n+1,os⟩) W (by simp) λr V G=>?_;replace G:aR e k r:=G;replace V:eo r e f (c+1) z:=V;refine iF (m:=li (.ref e) 4 .none)<|uG (s:=⟨r,g,d,n+1,os⟩) V (by simp) λa S T=>?_;replace T:aR e r a:=T;replace S:eo a e f (c+1) z:=S;refine iF (m:=lm [.int c n,x])<|DD (s:=⟨a,g,d,n+1,os⟩) ?_;have I:a.objs.size=H.objs.size:=by rw[T.1,G.1,J.1]
 have U:eo (a.push {cls:= .type "tuple",data:= .seq #[.int c n,x]}) e f (c+1) z:=kc _ S;have Z:e<H.objs.size:=ke he;have B:(a.push {cls:= .type "tuple",data:= .seq #[.int c n,x]}).get? H.objs.size=N2 {cls:= .type "tuple",data:= .seq #[.int c n,x]}:=by rw[<-I];exact kD _ rfl
 have up: ∀b o,b≠e->b≠f->H.get? b=N2 o->(a.push {cls:= .type "tuple",data:= .seq #[.int c n,x]}).get? b=N2 o:=λb o b1 F q=>kc _ (T.extBut b o b1<|G.extBut b o b1<|J.extBut b o F q);have C:Src (a.push {cls:= .type "tuple",data:= .seq #[.int c n,x]}) f l (i+1) j:=L.keep (λo q=>kc _ (T.extBut _ o Y.symm (G.extBut _ o Y.symm q))) λo q=>kc _ (T.extBut _ o dX.symm (G.extBut _ o dX.symm q));have X:(a.push {cls:= .type "tuple",data:= .seq #[.int c n,x]}).objs.size=H.objs.size+1:=by rw[rE,I]
 rw[I];generalize (a.push {cls:= .type "tuple",data:= .seq #[.int c n,x]})=p at U B up C X;refine iF (m:=bt<|.ref e) ?_;unfold bt;refine iF<|nA (s:=⟨p,g,d,n+1,os⟩) U O9 (x:= .none) O9<|iR ?_;simp -iota only[ky];refine iF<|uJ<|iF<|nA (s:=⟨p,g,d,n+1,os⟩) U O9 (x:=z) O9<|iF<|uG (s:=⟨p,g,d,n+1,os⟩) U (by simp) λt R D=>?_;replace D:aR e p t:=D;replace R:eo t e f (c+1) x:=R;refine iF (m:=bj (.ref e)<|.ref H.objs.size) ?_;unfold bj;refine iF<|uG (s:=⟨t,g,d,n+1,os⟩) R (by simp) λu P N=>?_;replace N:aR e t u:=N;replace P:hH u e f (c+1) x H.objs.size:=P;refine uG (s:=⟨u,g,d,n+1,os⟩) P (by simp) λy K M=>?_;replace M:aR e u y:=M;replace K:hH y e f (c+1) x H.objs.size:=K;have all: ∀b o,b≠e->p.get? b=N2 o->y.get? b=N2 o:=λb o b1 q=>M.extBut b o b1<|N.extBut b o b1<|D.extBut b o b1 q;refine iF<|DC<|iR ⟨_,rfl,hQ y K (C.keep (λo q=>all _ o Y.symm q) λo q=>all _ o dX.symm q) (all _ _ (oD Z) B) ?_ λb o b1 F q=>all b o b1<|up b o b1 F q⟩;rw[M.1,N.1,D.1,X]
def yq{x m:iO}{Q:EV}(p:eo s.heap e f c m)(st:Src s.heap f l i j)(t:j[i]?=C x)(u:e≠f)(q:e≠l)
  (r: ∀g,hH g e f (c+1) x s.heap.objs.size->Src g f l (i+1) j->g.get? s.heap.objs.size=C {cls:= .type "tuple",data:= .seq #[.int c s.toks,x]}->g.objs.size=s.heap.objs.size+1->
   (∀b o,b≠e->b≠f->s.heap.get? b=C o->g.get? b=C o)->Q (C<|.ref s.heap.objs.size) {s with heap:=g,toks:=s.toks+1}):
  ah (ai h w) A (cz<|.ref e) Q E s:=by
 have n:s.TypeIs (.ref e) "enumerate":=⟨_,p,rfl⟩
 unfold cz
 exact iF (rW (rZ (name:=bf "__next__") n DA (oB DA n Mv
  (LA p st t u q λg a b c d k=>iR<|r g a b c d k) (Mu _))))
def zg{d:iO}{Q:EV}(r:A.handled=I)(k:eo s.heap e f c d)(st:Src s.heap f l i j)(u:j[i]?=I)
  (p: ∀a,ej f s.heap a->Q I {s with heap:=a}):ah (ai h w) A (cz<|.ref e) Q E s:=by
 have g:s.TypeIs (.ref e) "enumerate":=⟨_,k,rfl⟩
 unfold cz;refine iF<|rW<|rZ (name:=bf "__next__") g DA<|oB DA g Mv ?_<|Mu _;refine iF (m:=gW (.ref e) 2)<|nA k H (x:= .ref f) H<|iF<|st.stop r u λa x n U=>?_;obtain⟨o,t,q⟩:=U;exact iF<|xM (T:="StopIteration") (b:=J) ⟨o,t,q⟩ Dz<|iR<|p _ n
end
section
variable {X:Cx}{d:jr}{g:L2.St}{H:Hp}{s:iI}{f:ja}
def Ck{t':Nat}{ch:kG}{a:iB}{o:HO}(N:Inv X d g H s)(j: ∀b∈ch,tN X d H b)(k: ∀b u,b∉ch->s.heap.get? b=C u->f.get? b=C u)(p:s.heap.objs.size<=a)(new:ObjOk X.prog X.w (upd H a o) f a o):
  Inv X d g (upd H a o) {s with heap:=f,toks:=t'}:=by
 have L:=N.hok.fresh p;have l: ∀b u,H b=C u->b∉ch:=λb u e z=>by have:=(j b z).1;rw[this] at e;cases e
 have up: ∀b u,H b=C u->upd H a o b=C u:=λb u e=>by rw[jg<|ll e L];exact e
 have U: ∀b u,s.heap.get? b=C u->H b=I->upd H a o b=I:=λb u e n=>by rw[jg λz=>by subst z;exact absurd (ke e)<|Qw.mpr p];exact n
 refine N.step (g':=s.gens) (d':=s.drawn) (ch:=ch) (λb i=>?_) (λb u _ _ h e _=>k b u h e) (λb u _ _ h e _=>⟨u.slots,k b u h e⟩) (λb u _ e n=>U b u e n)
  (λb u h e=>⟨u,k b u h e⟩) (λb Q e=>up b _ e) (λb _ _ e=>up b _ e) (λb T e=>⟨#[],by rw[up b _ e];simp⟩) (λm E=>?_) (λb u e=>?_) N.bare
 .obtain⟨_,f1,f2,y,A,B⟩:=j b i;exact⟨y,f1,A,B⟩
 .obtain⟨u,x,t,O,r⟩:=E;exact⟨u,x,t,k _ u (λz=>(j _ z).2.1 O9) O,r⟩
 .by_cases i:b=a
  .subst i;rw[jk] at e;cases e;exact new
  .rw[jg i] at e;refine(N.hok b u e).stay (λc v h q=>k c v ?_ q) (λc q=>up c _ q) (λc Q q=>up c _ q) λc _ _ q=>up c _ q;rcases h with z|z
   .rw[z];exact l b u e
   .exact l c _ z
def Cm{t':Nat}{ch:kG}(U:Inv X d g H s)(h: ∀b∈ch,tN X d H b)(k: ∀b u,b∉ch->s.heap.get? b=C u->f.get? b=C u):Inv X d g H {s with heap:=f,toks:=t'}:=by
 have i: ∀b u,H b=C u->b∉ch:=λb u e z=>by have:=(h b z).1;rw[this] at e;cases e
 refine U.step (g':=s.gens) (d':=s.drawn) (ch:=ch) (λb w=>?_) (λb u _ _ a e _=>k b u a e) (λb u _ _ a e _=>⟨u.slots,k b u a e⟩) (λb u _ e n=>n)
  (λb u a e=>⟨u,k b u a e⟩) (λb A e=>e) (λb _ _ e=>e) (λb B e=>⟨#[],by rw[e];simp⟩) (λm x=>?_) (λb u e=>?_) U.bare
 .obtain⟨_,f1,f2,o,p,t⟩:=h b w;exact⟨o,f1,p,t⟩
 .obtain⟨u,l,j,y,r⟩:=x;exact⟨u,l,j,k _ u (λz=>(h _ z).2.1 O9) y,r⟩
 .refine(U.hok b u e).stay (λc v a q=>k c v ?_ q) (λc q=>q) λc A q=>q;rcases a with z|z
  .rw[z];exact i b u e
  .exact i c _ z
end
def SqX(b:Bool)(K:jb)(U:Hp)(l:iB)(a:List V):Prop:=if b=J then SqL K U l a else SqT K U l a
def ItX(b:Bool)(h:ja)(a l:iB)(i:Nat):Prop:=if b=J then h.IsListIter a l i else h.IsTupleIter a l i
def ItX.keep(x:ItX b h it l i)(k: ∀o,h.get? it=C o->h'.get? it=C o):ItX b h' it l i:=by
 cases b
 .exact PySem.Heap.IsTupleIter.at (show h.IsTupleIter it l i from x) k
 .exact PySem.Heap.IsListIter.at (show h.IsListIter it l i from x) k
def ItX.obj(x:ItX b h it l i): ∃o,h.get? it=C o/\ ∀v,o.data≠ .cell v:=by
 cases b<;>(obtain⟨o,e,c,d⟩:=x;exact⟨o,e,λv z=>by rw[d] at z;cases z⟩)
section
variable {X:Cx}{d:jr}{e:L2.St}{H:Hp}{s:iI}
def ue(U:Inv X d e H s)(q:SqX b X.K H l xs)(t:ItX b s.heap it l i): ∃a,Vals xs a/\Src s.heap it l i a.toArray:=by
 cases b with
 |true=>obtain⟨a,v,p,_⟩:=U.list q;exact⟨a,v,.inl ⟨t,p.isList⟩⟩
 |false=>obtain⟨a,v,p,_⟩:=U.tuple q;exact⟨a,v,.inr ⟨t,p⟩⟩
def DZ(U:Inv X d e H s)(q:SqX b X.K H l xs)(a:SqX b X.K H l c):xs=c:=by
 cases b with
 |true=>exact U.list_inj q a
 |false=>exact U.tuple_inj q a
def Io(t:ItX b h it l i)(m:Src h it l i xs)(j:Src k it l p xs)(n: ∀o,h.get? l=C o->k.get? l=C o):ItX b k it l p:=by
 cases b with
 |true=>
  rcases j with⟨a,_⟩|⟨a,c⟩
  .exact a
  .rcases m with⟨_,o,h1,f,_⟩|⟨⟨o,h1,f,_⟩,_⟩
   .obtain⟨g,g1,g2,_⟩:=c;rw[n _ h1] at g1;cases g1;rw[f] at g2;injection g2 with g2;exact absurd g2 (by decide)
   .obtain⟨g,g1,g2,_⟩:=t;rw[h1] at g1;cases g1;rw[f] at g2;injection g2 with g2;exact absurd g2 (by decide)
 |false=>
  rcases j with⟨a,c⟩|⟨a,_⟩
  .rcases m with⟨⟨o,h1,f,_⟩,_⟩|⟨_,o,h1,f,_⟩
   .obtain⟨g,g1,g2,_⟩:=t;rw[h1] at g1;cases g1;rw[f] at g2;injection g2 with g2;exact absurd g2 (by decide)
   .obtain⟨g,g1,g2,_⟩:=c;rw[n _ h1] at g1;cases g1;rw[f] at g2;injection g2 with g2;exact absurd g2 (by decide)
  .exact a
end
noncomputable def ItE(b:Bool)(K:jb)(l:iB)(c:Int):It:=⟨λi U=> ∃a x,SqX b K U l a/\a[i]?=C x,
 λi U x d=> ∃(T:iB) (y:V),x= .ref T/\U T=I/\d=upd U T (.tup [.int<|c+i,y])/\ ∀a,SqX b K U l a->a[i]?=C y,λi U=> ∃a,SqX b K U l a/\(Ps a)<=i⟩
def Kz{P:jd}{w:iW}{K:jb}{p:kh}{k1}{pos:bB}(b:Bool)(e j l:iB)(c:Int)(i8:e≠j):
  Turn P w K (.Tuple p k1 pos) (ItE b K l c) [e,j] e (λi h=>(∃d,eo h e j (c+i) d)/\ItX b h j l i) where
 mem:=by simp
 obj:=λi h st a L=>by
  obtain⟨⟨d,g⟩,st⟩:=st;have n5:a=e\/a=j:=by simpa using L
  rcases n5 with rfl|rfl
  .exact⟨_,g,λv z=>by have z':gG _=fg v:=z;cases z'⟩
  .exact st.obj
 keep:=λi h h' st k=>by obtain⟨⟨d,g⟩,st⟩:=st;exact⟨⟨d,k e (by simp) _ g⟩,st.keep λo q=>k j (by simp) o q⟩
 item:=by
  intro X M U J V i m s σ H E I y st N;subst M U J;obtain⟨⟨d,g⟩,st⟩:=st;obtain⟨xs,x,O,Y⟩:=N;obtain⟨D,F,f⟩:=ue I O st;obtain⟨u,hu,ru⟩:=F.get Y
  have G:e≠l:=λz=>by subst z;have W:=(y e<|by simp).1;rcases f with⟨_,o,h1,C',_⟩|⟨_,o,h1,C',_⟩<;>(have R:s.heap.get? e=_:=g;rw[h1] at R;cases R;injection C' with C';exact absurd C'<|by decide)
  refine yq g f (x:=u) (by simpa using hu) i8 G λh' ho A hT hsz kp=>⟨.ref s.heap.objs.size,rfl,?_⟩
  refine wpAny_letOwnedTupleGo_enum ho λn r T=>?_;have t:e<s.heap.objs.size:=ke g
  have S: ∀a o,a∉[e,j]->s.heap.get? a=C o->n.get? a=C o:=λa o Q q=>by have Z:a≠e:=λz=>Q (by simp[z]);have n2:a≠j:=λz=>Q (by simp[z]);exact T.extBut a o Z<|kp a o Z n2 q
  have cY:n.get? s.heap.objs.size=C {cls:= .type "tuple",data:= .seq #[.int (c+i) s.toks,u]}:=T.extBut _ _ (oD t) hT
  have I1:Inv X m σ (upd H s.heap.objs.size<|.tup [.int<|c+i,x]) {s with heap:=n,toks:=s.toks+1}:=
   Ck I y S (jW _) (show ObjOk X.prog X.w _ _ _ (.tup [.int<|c+i,x]) from⟨by show 2<=sizeLine;decide,[.int (c+i) s.toks,u],.cons ⟨_,rfl⟩<|.cons ru .nil,_,cY,rfl,0,rfl⟩)
  have B:ItX b n j l (i+1):=by refine Io st f (A.keep (λo q=>T.extBut _ o i8.symm q) λo q=>T.extBut _ o G.symm q) λo q=>S l o ?_ q;have:=f.ne;simp only[lz,lD,mE,rV];exact⟨G.symm,this⟩
  refine⟨.ref s.heap.objs.size,_,I1,rfl,⟨_,x,rfl,I.fresh,rfl,λys hy=>by rw[DZ I hy O];exact Y⟩,⟨⟨u,?_⟩,B⟩,λa L=>?_⟩
  .have e1:c+((i+1:Nat):Int)=c+i+1:=by lia
   show eo n e j (c+((i+1:Nat):Int)) u;rw[e1];exact r
  .have W:=(y a L).1;rw[jg]
   .exact W
   .intro z;have l9:a=e\/a=j:=by simpa using L
    rcases l9 with rfl|rfl
    .exact absurd z (jM t)
    .exact absurd z (jM f.lt.1)
 done:=by intro X M U J V i m s σ H E I y st N;subst M U J;obtain⟨⟨d,g⟩,st⟩:=st;obtain⟨xs,O,Y⟩:=N;obtain⟨D,F,f⟩:=ue I O st;have hl:=F.length;exact zg (I.ok.hd V) g f (by simp;lia) λh' eb=>⟨rfl,Cm (t':=s.toks) I y λa o Q q=>eb a o (λz=>Q<|by simp[z]) q⟩
 self:=λ_ _ _ _ _ st h=>by obtain⟨⟨d,g⟩,_⟩:=st;exact pp g h
def Ar{K U}(q:SqA b K U P a xs):SqX b K U a xs:=by
 cases b with
 |true=>exact q.l
 |false=>exact q.t
def Lm{K:jb}{P O:AP'}{h:Hp}{a:iB}{g:List V}{l:List D}{b:Bool}{c:Int}(q:SqA b K h P a g)(r:RepL K h O l g)(A: ∀a,P a->O a):
  ItOk K (ItE b K a c) (l.zipIdx.map λp=> .tup [.int<|c+p.2,p.1]) P O h:=by
 have sq: ∀Hi,(∀a o,h a=C o-> ¬P a->Hi a=C o)->SqX b K Hi a g:=λHi f=>Ar<|q.mono f λ_ z=>z;refine⟨λi d Hi hd f=>?_,λi Hi U f=>⟨g,sq Hi f,by rw[r.length];simpa using U⟩⟩;rw[ki] at hd;obtain⟨⟨Q,j⟩,h1,u⟩:=ju hd;rw[G4] at h1;obtain⟨G,v,w⟩:=ju h1;obtain⟨rfl,rfl⟩:=qR w;obtain⟨x,s,M⟩:=r.get v;refine⟨⟨g,x,sq Hi f,s⟩,λy N E=>?_⟩;obtain⟨T,z,rfl,m,rfl,k⟩:=E;have k:=k g<|sq Hi f;rw[s] at k;cases k;have ext:=mK (o:= .tup [.int<|c+i,x]) m;refine⟨ext,λL h1 t=>?_⟩;subst u;refine Rep.mkTup ⟨jk,t T m⟩<|RepL.cons ?_<|RepL.cons (Rep.mono (λb o e n=>ext b o<|f b o e λz=>n<|A b z) (λb B z=>h1 b B z) M) RepL.nil;simp only[vB];exact Rep.mkInt
open AutoSeq1 (wpAny_loadPart')
section
variable {e:jd}{w:iW}{A:jf}{E:jw}{s:iI}
noncomputable def ux(a:iB)(c:Int):Obj:={cls:= .type "enumerate",data:= .fields #[.none,.bool Y,.ref a,cO c,.none,.none]}
def Lz(l:iB)(i:mY):hD (bn.«enumerate.__new__» ⟨[.type "enumerate",.ref l],[]⟩) (λ_ R s=>(s.heap.IsList l i\/s.heap.IsTuple l i)/\
  ∀f,Src f s.heap.objs.size l 0 i->f.objs.size=s.heap.objs.size+1->(∀b o,s.heap.get? b=C o->f.get? b=C o)->R (.ok<|.ret<|.ref f.objs.size) {s with heap:=f.push (ux s.heap.objs.size 0)}):=
 .of_wp λe w A R s h=>by
  obtain⟨m,g,d,n,os⟩:=s;obtain⟨j,h⟩:=h;have k:=sub_enumerate
  wp_walk
  refine wpAny_stack_any λst=>iR ?_;split
  .rename_i c _ _ _ _ _;cases(c==b3 "enumerate")<;>(wp_walk using Src.new j;intro f a b c;wp_walk;exact⟨_,rfl,h f a b c⟩)
  .wp_walk using Src.new j
   intro f a b c
   wp_walk
   exact⟨_,rfl,h f a b c⟩
def IS(f:s.heap.IsList l xs\/s.heap.IsTuple l xs)
  (h: ∀d,Src d s.heap.objs.size l 0 xs->d.objs.size=s.heap.objs.size+1->(∀b o,s.heap.get? b=C o->d.get? b=C o)->Q (.ref d.objs.size) {s with heap:=d.push (ux s.heap.objs.size 0)}):
  ah (ai e w) A (call (.type "enumerate") [.ref l]) Q E s:=
 G1 F.called_enumerate (by decide) (F.typeCall_enumerate_1 _) (F.newCall_enumerate_1 _) (λobj=>Mx obj _) F.entry_enumerate_new (Lz l xs) ⟨f,λd a b c=>⟨⟨_,kD _ rfl,rfl⟩,h d a b c⟩⟩
end
section
variable {X:Cx}{g:jr}{i:L2.St}{H:Hp}{s:iI}{m:kh}{t:Nat}{n:bB}
def SJ{R:It->Hp->Prop}{E:jw}{b:Bool}{l:iB}{L:List V}{j:jD}{h':ja}{c:Int}(T:Inv X g i H s)(u:SqX b X.K H l L)(k:Src h' s.heap.objs.size l 0 j.toArray)(h:h'.objs.size=s.heap.objs.size+1)
  (z: ∀b o,s.heap.get? b=C o->h'.get? b=C o)(r:R (ItE b X.K l c) H):ah (ai X.prog X.w) X.A (en<|.ref h'.objs.size) (PIE X g i (.Tuple m t n) R) E {s with heap:=h'.push (ux s.heap.objs.size c)}:=by
 have q:eo (h'.push<|ux s.heap.objs.size c) h'.objs.size s.heap.objs.size c .none:=kD _ rfl;refine pp q ?_;have d:Inv X g i H {s with heap:=h'.push (ux s.heap.objs.size c)}:=T.kept (t':=s.toks) λb o e=>kc _ (z b o e);have y:h'.objs.size≠s.heap.objs.size:=by rw[h];exact Nat.succ_ne_self _
 refine⟨h'.objs.size,[h'.objs.size,s.heap.objs.size],_,_,H,rfl,d,Kz b h'.objs.size s.heap.objs.size l c y,⟨⟨.none,by simpa using q⟩,?_⟩,λa x=>?_,r⟩
 .have v:=k.keep (h':=h'.push<|ux s.heap.objs.size c) (λo e=>kc _ e) (λo e=>kc _ e)
  cases b with
  |true=>
   rcases v with⟨a,_⟩|⟨_,o,h1,f,_⟩
   .exact a
   .obtain⟨_,_,p,_⟩:=d.list u;obtain⟨U,g1,g2,_⟩:=p.isList;rw[h1] at g1;cases g1;rw[f] at g2;injection g2 with g2;exact absurd g2 (by decide)
  |false=>
   rcases v with⟨_,o,h1,f,_⟩|⟨a,_⟩
   .obtain⟨_,_,p,_⟩:=d.tuple u;obtain⟨U,g1,g2,_⟩:=p;rw[h1] at g1;cases g1;rw[f] at g2;injection g2 with g2;exact absurd g2 (by decide)
   .exact a
 .have B:a=h'.objs.size\/a=s.heap.objs.size:=by simpa using x
  rcases B with rfl|rfl
  .exact T.fpOk (by rw[h];exact xX _) (T.hok.fresh<|by rw[h];exact xX _)
  .exact T.fpOk (jW _) (T.hok.fresh<|jW _)
def TN(K:jb)(c:Int)(d:TA):TI:=λi H R=>d i H λe a=> ∃b l f,e=[.ref l]/\SqX b K a l f/\R (ItE b K l c) a
def HI(U:Inv X g i H s)(q:SqX b X.K H l xs): ∃a,Vals xs a/\(s.heap.IsList l a.toArray\/s.heap.IsTuple l a.toArray):=by
 cases b with
 |true=>obtain⟨a,v,p,_⟩:=U.list q;exact⟨a,v,.inl p.isList⟩
 |false=>obtain⟨a,v,p,_⟩:=U.tuple q;exact⟨a,v,.inr p⟩
def SW:aK "enumerate"=C (.type "enumerate"):=by decide+kernel
def N4{a:iK}{j:TA}{p c:bB}(o:Gl X "enumerate")(v:X.mg "enumerate"=I)(k:PA X [a] j)(w:ag [a] X.env=[(Y,aU a X.env)]):PI X (.Tuple m t n) (.Call (.Name "enumerate" p) [a] [] c) (TN X.K 0 j):=by intro g s i H R T h;refine Call_<|qZ T o v SW<|Ae (thn (k c g s i H _ T h) λL s1 N=>?_) w O9;obtain⟨O,U,e,A,b,l,Q,hv,f,q⟩:=N;subst hv;obtain⟨u,rfl,B⟩:=rJ A;cases B;obtain⟨y,_,r⟩:=HI e f;exact IS r λE d x z=>SJ e f d x z q
noncomputable def Eo(c:Int)(f:F):FIt:=λδ=>(f δ).bind λp=>match p.1.1 with
 | .tup l=>C (l.zipIdx.map λq=> .tup [.int<|c+q.2,q.1],p.2)
 | .lst l=>C (l.zipIdx.map λq=> .tup [.int<|c+q.2,q.1],p.2)
 |_=>I
def RI{K:jb}{T:AP'}{i:L2.St}{d c:Dn}{H:Hp}{r:D×Bool}{f:F}{Q:List V->Hp->Prop}(E:ER K H T i d)(h:f d=C (r,c))(k: ∀v l,Keep i d H c l->ER K l T i c->Rep K l (λa=>OwnA i c a\/T a) r.1 v->Q [v] l):tA K [iJ f] i H Q:=by
 refine⟨d,T,[.val r],c,E,?_,λw o x B=>?_⟩
 .show((iJ f d).bind λp=>(kF [] p.2).bind λq=>C (p.1::q.1,q.2))=_;simp only[iJ,h,gg,kF]
 .have u:=B.len;rcases w with _|⟨v,_|⟨_,_⟩⟩<;>try cases u
  exact k v o B.keep (B.er.mono (λ_ _ e _=>e) (λb _ z=>B.tt b z) λa z=>B.er.dom a<|B.tt a z)<|B.rep E (j:=0) O9 O9
def PM{K:jb}{B:SB}{c:Int}{f:F}{i:L2.St}{H:Hp}{R:It->Hp->Prop}(U:tI K B (Eo c f) i H R):TN K c (tA K [iJ f]) i H R:=by
 obtain⟨O,T,y,u,E,e,k⟩:=U;obtain⟨⟨⟨d,o⟩,j⟩,h1,e⟩:=iA e;refine RI E h1 λv p x w L=>?_
 have h: ∀{l},pT d=C l->C (l.zipIdx.map λq=>D.tup [.int<|c+q.2,q.1],j)=C (y,u)-> ∃b a r,[v]=[V.ref a]/\SqX b K p a r/\R (ItE b K a c) p:=λA e=>by obtain⟨rfl,rfl⟩:=jc e;obtain⟨a,r,rfl,q,Q⟩:=Cq A L;have q:=q.mono (λ_ _ e _=>e) (P':=OwB B T i j) λa z=>z.own;exact⟨_,a,r,rfl,Ar q,k _ p x w (Lm q Q λa z=>z.own)⟩
 cases d with
 |tup l=>exact h O9 e
 |lst l=>exact h O9 e
 |_=>cases e
end
section
variable {j:jd}{w:iW}{A:jf}{E:jw}{s:iI}{z TI TO f d n l:iB}{k:Nat}{i g:mY}{x y a b:iO}
def T7{Q:jw}(D:lw z TI TO f d n l)(hz:ez s.heap z TI TO .none)(w5:cj s.heap TI (.ref f) (.ref d))(aq:cj s.heap TO a b)(h1:Src s.heap f n k i)(h2:Src s.heap d l k g)
  (hQ: ∀x y,i[k]?=N2 x->g[k]?=N2 y-> ∀G,ez G z TI TO (cO s.heap.objs.size)->cj G TO x y->Src G f n (k+1) i->Src G d l (k+1) g->cj G s.heap.objs.size x y->(∀c o,c≠z->c≠TO->c≠f->c≠d->s.heap.get? c=N2 o->G.get? c=N2 o)->Q (.ref s.heap.objs.size) {s with heap:=G})
  (hE:i[k]?=Op\/g[k]?=Op->A.handled=Op/\ ∀G e,(∀c o,c≠z->c≠TO->c≠f->c≠d->s.heap.get? c=N2 o->G.get? c=N2 o)->(∃o,G.get? e=N2 o/\o.cls= .type "StopIteration")->E (.ref e) {s with heap:=G}):
  ah (ai j w) A (bn.«zip.__next__» ⟨[.ref z],[]⟩) (λfin s'=> ∃v,fin= .done (.ret v)/\Q v s') E s:=by
 have L: ∀{h:ja} {e:iB} {oe:ey} {f0:iO},ez h z TI TO f0->h.get? e=N2 oe->oe.cls= .type "StopIteration"->e≠z:=λhzz cJ bZ q=>by subst q;have R:_=_:=hzz;rw[cJ] at R;cases R;injection bZ with bZ;exact absurd bZ (by decide)
 refine iF (m:=gW (.ref z) 2)<|nA hz O9 (x:= .bool Y) O9<|iF (m:=gW (.ref z) 3)<|nA hz O9 (x:= .ref TI) O9<|iF<|zY w5 O9<|iF (m:=bt<|.ref z) ?_;unfold bt;refine iF<|nA hz O9 (x:= .none) O9<|iR ?_;simp -iota only[ky];refine iF<|uJ<|iF<|nA hz O9 (x:= .ref TO) O9<|iF<|uG hz (by simp) λH dR K=>?_;replace dR:ez H z TI TO .ellipsis:=dR;refine iF ?_;simp -iota only[j7,List.zipIdx_nil,d0,nf];have c1:Src H f n k i:=h1.keep (λo e=>K.extBut _ o D.i1z e) λo e=>K.extBut _ o D.l1z e
 cases hx:i[k]? with
 |none=>obtain⟨hh,hE⟩:=hE<|.inl hx;refine iF<|iF<|zW<|iF (m:=aO<|.ref f)<|c1.stop (s:={s with heap:=H}) hh hx λr e Y' a'=>?_;obtain⟨oe,cJ,bZ⟩:=a';have M:ez r z TI TO .ellipsis:=Y' _ _ D.i1z.symm dR;exact uG (s:={s with heap:=r}) M (by simp) λt _ T=>hE t e (λc o O _ d3 _ q=>T.extBut _ _ O (Y' _ _ d3 (K.extBut _ _ O q))) ⟨oe,T.extBut _ _ (L M cJ bZ) cJ,bZ⟩
 |some x=>
  refine iF<|iF<|zW<|iF (m:=aO<|.ref f)<|c1.item (s:={s with heap:=H}) hx λr V Y'=>iR ?_;have B:cj r TO a b:=Y'.extBut _ _ D.TOi1 (K.extBut _ _ D.TOz aq);refine iF<|zY (s:={s with heap:=r}) B O9<|iF<|Mt (s:={s with heap:=r}) B λt cX T=>iF<|DC<|iR ?_;replace cX:cj t TO x b:=cX;have c2:Src t d l k g:=h2.keep (λo e=>T.extBut _ o D.TOi2.symm (Y'.extBut _ o D.i12.symm (K.extBut _ o D.i2z e))) λo e=>T.extBut _ o D.l2TO (Y'.extBut _ o D.l2i1 (K.extBut _ o D.l2z e))
  cases hy:g[k]? with
  |none=>obtain⟨hh,hE⟩:=hE<|.inr hy;refine iF<|iF<|zW<|iF (m:=aO<|.ref d)<|c2.stop (s:={s with heap:=t}) hh hy λu e bK a'=>?_;obtain⟨oe,cJ,bZ⟩:=a';have dQ:ez u z TI TO .ellipsis:=bK _ _ D.i2z.symm (T.extBut _ _ D.TOz.symm (Y'.extBut _ _ D.i1z.symm dR));exact uG (s:={s with heap:=u}) dQ (by simp) λp _ F=>hE p e (λc o O d2 d3 d4 q=>F.extBut _ _ O (bK _ _ d4 (T.extBut _ _ d2 (Y'.extBut _ _ d3 (K.extBut _ _ O q))))) ⟨oe,F.extBut _ _ (L dQ cJ bZ) cJ,bZ⟩
  |some y=>
   refine iF<|iF<|zW<|iF (m:=aO<|.ref d)<|c2.item (s:={s with heap:=t}) hy λu X bK=>iR ?_;have C:cj u TO x b:=bK.extBut _ _ D.TOi2 cX;refine iF<|zY (s:={s with heap:=u}) C O9<|iF<|Mt (s:={s with heap:=u}) C λp cf F=>iF<|DC<|iR<|iR ?_;replace cf:cj p TO x y:=cf;refine iF<|zY (s:={s with heap:=p}) cf O9<|iF<|DD (s:={s with heap:=p}) ?_;have hsz:p.objs.size=s.heap.objs.size:=by rw[F.1,bK.1,T.1,Y'.1,K.1]
   have N:ez p z TI TO .ellipsis:=F.extBut _ _ D.TOz.symm (bK.extBut _ _ D.i2z.symm (T.extBut _ _ D.TOz.symm (Y'.extBut _ _ D.i1z.symm dR)));have hk₅: ∀c o,c≠z->c≠TO->c≠f->c≠d->s.heap.get? c=N2 o->p.get? c=N2 o:=λc o O d2 d3 d4 e=>F.extBut _ _ d2 (bK.extBut _ _ d4 (T.extBut _ _ d2 (Y'.extBut _ _ d3 (K.extBut _ _ O e))));have W:Src p f n (k+1) i:=V.keep (λo e=>F.extBut _ o D.TOi1.symm (bK.extBut _ o D.i12 (T.extBut _ o D.TOi1.symm e))) λo e=>F.extBut _ o D.l1TO (bK.extBut _ o D.l1i2 (T.extBut _ o D.l1TO e));have Z:Src p d l (k+1) g:=X.keep (λo e=>F.extBut _ o D.TOi2.symm e) λo e=>F.extBut _ o D.l2TO e;have P:z<p.objs.size:=ke N;refine iF (m:=bj (.ref z)<|.ref p.objs.size) ?_;unfold bj;have hz₆:ez (p.push {cls:= .type "tuple",data:= .seq #[x,y]}) z TI TO .ellipsis:=kc _ N;refine iF<|uG (s:={s with heap:=p.push {cls:= .type "tuple",data:= .seq #[x,y]}}) hz₆ (by simp) λS gc cy=>?_;replace gc:ez S z TI TO (cO p.objs.size):=gc;refine uG (s:={s with heap:=S}) gc (by simp) λI eX U=>?_;replace eX:ez I z TI TO (cO p.objs.size):=eX;have up: ∀c o,c≠z->p.get? c=N2 o->I.get? c=N2 o:=λc o O e=>U.extBut _ _ O (cy.extBut _ _ O (kc _ e));have J:cj I p.objs.size x y:=U.extBut _ _ (oD P) (cy.extBut _ _ (oD P) (kD _ rfl));rw[hsz] at eX J;refine iR ⟨_,rfl,?_⟩;show Q (.ref p.objs.size) _;rw[hsz];exact hQ x y hx hy I eX (up _ _ D.TOz cf) (W.keep (λo e=>up _ o D.i1z e) λo e=>up _ o D.l1z e) (Z.keep (λo e=>up _ o D.i2z e) λo e=>up _ o D.l2z e) J λc o O d2 d3 d4 e=>up c o O<|hk₅ c o O d2 d3 d4 e
def AB{Q:EV}(D:lw z TI TO f d n l)(t:ez s.heap z TI TO .none)(M:cj s.heap TI (.ref f) (.ref d))(N:cj s.heap TO a b)(h1:Src s.heap f n k i)(L:Src s.heap d l k g)
  (O: ∀x y,i[k]?=C x->g[k]?=C y-> ∀h,ez h z TI TO (cO s.heap.objs.size)->cj h TO x y->Src h f n (k+1) i->Src h d l (k+1) g->cj h s.heap.objs.size x y->(∀c o,c≠z->c≠TO->c≠f->c≠d->s.heap.get? c=C o->h.get? c=C o)->Q (C<|.ref s.heap.objs.size) {s with heap:=h})
  (m:i[k]?=I\/g[k]?=I->A.handled=I/\ ∀h,(∀c o,c≠z->c≠TO->c≠f->c≠d->s.heap.get? c=C o->h.get? c=C o)->Q I {s with heap:=h}):
  ah (ai j w) A (cz<|.ref z) Q E s:=by
 have p:s.TypeIs (.ref z) "zip":=⟨_,t,rfl⟩
 unfold cz
 exact iF (rW (rZ (name:=bf "__next__") p F.slot_zip_next (oB F.slot_zip_next p F.entry_zip_next
  (T7 D t M N h1 L (λx y q r h a1 u v B U H=>iR<|O x y q r h a1 u v B U H) λq=>⟨(m q).1,λh e hk ⟨o,J',G⟩=>iF<|xM (T:="StopIteration") (b:=J) ⟨o,J',G⟩ Dz<|iR<|(m q).2 _ hk⟩) (F.args_zip_next_1 _))))
end
def Qx(j c:iB)(l i:mY):hD (bn.«zip.__new__» ⟨[.type "zip",.ref j,.ref c],[]⟩) (λ_ R s=>(s.heap.IsList j l\/s.heap.IsTuple j l)/\(s.heap.IsList c i\/s.heap.IsTuple c i)/\
  ∀h1 a,Src h1 s.heap.objs.size j 0 l->h1.objs.size=s.heap.objs.size+1->(∀b o,s.heap.get? b=C o->h1.get? b=C o)->Src a h1.objs.size c 0 i->a.objs.size=h1.objs.size+1->(∀b o,h1.get? b=C o->a.get? b=C o)->
   R (.ok<|.ret<|.ref ((a.push {cls:= .type "tuple",data:= .seq #[.ref s.heap.objs.size,.ref h1.objs.size]}).push {cls:= .type "tuple",data:= .seq #[.none,.none]}).objs.size)
    {s with heap:=((a.push {cls:= .type "tuple",data:= .seq #[.ref s.heap.objs.size,.ref h1.objs.size]}).push {cls:= .type "tuple",data:= .seq #[.none,.none]}).push {cls:= .type "zip",data:= .fields #[.none,.bool Y,.bool Y,.ref a.objs.size,.ref (a.push {cls:= .type "tuple",data:= .seq #[.ref s.heap.objs.size,.ref h1.objs.size]}).objs.size]}}):=
 .of_wp λn w A R s h=>by
  obtain⟨y,g,d,x,os⟩:=s;obtain⟨t,q,h⟩:=h;have m:=sub_zip
  wp_walk using Src.new t
  intro h1 a1 p k
  have f:h1.IsList c i\/h1.IsTuple c i:=by
   rcases q with⟨o,e,r⟩|⟨o,e,r⟩
   .exact .inl ⟨o,k _ _ e,r⟩
   .exact .inr ⟨o,k _ _ e,r⟩
  wp_walk using Src.new (s:=⟨h1,g,d,x,os⟩) f
  intro a b1 u v
  wp_walk
  exact⟨_,rfl,h h1 a a1 p k b1 u v⟩
noncomputable def ItZ(b1 c:Bool)(K:jb)(d e:iB):It:=⟨λi U=> ∃a b x y,SqX b1 K U d a/\SqX c K U e b/\a[i]?=C x/\b[i]?=C y,
 λi U x f=> ∃(T:iB) (u v:V),x= .ref T/\U T=I/\f=upd U T (.tup [u,v])/\ ∀a b,SqX b1 K U d a->SqX c K U e b->a[i]?=C u/\b[i]?=C v,
 λi U=> ∃a b,SqX b1 K U d a/\SqX c K U e b/\(Ps a<=i\/(Ps b)<=i)⟩
structure ZA(z TI TO i1 i2:iB):Prop where
 a1:TI≠z
 a2:TO≠z
 a3:i1≠z
 a4:i2≠z
 a5:TI≠TO
 a6:TI≠i1
 a7:TI≠i2
 a8:TO≠i1
 a9:TO≠i2
 a10:i1≠i2
def wA{b:Bool}{K:jb}{T:Hp}{l:iB}{m:List V}{X:Cx}{c:jr}{p:L2.St}{s:iI}(U:Inv X c p T s)(k:X.K=K)(q:SqX b K T l m){h:kG}(i: ∀a∈h,tN X c T a):l∉h:=by
 subst k;intro j;have d:=(i l j).1
 have base: ∀o,X.K.lookup l=C o->False:=λo e=>by
  have g:=U.mod.kin l o e;rcases(i l j).2.2.2.1 with z|z
  .exact U.ok.noex l o g z
  .have:=(U.ok.bs l o g).1;exact absurd (ke this)<|Qw.mpr z
 cases b with
 |true=>
  rcases q with(q|⟨o,q⟩)|⟨o,f,n,e,_⟩
  .rw[d] at q;cases q
  .rw[d] at q;cases q
  .exact base o e
 |false=>
  rcases q with(q|⟨o,q⟩)|⟨o,f,n,e,_⟩
  .rw[d] at q;cases q
  .rw[d] at q;cases q
  .exact base o e
def M4{P:jd}{w:iW}{K:jb}{Y:kh}{k1}{pos:bB}(b1 b2:Bool)(z TI TO m n J M:iB)(D:ZA z TI TO m n):
  Turn P w K (.Tuple Y k1 pos) (ItZ b1 b2 K J M) [z,TI,TO,m,n] z (λi h=>ez h z TI TO .none/\cj h TI (.ref m) (.ref n)/\(∃a b,cj h TO a b)/\ItX b1 h m J i/\ItX b2 h n M i) where
 mem:=by simp
 obj:=λi h st a G=>by
  obtain⟨l,p,⟨u,v,t⟩,s1,C⟩:=st;simp only[lz,lD,mE] at G;rcases G with rfl|rfl|rfl|rfl|rfl
  .exact⟨_,l,λv e=>by have U:gG _=fg v:=e;cases U⟩
  .exact⟨_,p,λv e=>by have U:Db _ _=fg v:=e;cases U⟩
  .exact⟨_,t,λv e=>by have U:Db _ _=fg v:=e;cases U⟩
  .exact s1.obj
  .exact C.obj
 keep:=λi h h' st k=>by obtain⟨l,p,⟨u,v,t⟩,s1,C⟩:=st;exact⟨k z (by simp) _ l,k TI (by simp) _ p,⟨u,v,k TO (by simp) _ t⟩,s1.keep λo q=>k m (by simp) o q,C.keep λo q=>k n (by simp) o q⟩
 item:=by
  intro X hP hw L hc i B s σ H E I A st hg;obtain⟨l,p,⟨a0,b0,t⟩,s1,C⟩:=st;obtain⟨xs,ys,x,y,T,Q,hx,hy⟩:=hg;have d:=wA I L T A;have f:=wA I L Q A;simp only[lz,lD,mE,rV] at d f;subst hP hw L;obtain⟨cB,fQ,S⟩:=ue I T s1;obtain⟨f6,Z,N⟩:=ue I Q C;obtain⟨u,hu,ru⟩:=fQ.get hx;obtain⟨v,hv,rv⟩:=Z.get hy;have AP:lw z TI TO m n J M:=⟨D.a1,D.a2,D.a3,D.a4,D.a5,D.a6,D.a7,D.a8,D.a9,D.a10,d.1,d.2.2.1,d.2.2.2.1,d.2.2.2.2,f.1,f.2.2.1,f.2.2.2.1,f.2.2.2.2⟩
  refine AB AP l p t S N (λx' y' q r h' z' t1 c1 c2 hT V=>?_) λq=>absurd q (by simp[hu,hv]);obtain rfl:u=x':=by simpa[hu] using q
  obtain rfl:v=y':=by simpa[hv] using r
  refine⟨.ref s.heap.objs.size,rfl,?_⟩;refine wpAny_letOwnedTupleGo_zip (s:={s with heap:=h'}) z' λO z'' j=>?_;replace j:aR z h' O:=j
  have W: ∀a o,a∉[z,TI,TO,m,n]->s.heap.get? a=N2 o->O.get? a=N2 o:=λa o g q=>by simp only[lz,lD,mE,rV] at g;exact j.extBut a o g.1<|V a o g.1 g.2.2.1 g.2.2.2.1 g.2.2.2.2 q
  have lt: ∀{c o},s.heap.get? c=N2 o->s.heap.objs.size≠c:=λe=>oD<|ke e;have cY:cj O s.heap.objs.size u v:=j.extBut _ _ (lt l) hT
  have I1:Inv X B σ (upd H s.heap.objs.size<|.tup [x,y]) {s with heap:=O}:=
   Ck (t':=s.toks) I A W (jW _) (show ObjOk X.prog X.w _ _ _ (.tup [x,y]) from⟨by show 2<=sizeLine;decide,[u,v],.cons ru<|.cons rv .nil,_,cY,rfl,0,rfl⟩)
  have F:ItX b1 O m J (i+1):=Io s1 S (c1.keep (λo q=>j.extBut _ o D.a3 q) λo q=>j.extBut _ o d.1 q) λo q=>W J o (by simp only[lz,lD,mE,rV];exact d) q;have R:ItX b2 O n M (i+1):=Io C N (c2.keep (λo q=>j.extBut _ o D.a4 q) λo q=>j.extBut _ o f.1 q) λo q=>W M o (by simp only[lz,lD,mE,rV];exact f) q;refine⟨.ref s.heap.objs.size,_,I1,rfl,⟨_,x,y,rfl,I.fresh,rfl,λcg ys' q1 q2=>by rw[DZ I q1 T,DZ I q2 Q];exact⟨hx,hy⟩⟩,⟨z'',j.extBut _ _ D.a1 (V _ _ D.a1 D.a5 D.a6 D.a7 p),⟨u,v,j.extBut _ _ D.a2 t1⟩,F,R⟩,λa G=>?_⟩;have n0:=(A a G).1;rw[jg]
  .exact n0
  .intro e;simp only[lz,lD,mE] at G;rcases G with rfl|rfl|rfl|rfl|rfl
   .exact lt l e.symm
   .exact lt p e.symm
   .exact lt t e.symm
   .exact absurd e (jM S.lt.1)
   .exact absurd e (jM N.lt.1)
 done:=by
  intro X hP hw L hc i B s σ H E I A st hg;obtain⟨l,p,⟨a0,b0,t⟩,s1,C⟩:=st;obtain⟨xs,ys,T,Q,hend⟩:=hg;have d:=wA I L T A;have f:=wA I L Q A;simp only[lz,lD,mE,rV] at d f;subst hP hw L;obtain⟨cB,fQ,S⟩:=ue I T s1;obtain⟨f6,Z,N⟩:=ue I Q C;have e1:=fQ.length;have e2:=Z.length;have AP:lw z TI TO m n J M:=⟨D.a1,D.a2,D.a3,D.a4,D.a5,D.a6,D.a7,D.a8,D.a9,D.a10,d.1,d.2.2.1,d.2.2.2.1,d.2.2.2.2,f.1,f.2.2.1,f.2.2.2.1,f.2.2.2.2⟩
  refine AB AP l p t S N (λx y q r=>?_) λ_=>⟨I.ok.hd hc,λh' V=>⟨rfl,Cm (t':=s.toks) I A λa o g q=>?_⟩⟩
  .have z1:=(Qv.mp q).1;have z2:=(Qv.mp r).1;simp at z1 z2;omega
  simp only[lz,lD,mE,rV] at g;exact V a o g.1 g.2.2.1 g.2.2.2.1 g.2.2.2.2 q
 self:=λ_ _ _ _ _ st h=>qs st.1 h
def Pc{K:jb}{P O:AP'}{g:Hp}{a1 m:iB}{f h:List V}{s t:List D}{b1 r:Bool}(k:SqA b1 K g P a1 f)(H:RepL K g O s f)(l:SqA r K g P m h)(I:RepL K g O t h)(A: ∀a,P a->O a):
  ItOk K (ItZ b1 r K a1 m) ((s.zip t).map λp=> .tup [p.1,p.2]) P O g:=by
 have sq: ∀{b:Bool} {a:iB} {f:List V},SqA b K g P a f-> ∀Hi,(∀a o,g a=N2 o-> ¬P a->Hi a=N2 o)->SqX b K Hi a f:=λq Hi c=>Ar<|q.mono c λ_ z=>z;refine⟨λi d Hi hd c=>?_,λi Hi N c=>⟨f,h,sq k Hi c,sq l Hi c,by rw[H.length,I.length];simp at N;lia⟩⟩;rw[ki] at hd;obtain⟨⟨W,X⟩,h1,G⟩:=ju hd;obtain⟨J,M⟩:=ET.mp h1;obtain⟨x,C,Y⟩:=H.get J;obtain⟨y,E,F⟩:=I.get M;refine⟨⟨f,h,x,y,sq k Hi c,sq l Hi c,C,E⟩,λv R Q=>?_⟩;obtain⟨T,u,w,rfl,B,rfl,U⟩:=Q;obtain⟨g1,g2⟩:=U f h (sq k Hi c)<|sq l Hi c;rw[C] at g1;cases g1;rw[E] at g2;cases g2;have ext:=mK (o:= .tup [x,y]) B;refine⟨ext,λS h1 L=>?_⟩;subst G;exact Rep.mkTup ⟨jk,L T B⟩<|RepL.cons (Rep.mono (λb o e n=>ext b o<|c b o e λz=>n<|A b z) (λb j z=>h1 b j z) Y)<|RepL.cons (Rep.mono (λb o e n=>ext b o<|c b o e λz=>n<|A b z) (λb j z=>h1 b j z) F) RepL.nil
section
variable {X:Cx}{d:kh}{n:Nat}{r:bB}
def Wq:aK "zip"=C (.type "zip"):=by decide+kernel
def aaB(K:jb)(f:TA):TI:=λj U R=>f j U λg a=> ∃b1 e b c h i,g=[.ref b,.ref c]/\SqX b1 K a b h/\SqX e K a c i/\R (ItZ b1 e K b c) a
def J6(U:Inv X pins σ T s)(f:SqX b X.K T l xs)(c:Src s.heap it l i g):ItX b s.heap it l i:=by
 cases b with
 |true=>
  rcases c with⟨a,_⟩|⟨_,o,h1,e,_⟩
  .exact a
  .obtain⟨_,_,p,_⟩:=U.list f;obtain⟨h,g1,g2,_⟩:=p.isList;rw[h1] at g1;cases g1;rw[e] at g2;injection g2 with g2;exact absurd g2 (by decide)
 |false=>
  rcases c with⟨_,o,h1,e,_⟩|⟨a,_⟩
  .obtain⟨_,_,p,_⟩:=U.tuple f;obtain⟨h,g1,g2,_⟩:=p;rw[h1] at g1;cases g1;rw[e] at g2;injection g2 with g2;exact absurd g2 (by decide)
  .exact a
def Vl{a b:iK}{M:TA}{p m:bB}(hg:Gl X "zip")(hm:X.mg "zip"=I)(B:PA X [a,b] M)(hs:ag [a,b] X.env=(O1,aU a X.env)::ag [b] X.env)(i6:(bc m<|ag [b] X.env).any (·.1)=O1):
  PI X (.Tuple d n r) (.Call (.Name "zip" p) [a,b] [] m) (aaB X.K M):=by
 intro k s0 N U R O h;refine vF<|qZ O hg hm Wq<|Ae (thn (B m k s0 N U _ O h) λus s a'=>?_) hs i6;obtain⟨vs,H',I',r1,b1,b2,G,J',xs,ys,hv,T,Q,q⟩:=a';subst hv;obtain⟨u,v,rfl,ru,rv⟩:=Cj r1;cases ru;cases rv;obtain⟨W,_,D⟩:=HI I' T;obtain⟨f6,_,Y⟩:=HI I' Q;refine G1 F.called_zip (by decide) (F.typeCall_zip_2 _ _) (F.newCall_zip_2 _ _) (λobj=>F.args_object_init_3 obj _ _) F.entry_zip_new (Qx G J' W.toArray f6.toArray) ⟨D,Y,λh1 f S l n V j L=>?_⟩;generalize w:({cls:= .type "tuple",data:= .seq #[.ref s.heap.objs.size,.ref h1.objs.size]}:ey)=g;generalize x:({cls:= .type "tuple",data:= .seq #[.none,.none]}:ey)=i;have t:(f.push g).objs.size=f.objs.size+1:=rE ..;have A:((f.push g).push i).objs.size=f.objs.size+2:=by rw[rE,t]
 generalize y:({cls:= .type "zip",data:= .fields #[.none,.bool O1,.bool O1,.ref f.objs.size,.ref (f.push g).objs.size]}:ey)=o5;have g5:(((f.push g).push i).push o5).get? ((f.push g).push i).objs.size=N2 o5:=kD _ (by rw[<-y];rfl);have g4:(((f.push g).push i).push o5).get? (f.push g).objs.size=N2 i:=kc _ (kD _ (by rw[<-x];rfl));have g3:(((f.push g).push i).push o5).get? f.objs.size=N2 g:=kc _ (kc _ (kD _ (by rw[<-w];rfl)));have z: ∀c o,f.get? c=N2 o->(((f.push g).push i).push o5).get? c=N2 o:=λc o e=>kc _ (kc _ (kc _ e));have E:ez (((f.push g).push i).push o5) ((f.push g).push i).objs.size f.objs.size (f.push g).objs.size .none:=by show _=_;rw[g5,<-y]
 have w5:cj (((f.push g).push i).push o5) f.objs.size (.ref s.heap.objs.size) (.ref h1.objs.size):=by show _=_;rw[g3,<-w]
 have P:cj (((f.push g).push i).push o5) (f.push g).objs.size .none .none:=by show _=_;rw[g4,<-x]
 have C:Inv X k N H' {s with heap:=((f.push g).push i).push o5}:=I'.kept (t':=s.toks) λc o e=>z c o<|L c o<|n c o e;have Z:=S.keep (h':=((f.push g).push i).push o5) (λo e=>z _ o (L _ o e)) λo e=>z _ o (L _ o e);have d2:=V.keep (h':=((f.push g).push i).push o5) (λo e=>z _ o e) λo e=>z _ o e;refine⟨⟨_,E,rfl⟩,qs (s:={s with heap:=((f.push g).push i).push o5}) E ?_⟩;refine⟨((f.push g).push i).objs.size,[((f.push g).push i).objs.size,f.objs.size,(f.push g).objs.size,s.heap.objs.size,h1.objs.size],_,_,H',rfl,C,M4 b1 b2 _ _ _ _ _ G J' ⟨?_,?_,?_,?_,?_,?_,?_,?_,?_,?_⟩,⟨E,w5,⟨_,_,P⟩,J6 C T Z,J6 C Q d2⟩,λa B=>?_,q⟩
 .rw[A];exact jM<|Nat.lt_add_of_pos_right (by decide)
 .rw[A,t];exact jM<|sh _
 .rw[A,j,l];exact jM (by
   have:s.heap.objs.size<s.heap.objs.size+1+1+2:=by lia
   exact this)
 .rw[A,j];exact jM (by
   have:h1.objs.size<h1.objs.size+1+2:=by lia
   exact this)
 .rw[t];exact jM<|sh _
 .rw[j,l];exact oD (by
   have:s.heap.objs.size<s.heap.objs.size+1+1:=by lia
   exact this)
 .rw[j];exact oD<|sh _
 .rw[t,j,l];exact oD (by
   have:s.heap.objs.size<s.heap.objs.size+1+1+1:=by lia
   exact this)
 .rw[t,j];exact oD (by
   have:h1.objs.size<h1.objs.size+1+1:=by lia
   exact this)
 .rw[l];exact jM<|sh _
 .have le:s.heap.objs.size<=a:=by
   simp only[lz,lD,mE] at B;rcases B with rfl|rfl|rfl|rfl|rfl
   .rw[A,j,l];have:s.heap.objs.size<=s.heap.objs.size+1+1+2:=by lia
    exact this
   .rw[j,l];have:s.heap.objs.size<=s.heap.objs.size+1+1:=by lia
    exact this
   .rw[t,j,l];have:s.heap.objs.size<=s.heap.objs.size+1+1+1:=by lia
    exact this
   .exact jW _
   .rw[l];exact xX _
  exact I'.fpOk le<|I'.hok.fresh le
noncomputable def Ip(f g:FO):FIt:=λa=>(f a).bind λp=>(g p.2).bind λq=>(res q.2 p.1).bind λx=>(res q.2 q.1).bind λy=>(pT x).bind λl=>(pT y).bind λm=>C ((l.zip m).map λp=> .tup [p.1,p.2],q.2)
noncomputable def qB(f g:F):FIt:=λδ=>(f δ).bind λp=>(g p.2).bind λq=>(pT p.1.1).bind λl=>(pT q.1.1).bind λm=>C ((l.zip m).map λp=> .tup [p.1,p.2],q.2)
def NZ{B:SB}{a b:iK}{f g:FO}{p c:bB}(hg:Gl X "zip")(hm:X.mg "zip"=Op)(Y:PO X a f)(hb:PO X b g)(I:SlB B f)(L:SlB B g)(w:ag [a,b] X.env=(O1,aU a X.env)::ag [b] X.env)(G:ag [b] X.env=(O1,aU b X.env)::ag [] X.env)(i6:(bc c<|ag [b] X.env).any (·.1)=O1):
  PIX X B (.Tuple d n r) (.Call (.Name "zip" p) [a,b] [] c) (Ip f g):=PI.imp' (Vl hg hm (sY Y (sY hb zt G) w) w i6) λσ H R F=>by
 obtain⟨δ,T,ds,δ',E,e,k⟩:=F;obtain⟨⟨K,δ1⟩,h1,e⟩:=iA e;obtain⟨⟨P,t⟩,h,e⟩:=iA e;obtain⟨x,J,e⟩:=iA e;obtain⟨y,M,e⟩:=iA e;obtain⟨l,N,e⟩:=iA e;obtain⟨m,U,e⟩:=iA e;obtain⟨rfl,rfl⟩:=jc e;dsimp only at h;refine⟨δ,T,[K,P],t,E,?_,λS O T1 W=>?_⟩
 .simp only[kF,h1,h,gg]
 .have D:=W.len;rcases S with _|⟨v,_|⟨u,_|⟨_,_⟩⟩⟩<;>try cases D
  .obtain⟨a1,V,rfl,A,q⟩:=W.seq E (j:=0) O9 O9 J N λi o=>I _ _ _ (o▸h1);obtain⟨Q,Z,rfl,C,s⟩:=W.seq E (j:=1) O9 O9 M U λi o=>L _ _ _ (o▸h);exact⟨_,_,a1,Q,V,Z,rfl,Ar A,Ar C,k _ O W.keep (W.er.mono (λ_ _ e _=>e) (λb _ z=>W.tt b z) λa z=>W.er.dom a<|W.tt a z) (Pc A q C s λa z=>z.own)⟩
end
end PX
namespace TS
def Ask(M:fY)(A:jf)(G:Shared->Prop)(a:Nat->eC)(e:mj)(N:Nat)(lt:Nat->Nat->Bool):Prop:= ∀i j,i<N->j<N-> ∀s,G s-> ∀c,ah M A (x9 e (a i).1 (a j).1) (λb d=>G d/\b=lt i j) c s
structure Cs where
 M:fY
 A:jf
 E:iO->Shared->Prop
 G:Shared->Prop
 it:Nat->eC
 lt:Nat->Nat->Bool
 κ:mj
 N:Nat
 as: ∀i j,lt i j=O0->lt j i=O1
 tr: ∀{i j k},lt j i=O1->lt k j=O1->lt k i=O1
 ask:Ask M A G it κ N lt
section
variable {X:Cs}{α β:Type}{f:α->StateT rR dP β}{Q:β->rR->Prop}{st:rR}
def wp(X:Cs){α:Type}(m:StateT rR dP α)(Q:α->rR->Prop)(st:rR):Prop:= ∀s,X.G s->ah X.M X.A (m.run st) (λr a=>X.G a/\Q r.1 r.2) X.E s
def iM{a:β}(h:Q a st):wp X (pure a) Q st:=λs g=>by rw[GY];exact iR ⟨g,h⟩
def kz{m:StateT rR dP α}(h:wp X m (λa c=>wp X (f a) Q c) st):wp X (m>>=f) Q st:=λs g=>by rw[StateT.run_bind];exact iF<|oE (h s g) (λr d b=>b.2 d b.1) λ_ _ e=>e
def Jd{m:StateT rR dP α}{Q b:α->rR->Prop}(h:wp X m Q st)(i: ∀a c,Q a c->b a c):wp X m b st:=λs g=>oE (h s g) (λr _ d=>⟨d.1,i _ _ d.2⟩) λ_ _ e=>e
def js{c:Prop}[Decidable c]{t e:StateT rR dP β}(h1:c->wp X t Q st)(a: ¬c->wp X e Q st):wp X (if c then t else e) Q st:=by split<;>simp_all
def oQ{f:rR->StateT rR dP β}(h:wp X (f st) Q st):wp X (get>>=f) Q st:=kz λs g=>by rw[StateT.run_get];exact iR ⟨g,h⟩
def vI{g:rR->rR}{f:PUnit->StateT rR dP β}(h:wp X (f ⟨⟩) Q (g st)):wp X (modify g>>=f) Q st:=kz λs g=>by rw[StateT.run_modify];exact iR ⟨g,h⟩
def Je{m:dP α}(h: ∀s,X.G s->ah X.M X.A m (λa b=>X.G b/\wp X (f a) Q st) X.E s):wp X (liftM m>>=f) Q st:=kz λs g=>by show ah X.M X.A ((StateT.lift m:StateT rR dP α).run st) _ X.E s;rw[StateT.run_lift];exact iF<|oE (h s g) (λa b c=>iR c) λ_ _ e=>e
def tR{x:String}{f:Unit->StateT rR dP β}(h:wp X (f ()) Q st):wp X (liftM (rule x)>>=f) Q st:=Je λs g=>uJ ⟨g,h⟩
def QR{e:Nat}{g:Nat->α->StateT rR dP (ForInStep α)}{U:Nat->α->rR->Prop}{T:α->rR->Prop}
  (m: ∀i c st,i<e->U i c st->wp X (g i c) (λr b=>match r with| .done d=>T d b| .yield d=>U (i+1) d b) st)(l: ∀c st,U e c st->T c st):
  ∀(n a:Nat) (c:α) (st:rR),a+n=e->U a c st->wp X (forIn (c9 a n 1) c g) T st:=by
 intro p
 induction p with
 |zero=>intro a c st rfl h;exact iM<|l _ _ h
 |succ n o=>
  intro a c st q h;rw[j8,d0];refine kz<|Jd (m a c st (by lia) h) λr b k=>?_
  cases r with
  |done j=>exact iM k
  |yield j=>exact o _ j b (by lia) k
def mz{g:Nat->α->StateT rR dP (ForInStep α)}(U:Nat->α->rR->Prop)(T:α->rR->Prop){a b:Nat}{c:α}(h:U a c st)
  (l: ∀i c st,i<a+(b-a)->U i c st->wp X (g i c) (λr e=>match r with| .done d=>T d e| .yield d=>U (i+1) d e) st)
  (j: ∀c st,U (a+(b-a)) c st->T c st)(k: ∀c st,T c st->wp X (f c) Q st):wp X (forIn [a:b] c g>>=f) Q st:=by
 refine kz<|Jd ?_ k;rw[Std.Legacy.Range.forIn_eq_forIn_range'];exact QR l j _ _ _ _ (by simp[Std.Legacy.Range.size]) h
noncomputable abbrev ar(X:Cs)(l:jL):Array Keyed:=(l.map X.it).toArray
def lX{l:jL}{i x:Nat}{f:eC->StateT rR dP β}(e:l[i]?=C x)(h:wp X (f<|X.it x) Q st):wp X (elem' (ar X l) i>>=f) Q st:=kz (by rw[elem'_eq,show(ar X l)[i]?=C (X.it x) by simp[e]];exact iM h)
def E7{i j:Nat}{f:Option Bool->StateT rR dP β}(hk:kindOf st=X.κ)(k:i<X.N)(l:j<X.N)(h: ∀b,X.lt i j=b->wp X (f<|C b) Q st):wp X (lt' (X.it i) (X.it j)>>=f) Q st:=kz (by rw[lt'_eq];refine oQ ?_;rw[hk];refine Je λs g=>rW<|oE (X.ask i j k l s g λ_ _=>False) (λb m c=>?_) λe m d=>d.elim;obtain⟨a,rfl⟩:=c;exact⟨a,iM<|h _ rfl⟩)
structure Rp(X:Cs)(q:Array (Nat×Nat×Nat))(L:jL)(st:rR):Prop where
 a:fj st=ar X L
 k:kindOf st=X.κ
 f:fO st=Op
 q:pendingOf st=q
 p:L.Perm (aj X.N)
def Rp.n{q:Array (Nat×Nat×Nat)}{L:jL}(R:Rp X q L st){i x:Nat}(e:L[i]?=C x):x<X.N:=by simpa using R.p.mem_iff.mp<|nB e
def E8{q:Array (Nat×Nat×Nat)}{L:jL}(R:Rp X q L st){i j x y:Nat}{f:Option Bool->StateT rR dP β}(c:L[i]?=C x)(d:L[j]?=C y)(h: ∀b,X.lt x y=b->wp X (f<|C b) Q st):wp X (ltAt' i j>>=f) Q st:=kz (by rw[ltAt'_eq];refine oQ ?_;rw[R.a];exact lX c<|lX d<|by rw[<-bind_pure (lt' _ _)];exact E7 R.k (R.n c) (R.n d) λb e=>iM<|h b e)
def FH{α:Type}(T A R:List α){d:Nat}(hd:d=(Ps A) / 2):mirror (T++(A++R)).toArray (Ps T) (Ps T+Ps A) d=(T++(A.reverse++R)).toArray:=by
 have hd:d=(Ps T+Ps A-Ps T) / 2:=by lia
 subst hd;apply Array.ext_getElem?;intro k;rw[getElem?_mirror_all<|by simp];simp only[List.getElem?_toArray];by_cases h1:k<Ps T
 .rw[je<|by lia,uO h1,uO h1]
 .obtain⟨k,rfl⟩:=Nat.exists_eq_add_of_le<|mm h1;rw[pO (by lia) (l₂:=A.reverse++R),GX];by_cases a:k<Ps A
  .rw[iT<|by lia,pO<|by lia,uO<|by lia,uO<|by simpa using a,List.getElem?_reverse a]
   congr 1;lia
  .rw[je<|by lia,pO<|by lia,GX,pO<|by lia,pO<|by simpa using a,GW]
def Gs{α:Type}(R:List α)(x:α): ∀(A T:List α) {i:Nat},i=Ps T+Ps A->bubble (T++(A++x::R)).toArray i (Ps A)=(T++(x::(A++R))).toArray:=by
 intro c
 induction c with
 |nil=>intro T i h;exact H
 |cons a A b=>
  intro T i h;have:=b (T++[a]) (i:=i) (by simp at h ⊢;lia);rw[mw,bubble_succ,show T++(a::A++x::R)=T++[a]++(A++x::R) by simp,this];have e:i-Ps A=Ps T+1:=by simp at h;lia
  rw[e,i7];simp[Array.swapIfInBounds]
variable {q:Array (Nat×Nat×Nat)}{T A R:jL}{i j x:Nat}
def MT{b:Ce}{L a:jL}(S:Rp X q L st)(e:b=ar X a)(p:a.Perm L):Rp X q a (setArr st b):=⟨e,S.k,S.f,S.q,p.trans S.p⟩
def HB{f:Unit->StateT rR dP β}(S:Rp X q (T++(A++R)) st)(c:i=Ps T)(e:j=Ps T+Ps A)(h: ∀b,Rp X q (T++(A.reverse++R)) b->wp X (f ()) Q b):wp X (Ev i j>>=f) Q st:=by rw[reverseSlice'_eq];subst c e;refine vI<|h _ (MT S ?_<|((Dy A).append_right R).append_left T);have:=FH (T.map X.it) (A.map X.it) (R.map X.it) (d:=(Ps T+Ps A-Ps T) / 2) (by simp);simpa[ar,S.a] using this
def Ux{f:Unit->StateT rR dP β}(S:Rp X q (T++(A++x::R)) st)(c:i=Ps T+Ps A)(d:j=Ps T)(h: ∀b,Rp X q (T++(x::(A++R))) b->wp X (f ()) Q b):wp X (moveDown' i j>>=f) Q st:=by rw[moveDown'_eq];subst c d;refine vI<|h _ (MT S ?_<|Qp.symm.append_left T);have:=Gs (R.map X.it) (X.it x) (A.map X.it) (T.map X.it) (i:=Ps T+Ps A) (by simp);simpa[ar,S.a] using this
end
abbrev Cs.le(X:Cs)(i j:Nat):Prop:=X.lt j i=Y
section
variable {X:Cs}{o:Type}{Q:o->rR->Prop}{st:rR}{q:Array (Nat×Nat×Nat)}{T A B D R L:jL}{i j x y:Nat}{r:Nat->Nat->Prop}
def ix0(h:i=Ps T+Ps A):(T++(A++x::R))[i]?=C x:=by subst h;simp
def ix1(h:i=Ps T+Ps A+1):(T++(A++x::y::R))[i]?=C y:=by subst h;rw[<-ny,pO<|by simp];simp
def Fi(u:D.Pairwise r)(h: ∀z∈D,r z y):(D++[y]).Pairwise r:=vh.mpr ⟨u,Mr _ _,λa c b d=>zf.mp d▸h a c⟩
def FV(e: ∀{a b c},r a b->r b c->r a c)(u:(D++[x]).Pairwise r)(h:r x y): ∀z∈D++[x],r z y:=λz d=>by
 rcases pJ.mp d with d|d
 .exact e ((vh.mp u).2.2 z d x kg) h
 .rw[zf.mp d];exact h
def MX{g:Nat->Option (Option Nat)×Nat->StateT rR dP (ForInStep<|Option (Option Nat)×Nat)}{f:Option (Option Nat)×Nat->StateT rR dP o}{lo n m:Nat}
  (p: ∀i n,g i (I,n)=(ltAt' (lo+n) (lo+n-1)>>=λx=>match x with|some b=>if b=J then pure (.done (I,n)) else pure (.yield (I,n+1))|_=>pure<|.done (C I,n)))
  (S:Rp X q (T++(A++x::R)) st)(v:(Ps T)=lo)(t:n=Ps A+1)(a:m=n+R.length)(u:(A++[x]).Pairwise X.le)
  (h: ∀A x R,Rp X q (T++(A++x::R)) st->m=Ps A+1+R.length->(A++[x]).Pairwise X.le->(∀y l,R=y::l->X.lt y x=J)->wp X (f (I,Ps A+1)) Q st):wp X (forIn [n:m] (I,n) g>>=f) Q st:=by
 refine mz (λi c s=>s=st/\c=(I,i)/\ ∃A x R,Rp X q (T++(A++x::R)) st/\i=Ps A+1/\m=i+R.length/\(A++[x]).Pairwise X.le)
  (λc s=>s=st/\ ∃A x R,Rp X q (T++(A++x::R)) st/\c=(I,Ps A+1)/\m=Ps A+1+R.length/\(A++[x]).Pairwise X.le/\ ∀y l,R=y::l->X.lt y x=J) ⟨rfl,rfl,A,x,R,S,t,a,u⟩ ?_ ?_ ?_
 .rintro i c s d ⟨rfl,rfl,A,x,R,S,rfl,h1,u⟩;rw[p];obtain⟨y,l,rfl⟩:=se (l:=R) (by lia);refine E8 S (ix1<|by lia) (ix0<|by lia) λb e=>?_
  cases b with
  |true=>exact iM ⟨rfl,A,x,_,S,rfl,h1,u,λ_ _ k=>by cases k;exact e⟩
  |false=>exact iM ⟨rfl,rfl,A++[x],y,l,by simpa using S,by simp,by simp at h1;lia,Fi u<|FV X.tr u e⟩
 .rintro c s ⟨rfl,rfl,A,x,R,S,d,h1,u⟩;exact⟨rfl,A,x,R,S,by rw[d],by lia,u,λy l e=>by subst e;simp at h1;lia⟩
 .rintro c s ⟨rfl,A,x,R,S,rfl,a,u,e⟩;exact h A x R S a u e
def MU{c:Prop}[Decidable c]{k:StateT rR dP o}(S:Rp X q (T++(A++R)) st)(e:i=Ps T)(f:j=Ps T+Ps A)(d: ¬c->Ps A=1)(h: ∀b,Rp X q (T++(A.reverse++R)) b->wp X k Q b):wp X (if c then Ev i j>>=λ_=>k else k) Q st:=js (λ_=>HB S e f h) λz=>h _ (by obtain⟨a,rfl⟩:=List.length_eq_one_iff.mp<|d z;exact S)
def dnT(d:(A++B).Pairwise λa b=>X.le b a)(u:B.Pairwise X.le):(A++B.reverse).Pairwise λa b=>X.le b a:=by rw[vh] at d ⊢;exact⟨d.1,Hs.mpr u,λa c b e=>d.2.2 a c b<|WH.mp e⟩
def Cs.rf(X:Cs)(i:Nat):X.le i i:=WG.mpr λh=>kS<|h.symm.trans<|X.as i i h
def Tn{k m:StateT rR dP o}(P:rR->Prop)(b:(∀a,P a->wp X k Q a)->wp X m Q st)(hk: ∀a,P a->wp X k Q a):wp X m Q st:=b hk
def MW{lo m:Nat}{Q:Option Nat->rR->Prop}(S:Rp X q (T++x::R) st)(p:(Ps T)=lo)(f:m=1+R.length)(h: ∀A R g,Rp X q (T++(A++R)) g->A≠[]->A.Pairwise X.le->m=Ps A+R.length->Q (C<|Ps A) g):wp X (countRun' lo m) Q st:=by
 have fin: ∀A x R g,Rp X q (T++(A++x::R)) g->m=Ps A+1+R.length->(A++[x]).Pairwise X.le->Q (C<|Ps A+1) g:=λA x R g S f u=>by simpa using h (A++[x]) R g (by simpa using S) (by simp) u (by simpa using f)
 have ge: ∀{a b c},X.le b a->X.le c b->X.le c a:=λh1 t=>X.tr t h1;rw[countRun'_eq];dsimp only;refine MX (λ_ _=>rfl) (A:=[]) S p H f (by simp) λA x R S f u N=>?_;refine js (λ_=>iM<|fin A x R _ S f u) λO=>?_;obtain⟨y,l,rfl⟩:=se (l:=R) (by simp at O;lia);apply Tn λg=>Rp X q (T++((A++[x]).reverse++y::l)) g/\ ∀z∈A++[x],X.le y z
 .intro F;have w:=X.as _ _ (N y l H);refine js (λh1=>?_) λh1=>F _ ?_
  .obtain⟨a,A,rfl⟩:=se (l:=A)<|Nat.lt_of_succ_lt_succ h1;refine E8 S (x:=a) (y:=x) (ix0 (A:=[])<|by simpa using p.symm) (ix0<|by simp;lia) λb e=>?_
   cases b with
   |true=>exact iM<|fin _ x _ _ S f u
   |false=>
    refine HB (A:=a::A++[x]) (by simpa using S) p.symm (by simp;lia) λg n=>F _ ⟨n,λz k=>X.tr (X.tr w e) ?_⟩;rcases lz.mp k with rfl|k
    .exact X.rf _
    .exact(BL.mp u).1 z k
  .obtain rfl:=zV (l:=A) (by simpa using h1);exact⟨S,by simpa using w⟩
 .rintro st ⟨S,d⟩;have t:(Ps A)+2<=m:=by simp at f;lia
  dsimp only
  refine tR (mz (λi c s=> ∃U B x R,c=(I,i,Ps B)/\Rp X q (T++(U++(B++x::R))) s/\i=Ps U+Ps B+1/\m=i+R.length/\(U++(B++[x])).Pairwise (λa b=>X.le b a)/\(B++[x]).Pairwise X.le)
   (λc s=> ∃U B x R,c=(I,Ps U+Ps B+1,Ps B)/\Rp X q (T++(U++(B++x::R))) s/\m=Ps U+Ps B+1+R.length/\(U++(B++[x])).Pairwise (λa b=>X.le b a)/\(B++[x]).Pairwise X.le) ⟨(A++[x]).reverse,[],y,l,rfl,S,by simp,by simp at f ⊢;lia,?_,by simp⟩ ?_ ?_ ?_)
  .exact Fi (Hs.mpr u) λz k=>d z<|WH.mp k
  .rintro i c s v ⟨U,B,x,R,rfl,S,rfl,f,d,u⟩;obtain⟨y,l,rfl⟩:=se (l:=R) (by lia);rw[<-ny] at S;refine E8 S (ix1<|by simp;lia) (ix0<|by simp;lia) λb e=>?_
   cases b with
   |true=>refine MU (T:=T++U) (A:=B++[x]) (by simpa using S) (by simp;lia) (by simp;lia) (λz=>by simp at z ⊢;exact z) λg n=>iM ⟨U++(B++[x]).reverse,[],y,l,rfl,by simpa using n,by simp;lia,by simp at f;lia,Fi (dnT d u) λz k=>?_,by simp⟩;rw[<-ny] at d;exact FV (r:=λa b=>X.le b a) ge d (X.as _ _ e) z (by simpa[or_comm] using k)
   |false=>
    refine E8 S (ix0<|by simp;lia) (ix1<|by simp;lia) λb M=>?_
    cases b with
    |true=>exact iM ⟨U,B,x,_,rfl,by simpa using S,f,d,u⟩
    |false=>refine iM ⟨U,B++[x],y,l,by simp,by simpa using S,by simp;lia,by simp at f;lia,?_,Fi u<|FV X.tr u e⟩;rw[<-ny] at d ⊢;rw[<-ny];exact Fi d<|FV (r:=λa b=>X.le b a) ge d M
  .rintro c s ⟨U,B,x,R,rfl,S,v,f,d,u⟩;exact⟨U,B,x,R,by rw[v],S,by lia,d,u⟩
  .rintro c s ⟨U,B,x,R,rfl,S,f,d,u⟩;refine MU (T:=T++U) (A:=B++[x]) (by simpa using S) (by simp;lia) (by simp;lia) (λz=>by simp at z ⊢;exact z) λg n=>?_;refine HB (T:=T) (A:=U++(B++[x]).reverse) (by simpa using n) p.symm (by simp;lia) λg n=>?_;have u:=Hs.mpr<|dnT d u;rcases GV (U++(B++[x]).reverse).reverse with e|⟨E,G,e⟩
   .simp at e
   .rw[e,GU] at n u;have k:=nD el e;simp at k;exact MX (λ_ _=>rfl) (A:=E) (x:=G) (R:=R) (by simpa using n) p (by dsimp only;lia) (by dsimp only;lia) u λA x R S f u _=>iM<|fin A x R _ S f u
end
section
variable {X:Cs}{g:Type}{Q:g->rR->Prop}{st:rR}{q:Array (Nat×Nat×Nat)}{T A B D R L:jL}{i j x y:Nat}{p:Nat->Bool}
abbrev Mo(X:Cs)(p:Nat->Bool):Prop:= ∀a b,X.le a b->p b=J->p a=J
abbrev Lo(p:Nat->Bool)(A:jL)(a:Nat):Prop:= ∀i,i<a->p (A.getD i 0)=J
abbrev Hi(p:Nat->Bool)(A:jL)(a:Nat):Prop:= ∀i,a<=i->i<Ps A->p (A.getD i 0)=Y
def OE:Mo X λz=>!X.lt x z:=λa b h c=>by simp only[eZ] at c ⊢;exact X.tr h c
def YF:Mo X λz=>X.lt z x:=λa b h c=>by
 cases e:X.lt a x with
 |true=>exact e
 |false=>exact kS<|(X.tr e h).symm.trans c
def upD(u:A.Pairwise X.le)(b:i<=j)(h:j<Ps A):X.le (A.getD i 0) (A.getD j 0):=by
 have a:i<(Ps A):=by lia
 simp only[qP,jA h,jA a,Option.getD_some];rcases Nat.lt_or_eq_of_le b with e|rfl
 .exact Qs.mp u i j a h e
 .exact X.rf _
def FN(u:A.Pairwise X.le)(m:Mo X p)(h:i<Ps A)(e:p (A.getD i 0)=J):Lo p A (i+1):=λj a=>m _ _ (upD u (by lia) h) e
def F3(u:A.Pairwise X.le)(m:Mo X p)(e:p (A.getD i 0)=Y):Hi p A i:=λj a h=>by
 cases c:p (A.getD j 0) with
 |false=>rfl
 |true=>exact(m _ _ (upD u a h) c).symm.trans e
def JY(h:Lo p A i): ∀z∈A.take i,p z=J:=λz a=>by obtain⟨k,hk,rfl⟩:=GS a;have hk:=rG▸hk;have:=h k (by lia);simpa[show k<(Ps A) by lia] using this
def J9(h:Hi p A i): ∀z∈A.drop i,p z=Y:=λz a=>by obtain⟨k,hk,rfl⟩:=GS a;simp at hk;have:=h (i+k) (by lia) (by lia);simpa[show i+k<(Ps A) by lia] using this
def ixD(a:(Ps T)=j)(h:i<Ps A):(T++(A++R))[j+i]?=C (A.getD i 0):=by subst a;rw[pO<|by lia,GX,uO h];simp[h]
def aaA(u:A.Pairwise X.le)(h1: ∀z∈A.take i,(!X.lt y z)=J)(e: ∀z∈A.drop i,(!X.lt y z)=Y):(A.take i++y::A.drop i).Pairwise X.le:=by
 rw[<-vA i A,vh] at u;refine vh.mpr ⟨u.1,BL.mpr ⟨λz f=>X.as _ _ (by simpa using e z f),u.2.1⟩,λa d b c=>?_⟩;rcases lz.mp c with rfl|c
 .simpa using h1 a d
 .exact u.2.2 a d b c
def Uy{lo n k:Nat}{Q:Bool->rR->Prop}(S:Rp X q (T++(A++R)) st)(M:(Ps T)=lo)(E:(Ps A)=k)(O:0<k)(o:n<=k+R.length)(hk:k<=n)(u:A.Pairwise X.le)
  (h: ∀A R w,Rp X q (T++(A++R)) w->Ps A=n->A.Pairwise X.le->Q J w):wp X (binarySort' lo n k) Q st:=by
 rw[binarySort'_eq,show max k 1=k by lia];dsimp only;refine mz (λk c s=>c=(I,())/\ ∃A R,Rp X q (T++(A++R)) s/\(Ps A)=k/\A.Pairwise X.le/\n<=k+R.length) (λc s=>c=(I,())/\ ∃A R,Rp X q (T++(A++R)) s/\(Ps A)=n/\A.Pairwise X.le) ⟨rfl,A,R,S,E,u,o⟩ ?_ ?_ ?_
 .rintro k c s m ⟨rfl,A,R,S,rfl,u,o⟩;obtain⟨y,l,rfl⟩:=se (l:=R) (by lia)
  refine mz (λi c r=>r=s/\ ∃a b,c=(I,a,b)/\a<=b/\b<=Ps A/\b<=a+(Ps A-i)/\Lo (λz=>!X.lt y z) A a/\Hi (λz=>!X.lt y z) A b)
   (λc r=>r=s/\ ∃a b,c=(I,a,b)/\a<=Ps A/\Lo (λz=>!X.lt y z) A a/\Hi (λz=>!X.lt y z) A a) ⟨rfl,0,Ps A,rfl,by lia,by lia,by lia,λi h=>by lia,λi h N=>by lia⟩ ?_ ?_ ?_
  .rintro i c _ m ⟨rfl,a,b,rfl,h1,t,v,d,f⟩;dsimp only;refine js (λe=>iM ⟨rfl,a,b,rfl,by lia,d,(show a=b by lia)▸f⟩) λe=>?_;refine E8 S (ix0<|by lia) (ixD M<|by lia) λc e=>?_
   cases c with
   |true=>exact iM ⟨rfl,a,_,rfl,by lia,by lia,by lia,d,F3 u OE<|by rw[e];rfl⟩
   |false=>exact iM ⟨rfl,_,b,rfl,by lia,by lia,by lia,FN u OE (by lia)<|by rw[e];rfl,f⟩
  .rintro c _ ⟨rfl,a,b,rfl,h1,t,v,d,f⟩;exact⟨rfl,a,b,rfl,by lia,d,(show a=b by lia)▸f⟩
  .rintro c _ ⟨rfl,a,b,rfl,h1,t,v⟩;refine Ux (T:=T++A.take a) (A:=A.drop a) (by rw[ny,<-ny (A.take a),vA];exact S) (by simp;lia) (by simp;lia) λr U=>iM ⟨rfl,A.take a++y::A.drop a,l,by simpa using U,by simp;lia,aaA u (JY t)<|J9 v,by simp at o;lia⟩
 .rintro c s ⟨rfl,A,R,S,m,u,o⟩;exact⟨rfl,A,R,S,by lia,u⟩
 .rintro c s ⟨rfl,A,R,S,m,u⟩;exact iM<|h A R s S m u
noncomputable def Sm:Bool->eC->Array eC->Nat->Nat->Nat->StateT rR dP (Option Nat):=sortPriv%PySem.Builtin.gallop
noncomputable def OG:Array eC->Array eC->StateT rR dP (Array eC):=sortPriv%PySem.Builtin.mergeLo
noncomputable def OH:Array eC->Array eC->StateT rR dP (Array eC):=sortPriv%PySem.Builtin.mergeHi
noncomputable def Q7:Nat->StateT rR dP Unit:=sortPriv%PySem.Builtin.setMinGallop
def XI{k:Nat->Nat->StateT rR dP g}{m:StateT rR dP g}(P:Nat->Nat->Prop)(c:(∀a b,P a b->wp X (k a b) Q st)->wp X m Q st)(hk: ∀a b,P a b->wp X (k a b) Q st):wp X m Q st:=c hk
noncomputable abbrev gp(X:Cs)(left:Bool)(x z:Nat):Bool:=if left=J then X.lt z x else !X.lt x z
def DV{left:Bool}{base:Nat}{f:Option Bool->StateT rR dP g}(hk:kindOf st=X.κ)(k: ∀z∈A,z<X.N)(c:x<X.N)(l:(Ps T)=base)(a:i<Ps A)(h: ∀b,gp X left x (A.getD i 0)=b->wp X (f<|C b) Q st):
  wp X ((elem' (ar X<|T++(A++R)) (base+i)>>=λz=>if left=J then lt' z (X.it x) else lt' (X.it x) z>>=λr=>pure<|fx (λx=>!x) r)>>=f) Q st:=by
 have d:A.getD i 0<X.N:=k _ (by simp[a]);refine kz<|lX (ixD l a) ?_
 cases left with
 |true=>rw[iT H,<-bind_pure (lt' _ _)];exact E7 hk d c λb e=>iM<|h b e
 |false=>exact E7 hk c d λb e=>iM<|h (!b)<|nD not e
def yf{left:Bool}{base n hint:Nat}{Q:Option Nat->rR->Prop}(hk:kindOf st=X.κ)(t: ∀z∈A,z<X.N)(w:x<X.N)(u:A.Pairwise X.le)(G:L=T++(A++R))(v:(Ps T)=base)(H:(Ps A)=n)(U:hint<n)
  (h: ∀r,r<=n->(∀z∈A.take r,gp X left x z=O0)->(∀z∈A.drop r,gp X left x z=Y)->Q (C r) st):wp X (Sm left (X.it x) (ar X L) base n hint) Q st:=by
 subst G
 have m:Mo X (gp X left x):=by
  cases left with
  |true=>exact YF
  |false=>exact OE
 apply XI λa b=>a<=b/\b<=n/\Lo (gp X left x) A a/\Hi (gp X left x) A b
 .intro F;refine DV hk t w v (H▸U) λb e=>?_;refine js (λz=>?_) λz=>?_
  .subst z
   refine mz (λi c s=>st=s/\ ∃a b,c=(Op,a,b)/\a<b/\i<b/\hint+a<n/\Lo (gp X left x) A (hint+a+1)) (λc s=>st=s/\ ∃a b,c=(Op,a,b)/\a<b/\hint+a<n/\Lo (gp X left x) A (hint+a+1)/\(n-hint<=b\/Hi (gp X left x) A (hint+b)))
    ⟨rfl,0,1,rfl,by lia,by lia,U,FN u m (H▸U) e⟩ ?_ ?_ ?_
   .rintro i c _ E ⟨rfl,a,b,rfl,h1,o,l,f⟩;dsimp only;refine js (λz=>iM ⟨rfl,a,b,rfl,h1,l,f,.inl z⟩) λz=>DV hk t w v (by lia) λc e=>?_
    cases c with
    |true=>exact iM ⟨rfl,_,_,rfl,by lia,by lia,by lia,FN u m (by lia) e⟩
    |false=>exact iM ⟨rfl,a,b,rfl,h1,l,f,.inr<|F3 u m e⟩
   .rintro c _ ⟨rfl,a,b,rfl,h1,o,l,f⟩;exact⟨rfl,a,b,rfl,h1,l,f,.inl<|by lia⟩
   .rintro c _ ⟨rfl,a,b,rfl,h1,l,f,k⟩;dsimp only;generalize I:hint+a+1=c at*;generalize O:hint+min b (n-hint)=d;refine F c d ⟨by lia,by lia,f,λi J M=>?_⟩;rcases k with k|k
    .lia
    .exact k i (by lia) M
  .refine mz (λi c s=>st=s/\ ∃a b,c=(Op,a,b)/\a<b/\i<b/\a<=hint/\Hi (gp X left x) A (hint-a)) (λc s=>st=s/\ ∃a b,c=(Op,a,b)/\a<b/\a<=hint/\Hi (gp X left x) A (hint-a)/\(hint<b\/Lo (gp X left x) A (hint-b+1)))
    ⟨rfl,0,1,rfl,by lia,by lia,by lia,F3 u m<|by simpa[z] using e⟩ ?_ ?_ ?_
   .rintro i c _ E ⟨rfl,a,b,rfl,h1,o,l,f⟩;dsimp only;refine js (λz=>iM ⟨rfl,a,b,rfl,h1,l,f,.inl z⟩) λz=>DV hk t w v (by lia) λc e=>?_
    cases c with
    |true=>exact iM ⟨rfl,a,b,rfl,h1,l,f,.inr<|FN u m (by lia) e⟩
    |false=>exact iM ⟨rfl,_,_,rfl,by lia,by lia,by lia,F3 u m e⟩
   .rintro c _ ⟨rfl,a,b,rfl,h1,o,l,f⟩;exact⟨rfl,a,b,rfl,h1,l,f,.inl<|by lia⟩
   .rintro c _ ⟨rfl,a,b,rfl,h1,l,f,k⟩;dsimp only;generalize O:hint-a=d at*;generalize I:hint+1-min b (hint+1)=c;refine F c d ⟨by lia,by lia,λi J=>?_,f⟩;rcases k with k|k
    .lia
    .exact k i (by lia)
 .rintro a b ⟨h1,o,l,f⟩;refine mz (λi c s=>st=s/\ ∃a b,c=(Op,a,b)/\a<=b/\b<=n/\b<=a+(n-i)/\Lo (gp X left x) A a/\Hi (gp X left x) A b) (λc s=>st=s/\ ∃a,c=(Op,a,a)/\a<=n/\Lo (gp X left x) A a/\Hi (gp X left x) A a) ⟨rfl,a,b,rfl,h1,o,by lia,l,f⟩ ?_ ?_ ?_
  .rintro i c _ E ⟨rfl,a,b,rfl,h1,o,l,f,k⟩;refine js (λz=>?_) λz=>DV hk t w v (by dsimp only at z ⊢;lia) λc e=>?_
   .have:a=b:=by dsimp only at z;lia
    subst this;exact iM ⟨rfl,a,rfl,o,f,k⟩
   .dsimp only at z
    cases c with
    |true=>exact iM ⟨rfl,_,b,rfl,by dsimp only;lia,o,by dsimp only;lia,FN u m (by dsimp only;lia) e,k⟩
    |false=>exact iM ⟨rfl,a,_,rfl,by dsimp only;lia,by dsimp only;lia,by dsimp only;lia,f,F3 u m e⟩
  .rintro c _ ⟨rfl,a,b,rfl,h1,o,l,f,k⟩;have:a=b:=by lia
   subst this;exact⟨rfl,a,rfl,o,f,k⟩
  .rintro c _ ⟨rfl,a,rfl,o,f,k⟩;exact iM<|h a o (JY f)<|J9 k
end
section
variable {X:Cs}{β:Type}{Q:β->rR->Prop}{st:rR}{pq:Array (Nat×Nat×Nat)}{q r L Z a b o k:jL}{i j x y:Nat}{le:Nat->Nat->Prop}{out:Ce}
structure MG(le:Nat->Nat->Prop)(Z a b o:jL):Prop where
 s:o.Pairwise le
 c: ∀x∈o,∀y∈a++b,le x y
 p:(o++(a++b)).Perm Z
 ua:a.Pairwise le
 ub:b.Pairwise le
def MG.put(m:MG le Z (k++a) b o)(h: ∀x∈k,∀y∈b,le x y):MG le Z a b (o++k):=by
 have f:=vh.mp m.ua;refine⟨vh.mpr ⟨m.s,f.1,λx e y d=>m.c x e y<|by simp[d]⟩,λx e y d=>?_,by simpa using m.p,f.2.1,m.ub⟩;rcases pJ.mp e with e|e
 .refine m.c x e y ?_;simp at d ⊢;exact .inr d
 .rcases pJ.mp d with d|d
  .exact f.2.2 x e y d
  .exact h x e y d
def Mg(X:Cs)(le:Nat->Nat->Prop)(Z a b:jL)(out:Ce):Prop:= ∃o,out=ar X o/\MG le Z a b o
def Rs(X:Cs)(Z:jL)(out:Ce):Prop:= ∃o,out=ar X o/\o.Pairwise X.le/\o.Perm Z
def Mg.sw(m:Mg X le Z a b out):Mg X le Z b a out:=by obtain⟨o,e,m⟩:=m;exact⟨o,e,m.s,λx d y f=>m.c x d y<|by simpa[or_comm] using f,(Ti.append_left o).trans m.p,m.ub,m.ua⟩
def Mg.put(m:Mg X le Z a b out){a':jL}{c:Ce}(e:a=k++a')(h: ∀x∈k,∀y∈b,le x y)(d:c=out++ar X k):Mg X le Z a' b c:=by obtain⟨o,rfl,m⟩:=m;exact⟨o++k,by simpa[ar] using d,(e▸m).put h⟩
def Mg.a1(m:Mg X le Z (q.drop i) b out)(c:i<Ps q)(h: ∀y∈b,le q[i] y):Mg X le Z (q.drop<|i+1) b (out.push<|X.it q[i]):=m.put (k:=[q[i]]) (xQ c) (by simpa using h) (by simp[ar])
def Mg.ak(m:Mg X le Z (q.drop i) b out)(h: ∀x∈(q.drop i).take j,∀y∈b,le x y):Mg X le Z (q.drop<|i+j) b (out++(ar X q).extract i (i+j)):=m.put (by rw[<-List.drop_drop,vA]) h (by simp[ar,Dx])
def Mg.fin(m:Mg X X.le Z (q.drop i) (r.drop j) out)(h: ∀x∈q.drop i,∀y∈r.drop j,X.le x y):Rs X Z (out++(ar X q).extract i (ar X q).size++(ar X r).extract j (ar X r).size):=by obtain⟨o,e,m⟩:=((m.put (k:=q.drop i) (a':=[]) (by simp) h H).sw).put (k:=r.drop j) (a':=[]) (by simp) (by simp) H;exact⟨o,by rw[<-e];simp[ar,Dx,zU],m.s,by simpa using m.p⟩
def Mg.end(m:Mg X X.le Z (q.drop i) (r.drop j) out)(h:(Ps q)<=i\/(Ps r)<=j):Rs X Z (out++(ar X q).extract i (ar X q).size++(ar X r).extract j (ar X r).size):=m.fin λx c y d=>by
 rcases h with h|h
 .rw[zZ h] at c;cases c
 .rw[zZ h] at d;cases d
def Mg.hd(m:Mg X le Z (q.drop i) b out)(f: ∀{a b c},le a b->le b c->le a c)(e:i<Ps q)(h:le x q[i]): ∀y∈q.drop i,le x y:=λy d=>by
 obtain⟨o,_,m⟩:=m;have:=m.ua;rw[xQ e] at this d;rcases lz.mp d with rfl|d
 .exact h
 .exact f h ((BL.mp this).1 y d)
def DU{f:Unit->StateT rR dP β}{n:Nat}(S:Rp X pq L st)(h: ∀c,Rp X pq L c->wp X (f ()) Q c):wp X (Q7 n>>=f) Q st:=vI (g:=λs=>SortSt.mk' (kindOf s) (fj s) (pendingOf s) n<|fO s)<|h _ ⟨S.a,S.k,S.f,S.q,S.p⟩
def Jf{e:Type}{k:e->Nat->StateT rR dP β}{m:StateT rR dP β}(P:e->Nat->rR->Prop)(f:(∀c n d,P c n d->wp X (k c n) Q d)->wp X m Q st)(hk: ∀c n d,P c n d->wp X (k c n) Q d):wp X m Q st:=f hk
def MV{k:Nat->StateT rR dP β}{m:StateT rR dP β}(P:Nat->rR->Prop)(d:(∀n c,P n c->wp X (k n) Q c)->wp X m Q st)(hk: ∀n c,P n c->wp X (k n) Q c):wp X m Q st:=d hk
def XH{Q:Array eC->rR->Prop}(S:Rp X pq L st)(u1:q.Pairwise X.le)(u2:r.Pairwise X.le)(M: ∀z∈q,z<X.N)(U: ∀z∈r,z<X.N)(h1:0<Ps q)(h2:0<Ps r)(hd: ∀y∈q,X.le r[0] y)(top: ∀x∈r,X.le x q[Ps q-1])
  (h: ∀out s,Rp X pq L s->Rs X (q++r) out->Q out s):wp X (OG (ar X q)<|ar X r) Q st:=by
 have sq:(ar X q).size=(Ps q):=by simp
 have sr:(ar X r).size=(Ps r):=by simp
 have K:Mg X X.le (q++r) (q.drop 0) (r.drop 1) #[X.it r[0]]:=Mg.sw<|Mg.a1 (q:=r) (i:=0) (out:= #[]) ⟨[],rfl,.nil,by simp,by simpa using Ti,by simpa using u2,by simpa using u1⟩ h2 hd
 have last: ∀{out i j},Mg X X.le (q++r) (q.drop i) (r.drop j) out->i+1=Ps q->Rs X (q++r) (out++(ar X r).extract j (ar X r).size++(ar X q).extract i (ar X q).size):=λ{_ i j} m e=>m.sw.fin λx H y C=>by
  have hi:i<(Ps q):=by lia
  rw[xQ hi,zZ<|by lia,zf] at C;have:=top x<|zS H;simpa only[C,<-e,i7] using this
 refine tR<|lX (x:=r[0]) (by simp[h2]) ?_;refine js (λe=>iM<|h _ _ S (K.end<|.inr<|by simp at e;lia)) λe=>js (λv=>iM<|h _ _ S (last K<|by simpa using v)) λv=>oQ ?_
 let I:=λ(c:Nat) out d f s=>Rp X pq L s/\Mg X X.le (q++r) (q.drop d) (r.drop f) out/\d+1<Ps q/\f<Ps r/\c<=d+f
 refine mz (λi c s=> ∃out d f B,c=(Op,out,d,f,B)/\I (i+1) out d f s) (λc s=> ∃out t,c=(N2 out,t)/\Rp X pq L s/\Rs X (q++r) out) ⟨_,0,1,_,rfl,S,K,by simp at v;lia,by simp at e;lia,by lia⟩ ?_ ?_ ?_
 .rintro i c s _ ⟨out,d,f,B,rfl,O⟩;refine mz (λj c s=> ∃out d f p u,c=(Op,out,d,f,p,u)/\I (i+1+j) out d f s) (λc s=>(∃out t,c=(N2 out,t)/\Rp X pq L s/\Rs X (q++r) out)\/ ∃out d f p u,c=(Op,out,d,f,p,u)/\I (i+1) out d f s) ⟨_,_,_,_,_,rfl,O⟩ ?_ ?_ ?_
  .rintro j c s _ ⟨out,d,f,p,u,rfl,S,m,b1,l,E⟩;dsimp only;refine lX (x:=r[f]) (by simp[l]) (lX (x:=q[d]) (by simp)<|E7 S.k (U _ (by simp)) (M _ (by simp)) λb e=>?_)
   cases b with
   |true=>have n:=(m.sw.a1 l<|m.hd X.tr (by lia)<|X.as _ _ e).sw;exact lX (x:=r[f]) (by simp[l])<|js (λe=>iM<|.inl ⟨_,_,rfl,S,n.end<|.inr<|by simp at e;lia⟩) λe=>js (λ_=>iM<|.inr ⟨_,_,_,_,_,rfl,S,n,b1,by simp at e;lia,by lia⟩) λ_=>iM ⟨_,_,_,_,_,rfl,S,n,b1,by simp at e;lia,by lia⟩
   |false=>have n:=m.a1 (by lia)<|m.sw.hd X.tr l e;exact lX (x:=q[d]) (by simp)<|js (λe=>iM<|.inl ⟨_,_,rfl,S,last n<|by simpa using e⟩) λe=>js (λ_=>iM<|.inr ⟨_,_,_,_,_,rfl,S,n,by simp at e;lia,l,by lia⟩) λ_=>iM ⟨_,_,_,_,_,rfl,S,n,by simp at e;lia,l,by lia⟩
  .rintro c s ⟨out,d,f,p,u,rfl,S,m,b1,l,E⟩;exfalso;lia
  .rintro c s (⟨out,t,rfl,Y'⟩|⟨out,d,f,p,u,rfl,O⟩)
   .exact iM ⟨out,_,rfl,Y'⟩
   .refine tR (mz (λj c s=> ∃out d f B p u,c=(Op,out,d,f,B,p,u)/\I (i+1+j) out d f s) (λc s=>(∃out t,c=(N2 out,t)/\Rp X pq L s/\Rs X (q++r) out)\/ ∃out d f B p u,c=(Op,out,d,f,B,p,u)/\I (i+2) out d f s) ⟨_,_,_,_,_,_,rfl,O⟩ ?_ ?_ ?_)
    .rintro j c s _ ⟨out,d,f,B,p,u,rfl,S,m,b1,l,E⟩;dsimp only;apply MV λ_ s=>Rp X pq L s
     .intro F;refine js (λ_=>?_) λ_=>?_
      .generalize B-1=g;exact F g s S
      .exact F B s S
     intro g s S;refine DU S λs S=>lX (x:=r[f]) (by simp[l])<|kz<|yf (T:=q.take d) (A:=q.drop d) (R:=[]) S.k (λz D=>M z<|zS D) (U _ (by simp)) (u1.sublist<|GR _ _) (by simp) (by simp;lia) (by simp) (by simp;lia) λk _ P V=>?_;dsimp only;apply Jf λout d s=>Rp X pq L s/\Mg X X.le (q++r) (q.drop d) (r.drop f) out/\d+1<Ps q/\i+1+j<=d+f/\ ∀y∈q.drop d,X.le r[f] y
     .intro F;have mk:=m.ak (j:=k) λx H y C=>m.sw.hd (x:=x) X.tr l (by simpa using P x H) y C;have w: ∀y∈q.drop (d+k),X.le r[f] y:=λy C=>X.as _ _ (by simpa using V y<|by simpa using C);refine js (λe=>?_) λe=>?_
      .refine js (λJ=>iM<|.inl ⟨_,_,rfl,S,last mk<|by simpa using J⟩) λJ=>js (λv=>iM<|.inl ⟨_,_,rfl,S,mk.end<|.inl<|by simp at v;lia⟩) λv=>?_;generalize out++(ar X q).extract d (d+k)=out at mk ⊢;generalize W:d+k=ic at mk w J v ⊢;exact F out ic s ⟨S,mk,by simp at J v;lia,by lia,w⟩
      .rw[show k=0 by lia] at w;exact F out d s ⟨S,m,b1,E,w⟩
     rintro out d s ⟨S,m,b1,E,w⟩;have n:=(m.sw.a1 l w).sw;refine lX (x:=r[f]) (by simp[l])<|js (λe=>iM<|.inl ⟨_,_,rfl,S,n.end<|.inr<|by simp at e;lia⟩) λe=>lX (x:=q[d]) (by simp)<|kz<|yf (T:=r.take<|f+1) (A:=r.drop<|f+1) (R:=[]) S.k (λz D=>U z<|zS D) (M _ (by simp)) (u2.sublist<|GR _ _) (by simp) (by simp;lia) (by simp) (by simp at e ⊢;lia) λG _ P V=>?_;dsimp only;apply Jf λout f s=>Rp X pq L s/\Mg X X.le (q++r) (q.drop d) (r.drop f) out/\f<Ps r/\i+1+j<d+f/\ ∀y∈r.drop f,X.le q[d] y
     .intro F;have mk:=(n.sw.ak (j:=G) λx H y C=>n.hd X.tr (by lia) (X.as _ _ (P x H)) y C).sw;have w: ∀y∈r.drop (f+1+G),X.le q[d] y:=λy C=>V y (by simpa using C);refine js (λ_=>?_) λe3=>?_
      .refine js (λv=>iM<|.inl ⟨_,_,rfl,S,mk.end<|.inr<|by simp at v;lia⟩) λv=>?_;generalize out.push (X.it r[f])++(ar X r).extract (f+1) (f+1+G)=out at mk ⊢;generalize W:f+1+G=ic at mk w v ⊢;exact F out ic s ⟨S,mk,by simp at v;lia,by lia,w⟩
      .rw[show G=0 by lia] at w;exact F _ _ s ⟨S,n,by simp at e;lia,by lia,w⟩
     rintro out f s ⟨S,m,l,E,w⟩;have n:=m.a1 (by lia) w;exact lX (x:=q[d]) (by simp)<|js (λe=>iM<|.inl ⟨_,_,rfl,S,last n<|by simpa using e⟩) λe=>js (λ_=>iM<|.inr ⟨_,_,_,_,_,_,rfl,S,n,by simp at e;lia,l,by lia⟩) λ_=>iM ⟨_,_,_,_,_,_,rfl,S,n,by simp at e;lia,l,by lia⟩
    .rintro c s ⟨out,d,f,B,p,u,rfl,S,m,b1,l,E⟩;exfalso;lia
    .rintro c s (⟨out,t,rfl,Y'⟩|⟨out,d,f,B,p,u,rfl,S,O⟩)
     .exact iM ⟨out,_,rfl,Y'⟩
     .exact DU S λs S=>iM ⟨_,_,_,_,rfl,S,O⟩
 .rintro c s ⟨out,d,f,B,rfl,S,m,b1,l,E⟩;exfalso;lia
 .rintro c s ⟨out,t,rfl,S,m⟩;exact iM<|h _ _ S m
end
section
variable {X:Cs}{f:Type}{Q:f->rR->Prop}{st:rR}{d:Array (Nat×Nat×Nat)}{q r L Z a b o k:jL}{i j x y n:Nat}{out:Ce}
theorem ss1(n:Nat):n+1-1=n:=rfl
abbrev Cs.ge(X:Cs)(i j:Nat):Prop:=X.le j i
def Mg.h1(m:Mg X X.ge Z (q.take<|n+1).reverse b out)(c:n<Ps q)(h: ∀y∈b,X.le y q[n]):Mg X X.ge Z (q.take n).reverse b (out.push<|X.it q[n]):=m.put (k:=[q[n]]) (by rw[nb];simp[c]) (by simpa using h) (by simp[ar])
def Mg.hk(m:Mg X X.ge Z (q.take n).reverse b out)(c:i<=n)(h: ∀x∈(q.take n).drop i,∀y∈b,X.le y x):Mg X X.ge Z (q.take i).reverse b (out++((ar X q).extract i n).reverse):=m.put (k:=((q.take n).drop i).reverse) (by rw[<-List.reverse_append,<-zQ c,<-fS,zQ c,vA]) (by simpa using h) (by simp[ar,List.extract_eq_drop_take'])
def Mg.finH(m:Mg X X.ge Z (q.take i).reverse (r.take j).reverse out)(h: ∀x∈q.take i,∀y∈r.take j,X.le x y):Rs X Z ((ar X q).extract 0 i++(ar X r).extract 0 j++out.reverse):=by obtain⟨o,e,m⟩:=(m.sw.put (k:=(r.take j).reverse) (a':=[]) (by simp) (by simpa using λx c y g=>h y g x c) H).sw.put (k:=(q.take i).reverse) (a':=[]) (by simp) (by simp) H;refine⟨o.reverse,?_,Hs.mpr m.s,(Dy o).trans<|by simpa using m.p⟩;have:=nD Array.reverse e;simpa[ar,Dx] using this
def Mg.endH(m:Mg X X.ge Z (q.take i).reverse (r.take j).reverse out)(h:i=0\/j=0):Rs X Z ((ar X q).extract 0 i++(ar X r).extract 0 j++out.reverse):=m.finH λx c y e=>by
 rcases h with rfl|rfl
 .cases c
 .cases e
def Mg.hdH(m:Mg X X.ge Z (q.take<|n+1).reverse b out)(e:n<Ps q)(h:X.le q[n] x): ∀y∈(q.take<|n+1).reverse,X.le y x:=λy c=>by
 obtain⟨o,_,m⟩:=m;have:=m.ua;rw[show(q.take<|n+1).reverse=q[n]::(q.take n).reverse by rw[nb];simp[e]] at this c;rcases lz.mp c with rfl|c
 .exact h
 .exact X.tr ((BL.mp this).1 y c) h
def XJ{Q:Array eC->rR->Prop}(S:Rp X d L st)(u1:q.Pairwise X.le)(u2:r.Pairwise X.le)(hq: ∀z∈q,z<X.N)(hr: ∀z∈r,z<X.N)(h1:0<Ps q)(h2:0<Ps r)(hd: ∀y∈q,X.le r[0] y)(top: ∀x∈r,X.le x q[Ps q-1])
  (h: ∀out s,Rp X d L s->Rs X (q++r) out->Q out s):wp X (OH (ar X q)<|ar X r) Q st:=by
 have sq:(ar X q).size=(Ps q):=by simp
 have sr:(ar X r).size=(Ps r):=by simp
 have K:Mg X X.ge (q++r) (q.take<|Ps q-1).reverse (r.take<|Ps r).reverse #[X.it q[Ps q-1]]:=Mg.h1 (out:= #[]) ⟨[],rfl,.nil,by simp,by simpa[i4 h1] using(Dy q).append (Dy r),by simpa[i4 h1,Hs] using u1,by simpa[Hs] using u2⟩ (by lia) (by simpa using top)
 have last: ∀{out i},Mg X X.ge (q++r) (q.take i).reverse (r.take 1).reverse out->Rs X (q++r) ((ar X r).extract 0 1++(ar X q).extract 0 i++out.reverse):=λm=>m.sw.finH λx U y M=>by obtain⟨b,r,rfl⟩:=se h2;simp at U;subst U;exact hd y<|xK M
 refine tR<|lX (x:=q[Ps q-1]) (by simp[h1]) ?_;rw[sq,sr];refine js (λe=>iM<|h _ _ S (K.endH<|.inl<|by simpa using e)) λe=>js (λE=>iM<|h _ _ S ?_) λE=>oQ ?_
 .have E:(Ps r)=1:=by simpa using E
  rw[E] at K ⊢;exact last K
 let I:=λ(c:Nat) out l u s=>Rp X d L s/\Mg X X.ge (q++r) (q.take l).reverse (r.take u).reverse out/\0<l/\l<=Ps q/\1<u/\u<=Ps r/\c+l+u<=Ps q+Ps r
 refine mz (λi c s=> ∃l u out C,c=(Op,l,u,out,C)/\I (i+1) out l u s) (λc s=> ∃out t,c=(N2 out,t)/\Rp X d L s/\Rs X (q++r) out) ⟨_,_,_,_,rfl,S,K,by simp at e;lia,by lia,by simp at E;lia,by lia,by lia⟩ ?_ ?_ ?_
 .rintro i c s _ ⟨l,u,out,C,rfl,Y'⟩;refine mz (λj c s=> ∃l u out w B,c=(Op,l,u,out,w,B)/\I (i+1+j) out l u s) (λc s=>(∃out t,c=(N2 out,t)/\Rp X d L s/\Rs X (q++r) out)\/ ∃l u out w B,c=(Op,l,u,out,w,B)/\I (i+1) out l u s) ⟨_,_,_,_,_,rfl,Y'⟩ ?_ ?_ ?_
  .rintro j c s _ ⟨l,u,out,w,B,rfl,S,m,b1,G,H',b4,b5⟩;obtain⟨n,rfl⟩: ∃n,l=n+1:=⟨l-1,by lia⟩
   obtain⟨p,rfl⟩: ∃n,u=n+1:=⟨u-1,by lia⟩
   dsimp only[ss1];refine lX (x:=r[p]) (by simp)<|lX (x:=q[n]) (by simp)<|E7 S.k (hr _ (by simp)) (hq _ (by simp)) λb e=>?_
   cases b with
   |true=>have v:=m.h1 (by lia)<|m.sw.hdH (by lia)<|X.as _ _ e;exact lX (x:=q[n]) (by simp)<|js (λe=>iM<|.inl ⟨_,_,rfl,S,v.endH<|.inl<|by simpa using e⟩) λe=>js (λ_=>iM<|.inr ⟨_,_,_,_,_,rfl,S,v,by simp at e;lia,by lia,H',b4,by lia⟩) λ_=>iM ⟨_,_,_,_,_,rfl,S,v,by simp at e;lia,by lia,H',b4,by lia⟩
   |false=>
    have v:=(m.sw.h1 (by lia)<|m.hdH (by lia) e).sw;refine lX (x:=r[p]) (by simp)<|js (λe=>?_) λe=>js (λ_=>iM<|.inr ⟨_,_,_,_,_,rfl,S,v,b1,G,by simp at e;lia,by lia,by lia⟩) λ_=>iM ⟨_,_,_,_,_,rfl,S,v,b1,G,by simp at e;lia,by lia,by lia⟩;obtain rfl:p=1:=by simpa using e
    exact iM<|.inl ⟨_,_,rfl,S,last v⟩
  .rintro c s ⟨l,u,out,w,B,rfl,S,m,b1,G,H',b4,b5⟩;exfalso;lia
  .rintro c s (⟨out,t,rfl,hs⟩|⟨l,u,out,w,B,rfl,Y'⟩)
   .exact iM ⟨out,_,rfl,hs⟩
   .refine tR (mz (λj c s=> ∃l u out C w B,c=(Op,l,u,out,C,w,B)/\I (i+1+j) out l u s) (λc s=>(∃out t,c=(N2 out,t)/\Rp X d L s/\Rs X (q++r) out)\/ ∃l u out C w B,c=(Op,l,u,out,C,w,B)/\I (i+2) out l u s) ⟨_,_,_,_,_,_,rfl,Y'⟩ ?_ ?_ ?_)
    .rintro j c s _ ⟨l,u,out,C,w,B,rfl,S,m,b1,G,H',b4,b5⟩;obtain⟨p,rfl⟩: ∃n,u=n+1:=⟨u-1,by lia⟩
     dsimp only[ss1];apply MV λ_ s=>Rp X d L s
     .intro F;refine js (λ_=>?_) λ_=>?_
      .generalize C-1=g;exact F g s S
      .exact F C s S
     intro g s S;refine DU S λs S=>lX (x:=r[p]) (by simp)<|kz<|yf (T:=[]) (A:=q.take l) (R:=q.drop l) S.k (λz V=>hq z<|xK V) (hr _ (by simp)) (u1.sublist<|ya _ _) (by simp) H (by simp;lia) (by lia) λk hk W t2=>?_;dsimp only;apply Jf λout l s=>Rp X d L s/\Mg X X.ge (q++r) (q.take l).reverse (r.take<|p+1).reverse out/\0<l/\l<=Ps q/\i+1+j+l+p<Ps q+Ps r/\ ∀y∈q.take l,X.le y r[p]
     .intro F;have mk:=m.hk hk λx U y M=>m.sw.hdH (x:=x) (by lia) (X.as _ _ (by simpa using t2 x U)) y M;have J: ∀y∈q.take k,X.le y r[p]:=λy M=>by simpa using W y (by rwa [fS,zQ hk])
      refine js (λe=>?_) λe=>?_
      .refine js (λO=>iM<|.inl ⟨_,_,rfl,S,mk.endH<|.inl<|by simpa using O⟩) λO=>?_;generalize out++((ar X q).extract k l).reverse=out at mk ⊢;generalize ea:k=ic at mk J O ⊢;exact F out ic s ⟨S,mk,by simp at O;lia,by lia,by lia,J⟩
      .obtain rfl:k=l:=by lia
       exact F out _ s ⟨S,m,b1,G,by lia,J⟩
     rintro out na' s ⟨S,m,b1,G,b5,J⟩;have v:=(m.sw.h1 (by lia)<|by simpa using J).sw;obtain⟨n,rfl⟩: ∃n,na'=n+1:=⟨na'-1,by lia⟩
     dsimp only[ss1];refine lX (x:=r[p]) (by simp)<|js (λe=>?_) λe=>lX (x:=q[n]) (by simp)<|kz<|yf (T:=[]) (A:=r.take p) (R:=r.drop p) S.k (λz V=>hr z<|xK V) (hq _ (by simp)) (u2.sublist<|ya _ _) (by simp) H (by simp;lia) (by lia) λD ba W t2=>?_
     .obtain rfl:p=1:=by simpa using e
      exact iM<|.inl ⟨_,_,rfl,S,last v⟩
     dsimp only;apply Jf λout u s=>Rp X d L s/\Mg X X.ge (q++r) (q.take<|n+1).reverse (r.take u).reverse out/\1<u/\u<=Ps r/\i+1+j+(n+1)+u<Ps q+Ps r/\ ∀y∈r.take u,X.le y q[n]
     .intro F;have mk:=(v.sw.hk ba λx U y M=>v.hdH (x:=x) (by lia) (t2 x U) y M).sw;have P: ∀y∈r.take D,X.le y q[n]:=λy M=>X.as _ _ (W y<|by rwa [fS,zQ ba]);refine js (λ_=>?_) λe3=>?_
      .refine js (λO=>?_) λO=>js (λE=>iM<|.inl ⟨_,_,rfl,S,mk.endH<|.inr<|by simpa using E⟩) λE=>?_
       .obtain rfl:D=1:=by simpa using O
        exact iM<|.inl ⟨_,_,rfl,S,last mk⟩
       generalize out.push (X.it r[p])++((ar X r).extract D p).reverse=out at mk ⊢;generalize ea:D=ic at mk P O E ⊢;exact F out ic s ⟨S,mk,by simp at O E;lia,by lia,by lia,P⟩
      .obtain rfl:D=p:=by lia
       exact F _ _ s ⟨S,v,by simp at e;lia,by lia,b5,P⟩
     rintro out u s ⟨S,m,H',b4,b5,J⟩;have v:=m.h1 (by lia) (by simpa using J);exact lX (x:=q[n]) (by simp)<|js (λe=>iM<|.inl ⟨_,_,rfl,S,v.endH<|.inl<|by simpa using e⟩) λe=>js (λ_=>iM<|.inr ⟨_,_,_,_,_,_,rfl,S,v,by simp at e;lia,by lia,H',b4,by lia⟩) λ_=>iM ⟨_,_,_,_,_,_,rfl,S,v,by simp at e;lia,by lia,H',b4,by lia⟩
    .rintro c s ⟨l,u,out,C,w,B,rfl,S,m,b1,G,H',b4,b5⟩;exfalso;lia
    .rintro c s (⟨out,t,rfl,hs⟩|⟨l,u,out,C,w,B,rfl,S,Y'⟩)
     .exact iM ⟨out,_,rfl,hs⟩
     .exact DU S λs S=>iM ⟨_,_,_,_,rfl,S,Y'⟩
 .rintro c s ⟨l,u,out,C,rfl,S,m,b1,G,H',b4,b5⟩;exfalso;lia
 .rintro c s ⟨out,t,rfl,S,m⟩;exact iM<|h _ _ S m
end
section
variable {X:Cs}{t:Type}{Q:t->rR->Prop}{st:rR}{d:Array (Nat×Nat×Nat)}{T A B R L:jL}{i j x y n s:Nat}{o C:List (List Nat)}{r w:List (Nat×Nat×Nat)}
def Pu{c:Type}: ∀(m K T R:List c) (j a:Nat),a+j=Ps T->K.length=Ps m->(m.zipIdx j).foldl (λ(x:Array c) (p:c×Nat)=>x.setIfInBounds (a+p.2) p.1) (T++(K++R)).toArray=(T++(m++R)).toArray:=by
 intro f
 induction f with
 |nil=>intro K T R j a h b;rw[zV b];rfl
 |cons y m e=>intro K T R j a h b;obtain⟨k,K,rfl⟩:=se (l:=K) (by simp[b]);rw[j7,sj];have:=e K (T++[y]) R (j+1) a (by simp;lia) (by simpa using b);simpa[h] using this
def Rn(X:Cs):Nat->List (List Nat)->List (Nat×Nat×Nat)->Prop
 |_,[],[]=>True
 |s,A::o,p::r=>p.1=s/\p.2.1=Ps A/\A≠[]/\A.Pairwise X.le/\Rn X (s+Ps A) o r
 |_,_,_=>False
theorem Rn.cut: ∀{r:List (Nat×Nat×Nat)} {s:Nat} {o:List (List Nat)},Rn X s o (r++w)-> ∃a L2,o=a++L2/\Rn X (s+Ps a.flatten) L2 w/\ ∀M q,Rn X (s+Ps a.flatten) M q->Rn X s (a++M) (r++q)
 |[],s,o,h=>⟨[],o,rfl,h,λ_ _ h=>h⟩
 |p::r,s,[],h=>h.elim
 |p::r,s,A::o,h=>by
  obtain⟨h1,b,c,f,g⟩:=h;obtain⟨a,L2,rfl,k,l⟩:=Rn.cut g;have e:s+(A::a).flatten.length=s+Ps A+(Ps a.flatten):=by simp;lia
  exact⟨A::a,L2,rfl,e▸k,λM q h=>⟨h1,b,c,f,l M q<|e▸h⟩⟩
def Uw{s:rR}{f:PUnit->StateT rR dP t}(h:wp X (f ⟨⟩) Q s):wp X (set s>>=f) Q st:=kz λ_ g=>by rw[StateT.run_set];exact iR ⟨g,h⟩
def upA(u:A.Pairwise X.le)(v:B.Pairwise X.le)(h: ∀a∈A,∀b∈B,X.le a b):(A++B).Pairwise X.le:=vh.mpr ⟨u,v,h⟩
def T6(a:L=T++(A++R))(b:i=Ps T)(c:j=Ps T+Ps A):(ar X L).extract i j=ar X A:=by subst a b c;simp[ar,Dx]
def Tj{Q:Bool->rR->Prop}(S:Rp X d (o.flatten++R) st)(hr:Rn X 0 o d.toList)(hi:i+1<d.size)(h: ∀f9 cA iw,Rp X cA (iw.flatten++R) f9->Rn X 0 iw cA.toList->cA.size+1=d.size->Ps iw.flatten=Ps o.flatten->Q O0 f9):wp X (mergeAt' i) Q st:=by
 obtain⟨d⟩:=d
 obtain⟨H,⟨D,F,P⟩,⟨sb,K,eQ⟩,Y,rfl,rfl⟩: ∃H x y Y,d=H++x::y::Y/\(Ps H)=i:=by have hi:i+1<(Ps d):=hi;exact⟨d.take i,d[i],d[i+1],d.drop<|i+2,by simp,by simp;lia⟩
 obtain⟨L1,L2,rfl,h2,h3⟩:=Rn.cut hr
 obtain⟨A,B,L2,rfl⟩: ∃A B L,L2=A::B::L:=by
  match L2,h2 with
  |A::B::L,_=>exact⟨A,B,L,rfl⟩
  |[A],h=>exact h.2.2.2.2.elim
  |[],h=>exact h.elim
 obtain⟨O,af,a1,V,hb,dY,b1,W,h4⟩:=h2;dsimp only at O af hb dY;obtain⟨κ',a',p',g,f'⟩:=st;have e1:a'=_:=S.a;have e2:p'=_:=S.q;subst e1 e2;rw[show(L1++A::B::L2).flatten++R=L1.flatten++(A++(B++(L2.flatten++R))) by simp] at S ⊢
 have fin: ∀f9 M,Rp X (H++(D,F+K,P)::Y).toArray (L1.flatten++(M++(L2.flatten++R))) f9->M.Perm (A++B)->M.Pairwise X.le->Q O0 f9:=λf9 M U em u=>by have em:=em.length_eq;rw[lP,<-af,<-dY] at em;refine h _ (H++(D,F+K,P)::Y).toArray (L1++M::L2) (by simpa using U) (h3 _ _ ⟨O,em.symm,λe=>a1 ?_,u,by rwa [em,af,dY,<-xJ]⟩) (by simp;lia) (by simp;lia);exact zV (by rw[e] at em;simp at em;lia)
 have ep: ∀z,((H++(D,F,P)::(sb,K,eQ)::Y).toArray.setIfInBounds (Ps H) z).eraseIdxIfInBounds (Ps H+1)=(H++z::Y).toArray:=λz=>by simp[ms,List.eraseIdx_append];intro;lia
 clear h h3 h4 hr;generalize L1.flatten=T at*;generalize L2.flatten++R=R at*;have hN: ∀z,z∈A\/z∈B->z<X.N:=λz l=>by simpa using S.p.mem_iff.mp<|qj _ (by rcases l with h|h<;>simp[h])
 obtain⟨y,B',eB⟩:=List.exists_cons_of_ne_nil b1
 have hy: ∀z∈B,X.le y z:=λz l=>by
  rw[eB] at W l;rcases lz.mp l with rfl|l
  .exact X.rf _
  .exact(BL.mp W).1 z l
 refine oQ ?_;dsimp only;rw[show(H++(D,F,P)::(sb,K,eQ)::Y).toArray[Ps H]?=N2 (D,F,P) by simp,show(H++(D,F,P)::(sb,K,eQ)::Y).toArray[Ps H+1]?=N2 (sb,K,eQ) by simp];dsimp only;rw[ep];refine Uw<|lX (x:=y) (by rw[eB];exact ix0<|by lia)<|kz<|yf S.k (λz h=>hN z<|.inl h) (hN y<|.inr<|by simp[eB]) V O9 (by lia) af.symm (by have:=MP.mpr a1;lia) λk hk t1 t2=>?_;have S2:Rp X (H++(D,F+K,P)::Y).toArray (T++(A++(B++R))) (SortSt.mk' κ' (ar X<|T++(A++(B++R))) (H++(D,F+K,P)::Y).toArray g f'):=⟨rfl,S.k,S.f,rfl,S.p⟩
 have done:(∀a∈A,X.le a y)->Q O0 (SortSt.mk' κ' (ar X<|T++(A++(B++R))) (H++(D,F+K,P)::Y).toArray g f'):=λz=>fin _ (A++B) (by simpa using S2) (.refl _) (upA V W λa O b hb=>X.tr (z a O)<|hy b hb);rw[af] at hk;obtain⟨v,E,rfl,rfl⟩: ∃v E,A=v++E/\(Ps v)=k:=⟨A.take k,A.drop k,by simp,by simp;lia⟩
 have t1: ∀z∈v,X.le z y:=λz l=>by simpa using t1 z (by simpa using l)
 have t2: ∀z∈E,X.le y z:=λz l=>X.as _ _ (by simpa using t2 z<|by simpa using l);rw[lP] at af hb;dsimp only;rcases GV E with e|⟨A3,x,e⟩
 .subst e;rw[iT<|by simp[af]];exact iM<|done (by simpa using t1)
 rw[GU] at e;have l1:0<(Ps E):=by simp[e]
 rw[je<|by simp;lia];refine lX (x:=x) (by rw[e,show T++(v++(A3++[x])++(B++R))=T++((v++A3)++x::(B++R)) by simp];exact ix0 (by have:=nD el e;simp at this ⊢;lia))<|kz<|yf (T:=T++(v++E)) (R:=R) S.k (λz h=>hN z<|.inr h) (hN x<|.inl<|by simp[e]) W (by rw[<-ny]) (by simp;lia) dY.symm (by have:=MP.mpr b1;lia) λk2 ba t3 t4=>?_;rw[dY] at ba;obtain⟨I',J,rfl,rfl⟩: ∃I' J,B=I'++J/\(Ps I')=k2:=⟨B.take k2,B.drop k2,by simp,by simp;lia⟩
 have v3: ∀z∈I',X.le z x:=λz l=>X.as _ _ (by simpa using t3 z<|by simpa using l);have v4: ∀z∈J,X.le x z:=λz l=>by simpa using t4 z (by simpa using l)
 have lx: ∀a∈v++E,X.le a x:=by rw[e,<-ny] at V ⊢;exact FV X.tr V<|X.rf x
 cases I' with
 |nil=>exact iM<|done λa O=>X.tr (lx a O)<|v4 y (by simp[show J=y::B' from eB])
 |cons b I'=>
  obtain rfl:b=y:=(uF eB).1;refine js (λc=>by simp at c) λ_=>?_;rw[T6 (A:=E) (T:=T++v) (R:=b::I'++J++R) (by simp) (by simp;lia)<|by simp;lia,T6 (A:=b::I') (T:=T++(v++E)) (R:=J++R) (by simp) (by simp;lia)<|by simp;lia]
  have Z: ∀G s,Rp X (H++(D,F+K,P)::Y).toArray (T++(v++E++(b::I'++J++R))) s->Rs X (E++b::I') G->Q (fO s).isNone (setArr s<|G.toList.zipIdx.foldl (λa x=>a.setIfInBounds (D+Ps v+x.2) x.1)<|fj s):=λG s U ho=>by
   obtain⟨M,rfl,u,hp⟩:=ho;rw[U.f,U.a];refine fin _ (v++(M++J)) ⟨?_,U.k,U.f,U.q,I0 ?_ U.p⟩ ?_ ?_
   .have:=Pu (M.map X.it) ((E++b::I').map X.it) ((T++v).map X.it) ((J++R).map X.it) 0 (D+Ps v) (by simp;lia) (by simpa using hp.length_eq.symm);simpa[ar] using this
   .simpa using(((hp.append_right<|J++R).append_left v).append_left T)
   .simpa using((hp.append_right J).append_left v)
   .rw[vh] at V W;refine upA V.1 (upA u W.2.1 λa O c m=>?_) λa O c m=>?_
    .rcases pJ.mp (hp.mem_iff.mp O) with O|O
     .exact X.tr (lx a<|by simp[O]) (v4 c m)
     .exact W.2.2 a O c m
    .have m:c∈E\/c∈b::I'++J:=by
      rcases pJ.mp m with m|m
      .rcases pJ.mp (hp.mem_iff.mp m) with m|m
       .exact .inl m
       .exact .inr (DQ _ m)
      .exact .inr (qj _ m)
     rcases m with m|m
     .exact V.2.2 a O c m
     .exact X.tr (t1 a O) (hy c m)
  have hd: ∀z∈E,X.le (b::I')[0] z:=t2;have top: ∀z∈b::I',X.le z E[Ps E-1]:=λz l=>by subst e;simpa using v3 z l
  have l2:0<(b::I').length:=by simp
  have h3: ∀z∈E,z<X.N:=λz l=>hN z<|.inl (by simp[l]);have h4: ∀z∈b::I',z<X.N:=λz l=>hN z<|.inr<|DQ _ l;have u1:=(vh.mp V).2.1;have u2:=(vh.mp W).1;exact js (λc=>kz<|XH S2 u1 u2 h3 h4 l1 l2 hd top λG s U ho=>vI<|oQ<|iM<|Z G s U ho) λc=>kz<|XJ S2 u1 u2 h3 h4 l1 l2 hd top λG s U ho=>vI<|oQ<|iM<|Z G s U ho
end
section
variable {X:Cs}{st:rR}{b:Array (Nat×Nat×Nat)}{A L:jL}
theorem Rn.mod{w:Nat}: ∀{c:List (Nat×Nat×Nat)} {s:Nat} {a:List (List Nat)} (i:Nat),Rn X s a c->Rn X s a (c.modify i λx=>(x.1,x.2.1,w))
 |[],s,a,i,h=>by cases i<;>exact h
 |p::c,s,[],i,h=>h.elim
 |p::c,s,A::a,0,h=>h
 |p::c,s,A::a,i+1,h=>⟨h.1,h.2.1,h.2.2.1,h.2.2.2.1,Rn.mod i h.2.2.2.2⟩
theorem Rn.le: ∀{c:List (Nat×Nat×Nat)} {s:Nat} {a:List (List Nat)},Rn X s a c->Ps c<=Ps a.flatten
 |[],s,a,h=>lN _
 |p::c,s,[],h=>h.elim
 |p::c,s,A::a,h=>by have:=Rn.le h.2.2.2.2;have:=MP.mpr h.2.2.1;simp at*;omega
theorem Rn.push{A:jL}{w:Nat}: ∀{d:List (Nat×Nat×Nat)} {s:Nat} {c:List (List Nat)},Rn X s c d->A≠[]->A.Pairwise X.le->Rn X s (c++[A]) (d++[(s+Ps c.flatten,Ps A,w)])
 |[],s,[],h,a,u=>⟨rfl,rfl,a,u,trivial⟩
 |[],s,A::c,h,a,u=>h.elim
 |p::d,s,[],h,a,u=>h.elim
 |p::d,s,B::c,h,a,u=>⟨h.1,h.2.1,h.2.2.1,h.2.2.2.1,by simpa[xJ] using Rn.push (w:=w) h.2.2.2.2 a u⟩
def QN{Q:Unit->rR->Prop}(S:Rp X #[] L st)(h: ∀E b L,Rp X b L E->L.Pairwise X.le->Q () E):wp X sortRuns' Q st:=by
 have I:(fj st).size=X.N:=by rw[S.a];simpa using S.p.length_eq
 have w: ∀{b L st},Rp X b L st->Ps L=X.N:=λS=>by simpa using S.p.length_eq
 rw[sortRuns'_eq];refine oQ ?_;rw[I];dsimp only;refine mz (λi c s=> ∃b,∃g:List (List Nat),∃R,c=(Op,Ps g.flatten)/\Rp X b (g.flatten++R) s/\Rn X 0 g b.toList/\i<=Ps g.flatten) (λc s=>c.1=Op/\ ∃b g,Rp X b g.flatten s/\Rn X 0 g b.toList) ⟨#[],[],L,rfl,S,trivial,lN _⟩ ?_ ?_ ?_
 .rintro i c s t ⟨b,g,R,rfl,S,d,o⟩;have r:=w S;dsimp only;refine js (λe=>?_) λe=>?_
  .obtain rfl:R=[]:=zV (by simp at r e;omega);exact iM ⟨rfl,b,g,by simpa using S,d⟩
  obtain⟨x,R,rfl⟩:=se (l:=R) (by simp at r e;omega);refine kz<|MW S O9 (by simp at r ⊢;omega) λA R s S a1 u M=>?_;apply MV λn s=> ∃A R,n=Ps A/\Rp X b (g.flatten++(A++R)) s/\A≠[]/\A.Pairwise X.le
  .intro F;have T:=MP.mpr a1;refine js (λe=>?_) λe=>?_
   .refine tR (kz<|Uy S O9 O9 T (by simp at r;omega) (by omega) u λA R s S o u=>js (λc=>by simp at c) λ_=>?_);generalize J:min (X.N-Ps g.flatten) (minRun' X.N X.N 0)=n at o ⊢;exact F n s ⟨A,R,o.symm,S,by intro z;subst z;simp at o e;omega,u⟩
   .exact F (Ps A) s ⟨A,R,rfl,S,a1,u⟩
  rintro _ s ⟨A,R,rfl,S,a1,u⟩;refine oQ ?_;apply Tn λs=> ∃b m,Rp X b (m.flatten++(A++R)) s/\Rn X 0 m b.toList/\(Ps m.flatten)=Ps g.flatten
  .intro F;rw[S.q]
   cases b.back? with
   |none=>exact F s ⟨b,g,S,d,rfl⟩
   |some z=>
    refine mz (λ_ c s=>c=(Op,())/\ ∃b m,Rp X b (m.flatten++(A++R)) s/\Rn X 0 m b.toList/\(Ps m.flatten)=Ps g.flatten) (λc s=>c=(Op,())/\ ∃b m,Rp X b (m.flatten++(A++R)) s/\Rn X 0 m b.toList/\(Ps m.flatten)=Ps g.flatten) ⟨rfl,b,g,S,d,rfl⟩ ?_ (λ_ _ h=>h) ?_
    .rintro j c s _ ⟨rfl,b,m,S,d,o⟩;refine oQ ?_;rw[S.q]
     cases H:(if b.size>1 then b[b.size-2]? else Op) with
     |none=>exact iM ⟨rfl,b,m,S,d,o⟩
     |some z=>
      refine js (λ_=>iM ⟨rfl,b,m,S,d,o⟩) λ_=>kz<|Tj S d ?_ λs v y S d _ O=>js (λc=>by simp at c) λ_=>iM ⟨rfl,v,y,S,d,O.trans o⟩;split at H
      .omega
      .cases H
    .rintro c s ⟨rfl,b,m,S,d,o⟩;exact vI<|F _ ⟨_,m,⟨S.a,S.k,S.f,rfl,S.p⟩,by rw[S.q,Array.toList_modify];exact d.mod _,o⟩
  .rintro s ⟨b,m,S,d,o⟩;refine vI<|iM ⟨_,m++[A],R,?_,⟨by simpa using S.a,S.k,S.f,rfl,by simpa using S.p⟩,?_,?_⟩
   .rw[List.flatten_append,lP,o];simp
   .rw[S.q,eS,<-o,<-vB (Ps m.flatten)];exact d.push a1 u
   .have:=MP.mpr a1;simp at*;omega
 .rintro c s ⟨b,g,R,rfl,S,d,o⟩;have r:=w S;obtain rfl:R=[]:=zV (by simp at r o;omega);exact⟨rfl,b,g,by simpa using S,d⟩
 .rintro⟨_,c⟩ s ⟨rfl,b,g,S,d⟩;have r:=w S;have G:=d.le;refine mz (λi c s=>c=(Op,())/\ ∃b g,Rp X b g.flatten s/\Rn X 0 g b.toList/\(b.size<=1\/b.size+i<=X.N)) (λc s=>c=(Op,())/\ ∃b g,Rp X b g.flatten s/\Rn X 0 g b.toList/\b.size<=1) ⟨rfl,b,g,S,d,.inr<|by rw[kE] at G;omega⟩ ?_ ?_ ?_
  .rintro i c s _ ⟨rfl,b,g,S,d,t⟩;refine oQ ?_;rw[S.q];refine js (λe=>iM ⟨rfl,b,g,S,d,e⟩) λe=>kz<|Tj (R:=[]) (by simpa using S) d ((λc:Bool=>show(if c=O0 then b.size-2-1 else b.size-2)+1<b.size by split<;>omega) _) λs v y S d I _=>js (λc=>by simp at c) λ_=>iM ⟨rfl,v,y,by simpa using S,d,.inr<|by omega⟩
  .rintro c s ⟨rfl,b,g,S,d,t⟩;exact⟨rfl,b,g,S,d,by omega⟩
  .rintro c s ⟨rfl,b,g,S,d,t⟩;refine iM<|h s b _ S ?_;obtain⟨C'⟩:=b
   match C',g,d,t with
   |[],[],_,_=>exact .nil
   |[p],[A],d,_=>simpa using d.2.2.2.1
   |p::[],A::B::g,d,_=>exact d.2.2.2.2.elim
   |[],A::g,d,_=>exact d.elim
   |p::C',[],d,_=>exact d.elim
   |p::U::C',g,d,t=>simp at t
end
end TS
namespace PX
open L2 PySem.SeqAt
open PySem.AutoSeq1 (wpAny_loadPart')
open PySem.MeetsSeq PySem.MeetsSeq2 PySem.MeetsSeq3
noncomputable def kP(op:cH)(i j:Int):Bool:=match op with
 | .Lt=>decide (i<j)| .LtE=>decide (i<=j)| .Gt=>decide (i>j)|_=>decide<|i>=j
def wW(op:cH):Prop:=op= .Lt\/op= .LtE\/op= .Gt\/op= .GtE
def Th(op:cH)(A:jf)(s:iI)(y x:iO)(b:Bool):Prop:= ∀(a:jd) (w:iW) (E:jw) (Q:jw),Q (.bool b) s->ah (ai a w) A (richCompare op y x) Q E s
def BJ(op:cH)(A:jf)(s:iI)(fin:Bool):List (iO×iO)->Bool->Prop
 |[],r=>r=fin
 |(y,x)::jG,r=> ∃e,EqAt A s y x e/\(if e=J then BJ op A s fin jG r else Th op A s y x r)
def M5(l b:iB)(a i:mY)(n v:Nat)(dd U:Option iB)(B z:uC)(r:Bool):
  hD (bn.«tuple.__lt__» ⟨[.ref l,.ref b],[]⟩) (λA R s=>s.heap.get? l=C {cls:= .type "tuple",dict:=dd,data:= .seq a n,slots:=B}/\s.heap.get? b=C {cls:= .type "tuple",dict:=U,data:= .seq i v,slots:=z}/\
   BJ .Lt A.in1 s (kP .Lt a.size i.size) (a.toList.zip i.toList) r/\R (.ok<|.ret<|.bool r) s):=
 .of_wp λf w A R s h=>by
  obtain⟨m,g,d,o,os⟩:=s;obtain⟨u,q,c,h⟩:=h;have f2:=Dw
  wp_walk using aY u,aY q,Dv _ (λjG b k=>b.1=I/\k=⟨m,g,d,o,os⟩/\BJ .Lt A.in1 ⟨m,g,d,o,os⟩ (kP .Lt a.size i.size) jG r) _
  case turn=>
   rintro⟨y,x⟩ jG b k ⟨j,rfl,e,t,c⟩;refine iF<|t f w _ _ ?_
   cases e with
   |true=>
    simp only[ky] at c
    wp_walk
    exact⟨rfl,rfl,c⟩
   |false=>
    simp only[kT,kI] at c;have p:=c f w
    wp_walk using p
    exact⟨_,rfl,by simpa using h⟩
  case fin=>
   rintro⟨b1,E⟩ k ⟨j,rfl,c⟩;simp only at j;subst j;have c:r=kP .Lt a.size i.size:=c;rw[c] at h
   wp_walk
   exact⟨_,rfl,by simpa[bD,kP] using h⟩
  case h=>exact⟨rfl,rfl,c⟩
def M6(l b:iB)(a i:mY)(n v:Nat)(dd U:Option iB)(B z:uC)(r:Bool):
  hD (bn.«tuple.__le__» ⟨[.ref l,.ref b],[]⟩) (λA R s=>s.heap.get? l=C {cls:= .type "tuple",dict:=dd,data:= .seq a n,slots:=B}/\s.heap.get? b=C {cls:= .type "tuple",dict:=U,data:= .seq i v,slots:=z}/\
   BJ .LtE A.in1 s (kP .LtE a.size i.size) (a.toList.zip i.toList) r/\R (.ok<|.ret<|.bool r) s):=
 .of_wp λf w A R s h=>by
  obtain⟨m,g,d,o,os⟩:=s;obtain⟨u,q,c,h⟩:=h;have f2:=Dw
  wp_walk using aY u,aY q,Dv _ (λjG b k=>b.1=I/\k=⟨m,g,d,o,os⟩/\BJ .LtE A.in1 ⟨m,g,d,o,os⟩ (kP .LtE a.size i.size) jG r) _
  case turn=>
   rintro⟨y,x⟩ jG b k ⟨j,rfl,e,t,c⟩;refine iF<|t f w _ _ ?_
   cases e with
   |true=>
    simp only[ky] at c
    wp_walk
    exact⟨rfl,rfl,c⟩
   |false=>
    simp only[kT,kI] at c;have p:=c f w
    wp_walk using p
    exact⟨_,rfl,by simpa using h⟩
  case fin=>
   rintro⟨b1,E⟩ k ⟨j,rfl,c⟩;simp only at j;subst j;have c:r=kP .LtE a.size i.size:=c;rw[c] at h
   wp_walk
   exact⟨_,rfl,by simpa[bD,kP] using h⟩
  case h=>exact⟨rfl,rfl,c⟩
def M7(l b:iB)(a i:mY)(n v:Nat)(dd U:Option iB)(B z:uC)(r:Bool):
  hD (bn.«tuple.__gt__» ⟨[.ref l,.ref b],[]⟩) (λA R s=>s.heap.get? l=C {cls:= .type "tuple",dict:=dd,data:= .seq a n,slots:=B}/\s.heap.get? b=C {cls:= .type "tuple",dict:=U,data:= .seq i v,slots:=z}/\
   BJ .Gt A.in1 s (kP .Gt a.size i.size) (a.toList.zip i.toList) r/\R (.ok<|.ret<|.bool r) s):=
 .of_wp λf w A R s h=>by
  obtain⟨m,g,d,o,os⟩:=s;obtain⟨u,q,c,h⟩:=h;have f2:=Dw
  wp_walk using aY u,aY q,Dv _ (λjG b k=>b.1=I/\k=⟨m,g,d,o,os⟩/\BJ .Gt A.in1 ⟨m,g,d,o,os⟩ (kP .Gt a.size i.size) jG r) _
  case turn=>
   rintro⟨y,x⟩ jG b k ⟨j,rfl,e,t,c⟩;refine iF<|t f w _ _ ?_
   cases e with
   |true=>
    simp only[ky] at c
    wp_walk
    exact⟨rfl,rfl,c⟩
   |false=>
    simp only[kT,kI] at c;have p:=c f w
    wp_walk using p
    exact⟨_,rfl,by simpa using h⟩
  case fin=>
   rintro⟨b1,E⟩ k ⟨j,rfl,c⟩;simp only at j;subst j;have c:r=kP .Gt a.size i.size:=c;rw[c] at h
   wp_walk
   exact⟨_,rfl,by simpa[bD,kP] using h⟩
  case h=>exact⟨rfl,rfl,c⟩
def M8(l b:iB)(a i:mY)(n v:Nat)(dd U:Option iB)(B z:uC)(r:Bool):
  hD (bn.«tuple.__ge__» ⟨[.ref l,.ref b],[]⟩) (λA R s=>s.heap.get? l=C {cls:= .type "tuple",dict:=dd,data:= .seq a n,slots:=B}/\s.heap.get? b=C {cls:= .type "tuple",dict:=U,data:= .seq i v,slots:=z}/\
   BJ .GtE A.in1 s (kP .GtE a.size i.size) (a.toList.zip i.toList) r/\R (.ok<|.ret<|.bool r) s):=
 .of_wp λf w A R s h=>by
  obtain⟨m,g,d,o,os⟩:=s;obtain⟨u,q,c,h⟩:=h;have f2:=Dw
  wp_walk using aY u,aY q,Dv _ (λjG b k=>b.1=I/\k=⟨m,g,d,o,os⟩/\BJ .GtE A.in1 ⟨m,g,d,o,os⟩ (kP .GtE a.size i.size) jG r) _
  case turn=>
   rintro⟨y,x⟩ jG b k ⟨j,rfl,e,t,c⟩;refine iF<|t f w _ _ ?_
   cases e with
   |true=>
    simp only[ky] at c
    wp_walk
    exact⟨rfl,rfl,c⟩
   |false=>
    simp only[kT,kI] at c;have p:=c f w
    wp_walk using p
    exact⟨_,rfl,by simpa using h⟩
  case fin=>
   rintro⟨b1,E⟩ k ⟨j,rfl,c⟩;simp only at j;subst j;have c:r=kP .GtE a.size i.size:=c;rw[c] at h
   wp_walk
   exact⟨_,rfl,by simpa[bD,kP] using h⟩
  case h=>exact⟨rfl,rfl,c⟩
section
variable {A:jf}{s:iI}{l b:iB}{a c:mY}{r:Bool}
def Nx(B:wW op)(z:s.heap.IsTuple l a)(y:s.heap.IsTuple b c)(g:A.units<bi)(i:BJ op A.in1 s (kP op a.size c.size) (a.toList.zip c.toList) r):Th op A s (.ref l) (.ref b) r:=λt w E Q h=>by
 obtain⟨⟨v,dd,p,m⟩,d,q,n,hd⟩:=id z;obtain⟨⟨U,o,data2,k⟩,e,u,j,f⟩:=id y;simp only at q hd u f;subst q hd u f;rcases B with rfl|rfl|rfl|rfl
 .exact Du (op:= .Lt) ⟨_,d,rfl⟩ ⟨_,e,rfl⟩ PySem.F.slot_tuple_lt PySem.F.entry_tuple_lt (PySem.F.args_tuple_lt_2 _ _) (M5 l b a c n j dd o m k r) ⟨d,e,i,show cK r≠cW/\Q (.bool r) s from⟨(λx=>nomatch x),h⟩⟩ g
 .exact Du (op:= .LtE) ⟨_,d,rfl⟩ ⟨_,e,rfl⟩ PySem.F.slot_tuple_le PySem.F.entry_tuple_le (PySem.F.args_tuple_le_2 _ _) (M6 l b a c n j dd o m k r) ⟨d,e,i,show cK r≠cW/\Q (.bool r) s from⟨(λx=>nomatch x),h⟩⟩ g
 .exact Du (op:= .Gt) ⟨_,d,rfl⟩ ⟨_,e,rfl⟩ PySem.F.slot_tuple_gt PySem.F.entry_tuple_gt (PySem.F.args_tuple_gt_2 _ _) (M7 l b a c n j dd o m k r) ⟨d,e,i,show cK r≠cW/\Q (.bool r) s from⟨(λx=>nomatch x),h⟩⟩ g
 .exact Du (op:= .GtE) ⟨_,d,rfl⟩ ⟨_,e,rfl⟩ PySem.F.slot_tuple_ge PySem.F.entry_tuple_ge (PySem.F.args_tuple_ge_2 _ _) (M8 l b a c n j dd o m k r) ⟨d,e,i,show cK r≠cW/\Q (.bool r) s from⟨(λx=>nomatch x),h⟩⟩ g
end
mutual
noncomputable def nv(a:cH):D->D->Option Bool
 | .int i,.int j=>C<|kP a i j
 | .tup l,.tup m=>rq a l m
 |_,_=>I
noncomputable def rq(a:cH):List D->List D->Option Bool
 |[],m=>C<|kP a 0<|Ps m
 |x::l,[]=>C<|kP a ((x::l).length) 0
 |x::l,y::m=>if D.eqb x y=J then rq a l m else nv a x y
end
def rd(c:cH)(a b k:Int):kP c (a+k) (b+k)=kP c a b:=by
 cases c<;>simp[kP]
section
variable {X:Cx}{c:jr}{f:L2.St}{H:Hp}{s:iI}
def Fn(b:wW op):Th op A s (.int i t) (.int j u) (kP op i j):=λa w E Q h=>by
 rcases b with rfl|rfl|rfl|rfl
 .exact(u8 h:ah (ai a w) A (aw .Lt _ _) Q E s)
 .exact(u9 h:ah (ai a w) A (aw .LtE _ _) Q E s)
 .exact(vl h:ah (ai a w) A (aw .Gt _ _) Q E s)
 .exact(vr h:ah (ai a w) A (aw .GtE _ _) Q E s)
def Ny(N:wW op)(I:Inv X c f H s): ∀(n:Nat) (d e:D) (v u:V) (a b:iO) (O B:AP') (A:jf) (r:Bool),kM X.K H O d v->kM X.K H B e u->RelV v a->RelV u b->d.dep<=n->e.dep<20000->A.units+n<bi->nv op d e=N2 r->Th op A s a b r:=by
 intro n
 induction n with
 |zero=>
  intro d e v u a b O B A r hd T G J M W hA g
  cases d with
  |int i=>
   cases e with
   |int j=>have:=jq hd;subst this;have:=jq T;subst this;obtain⟨t,rfl⟩:=G;obtain⟨t',rfl⟩:=J;rw[nv] at g;rw[<-kN g];exact Fn N
   |_=>rw[nv] at g<;>first|cases g|(intros;simp_all)
  |tup l=>rw[D.dep] at M;lia
  |_=>rw[nv] at g<;>first|cases g|(intros;simp_all)
 |succ n ih=>
  intro d e v u a b O B A r hd T G J M W hA g
  cases d with
  |int i=>
   cases e with
   |int j=>have:=jq hd;subst this;have:=jq T;subst this;obtain⟨t,rfl⟩:=G;obtain⟨t',rfl⟩:=J;rw[nv] at g;rw[<-kN g];exact Fn N
   |_=>rw[nv] at g<;>first|cases g|(intros;simp_all)
  |tup l=>
   cases e with
   |tup m=>
    rw[nv] at g;rw[D.dep] at M W;obtain⟨p,E,rfl,q,z⟩:=lY hd;obtain⟨p2,L,rfl,q2,o⟩:=lY T;cases G;cases J;obtain⟨h,Q,pl,_⟩:=I.tuple q;obtain⟨w,C,h9,_⟩:=I.tuple q2;have S:A.in1.units=A.units+1:=rfl
    have Y: ∀(l m:List D) (E L:List V) (h w:jD) (k:Int),D.depL l+1<=n+1->D.depL m<20000->RepL X.K H O l E->RepL X.K H B m L->Vals E h->Vals L w->rq op l m=N2 r->BJ op A.in1 s (kP op (h.length+k)<|w.length+k) (h.zip w) r:=by
     intro l
     induction l with
     |nil=>
      intro m E L h w k F P z o Q C g;rw[RepL] at z;subst z;cases Q;rw[rq] at g;have e1:=o.length;have e2:=C.length;show r=_;rw[rd,<-kN g]
      congr 1
      lia
     |cons x l U=>
      intro m E L h w k F P z o Q C g;rw[RepL] at z;obtain⟨Z,xr,rfl,g1,g2⟩:=z
      cases Q with
      |cons a1 a2=>
       cases m with
       |nil=>
        rw[RepL] at o;subst o;cases C;rw[rq] at g;have e1:=g2.length;have e2:=a2.length;rw[hW];show r=_;rw[rd,<-kN g]
        congr 1
        simp only[mw];lia
       |cons y m=>
        rw[RepL] at o;obtain⟨vy,yr,rfl,g3,g4⟩:=o
        cases C with
        |cons b1 b2=>
         rw[rq] at g;rw[D.depL] at F P;rw[qO];refine⟨D.eqb x y,EE I n x y Z vy _ _ O B A.in1 (.inl g1) (.inl g3) a1 b1 (by lia) (by lia) (by rw[S];lia),?_⟩
         cases R:D.eqb x y with
         |true=>
          rw[R,iT O9] at g;rw[iT O9];have:=U m xr yr _ _ (k+1) (by lia) (by lia) g2 g4 a2 b2 g;simp only[mw];have e: ∀a:Nat,(((a+1:Nat):Int)+k)=(a:Int)+(k+1):=λa=>by lia
          rw[e,e];exact this
         |false=>rw[R,je kU] at g;rw[je kU];exact ih x y Z vy _ _ O B A.in1 r (.inl g1) (.inl g3) a1 b1 (by lia) (by lia) (by rw[S];lia) g
    have:=Y l m E L h w 0 (by lia) (by lia) z o Q C g;refine Nx N pl h9 (by lia) ?_;simpa using this
   |_=>rw[nv] at g<;>first|cases g|(intros;simp_all)
  |_=>rw[nv] at g<;>first|cases g|(intros;simp_all)
def ot(a:cH)(d e:D):Option (D×Bool):=if d.dep<=50/\e.dep<=50 then(nv a d e).map λb=>(.bl b,Y) else I
def qV(b:wW op)(l:X.A.units+60<bi):OpR X (aw op) (rD X.K<|ot op):=by
 intro c s f H x y v u Q U j k h;obtain⟨O,d,e,z,np,h1,g,a,G⟩:=h;unfold ot at a;split at a
 .rename_i hd;obtain⟨r,i,rfl⟩:=ju a;have:=Ny b U 50 d e x y v u O O X.A r h1 g j k hd.1 (by lia) (by lia) i X.prog X.w X.xe (EP X c f Q) ⟨.bl r,H,U,rfl,G.bl⟩;rcases b with rfl|rfl|rfl|rfl<;>exact this
 .cases a
end
open TS
section
variable {b:jd}{w:iW}{A:jf}{E:jw}{s:iI}
noncomputable def pR(h:ja)(a:iB)(c:jD):Heap:=((h.update a<|aG λ_=> #[]).push<|bh "tuple" c.toArray 0).push<|bh "list" #[] 0
noncomputable def Pe(a:jD)(i:Nat):Keyed:=(a.getD i au,a.getD i au)
def uZ{a:iB}{c:jD}{n:Nat}{P:u3->Shared->Prop}{κ:mj}{lt:Nat->Nat->Bool}(t:s.heap.get? a=N2 (bh "list" c.toArray n))(B:(Ps c)<=sizeLine)(T: ∀i j,lt i j=O0->lt j i=O1)(N: ∀{i j k},lt j i=O1->lt k j=O1->lt k i=O1)
  (hk:2<=Ps c->ah (ai b w) A (keyKind' c.toArray) (λg d=>d={s with heap:=pR s.heap a c}/\g=κ) (λ_ _=>False) {s with heap:=pR s.heap a c})
  (ask:2<=Ps c->Ask (ai b w) A (λd=>d={s with heap:=pR s.heap a c}) (Pe c) κ (Ps c) lt)
  (h: ∀p:List Nat,p.Perm (aj<|Ps c)->p.Pairwise (λi j=>lt j i=O1)->P (.done<|.ret .none) {s with heap:=(pR s.heap a c).update a (aG λ_=>(p.map λi=>c.getD i au).toArray)}):
  ah (ai b w) A (bn.«list.sort» ⟨[.ref a],[]⟩) P E s:=by
 rw[list_sort_plain];have U:a<s.heap.objs.size:=ke t;refine iF<|GQ t O9<|iF<|vz t O9 ?_ (by rw[jx];exact B)<|lN _;obtain⟨v,C⟩: ∃v,(s.heap.update a<|aG λ_=>(#[]:Array iO)).get? a=N2 (bh "list" #[] v):=⟨_,xH t λ_=> #[]⟩
 refine iF<|zP C O9<|iF<|DD ?_ (by show (Ps c)<=_;exact B);refine iF<|Dt ?_<|lN _;refine nC ?_;have r:(pR s.heap a c).get? a=N2 (bh "list" #[] v):=kc _ (kc _ C);show ah (ai b w) A _ P E {s with heap:=pR s.heap a c};dsimp only;by_cases l:c.toArray.size<2
 .rw[iT l,iT l];refine iF<|iR ?_;rw[GY];refine iF<|iR ?_;dsimp only;refine iF<|zP r O9<|iF<|vz r O9 ?_ (lN _) ?_
  .simp only[uK,kT,kI];refine iR ?_;have u:(Ps c)<2:=by simpa using l
   have:=h (aj<|Ps c) (vw _) (by rw[Qs];intro i j m J Y;simp at m J;lia)
   have e:((c.toArray.zip c.toArray).map (·.2))=((aj<|Ps c).map λi=>c.getD i au).toArray:=by
    apply wl
    .simp
    .intro i h1 G;have m:i<(Ps c):=by simpa using h1
     simp[m]
   rw[e];exact this
  .rw[mN,mL];simp;lia
 .rw[je l,je l];have u:2<=(Ps c):=by simpa using l
  refine iF<|oE (hk u) (λg d z=>?_) λ_ _ x=>x.elim;obtain⟨rfl,rfl⟩:=z;refine iF (oE (QN (X:=⟨_,A,E,λd=>d={s with heap:=pR s.heap a c},Pe c,lt,g,Ps c,T,N,ask u⟩) (L:=aj<|Ps c) ⟨?_,rfl,rfl,rfl,.refl _⟩ (Q:=λ_ q=> ∃p,(fj q).map (·.2)=(p.map λi=>c.getD i au).toArray/\fO q=Op/\p.Perm (aj<|Ps c)/\p.Pairwise λi j=>lt j i=O1) (λq _ p R y=>⟨p,?_,R.f,R.p,y⟩) _ rfl) ?_ λ_ _ e=>e)
  .show c.toArray.zip c.toArray=_;apply wl
   .simp
   .intro i h1 G;have m:i<(Ps c):=by simpa using h1
    simp[Pe,m]
  .rw[R.a];simp[Pe]
  rintro⟨⟨⟩,q⟩ d ⟨rfl,H,o,O,I,y⟩;dsimp only;have M:(Ps H)=(Ps c):=by simpa using I.length_eq
  refine iF<|zP r O9<|iF<|vz r O9 ?_ (lN _) ?_
  .rw[O];simp only[uK,kT,kI];rw[o];exact iR<|h H I y
  .rw[o,jx,jF,M];lia
end
mutual
noncomputable def cT:D->D->Ordering
 | .int i,.int j=>if i<j then .lt else if i=j then .eq else .gt
 | .int _,_=> .lt
 | .tup _,.int _=> .gt
 | .tup l,.tup m=>cL l m
 | .tup _,_=> .lt
 |_,.int _=> .gt
 |_,.tup _=> .gt
 |_,_=> .eq
noncomputable def cL:List D->List D->Ordering
 |[],[]=> .eq
 |[],_::_=> .lt
 |_::_,[]=> .gt
 |x::l,y::m=>match cT x y with
  | .lt=> .lt
  | .gt=> .gt
  | .eq=>cL l m
end
mutual
theorem Km: ∀x:D,cT x x= .eq
 | .int i=>by simp[cT]
 | .tup l=>by rw[cT];exact Ko l
 | .non=>by simp[cT]
 | .bl _=>by simp[cT]
 | .str _=>by simp[cT]
 | .lst _=>by simp[cT]
 | .oth _ _ _=>by simp[cT]
theorem Ko: ∀l:List D,cL l l= .eq
 |[]=>by simp[cL]
 |x::l=>by rw[cL,Km x];exact Ko l
end
mutual
theorem zE: ∀x y:D,cT y x=(cT x y).swap
 | .int i,.int j=>by
  rw[cT,cT];by_cases h1:i<j
  .rw[iT h1,je<|by lia,je<|by lia];rfl
  .rw[je h1];by_cases a:i=j
   .rw[iT a,je<|by lia,iT a.symm];rfl
   .rw[je a,iT<|by lia];rfl
 | .tup l,.tup m=>by rw[cT,cT];exact Kn l m
 | .int _,.tup _=>by simp[cT]
 | .int _,.non=>by simp[cT]
 | .int _,.bl _=>by simp[cT]
 | .int _,.str _=>by simp[cT]
 | .int _,.lst _=>by simp[cT]
 | .int _,.oth _ _ _=>by simp[cT]
 | .tup _,.int _=>by simp[cT]
 | .tup _,.non=>by simp[cT]
 | .tup _,.bl _=>by simp[cT]
 | .tup _,.str _=>by simp[cT]
 | .tup _,.lst _=>by simp[cT]
 | .tup _,.oth _ _ _=>by simp[cT]
 | .non,y=>by cases y<;>simp[cT]
 | .bl _,y=>by cases y<;>simp[cT]
 | .str _,y=>by cases y<;>simp[cT]
 | .lst _,y=>by cases y<;>simp[cT]
 | .oth _ _ _,y=>by cases y<;>simp[cT]
theorem Kn: ∀l m:List D,cL m l=(cL l m).swap
 |[],[]=>by simp[cL]
 |[],_::_=>by simp[cL]
 |_::_,[]=>by simp[cL]
 |x::l,y::m=>by
  rw[cL,cL,zE x y];cases h:cT x y<;>simp[fw]
  exact Kn l m
end
def OQ(h1:cT x y≠ .gt)(a:cT y x≠ .gt):cT x y= .eq:=by
 rw[zE x y] at a
 cases h:cT x y with
 |lt=>rw[h] at a;exact absurd H a
 |eq=>rfl
 |gt=>exact absurd h h1
mutual
theorem xo: ∀x y z:D,cT x y≠ .gt->cT y z≠ .gt->cT x z≠ .gt
 | .int i,y,z,h1,d=>by
  cases z with
  |int k=>
   cases y with
   |int j=>
    rw[cT] at h1 d ⊢
    have a:i<=j:=by
     by_cases a:i<j
     .lia
     .rw[je a] at h1;by_cases b:i=j
      .lia
      .rw[je b] at h1;exact absurd H h1
    have b:j<=k:=by
     by_cases a:j<k
     .lia
     .rw[je a] at d;by_cases b:j=k
      .lia
      .rw[je b] at d;exact absurd H d
    by_cases c:i<k
    .rw[iT c];simp
    .rw[je c,iT<|by lia];simp
   |_=>simp[cT] at d
  |_=>simp[cT]
 | .tup l,y,z,h1,d=>by
  cases y with
  |int j=>simp[cT] at h1
  |tup m=>
   cases z with
   |int k=>simp[cT] at d
   |tup n=>rw[cT] at h1 d ⊢;exact Gq l m n h1 d
   |_=>simp[cT]
  |_=>cases z<;>simp_all [cT]
 | .non,y,z,h1,d=>by cases y<;>cases z<;>simp_all [cT]
 | .bl _,y,z,h1,d=>by cases y<;>cases z<;>simp_all [cT]
 | .str _,y,z,h1,d=>by cases y<;>cases z<;>simp_all [cT]
 | .lst _,y,z,h1,d=>by cases y<;>cases z<;>simp_all [cT]
 | .oth _ _ _,y,z,h1,d=>by cases y<;>cases z<;>simp_all [cT]
 termination_by x y z=>sizeOf x+sizeOf y+sizeOf z
theorem Gq: ∀l m n:List D,cL l m≠ .gt->cL m n≠ .gt->cL l n≠ .gt
 |[],m,n,_,_=>by cases n<;>simp[cL]
 |x::l,[],n,h1,_=>by simp[cL] at h1
 |x::l,y::m,[],_,a=>by simp[cL] at a
 |x::l,y::m,z::n,h1,a=>by
  have a1:cT x y≠ .gt:=λh=>by rw[cL,h] at h1;exact h1 H
  have c:cT y z≠ .gt:=λh=>by rw[cL,h] at a;exact a H
  have g:=xo x y z a1 c;rw[cL]
  cases b:cT x z with
  |lt=>simp
  |gt=>exact absurd b g
  |eq=>
   have f:cT z x≠ .gt:=by rw[zE x z,b];simp[fw]
   have d:cT x y= .eq:=OQ a1<|xo y z x c f;have e:cT y z= .eq:=OQ c<|xo z x y f a1;rw[cL,d] at h1;rw[cL,e] at a;exact Gq l m n h1 a
 termination_by l m n=>sizeOf l+sizeOf m+sizeOf n
end
noncomputable def ltT(x y:D):Bool:=cT x y== .lt
def YH:ltT x y=J↔cT x y= .lt:=by simp[ltT]
def CF:ltT x y=Y↔cT x y≠ .lt:=by simp[ltT]
def TL:ltT y x=Y↔cT x y≠ .gt:=by rw[CF,zE x y];cases cT x y<;>simp[fw]
def Zb(x y:D)(h:ltT x y=J):ltT y x=Y:=by rw[TL,YH.mp h];simp
def XN(h1:ltT y x=Y)(a:ltT z y=Y):ltT z x=Y:=TL.mpr<|xo _ _ _ (TL.mp h1) (TL.mp a)
mutual
/-- ints,and tuples of such -/
noncomputable def D.pr:D->Bool
 | .int _=>J
 | .tup l=>D.prL l
 |_=>Y
noncomputable def D.prL:List D->Bool
 |[]=>J
 |x::l=>D.pr x&&D.prL l
end
mutual
theorem IH: ∀x y:D,D.pr x=J->D.pr y=J->D.eqb x y=(cT x y== .eq)
 | .int i,.int j,_,_=>by
  rw[D.eqb,cT];by_cases h:i=j
  .subst h;simp
  .rw[je h];by_cases a:i<j<;>simp[h,a]
 | .int _,.tup _,_,_=>by simp[D.eqb,cT]
 | .tup _,.int _,_,_=>by simp[D.eqb,cT]
 | .tup l,.tup m,h1,a=>by rw[D.eqb,cT];rw[D.pr] at h1 a;exact Kd l m h1 a
 | .non,_,h,_=>by simp[D.pr] at h
 | .bl _,_,h,_=>by simp[D.pr] at h
 | .str _,_,h,_=>by simp[D.pr] at h
 | .lst _,_,h,_=>by simp[D.pr] at h
 | .oth _ _ _,_,h,_=>by simp[D.pr] at h
 |_,.non,_,h=>by simp[D.pr] at h
 |_,.bl _,_,h=>by simp[D.pr] at h
 |_,.str _,_,h=>by simp[D.pr] at h
 |_,.lst _,_,h=>by simp[D.pr] at h
 |_,.oth _ _ _,_,h=>by simp[D.pr] at h
theorem Kd: ∀l m:List D,D.prL l=J->D.prL m=J->D.eqbL l m=(cL l m== .eq)
 |[],[],_,_=>by simp[D.eqbL,cL]
 |[],_::_,_,_=>by simp[D.eqbL,cL]
 |_::_,[],_,_=>by simp[D.eqbL,cL]
 |x::l,y::m,h1,a=>by rw[D.prL,lE] at h1 a;rw[D.eqbL,cL,IH x y h1.1 a.1,Kd l m h1.2 a.2];cases cT x y<;>simp
end
mutual
theorem Bx: ∀x y:D,D.pr x=J->D.pr y=J->cT x y= .eq->x=y
 | .int i,.int j,_,_,h=>by
  rw[cT] at h;by_cases h1:i<j
  .rw[iT h1] at h;cases h
  .rw[je h1] at h;by_cases c:i=j
   .rw[c]
   .rw[je c] at h;cases h
 | .tup l,.tup m,a,b,h=>by rw[cT] at h;rw[D.pr] at a b;rw[Gr l m a b h]
 | .int _,.tup _,_,_,h=>by simp[cT] at h
 | .tup _,.int _,_,_,h=>by simp[cT] at h
 | .non,_,a,_,_=>by simp[D.pr] at a
 | .bl _,_,a,_,_=>by simp[D.pr] at a
 | .str _,_,a,_,_=>by simp[D.pr] at a
 | .lst _,_,a,_,_=>by simp[D.pr] at a
 | .oth _ _ _,_,a,_,_=>by simp[D.pr] at a
 |_,.non,_,a,_=>by simp[D.pr] at a
 |_,.bl _,_,a,_=>by simp[D.pr] at a
 |_,.str _,_,a,_=>by simp[D.pr] at a
 |_,.lst _,_,a,_=>by simp[D.pr] at a
 |_,.oth _ _ _,_,a,_=>by simp[D.pr] at a
theorem Gr: ∀l m:List D,D.prL l=J->D.prL m=J->cL l m= .eq->l=m
 |[],[],_,_,_=>rfl
 |[],_::_,_,_,h=>by simp[cL] at h
 |_::_,[],_,_,h=>by simp[cL] at h
 |x::l,y::m,a,b,h=>by
  rw[D.prL,lE] at a b;rw[cL] at h
  cases e:cT x y with
  |eq=>rw[e] at h;rw[Bx x y a.1 b.1 e,Gr l m a.2 b.2 h]
  |lt=>rw[e] at h;cases h
  |gt=>rw[e] at h;cases h
end
mutual
theorem EJ: ∀x y:D,D.pr x=J->D.pr y=J-> ∀b,nv .Lt x y=C b->b=ltT x y
 | .int i,.int j,_,_,b,h=>by
  rw[nv] at h;rw[<-kN h,ltT,cT,kP];by_cases h1:i<j
  .simp[h1]
  .rw[je h1];by_cases a:i=j<;>simp[h1,a]
 | .int _,.tup _,_,_,b,h=>by simp[nv] at h
 | .tup _,.int _,_,_,b,h=>by simp[nv] at h
 | .tup l,.tup m,h1,a,b,h=>by rw[nv] at h;rw[D.pr] at h1 a;rw[ltT,cT];exact Kj l m h1 a b h
 | .non,_,h,_,_,_=>by simp[D.pr] at h
 | .bl _,_,h,_,_,_=>by simp[D.pr] at h
 | .str _,_,h,_,_,_=>by simp[D.pr] at h
 | .lst _,_,h,_,_,_=>by simp[D.pr] at h
 |_,.non,_,h,_,_=>by simp[D.pr] at h
 |_,.bl _,_,h,_,_=>by simp[D.pr] at h
 |_,.str _,_,h,_,_=>by simp[D.pr] at h
 |_,.lst _,_,h,_,_=>by simp[D.pr] at h
theorem Kj: ∀l m:List D,D.prL l=J->D.prL m=J-> ∀b,rq .Lt l m=C b->b=(cL l m== .lt)
 |[],[],_,_,b,h=>by rw[rq] at h;rw[<-kN h];simp[kP,cL]
 |[],_::_,_,_,b,h=>by rw[rq] at h;rw[<-kN h];simp[kP,cL]<;>lia
 |_::_,[],_,_,b,h=>by rw[rq] at h;rw[<-kN h];simp[kP,cL]<;>lia
 |x::l,y::m,h1,a,b,h=>by
  rw[D.prL,lE] at h1 a;rw[rq,IH x y h1.1 a.1] at h;rw[cL]
  cases c:cT x y with
  |eq=>rw[c] at h;simp at h;exact Kj l m h1.2 a.2 b h
  |lt=>rw[c] at h;simp at h;have:=EJ x y h1.1 a.1 b h;rw[this,ltT,c]
  |gt=>rw[c] at h;simp at h;have:=EJ x y h1.1 a.1 b h;rw[this,ltT,c]
end
section
variable {a:Type}(lt:a->a->Bool)
noncomputable def Er(x:a):List a->List a
 |[]=>[x]
 |y::l=>if lt y x=J then y::Er x l else x::y::l
noncomputable def mF:List a->List a
 |[]=>[]
 |x::l=>Er lt x<|mF l
theorem uq(x:a): ∀l:List a,(Er lt x l).Perm (x::l)
 |[]=>vw _
 |y::l=>by
  rw[Er];split
  .exact((uq x l).cons y).trans (gK x y l)
  .exact vw _
theorem la: ∀l:List a,(mF lt l).Perm l
 |[]=>vw _
 |x::l=>(uq lt x _).trans<|(la l).cons x
end
def Pf{x:D}: ∀{l:List D},(l.Pairwise λx y=>ltT y x=Y)->(Er ltT x l).Pairwise λx y=>ltT y x=Y:=by
 intro d
 induction d with
 |nil=>intro _;exact Mr _ _
 |cons y l c=>
  intro h;have h:=BL.mp h;rw[Er]
  cases b:ltT y x with
  |true=>
   refine BL.mpr ⟨λz a=>?_,c h.2⟩;rcases lz.mp ((uq ltT x l).mem_iff.mp a) with rfl|a
   .exact Zb _ _ b
   .exact h.1 z a
  |false=>
   refine BL.mpr ⟨λz a=>?_,BL.mpr h⟩;rcases lz.mp a with rfl|a
   .exact b
   .exact XN b (h.1 z a)
theorem uf: ∀l:List D,(mF ltT l).Pairwise λx y=>ltT y x=Y
 |[]=>ce
 |x::l=>Pf<|uf l
def Nf{l m:List D}(h: ∀x∈m,D.pr x=J)(a:l.Perm m)(c:l.Pairwise λx y=>ltT y x=Y):l=mF ltT m:=
 I8 (λx y d e h1 b=>Bx x y (h x<|a.mem_iff.mp d) (h y<|(la ltT m).mem_iff.mp e)<|OQ (TL.mp h1)<|TL.mp b) c (uf m) (a.trans (la ltT m).symm)
def KC{a:List D}{p:jL}(pr: ∀x∈a,D.pr x=J)(d:p.Perm (aj<|Ps a))(f:p.Pairwise λi j=>ltT (a.getD j .non) (a.getD i .non)=Y):p.map (λi=>a.getD i .non)=mF ltT a:=by
 have e:(aj<|Ps a).map (λi=>a.getD i .non)=a:=by apply xP;intro i;by_cases c:i<Ps a<;>simp[c]
 have b:=d.map λi=>a.getD i .non;rw[e] at b;exact Nf pr b<|og.mpr f
noncomputable def lu:D->Option Nat
 | .int _=>C 0
 | .tup (.int _::_)=>C 1
 | .tup (.tup _::_)=>C 2
 |_=>I
noncomputable def J3:Nat->mj
 |0=>x6
 |1=>IN J
 |_=>IN Y
structure SortsBy(k:Nat)(l:List D):Prop where
 hd: ∀x∈l,lu x=N2 k
 pr: ∀x∈l,D.pr x=O0
 dp: ∀x∈l,x.dep<=50
 cm: ∀x∈l,∀y∈l,(nv .Lt x y).isSome=O0
def nH(l:List D):Bool:=Ps l<=1||match l with
 |[]=>J
 |x::_=>(lu x).isSome&&(l.all λy=>lu y==lu x&&D.pr y&&decide (y.dep<=50))&&l.all λy=>l.all λz=>(nv .Lt y z).isSome
def Cp(h:nH l=J):(Ps l)<=1\/ ∃k,SortsBy k l:=by
 unfold nH at h;rw[xG] at h;rcases h with h|h
 .left;simpa using h
 .right
  cases l with
  |nil=>exact⟨0,λx a=>absurd a lD,λx a=>absurd a lD,λx a=>absurd a lD,λx a=>absurd a lD⟩
  |cons x m=>simp only[lE,lU,rC] at h;obtain⟨⟨h1,c⟩,d⟩:=h;obtain⟨k,hk⟩:=LR.mp h1;refine⟨k,λy b=>?_,λy b=>(c y b).1.2,λy b=>(c y b).2,λy b z e=>d y b z e⟩;have:=(c y b).1.1;rw[hk] at this;simpa using this
section
variable {X:Cx}{d:jr}{f:L2.St}{H:Hp}{s:iI}
def uc(v:Vals xs a)(b:i<a.length):RelV (xs.getD i .non) (a.getD i au):=by
 have e:=v.length;have h:xs[i]?=C xs[i]:=jA (by omega);obtain⟨w,c,j⟩:=v.get h;have h1:xs.getD i .non=xs[i]:=by simp[show i<xs.length by omega]
 have g:a.getD i au=w:=by rw[jA b] at c;have:=kN c;simp[b,this]
 rw[h1,g];exact j
def ug(r:RepL X.K H O ds xs)(a:i<ds.length):Rep X.K H O (ds.getD i .non) (xs.getD i .non):=by
 have e:=r.length;have hd:ds[i]?=C ds[i]:=jA a;obtain⟨v,b,g⟩:=r.get hd;have h1:ds.getD i .non=ds[i]:=by simp[a]
 have c:xs.getD i .non=v:=by rw[jA<|by lia] at b;have:=kN b;simp[show i<xs.length by lia,this]
 rw[h1,c];exact g
def AY{ds:List D}{i:Nat}(a:i<Ps ds):ds.getD i .non∈ds:=by simp[a]
theorem F1(I:Inv X d f H s){A:jf}{b:Bool}{O z:AP'}(hA:A.units+60<bi){r:Bool}{Q:Bool->Shared->Prop}(n:Q r s): ∀(l m:List D) (u v:List V) (g o:jD) (k:Int) (i:Nat),D.depL l<=50->D.depL m<=50->
  ((b&&i==0)=J-> ∀x y l' m',l=x::l'->m=y::m'->(∃a,x= .int a)/\ ∃c,y= .int c)->RepL X.K H O l u->RepL X.K H z m v->Vals u g->Vals v o->rq .Lt l m=N2 r->
  ∀fin:Bool,fin=kP .Lt (g.length+k) (o.length+k)->PySem.W.KatLex X.prog X.w A b fin Q (g.zip o) i s
 |[],m,u,v,g,o,k,i,_,_,_,p,q,v1,v2,j,fin,hf=>by
  rw[RepL] at p;subst p;cases v1;rw[rq] at j;have N:=q.length;have U:=v2.length;show Q fin s;rw[hf,rd];rw[<-kN j] at n;have:kP .Lt ((([]:List iO).length:Nat):Int) (o.length:Int)=kP .Lt 0 (m.length:Int):=by congr 1;lia
  rw[this];exact n
 |x::l,[],u,v,g,o,k,i,_,_,_,p,q,v1,v2,j,fin,hf=>by
  rw[RepL] at q;subst q;cases v2;rw[rq] at j;have N:=p.length;have U:=v1.length;rw[hW];show Q fin s;rw[hf,rd];rw[<-kN j] at n;have:kP .Lt (g.length:Int) ((([]:List iO).length:Nat):Int)=kP .Lt (((x::l).length:Nat):Int) 0:=by congr 1;lia
  rw[this];exact n
 |x::l,y::m,u,v,g,o,k,i,G,J',hb,p,q,v1,v2,j,fin,hf=>by
  rw[RepL] at p q;obtain⟨E,F,rfl,g1,g2⟩:=p;obtain⟨L,P,rfl,g3,Y⟩:=q
  cases v1 with
  |cons a1 T=>
   cases v2 with
   |cons b1 M=>
    rw[rq] at j;rw[D.depL] at G J';rw[qO];refine PySem.W.kat_cons<|EE I 50 x y E L _ _ O z A (.inl g1) (.inl g3) a1 b1 (by lia) (by lia) (by lia) X.prog X.w _ _ ?_
    cases C:D.eqb x y with
    |true=>
     rw[C,iT O9] at j;refine PySem.W.kat_yes<|F1 I hA n l m F P _ _ (k+1) (i+1) (by lia) (by lia) (λh=>by simp at h) g2 Y T M j fin ?_;rw[hf];simp only[mw];have e: ∀a:Nat,(((a+1:Nat):Int)+k)=(a:Int)+(k+1):=λa=>by lia
     rw[e,e]
    |false=>
     rw[C,je kU] at j;refine PySem.W.kat_no ?_
     cases B:(b&&i==0) with
     |true=>obtain⟨⟨a,rfl⟩,c,rfl⟩:=hb B x y l m O9 O9;have:=g1.int;subst this;have:=g3.int;subst this;obtain⟨t,rfl⟩:=a1;obtain⟨R,rfl⟩:=b1;rw[nv] at j;rw[<-kN j] at n;exact oneLt_int n
     |false=>exact PySem.W.kat_one _ _ (Ny (.inl O9) I 50 x y E L _ _ O z A r (.inl g1) (.inl g3) a1 b1 (by lia) (by lia) (by lia) j X.prog X.w _ _ n)
def Za(I:Inv X d f H s){O:AP'}{u:List D}{N:List V}{e:jD}{A:jf}(hA:A.units+60<bi)(rr:RepL X.K H O u N)(v:Vals N e){k:Nat}(B:SortsBy k u):
  Ask (ai X.prog X.w) A (λT=>T=s) (Pe e) (J3 k) e.length (λi j=>ltT (u.getD i .non)<|u.getD j .non):=by
 intro i j hi hj T aa E';subst aa;have e1:=rr.length;have e2:=v.length;have J:u.getD i .non∈u:=AY (by lia);have M:u.getD j .non∈u:=AY (by lia);have ri:=ug rr (i:=i) (by lia);have rj:=ug rr (i:=j) (by lia);have vi:=uc v hi;have vj:=uc v hj;obtain⟨b,E⟩:=LR.mp<|B.cm _ J _ M;have l4:=EJ _ _ (B.pr _ J) (B.pr _ M) b E;have r:=B.hd _ J;have g:=B.hd _ M;have di:=B.dp _ J;have dj:=B.dp _ M;show ah _ _ (x9 (J3 k) (e.getD i au)<|e.getD j au) _ _ _;dsimp only;rw[<-l4];generalize u.getD i .non=x at*;generalize u.getD j .non=y at*;generalize N.getD i .non=vx at*;generalize N.getD j .non=vy at*;generalize e.getD i au=a at*;generalize e.getD j au=c at*
 have C: ∀(l m:List D) (G:Bool),x= .tup l->y= .tup m->(G=O0-> ∀x y Z m',l=x::Z->m=y::m'->(∃a,x= .int a)/\ ∃c,y= .int c)->ah (ai X.prog X.w) A (x9 (IN G) a c) (λU R=>R=T/\U=b) E' T:=λl m G F P hh=>by subst F P;obtain⟨p,us,rfl,q,r1⟩:=ri.tup;obtain⟨p2,ws,rfl,q2,r2⟩:=rj.tup;cases vi;cases vj;obtain⟨S,w1,⟨o,ho,hc,n,hd⟩,_⟩:=I.tuple q.sq;obtain⟨L,w2,⟨o2,t6,v7,n2,Y⟩,_⟩:=I.tuple q2.sq;rw[nv] at E;rw[D.dep] at di dj;refine PySem.W.kat_lt ho hd t6 Y ?_;have:=F1 I (b:=G) hA (Q:=λU R=>R=T/\U=b) ⟨rfl,rfl⟩ l m us ws S L 0 0 (by lia) (by lia) (λh=>hh<|by simpa using h) r1 r2 w1 w2 E (decide<|S.toArray.size<L.toArray.size) (by simp[kP]);simpa using this
 match k,r,g with
 |0,r,g=>
  cases x with
  |int ix=>
   cases y with
   |int iy=>have:=ri.int;subst this;have:=rj.int;subst this;obtain⟨t,rfl⟩:=vi;obtain⟨t',rfl⟩:=vj;rw[nv] at E;rw[<-kN E];show ah _ _ (x9 x6 _ _) _ _ _;rw[keyLt'_oneType];exact oneLt_int ⟨rfl,rfl⟩
   |tup m=>cases m with
    |nil=>simp[lu] at g
    |cons z m=>cases z<;>simp[lu] at g
   |_=>simp[lu] at g
  |tup m=>cases m with
   |nil=>simp[lu] at r
   |cons z m=>cases z<;>simp[lu] at r
  |_=>simp[lu] at r
 |1,r,g=>
  cases x with
  |tup l=>
   cases y with
   |tup m=>
    refine C l m O0 O9 O9 λ_ x y Z m' F P=>?_;subst F P;refine⟨?_,?_⟩
    .cases x with
     |int a=>exact⟨a,rfl⟩
     |_=>simp[lu] at r
    .cases y with
     |int a=>exact⟨a,rfl⟩
     |_=>simp[lu] at g
   |_=>simp[lu] at g
  |_=>simp[lu] at r
 |(n+2),r,g=>
  cases x with
  |tup l=>
   cases y with
   |tup m=>exact C l m O1 O9 O9 λh=>absurd h kU
   |_=>simp[lu] at g
  |_=>simp[lu] at r
end
open PySem.W
section
variable {X:Cx}{c:jr}{y:L2.St}{H:Hp}{s:iI}
def Gf(I:Inv X c y H s){O:AP'}{T:iO}(P:D->Prop)(k: ∀x v u,P x->Rep X.K H O x v->RelV v u->Looks (ai X.prog X.w) s.heap (ia u) T): ∀{ds:List D} {b:List V} {a:jD},RepL X.K H O ds b->Vals b a->
  (∀d∈ds,∃x l,d= .tup (x::l)/\P x)-> ∃fs,KatTups s.heap a fs/\(Ps fs)=Ps a/\ ∀f∈fs,Looks (ai X.prog X.w) s.heap (ia f) T:=by
 intro B
 induction B with
 |nil=>intro b a r v _;rw[RepL] at r;subst r;cases v;exact⟨[],KatTups.nil,rfl,λf t=>absurd t lD⟩
 |cons d ds A=>
  intro b a r v h;rw[RepL] at r;obtain⟨R,S,rfl,g1,g2⟩:=r
  cases v with
  |cons a1 j=>
   obtain⟨fs,C,E,L⟩:=A g2 j λd hd=>h d<|kj _ hd;obtain⟨x,l,rfl,Q⟩:=h d kg;obtain⟨p,F,rfl,q,i⟩:=g1.tup;cases a1;obtain⟨N,J,⟨o,z,m,n,hd⟩,_⟩:=I.tuple q.sq;rw[RepL] at i;obtain⟨G,W,rfl,g3,Y⟩:=i
   cases J with
   |cons b1 M=>
    rename_i f U;refine⟨f::fs,KatTups.cons z m hd (by simp) C,by simp[E],λg e=>?_⟩;rcases lz.mp e with rfl|e
    .exact k x G _ Q g3 b1
    .exact L g e
def VW(I:Inv X c y H s){O:AP'}{ds:List D}{J:List V}{b:jD}{A:jf}(f:RepL X.K H O ds J)(v:Vals J b){k:Nat}(B:SortsBy k ds)(M:2<=b.length):
  ah (ai X.prog X.w) A (keyKind' b.toArray) (λL s'=>s'=s/\L=J3 k) (λ_ _=>False) s:=by
 have P:=f.length;have R:=v.length
 match k,B with
 |0,B=>
  refine kas_kind (T:= .type "int") M (λu Y=>?_) O9 O9 ⟨rfl,rfl⟩;obtain⟨i,Q,e⟩:=GS Y;have G:=ug f (i:=i) (by lia);have E:=uc v Q;have hd:=B.hd _ (AY (ds:=ds) (i:=i)<|by lia);have:b.getD i au=u:=by simp[Q,e]
  rw[this] at E
  cases h:ds.getD i .non with
  |int a=>rw[h] at G;have:=G.int;rw[this] at E;obtain⟨t,rfl⟩:=E;exact Looks.of_pure O9
  |tup l=>
   rw[h] at hd
   cases l with
   |nil=>simp[lu] at hd
   |cons z m=>cases z<;>simp[lu] at hd
  |_=>rw[h] at hd;simp[lu] at hd
 |1,B=>
  obtain⟨fs,f1,f2,g⟩:=Gf I (T:= .type "int") (λx=> ∃a,x= .int a) (λx F u j C r=>by
   obtain⟨a,rfl⟩:=j;have:=C.int;subst this;obtain⟨t,rfl⟩:=r
   exact Looks.of_pure O9) f v λd hd=>by
    have:=B.hd d hd
    cases d with
    |tup l=>
     cases l with
     |nil=>simp[lu] at this
     |cons z m=>
      cases z with
      |int a=>exact⟨_,m,rfl,a,rfl⟩
      |_=>simp[lu] at this
    |_=>simp[lu] at this
  exact kat_kind f1 (by lia) g O9 ⟨rfl,rfl⟩
 |(n+2),B=>
  obtain⟨fs,f1,f2,g⟩:=Gf I (T:= .type "tuple") (λx=> ∃a,x= .tup a) (λx F u j C r=>by
   obtain⟨a,rfl⟩:=j;obtain⟨p,Z,rfl,q,W⟩:=C.tup;cases r;obtain⟨S,w1,⟨o,U,N,n,hd⟩,_⟩:=I.tuple q.sq;have:Looks (ai X.prog X.w) s.heap (ia<|.ref p) o.cls:=(Looks.ld U).andThen .now
   rw[N] at this;exact this) f v λd hd=>by
    have:=B.hd d hd
    cases d with
    |tup l=>
     cases l with
     |nil=>simp[lu] at this
     |cons z m=>
      cases z with
      |tup a=>exact⟨_,m,rfl,a,rfl⟩
      |_=>simp[lu] at this
    |_=>simp[lu] at this
  exact kat_kind f1 (by lia) g O9 ⟨rfl,rfl⟩
def kW(l:List D):Option (D×Bool):=if nH l=J/\(Ps l)<=sizeLine then C (.lst<|mF ltT l,J) else I
def zA(d:D):Option (D×Bool):=(pT d).bind kW
def M1{b:List V}{a:jD}(v:Vals b a): ∀(p:jL),(∀i∈p,i<Ps a)->Vals (p.map λi=>b.getD i .non) (p.map λi=>a.getD i au):=by
 intro f
 induction f with
 |nil=>intro _;exact .nil
 |cons i p e=>intro h;exact .cons (uc v<|h i kg)<|e λj d=>h j<|kj _ d
def Nt{O:AP'}{a:List D}{b:List V}(r:RepL X.K H O a b): ∀(p:jL),(∀i∈p,i<Ps a)->RepL X.K H O (p.map λi=>a.getD i .non) (p.map λi=>b.getD i .non):=by
 intro f
 induction f with
 |nil=>intro _;exact RepL.nil
 |cons i p e=>intro h;exact RepL.cons (ug r<|h i kg)<|e λj d=>h j<|kj _ d
def HK{b:List D}{n:Nat}(e:n=Ps b)(h1:(Ps b)<=1){p:jL}(a:p.Perm (aj n)):p.map (λi=>b.getD i .non)=mF ltT b:=by
 subst e
 match b,h1,a with
 |[],_,a=>
  have:p=[]:=by simpa using a.length_eq
  subst this;rfl
 |[d],_,a=>
  have e:(Ps p)=1:=by simpa using a.length_eq
  match p,e,a with
  |[i],_,a=>
   have:i=0:=by have:=a.mem_iff.mp<|zf.mpr O9;simpa using this
   subst this;rfl
def qm(hu:X.A.units+62<bi)(I:Inv X c y H s){O:AP'}{f:List D}{M:List V}{a:jD}{x:iO}{Q:VK}{z:D×Bool}(u:RepL X.K H O f M)(v:Vals M a)(hg:kW f=N2 z)(G:Gen X.K H O z Q)
  (hc: ∀(Y:List iO->Shared->Prop) (E':jw) (N:jf),N.handled=X.A.handled->(∀(h':ja) (d:Nat),(∀b o,s.heap.get? b=N2 o->h'.get? b=N2 o)->Y a {s with heap:=h',toks:=d})->ah (ai X.prog X.w) N (fE x) Y E' s):
  ah (ai X.prog X.w) X.A (call (.builtin "sorted") [x]) (EP X c y Q) X.xe s:=by
 unfold kW at hg;obtain⟨⟨L,hz⟩,rfl⟩:=jl hg;have r:=u.length;have e2:=v.length;refine Calls.call_function_entry N1 IP IR (args_sorted1 _) ?_;unfold bn.«sorted»;refine iF (m:=checkCount "sorted" 1 1 _)<|iR ?_;refine iF<|hc _ _ _ rfl λh1 d R=>?_;refine iF<|Dt ?_ (by lia);have t:(h1.push<|bh "list" a.toArray 0).get? h1.objs.size=N2 (bh "list" a.toArray 0):=kD _ rfl;have C:Inv X c y H {s with heap:=h1,toks:=d}:=I.kept R
 have keep: ∀b o,h1.get? b=N2 o->(pR (h1.push<|bh "list" a.toArray 0) h1.objs.size a).get? b=N2 o:=λb o l=>by have P:b≠h1.objs.size:=jM<|ke l;refine kc _ (kc _ ?_);rw[GP _ _ _ _ P];exact kc _ l
 have U:Inv X c y H {s with heap:=pR (h1.push<|bh "list" a.toArray 0) h1.objs.size a,toks:=d}:=C.kept keep;have Z: ∀i∈aj a.length,i<a.length:=λi q=>by simpa using q
 refine iF<|nC<|oB (s:={s with heap:=h1.push<|bh "list" a.toArray 0,toks:=d}) x0 ⟨_,t,rfl⟩ vu ?body<|args_list_sort _
 case body=>
  have fin: ∀p:List Nat,p.Perm (aj a.length)->p.map (λi=>f.getD i .non)=mF ltT f->EP X c y Q (.ref h1.objs.size) {s with heap:=(pR (h1.push<|bh "list" a.toArray 0) h1.objs.size a).update h1.objs.size<|aG λ_=>(p.map λi=>a.getD i au).toArray,toks:=d}:=λp e T=>by
   have F: ∀i∈p,i<a.length:=λi q=>by simpa using e.mem_iff.mp q
   have J: ∃n,(pR (h1.push<|bh "list" a.toArray 0) h1.objs.size a).get? h1.objs.size=N2 (bh "list" #[] n):=by
    obtain⟨r,S⟩: ∃r,((h1.push<|bh "list" a.toArray 0).update h1.objs.size<|aG λ_=>(#[]:Array iO)).get? h1.objs.size=N2 (bh "list" #[] r):=⟨_,xH t λ_=> #[]⟩
    exact⟨r,kc _ (kc _ S)⟩
   obtain⟨n,J⟩:=J;obtain⟨E,W⟩: ∃E,((pR (h1.push<|bh "list" a.toArray 0) h1.objs.size a).update h1.objs.size<|aG λ_=>(p.map λi=>a.getD i au).toArray).get? h1.objs.size=N2 (bh "list" (p.map λi=>a.getD i au).toArray E):=⟨_,xH J λ_=>(p.map λi=>a.getD i au).toArray⟩
   have g: ∀b o,h1.get? b=N2 o->((pR (h1.push<|bh "list" a.toArray 0) h1.objs.size a).update h1.objs.size<|aG λ_=>(p.map λi=>a.getD i au).toArray).get? b=N2 o:=λb o l=>by rw[GP _ _ _ _ (jM<|ke l)];exact keep b o l
   have pl:p.length=a.length:=by simpa using e.length_eq
   refine⟨.ref h1.objs.size,_,C.laid (t':=d) g (jW _) (show ObjOk X.prog X.w _ _ _ (.lst<|p.map λi=>M.getD i .non) from⟨by rw[jF];lia,_,E,M1 v p F,W⟩),rfl,?_⟩;refine G.lst C.fresh ?_;rw[<-T];exact Nt u p λi q=>by have:=F i q;lia
  rcases Cp L with hlen|⟨k,B⟩
  .refine uZ (κ:=general') (lt:=λ_ _=>O1) (s:={s with heap:=h1.push<|bh "list" a.toArray 0,toks:=d}) t (by lia) (λ_ _ _=>rfl) (λ_ _=>rfl) (λh=>by lia) (λh=>by lia) λp e _=>⟨_,rfl,iR ⟨_,rfl,fin p e ?_⟩⟩
   exact HK (by lia) hlen e
  .refine uZ (κ:=J3 k) (lt:=λi j=>ltT (f.getD i .non)<|f.getD j .non) (s:={s with heap:=h1.push<|bh "list" a.toArray 0,toks:=d}) t (by lia) (λ_ _=>Zb _ _) XN (λh=>VW U u v B h) (λ_=>Za (A:=X.A.in1.in1) U (by show X.A.units+1+1+60<bi;lia) u v B) λp e T=>⟨_,rfl,iR ⟨_,rfl,fin p e<|KC B.pr (by rw[show f.length=a.length by lia];exact e) T⟩⟩
def EL(j:X.A.units+62<bi):kR X (.builtin "sorted") (rDn X.K<|g1 zA):=nN λc s y H x u Q O d z N t np hd a G=>by
 obtain⟨l,g,a⟩:=iA a
 have M:l.length<=sizeLine:=by unfold kW at a;exact(jl a).1.2
 cases d with
 |lst m=>
  cases g;obtain⟨p,J,rfl,q,r⟩:=kO hd;cases t;obtain⟨i,v,T,_⟩:=N.list q;have E:=r.length;have L:=v.length;obtain⟨o,h,f,n,hd⟩:=T.isList;refine qm j N r v a G λU B w _ e=>GO p (.inl O9) h f hd (λb k=>by simpa using e b s.toks k) (by rw[jx];lia)
 |tup m=>
  cases g;obtain⟨p,J,rfl,q,r⟩:=lY hd;cases t;obtain⟨i,v,⟨o,h,f,n,hd⟩,_⟩:=N.tuple q;have E:=r.length;have L:=v.length;refine qm j N r v a G λU B w _ e=>GO p (.inr O9) h f hd (λb k=>by simpa using e b s.toks k) (by rw[jx];lia)
 |_=>cases g
def LK:aK "sorted"=C (.builtin "sorted"):=by decide+kernel
end
def qf:aK "isinstance"=C (.builtin "isinstance"):=by decide+kernel
structure Tx(mg:lp):Prop where
 n_len:mg "len"=Op
 n_abs:mg "abs"=Op
 n_int:mg "int"=Op
 n_tuple:mg "tuple"=Op
 n_list:mg "list"=Op
 n_range:mg "range"=Op
 n_isinstance:mg "isinstance"=Op
 n_bool:mg "bool"=Op
 n_max:mg "max"=Op
 n_min:mg "min"=Op
 n_all:mg "all"=Op
 n_any:mg "any"=Op
 n_sorted:mg "sorted"=Op
 n_enumerate:mg "enumerate"=Op
 n_zip:mg "zip"=Op
 n_set:mg "set"=Op
def Sw{P:jd}{w:iW}{K:jb}{g:lp}{base:ja}{f:iB}{d:mD}{i:ji}{k:Nat}:FnOk P w K g base CX0 k f d i (spF K λ_=>I) where
 len:=λj U Q E h=>by obtain⟨T,a,r,b,_,e,_⟩:=h;cases e
 run:=λA c s U a l j Q E _ _ _ _ h=>by obtain⟨T,a,r,b,_,e,_⟩:=h;cases e
def KQ{K:jb}{U:Hp}{O:AP'}: ∀a:List Int,RepL K U O (a.map .int) (a.map V.int):=by
 intro c
 induction c with
 |nil=>exact RepL.nil
 |cons n a b=>exact RepL.cons Rep.mkInt<|b
def nj(e d:cH)(a b c:FO):F:=λδ=>(a δ).bind λp=>(b p.2).bind λq=>match res q.2 p.1,res q.2 q.1 with
 |some (.int i),C (.int j)=>if kP e i j=J then(c q.2).bind λr=>match res r.2 r.1 with
   |some (.int k)=>C ((.bl<|kP d j k,Y),r.2)
   |_=>I
  else C ((.bl Y,Y),q.2)
 |_,_=>I
section
variable {X:Cx}{a b c:iK}{m l g:FO}{n:bB}{d f:cH}
def zv(h:wW d):OpR X (aw d) (rI0 λi j=> .bl (kP d i j)):=by
 rcases h with rfl|rfl|rfl|rfl
 .exact Yy
 .exact Yz
 .exact YA
 .exact YB
def C3(A:tF X.K (nj d f m l g) σ H' Q):HH (rI0 λi j=> .bl (kP d i j)) (rI0 λi j=> .bl (kP f i j)) (tO X.K m) (tO X.K l) (tO X.K g) σ H' Q:=by
 obtain⟨M,T,F,N,E,e,k⟩:=A;unfold nj at e;obtain⟨⟨x,p⟩,h1,e⟩:=iA e;obtain⟨⟨G,q⟩,y,e⟩:=iA e;refine⟨M,T,x,p,E,h1,λv U h=>⟨p,BH T x v,G,q,h.er E,y,λu Y o=>?_⟩⟩;have B:=Ops.cons E h<|Ops.cons (h.er E) o<|Ops.nil<|o.er<|h.er E;dsimp only at e;split at e
 .rename_i i j C I;have hv:=jq<|B.view (j:=0) H H C;have t:=jq<|B.view (j:=1) H H I;refine⟨i,j,hv,t,kP d i j,rfl,?_⟩;by_cases c:kP d i j=O0
  .rw[iT c] at e ⊢;obtain⟨⟨J,r⟩,z,e⟩:=iA e;dsimp only at e;split at e
   .rename_i O L;obtain⟨rfl,rfl⟩:=jc e;refine⟨q,_,J,r,o.er<|h.er E,z,λw D P3=>?_⟩;have s:=Ops.cons E h<|Ops.cons (h.er E) o<|Ops.cons (o.er<|h.er E) P3<|Ops.nil<|P3.er<|o.er<|h.er E;exact⟨j,O,t,jq<|s.view (j:=2) H H L,(s.done k).bl⟩
   .cases e
  .rw[je c] at e ⊢;obtain⟨rfl,rfl⟩:=jc e;exact(B.done k).bl
 .cases e
end
noncomputable def vIs(x:V)(c:Bool):Bool:=match x with
 | .bl b=>b==c
 |_=>Y
noncomputable def gIs:D->D->Option (D×Bool)
 | .bl b,.bl c=>C (.bl<|b==c,Y)
 |_,.bl _=>C (.bl Y,Y)
 | .non,.non=>C (.bl J,Y)
 |_,.non=>C (.bl Y,Y)
 |_,_=>I
def Iw:D->D->Option (D×Bool)
 | .bl b,.bl c=>C (.bl (!(b==c)),Y)
 |_,.bl _=>C (.bl J,Y)
 | .non,.non=>C (.bl Y,Y)
 |_,.non=>C (.bl J,Y)
 |_,_=>I
section
variable {X:Cx}
def Jj(a:RelV x v)(c:Bool):plainIs v (.bool c)=J/\(v== .bool c)=vIs x c:=by
 cases x<;>first
  |(cases a;exact⟨rfl,rfl⟩)
  |(obtain⟨t,rfl⟩:=a;exact⟨rfl,rfl⟩)
  |(rename_i b;cases a;refine⟨rfl,?_⟩;cases b<;>cases c<;>rfl)
def Oo:OpR X (aw .Is) (λx y T Q=> ∃c,y= .bl c/\Q (.bl<|vIs x c) T):=by intro a s f T x y v u Q U d e h;obtain⟨c,rfl,q⟩:=h;cases e;obtain⟨h1,b⟩:=Jj d c;exact wpAny_is_plain h1<|EB U q (by rw[b])
def Ct:OpR X (aw .IsNot) (λx y T Q=> ∃c,y= .bl c/\Q (.bl (!vIs x c)) T):=by intro a s f T x y v u Q U d e h;obtain⟨c,rfl,q⟩:=h;cases e;obtain⟨h1,b⟩:=Jj d c;exact wpAny_isNot_plain h1<|EB U q (by rw[b])
def sA{K U}(h:kM K U O (.bl b) v):v= .bl b:=h.elim (λh=>h.bl) λ⟨_,_,h⟩=>h.elim
def ql{K U}(h:kM K U O .non v):v= .non:=h.elim (λh=>h.non) λ⟨_,_,h⟩=>h.elim
def E9{K U}(h:kM K U O d v)(f: ∀b,d≠ .bl b)(c:Bool):vIs v c=Y:=by
 cases d with
 |bl b=>exact absurd H<|f b
 |non=>rw[ql h];rfl
 |int i=>rw[jq h];rfl
 |str x=>
   rcases h with h|⟨a,_,h⟩
   .rw[h.str];rfl
   .exact h.elim
 |tup l=>
   rcases h with h|⟨a,_,h⟩
   .rw[Rep] at h;obtain⟨a,e,rfl,_⟩:=h;rfl
   .exact h.elim
 |lst l=>
   rcases h with h|⟨a,rfl,h⟩
   .rw[Rep] at h;obtain⟨a,e,rfl,_⟩:=h;rfl
   .rfl
 |oth _ _ _=>
   rcases h with h|⟨a,rfl,h⟩
   .rw[Rep] at h;obtain⟨a,e,rfl,_⟩:=h;rfl
   .rfl
def yL{K U}(h:kM K U O d v)(e:d≠ .non):v≠ .non:=by
 cases d with
 |bl b=>rw[sA h];intro z;cases z
 |non=>exact absurd H e
 |int i=>rw[jq h];intro z;cases z
 |str x=>
   rcases h with h|⟨a,_,h⟩
   .rw[h.str];intro z;cases z
   .exact h.elim
 |tup l=>
   rcases h with h|⟨a,_,h⟩
   .rw[Rep] at h;obtain⟨a,c,rfl,_⟩:=h;intro z;cases z
   .exact h.elim
 |lst l=>
   rcases h with h|⟨a,rfl,h⟩
   .rw[Rep] at h;obtain⟨a,c,rfl,_⟩:=h;intro z;cases z
   .intro z;cases z
 |oth _ _ _=>
   rcases h with h|⟨a,rfl,h⟩
   .rw[Rep] at h;obtain⟨a,c,rfl,_⟩:=h;intro z;cases z
   .intro z;cases z
def Vy:OpR X (aw .Is) (rD X.K gIs):=by
 intro a s l T x y v u Q U j k h;obtain⟨O,d,e,z,np,h1,n,g,G⟩:=h
 cases e with
 |bl c=>
  have i:=sA n;by_cases f: ∃b,d= .bl b
  .obtain⟨b,rfl⟩:=f;cases g;refine Oo a s l T x y v u Q U j k ⟨c,i,?_⟩;rw[sA h1];exact G.bl
  .have o: ∀b,d≠ .bl b:=λb z=>f ⟨b,z⟩;have m:z=(.bl Y,Y):=by cases d<;>first|exact absurd H (o _)|(cases g;rfl)
   subst m;refine Oo a s l T x y v u Q U j k ⟨c,i,?_⟩;rw[E9 h1 o c];exact G.bl
 |non=>
  have i:=ql n;by_cases f:d= .non
  .subst f;cases g;refine Om a s l T x y v u Q U j k ⟨i,?_⟩;rw[ql h1];exact G.bl
  .have m:z=(.bl Y,Y):=by cases d<;>first|exact absurd H f|(cases g;rfl)
   subst m;refine Om a s l T x y v u Q U j k ⟨i,?_⟩;rw[mZ<|yL h1 f];exact G.bl
 |_=>cases d<;>cases g
def K8:OpR X (aw .IsNot) (rD X.K Iw):=by
 intro a s l T x y v u Q U j k h;obtain⟨O,d,e,z,np,h1,n,g,G⟩:=h
 cases e with
 |bl c=>
  have i:=sA n;by_cases f: ∃b,d= .bl b
  .obtain⟨b,rfl⟩:=f;cases g;refine Ct a s l T x y v u Q U j k ⟨c,i,?_⟩;rw[sA h1];exact G.bl
  .have o: ∀b,d≠ .bl b:=λb z=>f ⟨b,z⟩;have m:z=(.bl J,Y):=by cases d<;>first|exact absurd H (o _)|(cases g;rfl)
   subst m;refine Ct a s l T x y v u Q U j k ⟨c,i,?_⟩;rw[E9 h1 o c];exact G.bl
 |non=>
  have i:=ql n;by_cases f:d= .non
  .subst f;cases g;refine JN a s l T x y v u Q U j k ⟨i,?_⟩;rw[ql h1];exact G.bl
  .have m:z=(.bl J,Y):=by cases d<;>first|exact absurd H f|(cases g;rfl)
   subst m;refine JN a s l T x y v u Q U j k ⟨i,?_⟩;rw[mZ<|yL h1 f];exact G.bl
 |_=>cases d<;>cases g
end
end PX
namespace HT
open L2
section
variable {a:jd}{w:iW}{A:jf}{E:jw}{s:iI}
def Iu{t d:iB}{b:mY}{i j:iO}{lo e:Option Int}{Q:jw}(c:hL s.heap t b)(f:s.heap.IsSliceOf d i j .none)(o:dS i lo)(p:dS j e)
  (g:sIx b.size 0 lo=0/\sIx b.size b.size e=b.size)(h:Q (.ref t) s):ah (ai a w) A (dv (.ref t)<|.ref d) Q E s:=by
 obtain⟨os,k,l,q⟩:=id f;have n:s.TypeIs (.ref d) "slice":=⟨os,k,l⟩
 unfold dv
 try with_reducible refine nC ?_
 first|refine iF (iR ?_)|skip
 refine iF<|Hh c.typeIs (by decide) ?_
 refine iF (rZ (name:=bf "__getitem__") c.typeIs zG
  (oB zG c.typeIs Hg ?_<|Hf _ _))
 show ah _ _ (cM (.ref t)>>=_) _ _ s;refine iF<|He c ?_;refine iF<|wq n ?_;rw[iT<|by decide];refine iF<|qo f o p ?_;rw[g.1,g.2];show ah _ _ (if((((0:Nat):Int)==0&&(1:Int)==1&&(b.size-0)==b.size)=J) then _ else _) _ _ s;rw[iT<|by simp];refine iF (m:=eG _) ?_;unfold eG;refine iF<|wq c.typeIs ?_;refine iR ?_;rw[iT<|by decide];refine iF<|uJ ?_
 first
  |exact iF<|iR ⟨_,rfl,iR h⟩
  |exact iR ⟨_,rfl,iR h⟩
  |exact iF<|iR<|iR ⟨_,rfl,iR h⟩
  |(refine iF ?_;trace_state;done)
end
end HT
namespace PX
open L2 PySem.SeqAt
def oO(l:List D)(lo a:Option Int):List D:=(l.drop<|HT.sIx (Ps l) 0 lo).take<|HT.sIx (Ps l) (Ps l) a-HT.sIx (Ps l) 0 lo
def gSl(lo a:Option Int):D->Option (D×Bool)
 | .tup l=>C (.tup<|oO l lo a,Y)
 | .lst l=>C (.lst<|oO l lo a,J)
 |_=>I
def aaq(K:jb):V->Option Int->Option Int->Hp->VK->Prop:=λx lo a U Q=> ∃(O:AP') (d:D) (z:D×Bool),(∀p,¬Ow (U p)-> ¬O p)/\kM K U O d x/\gSl lo a d=C z/\Gen K U O z Q
def RepL.cut{K U}(r:RepL K U O l xs)(lo a:Option Int):RepL K U O (oO l lo a) (Gk xs lo a):=by unfold oO Gk;rw[r.length];exact(r.drop _).take _
section
variable {X:Cx}
def Fj{b:jr}{s:iI}{h:L2.St}{N:Hp}{a:iB}{v e f:iO}{lo c:Option Int}{d:iB}{Q:VK}{O:AP'}{l:List D}{g:List V}(U:Inv X b h N s)(n:RelV (.ref a) v)(j:s.heap.IsSliceOf d e f .none)(k:dS e lo)(m:dS f c)
  (q:SqL X.K N a g)(r:RepL X.K N O l g)(G:Gen X.K N O (.lst<|oO l lo c,J) Q): ∃T id,typeLookup (.type T) "__getitem__"=pure (C<|.builtin id)/\s.TypeIs v T/\ah (ai X.prog X.w) X.A (dv v<|.ref d) (EP X b h Q) X.xe s:=
 Q4 b s h N (.ref a) v e f lo c d Q U n j k m ⟨a,g,rfl,q,λp i=>G.lst i<|r.cut lo c⟩
def X6:SlR X (aaq X.K):=by
 intro f s E N x v B U lo g A Q T n i k m h;obtain⟨O,d,z,np,hd,o,G⟩:=h
 cases d with
 |tup l=>
  cases o;rcases hd with hd|⟨a,_,h⟩
  .obtain⟨a,b,rfl,q,r⟩:=hd.tup;by_cases j:HT.sIx b.length 0 lo=0/\HT.sIx b.length b.length g=b.length
   .cases n;obtain⟨t,y,w,L⟩:=T.tuple q.sq;have c:t.toArray.size=b.length:=by rw[jx];exact y.length.symm
    refine⟨"tuple",_,zG.lookup,w.typeIs,?_⟩;refine HT.Iu w i k m (by rw[c];exact j) ⟨.ref a,N,T,rfl,?_⟩
    have e:oO l lo g=l:=by unfold oO;rw[<-r.length,j.1,j.2];simp[r.length]
    rw[e] at G;exact G (.ref a) N (λ_ _ e=>e) hd
   .exact UJ f s E N (.ref a) v B U lo g A Q T n i k m ⟨a,b,rfl,q.sq,j,λp u=>G.tup u (np p<|nOw u)<|r.cut lo g⟩
  .exact h.elim
 |lst l=>
  cases o;rcases hd with hd|⟨a,rfl,h⟩
  .obtain⟨a,b,rfl,q,r⟩:=hd.lst;exact Fj T n i k m q.sq r G
  .obtain⟨b,e,r⟩:=h;exact Fj T n i k m (.inl<|.inl e) r G
 |_=>cases o
end
def tH(a b:FO):F:=λδ=>(a δ).bind λp=>(b p.2).bind λq=>match res q.2 q.1 with
 |some (.int i)=>(res q.2 p.1).bind λx=>(gSl (C i) I x).bind λz=>C (z,q.2)
 |_=>I
def za(a b:FO):F:=λδ=>(a δ).bind λp=>(b p.2).bind λq=>match res q.2 q.1 with
 |some (.int i)=>(res q.2 p.1).bind λx=>(gSl I (C i) x).bind λz=>C (z,q.2)
 |_=>I
section
variable {X:Cx}{a lo d:iK}{g e f:FO}{b c:bB}
end
end PX
namespace L2
section
variable {X:Cx}
end
end L2
namespace PX
open L2 PySem.SeqAt
section
variable {X:Cx}{A:jT}{d:iB}{a:iK}{f:F}
end
section
variable {X:Cx}{e:iK}{c:oy}{jG:qg}{scope:jJ}{d a p:bB}{j:ji}{b:jL}{k:Nat}{h:FIt}{g:Tg}{f:FT}{i:FB}
end
end PX
namespace HT
open L2
section
variable {a:jd}{w:iW}{A:jf}{E:jw}{s:iI}
def IY(n:Nat):be I I (-1) (n:Int)=((n:Int)-1, -1):=by unfold be;rfl
def HV(n:Nat):aT ((n:Int)-1) (-1) (-1)=n:=by
 unfold aT;rw[je<|by decide];by_cases h:n=0
 .subst h;rfl
 .rw[iT<|by lia];simp only[sd,tp]
  lia
def We{b c:Type}{f:b->Option c}{g:b->c}: ∀{l:List b},(∀m∈l,f m=C (g m))->l.filterMap f=l.map g:=by
 intro i
 induction i with
 |nil=>intro _;exact H
 |cons x l e=>intro h;rw[List.filterMap_cons_some<|h x (kg ..),km,e λm d=>h m<|kj _ d]
def N0(b:mY):((aj b.size).filterMap λ(m:Nat)=>b[((b.size:Int)-1+(m:Int)*(-1)).toNat]?).toArray=b.toList.reverse.toArray:=by
 congr 1
 have e:(aj b.size).filterMap (λ(m:Nat)=>b[((b.size:Int)-1+(m:Int)*(-1)).toNat]?)=(aj b.size).map λm=>b.toList.reverse.getD m .none:=by
  refine We λm c=>?_;have c:=yK.1 c;have:((b.size:Int)-1+(m:Int)*(-1)).toNat=b.size-1-m:=by omega
  rw[this];have f:b.size-1-m<b.size:=by omega
  simp[c,f,List.getElem_reverse]
 rw[e];apply xP;intro i;by_cases d:i<b.size
 .simp[d]
 .simp[d]
def yh{d:iB}{t:m5}{n:Nat}{Q:Int×Int×Nat->Shared->Prop}(f:s.heap.IsSliceOf d .none .none (.int (-1) t))
  (h:Q ((n:Int)-1, -1,n) s):ah (ai a w) A (bR (.ref d)<|pure (n:Int)) Q E s:=by
 obtain⟨os,b,g,c⟩:=id f;unfold bR eL;refine iF<|iF<|nA b c (x:= .none) H<|iF<|nA b c (x:= .none) H<|iF<|nA b c (x:= .int (-1) t) H<|iR ?_;refine iF<|Do ?_;show ah _ _ (if((-1:Int)==0)=J then _ else _) _ _ s;rw[je<|by decide];refine iF<|DJ<|iF<|DJ<|iF<|iR ?_;show ah _ _ (match be I I (-1) (n:Int) with|(lo,e)=>pure (lo,(-1:Int),aT lo e (-1))) _ _ s;rw[IY n];show ah _ _ (pure ((n:Int)-1,(-1:Int),aT ((n:Int)-1) (-1) (-1))) _ _ s;rw[HV];exact iR h
def Iq(b:hL s.heap t items)(e:s.heap.IsSliceOf f .none .none (.int (-1) u))
  (h:Q (.ref s.heap.objs.size) {s with heap:=s.heap.push {cls:= .type "tuple",data:= .seq items.toList.reverse.toArray}})
  (d:items.size<=sizeLine):ah (ai a w) A (dv (.ref t)<|.ref f) Q E s:=by
 have c:sizeOk (.seq items.toList.reverse.toArray):=by show items.toList.reverse.toArray.size<=sizeLine;rw[jx,GW,kE];exact d
 obtain⟨os,g,i,k⟩:=id e;have j:s.TypeIs (.ref f) "slice":=⟨os,g,i⟩
 unfold dv
 try with_reducible refine nC ?_
 first|refine iF (iR ?_)|skip
 refine iF<|Hh b.typeIs (by decide) ?_
 refine iF (rZ (name:=bf "__getitem__") b.typeIs zG
  (oB zG b.typeIs Hg ?_<|Hf _ _))
 show ah _ _ (cM (.ref t)>>=_) _ _ s;refine iF<|He b ?_;refine iF<|wq j ?_;rw[iT<|by decide];refine iF<|yh e ?_;show ah _ _ (if((((items.size:Int)-1)==0&&(-1:Int)==1&&items.size==items.size)=J) then _ else _) _ _ s;rw[je<|by simp,N0]
 first
  |exact iF (m:=aH _)<|mx (iR ⟨_,rfl,iR h⟩) c
  |exact iF (m:=aH _)<|mx (iF<|iR<|iR ⟨_,rfl,iR h⟩) c
  |exact iF<|iF (m:=aH _)<|mx (iR<|iR ⟨_,rfl,iR h⟩) c
  |exact iF<|iF (m:=aH _)<|mx (iR ⟨_,rfl,iR h⟩) c
end
end HT
namespace L2
section
variable {X:Cx}{e st:iK}{d c:TE}{f g:bB}
def ZK(K:jb)(d c:TE):TE:=λi U Q=>d i U λx j=>c i j λy b=>y= .int (-1)/\ ∃a h,x= .ref a/\SqT K b a h/\ ∀p,b p=I->Q (.ref p) (upd b p<|.tup h.reverse)
def Fs(G:PE X e d)(v9:PE X st c):PE X (.Subscript e (.Slice Op Op (C st) g) f) (ZK X.K d c):=by
 intro i s l H Q I h;refine oC<|thn (G i s l H _ I h) λv s1 a'=>?_;obtain⟨x,C',L,U,N⟩:=a';refine K2 ?_;rw[Hd];refine iR<|iR ?_;rw[z7];refine thn (v9 i s1 l C' _ L N) λu j a'=>?_;obtain⟨y,E,O,Y',T,a,B,ex,J',q⟩:=a';subst T ex;obtain⟨t,rfl⟩:=Y';cases U;have m:Inv X i l E {j with heap:=j.heap.push {cls:= .type "slice",data:= .fields #[.none,.none,.int (-1) t]}}:=O.kept (t':=j.toks) λb M q=>kc _ q;obtain⟨n,r,p,z⟩:=m.tuple J';have k:n.toArray.size=(Ps B):=by rw[jx];exact r.length.symm
 show ah (ai X.prog X.w) X.A (gJ e (.Slice Op Op (C st) g) (.ref a)<|.ref j.heap.objs.size) (EP X i l Q) X.xe {j with heap:=j.heap.push {cls:= .type "slice",data:= .fields #[.none,.none,.int (-1) t]}};refine tail_any (ops:=[.ref a,.ref j.heap.objs.size]) p.typeIs zG.lookup (HT.Iq p (Heap.IsSliceOf.new ..) ?_<|by rw[k];exact z) (by with_unfolding_all rfl);refine⟨.ref _,_,m.laid (t':=j.toks) (o:= .tup B.reverse) (λb M q=>kc _ q) (jW _) ?_,rfl,q _ (m.hok.fresh<|jW _)⟩;exact⟨by rw[GW];exact z,_,r.reverse,Ac _ _⟩
end
end L2
namespace PX
open L2 PySem.SeqAt
noncomputable def YV:D->Option (D×Bool)
 | .tup l=>C (.tup l.reverse,Y)
 |_=>I
def RepL.reverse{K U}{O:AP'}: ∀{l:List D} {a:List V},RepL K U O l a->RepL K U O l.reverse a.reverse:=by
 intro e
 induction e with
 |nil=>intro a h;rw[RepL] at h;subst h;exact RepL.nil
 |cons d l c=>intro a h;rw[RepL] at h;obtain⟨v,r,rfl,h1,b⟩:=h;rw[DI,DI];exact(c b).append (RepL.one h1)
def Sy(a fs:FO):F:=λδ=>(a δ).bind λp=>(fs p.2).bind λq=>match res q.2 q.1 with
 |some (.int i)=>if i= -1 then(res q.2 p.1).bind λx=>(YV x).bind λz=>C (z,q.2) else I
 |_=>I
section
variable {X:Cx}{a st:iK}{d fs:FO}{b c:bB}
end
section
variable {b:kh}{a:dh}
end
end PX
namespace TT
noncomputable def S:Nat->Nat
 |0=>0
 |n+1=>5*S n+1
theorem Kt(m:Nat): ∀n:Nat,S (m+n)=5^n*S m+S n
 |0=>by simp[S]
 |n+1=>by rw[<-xJ,S,Kt m n,S,qN,vt,<-qM,vq 5 (5^n)];lia
theorem Bj: ∀n:Nat,∃c,5^n=4*c+1
 |0=>⟨0,rfl⟩
 |n+1=>by obtain⟨c,e⟩:=Bj n;exact⟨5*c+1,by rw[qN,e];lia⟩
theorem Qn: ∀k:Nat,∃c,S (2^k)=2^k*(2*c+1)
 |0=>⟨0,rfl⟩
 |k+1=>by
  obtain⟨c,e⟩:=Qn k;obtain⟨d,f⟩:=Bj (2^k)
  have h:S (2^(k+1))=(5^2^k+1)*S (2^k):=by rw[qN,Nat.mul_two,Kt,fy,GN]
  refine⟨2*(d*c)+d+c,?_⟩;rw[h,f,e,qN];have:4*d+1+1=2*(2*d+1):=by lia
  rw[this,qM 2,vq (2*d+1),qM (2^k),qM (2^k),<-qM 2 (2^k),vq 2 (2^k),qM (2^k) 2]
  congr 2
  rw[fy,vt,GN,xF,qM 2 c,Ds c 2 d,vq c d]
  lia
def Qo(k n:Nat):S (2^k+n)%2^k=S n%2^k:=by obtain⟨c,e⟩:=Qn k;rw[Kt,e,Ds,m8]
def Ks: ∀(k e:Nat),e<2^k-> ∃n,n<2^k/\S n%2^k=e:=by
 intro u
 induction u with
 |zero=>intro e h;exact⟨0,by simp,by simp at h;subst h;rfl⟩
 |succ k t=>
  intro e h;have l:0<2^k:=m6 k;obtain⟨n,z,s⟩:=t (e%2^k)<|xD _ l;obtain⟨c,m⟩:=Qn k;obtain⟨d,o⟩:=Bj n
  have b:S (2^k+n)=2^(k+1)*(4*d*c+2*d+c)+2^k+S n:=by
   rw[Kt,m,o,qN,Ds,qM (2^k) 2]
   have:(4*d+1)*(2*c+1)=2*(4*d*c+2*d+c)+1:=by rw[fy,vt,GN,xF,Ds (4*d) 2 c];lia
   rw[this,vt,xF]
  rw[qN] at h b ⊢;generalize 2^k=P at*;have j:=na (S n) P;have i:=na e P;rw[s] at j;have A:e / P<2:=Nat.div_lt_of_lt_mul (by rw[vq] at h;lia)
  have mk: ∀a q x,a=P*2*q+x->x<P*2->a%(P*2)=x:=λa q x h1 b=>by rw[h1,m8,Nat.mod_eq_of_lt b]
  have y:=xD e l;have v:S n / P=2*(S n / P / 2)+S n / P%2:=by lia
  have g:S n=P*2*(S n / P / 2)+(P*(S n / P%2)+e%P):=by rw[qM,<-xJ,<-vt,<-v];exact j.symm
  generalize S n / P / 2=q at g;have w:S n / P%2<2:=xD _ (by decide);generalize S n / P%2=r at g w;generalize e / P=f at*;by_cases p:r=f
  .exact⟨n,by lia,mk _ q _ (by rw[g,p,i]) h⟩
  .refine⟨P+n,by lia,mk _ (4*d*c+2*d+c+q+r) _ ?_ h⟩;rw[b,g,vt (P*2) _ r,vt (P*2) _ q];rcases(show r=0\/r=1 by lia) with rfl|rfl
   .have:f=1:=by lia
    subst this;rw[GL,GL];rw[xF] at i;lia
   .have:f=0:=by lia
    subst this;rw[xF,xF];rw[GL] at i;lia
noncomputable def ls(mask:Nat)(h:Int):Nat->Nat×Nat
 |0=>(aM h%(mask+1),aM h)
 |k+1=>cF mask (ls mask h k).1 (ls mask h k).2
def SY(h:Int):aM h<2^64:=by
 unfold aM;have:=GK h (show(0:Int)<2^64 by decide);have:=GJ h (show(2^64:Int)≠0 by decide)
 lia
def JU(mask:Nat)(h:Int): ∀k,(ls mask h k).1<=mask
 |0=>by have:=xD (aM h) (show 0<mask+1 by lia);show _%(mask+1)<=_;lia
 |k+1=>by show(_%(mask+1))<=_;have:=xD ((ls mask h k).1*5+1+(ls mask h k).2 / 32) (show 0<mask+1 by lia);lia
theorem JT(mask:Nat)(h:Int): ∀k,(ls mask h k).2=aM h / 32^k
 |0=>by simp[ls]
 |k+1=>by show(ls mask h k).2 / 32=_;rw[JT mask h k,qN,Nat.div_div_eq_div_mul]
def R5(mask:Nat)(h:Int)(k:Nat)(hk:13<=k):(ls mask h k).2=0:=by rw[JT];refine Nat.div_eq_of_lt<|nE (SY h) ?_;exact lI (show 2^64<=32^13 by decide)<|zO (by decide) hk
theorem OJ(mask:Nat)(h:Int)(m:Nat)(a:(ls mask h 13).1=S m%(mask+1)): ∀n,(ls mask h (13+n)).1=S (m+n)%(mask+1)
 |0=>a
 |n+1=>by show(((ls mask h (13+n)).1*5+1+(ls mask h (13+n)).2 / 32)%(mask+1))=_;rw[R5 mask h _ (by lia),OJ mask h m a n,Nat.zero_div,s9,<-xJ m n 1,S,v6,Nat.mod_mul_mod,<-v6,vq 5]
def FL(hk:mask+1=2^k)(h:Int)(g:e<=mask): ∃n,n<mask+14/\(ls mask h n).1=e:=by
 have i:=JU mask h 13;obtain⟨m,c,b⟩:=Ks k (ls mask h 13).1 (by lia);obtain⟨q,d,eq⟩:=Ks k e (by lia);rw[<-hk] at b eq c d;have a:=OJ mask h m b.symm;by_cases f:m<=q
 .exact⟨13+(q-m),by lia,by rw[a,show m+(q-m)=q by lia];exact eq⟩
 .refine⟨13+(q+(mask+1)-m),by lia,?_⟩;rw[a,show m+(q+(mask+1)-m)=2^k+q by lia,hk,Qo,<-hk];exact eq
def HM(mask i:Nat)(h:i<=mask):i<=aE mask i/\aE mask i<=mask/\aE mask i<=i+9:=by unfold aE;split<;>lia
noncomputable def tm(mask:Nat)(h:Int):Nat->Nat
 |0=>0
 |k+1=>tm mask h k+(aE mask (ls mask h k).1-(ls mask h k).1)+1
theorem To(mask:Nat)(h:Int): ∀k,tm mask h k<=10*k
 |0=>jW _
 |k+1=>by have:=To mask h k;have:=HM mask _ (JU mask h k);unfold tm;lia
noncomputable def at_(mask:Nat)(h:Int)(k t:Nat):SetTable.Probe:=⟨(ls mask h k).1+t,aE mask (ls mask h k).1-(ls mask h k).1-t,(ls mask h k).1,(ls mask h k).2,I⟩
theorem vR(mask:Nat)(h:Int): ∀k t,t<=aE mask (ls mask h k).1-(ls mask h k).1->pr mask h (tm mask h k+t)=at_ mask h k t
 |0,0,_=>rfl
 |k+1,0,_=>by have e:=vR mask h k (aE mask (ls mask h k).1-(ls mask h k).1)<|jW _;show adv mask (pr mask h<|tm mask h k+(aE mask (ls mask h k).1-(ls mask h k).1))=_;rw[e];unfold adv at_;simp only[Nat.sub_self,qk,kI,gt_iff_lt];rfl
 |k,t+1,a=>by
  have e:=vR mask h k t (by lia);show adv mask (pr mask h<|tm mask h k+t)=_;rw[e];unfold adv at_;rw[iT (show aE mask (ls mask h k).1-(ls mask h k).1-t>0 by lia)];simp only[SetTable.Probe.mk.injEq,and_true,true_and]
  lia
def NW(hk:mask+1=2^k)(h:Int)(a:e<=mask): ∃n,n<10*(mask+14)/\(pr mask h n).j=e:=by obtain⟨r,b,er⟩:=FL hk h a;have:=To mask h r;refine⟨tm mask h r,by lia,?_⟩;have:=vR mask h r 0<|lN _;rw[s9] at this;rw[this];exact er
theorem NV(mask:Nat)(h:Int): ∀n,(pr mask h n).dummy=I
 |0=>rfl
 |n+1=>by show(adv mask<|pr mask h n).dummy=I;unfold adv;split<;>exact NV mask h n
theorem Fp(mask:Nat)(h:Int): ∀n,∃k t,n=tm mask h k+t/\t<=aE mask (ls mask h k).1-(ls mask h k).1
 |0=>⟨0,0,rfl,lN _⟩
 |n+1=>by
  obtain⟨k,t,e,b⟩:=Fp mask h n;by_cases a:t+1<=aE mask (ls mask h k).1-(ls mask h k).1
  .exact⟨k,t+1,by lia,a⟩
  .exact⟨k+1,0,by unfold tm;lia,lN _⟩
def NU(mask:Nat)(h:Int)(n:Nat):(pr mask h n).j<=mask:=by obtain⟨k,t,e,a⟩:=Fp mask h n;rw[e,vR mask h k t a];have:=HM mask _ (JU mask h k);show(ls mask h k).1+t<=mask;lia
def D7{c:Array Nat}(g:c.toList.Pairwise (· < ·)){i j:Nat}{a b:Nat}(h:i<j)(h1:c[i]?=C a)(d:c[j]?=C b):a<b:=by rw[<-lO] at h1 d;obtain⟨e,rfl⟩:=rQ.mp h1;obtain⟨f,rfl⟩:=rQ.mp d;exact Qs.mp g i j e f h
def Qd{c:Array Nat}(o:c.toList.Pairwise (· < ·))(j:Nat): ∀(d lo b:Nat),lo<=b->b<=c.size->b-lo<=d->
  (∀i a,i<lo->c[i]?=C a->a<j)->(∀i a,b<=i->c[i]?=C a->j<=a)->
  let p:=SetTable.below.go c j d lo b
  p<=c.size/\(∀i a,i<p->c[i]?=C a->a<j)/\(∀i a,p<=i->c[i]?=C a->j<=a):=by
 intro u
 induction u with
 |zero=>
  intro lo b h1 g t h k;have:lo=b:=by lia
  subst this;exact⟨g,h,k⟩
 |succ d q=>
  intro lo b h1 g t h k;unfold SetTable.below.go;by_cases r:lo<b
  .rw[iT r];have n:(lo+b) / 2<c.size:=by lia
   have m:c[(lo+b) / 2]?=C c[(lo+b) / 2]:=rT n;have hd:c.getD ((lo+b) / 2) j=c[(lo+b) / 2]:=by simp[fP,n]
   dsimp only;rw[hd];by_cases l:c[(lo+b) / 2]<j
   .rw[iT l];refine q ((lo+b) / 2+1) b (by lia) g (by lia) (λi a s f=>?_) k;by_cases e:i=(lo+b) / 2
    .subst e;rw[m] at f;cases f;exact l
    .exact DH (D7 o (by lia) f m) l
   .rw[je l];refine q lo ((lo+b) / 2) (by lia) (by lia) (by lia) h λi a s f=>?_;by_cases e:i=(lo+b) / 2
    .subst e;rw[m] at f;cases f;lia
    .have:=D7 o (show(lo+b) / 2<i by lia) m f;lia
  .rw[je r];have:lo=b:=by lia
   subst this;exact⟨g,h,k⟩
def pG{b:Array Nat}(d:b.toList.Pairwise (· < ·))(j:Nat):ao b j<=b.size/\(∀i a,i<ao b j->b[i]?=C a->a<j)/\(∀i a,ao b j<=i->b[i]?=C a->j<=a):=
 Qd d j b.size 0 b.size (lN _) (jW _) (by lia) (λi a h=>by lia) (λi a h1 c=>by have:=(Qv.mp c).1;lia)
def Qe{a:Array Nat}(c:a.toList.Pairwise (· < ·)){i j:Nat}(h:a[i]?=C j):ao a j=i:=by
 obtain⟨h1,d,e⟩:=pG c j;by_cases g:i<ao a j
 .exact absurd (d i j g h) (qk _)
 .by_cases f:ao a j<i
  .have k:=(Qv.mp h).1;have b:a[ao a j]?=C a[ao a j]:=rT (by omega);have:=e _ _ (jW _) b;have:=D7 c f b h;omega
  .omega
theorem Et(j:Nat):M0 #[] j=Y:=rfl
def KH{t:mU}(a:t.place.toList.Pairwise (· < ·)){i j:Nat}(h:t.place[i]?=C j):t.slot j= .live i:=by unfold io;dsimp only;rw[Qe a h,h];simp
def HL{t:mU}(hd:t.dummies= #[]){j:Nat}(h:j∉t.place.toList):t.slot j= .empty:=by
 unfold io;dsimp only
 have:(t.place[ao t.place j]?==C j)=Y:=by rw[BK];intro e;rw[<-lO] at e;exact h<|nB e
 rw[this,hd,Et];rfl
def Qi(t:mU)(p:dF):t.advance p=adv t.mask p:=by unfold No adv;split<;>rfl
def NT{k:iQ}{t:mU}(ok:TabOk k t)(hashAt:Nat->Int)(h:Int): ∀(a n:Nat),(∃M,n<=M/\M<n+a/\(pr t.mask h M).j∉t.place.toList)->
    ∃m,n<=m/\(∀q,n<=q->q<m-> ∃i,t.place[i]?=C (pr t.mask h q).j/\hashAt i≠h)/\
      (((pr t.mask h m).j∉t.place.toList/\dB t hashAt h a (pr t.mask h n)=C (.empty (pr t.mask h m).j I))\/
       (∃i,t.place[i]?=C (pr t.mask h m).j/\hashAt i=h/\dB t hashAt h a (pr t.mask h n)=C (.candidate (pr t.mask h m).j i<|pr t.mask h<|m+1))):=by
  intro o
  induction o with
  |zero=>
    rintro n ⟨M,h1,f,g⟩
    lia
  |succ a l=>
    rintro n ⟨M,h1,f,g⟩;unfold dB;by_cases d:(pr t.mask h n).j∈t.place.toList
    · obtain⟨i,c⟩:=rX d
      rw[lO] at c;rw[KH ok.ris c];dsimp only;by_cases b:hashAt i=h
      · refine⟨n,jW _,λq h1 f=>by lia,.inr ⟨i,c,b,?_⟩⟩
        rw[iT<|by simpa using b,Qi];rfl
      · rw[je<|by simpa using b,Qi]
        have r:M≠n:=λe=>g<|e▸d;obtain⟨m,g1,g2,g3⟩:=l (n+1) ⟨M,by lia,by lia,g⟩;refine⟨m,by lia,λq s p=>?_,g3⟩;by_cases e:q=n
        · subst e;exact⟨i,c,b⟩
        · exact g2 q (by lia) p
    · rw[HL ok.dum d]
      dsimp only;rw[NV];exact⟨n,jW _,λq h1 f=>by lia,.inl ⟨d,rfl⟩⟩
def FQ: ∀(n:Nat) (l:jL),Ps l<=n-> ∃e,e<=n/\e∉l:=by
 intro d
 induction d with
 |zero=>intro l h;exact⟨0,jW _,by cases l with|nil=>simp|cons _ _=>simp at h⟩
 |succ n c=>
  intro l h;by_cases a:n+1∈l
  .obtain⟨e,h1,b⟩:=c (l.erase<|n+1) (by rw[List.length_erase_of_mem a];lia);exact⟨e,by lia,λz=>b<|(GI<|by lia).mpr z⟩
  .exact⟨n+1,jW _,a⟩
def TabOk.free(ok:TabOk f t)(h:Int): ∃M,M<10*(t.mask+14)/\(pr t.mask h M).j∉t.place.toList:=by
 obtain⟨k,_,_,hk⟩:=ok.pow
 have h1:(Ps t.place.toList)<=t.mask:=by have:=ok.len;have:=ok.room;rw[kE];lia
 obtain⟨e,c,d⟩:=FQ t.mask _ h1;obtain⟨n,a,b⟩:=NW hk h c;exact⟨n,a,by rw[b];exact d⟩
def lZ{b:Type}(a:Array b)(p:Nat)(x:b):(ap a p x).toList=a.toList.take p++x::a.toList.drop p:=by unfold ap;simp[Array.toList_extract,List.extract];rw[zU<|by simp]
def HN(h:xs.toList.Pairwise (· < ·))(n:j∉xs.toList):(ap xs (ao xs j) j).toList.Pairwise (· < ·):=by
 obtain⟨h1,l,k⟩:=pG h j;rw[lZ,vh];refine⟨h.sublist<|ya _ _,?_,?_⟩
 .rw[BL];refine⟨λa d=>?_,h.sublist<|GR _ _⟩;obtain⟨i,c⟩:=rX d;rw[eM] at c;have m:=k _ _ (show ao xs j<=ao xs j+i by lia) (by rw[<-lO];exact c);have:a≠j:=λe=>n (e▸nB c)
  lia
 .intro a d b g
  have f:a<j:=by
   obtain⟨i,c⟩:=rX d;rw[List.getElem?_take] at c;split at c
   .rename_i o;exact l i a o (by rw[<-lO];exact c)
   .cases c
  rcases lz.mp g with rfl|g
  .exact f
  .obtain⟨i,c⟩:=rX g;rw[eM] at c;have m:=k _ _ (show ao xs j<=ao xs j+i by lia) (by rw[<-lO];exact c)
   lia
def TabOk.fresh(finger moves:Nat)(led:Bool):TabOk [] (g9 finger moves led) where
 pow:=⟨3,by lia,by lia,rfl⟩
 dum:=rfl
 len:=rfl
 room:=by show 5*0<3*7;lia
 ris:= .nil
 bd:=λj h=>by simp[g9] at h
 road:=λi h j h1=>by simp at h1
def TabOk.put(ok:TabOk g t)(A:(pr t.mask h n).j∉t.place.toList)(z: ∀m,m<n->(pr t.mask h m).j∈t.place.toList)(T:5*(Ps g+1)<3*t.mask)(U:j=(pr t.mask h n).j)(E:p=ao t.place j):
  TabOk (g.take p++h::g.drop p) (t.put j).1/\(t.put j).2=p:=by
 subst U;subst E
 have v:(t.put (pr t.mask h n).j).1={t with place:=ap t.place (ao t.place (pr t.mask h n).j) (pr t.mask h n).j,dummies:= #[]}:=by unfold j3;dsimp only;rw[ok.dum,Et];rfl
 obtain⟨h1,_,_⟩:=pG ok.ris (pr t.mask h n).j;have Q:=ok.len
 have c: ∀x,x∈t.place.toList->x∈(ap t.place (ao t.place (pr t.mask h n).j) (pr t.mask h n).j).toList:=λx a=>by
  rw[lZ];rw[<-vA (ao t.place (pr t.mask h n).j) t.place.toList] at a;rcases pJ.mp a with a|a
  .exact pJ.mpr (.inl a)
  .exact pJ.mpr (.inr<|kj _ a)
 refine⟨?_,rfl⟩;rw[v];generalize y:ao t.place (pr t.mask h n).j=P at*;refine⟨ok.pow,rfl,?_,?_,?_,λx a=>?_,λi f k g1 g2=>?_⟩
 .show(ap t.place P (pr t.mask h n).j).size=_;rw[<-kE,lZ];simp only[lP,mw,rG,Ad,kE];lia
 .show 5*_<3*t.mask;simp only[lP,mw,rG,Ad];lia
 .have:=HN ok.ris A;rw[y] at this;exact this
 .have s:x∈(ap t.place P (pr t.mask h n).j).toList:=a;rw[lZ] at s;show x<=t.mask;rcases pJ.mp s with a|a
  .exact ok.bd x (xK a)
  .rcases lz.mp a with rfl|a
   .exact NU _ _ _
   .exact ok.bd x (zS a)
 .have b:(ap t.place P (pr t.mask h n).j).toList[i]?=C k:=by rw[lO];exact g2
  rw[lZ] at b;show ∃u,(pr t.mask f u).j=k/\ ∀m,m<u->(pr t.mask f m).j∈(ap t.place P (pr t.mask h n).j).toList;have w:(t.place.toList.take P).length=P:=by rw[rG,kE];lia
  have l:(g.take P).length=P:=by rw[rG];lia
  by_cases B:i<P
  .rw[uO<|by lia,MK B] at g1 b;rw[lO] at b;obtain⟨q,o,r⟩:=ok.road i f k g1 b;exact⟨q,o,λm e=>c _ (r m e)⟩
  .rw[pO<|by lia,w] at b;rw[pO<|by lia,l] at g1
   cases hd:i-P with
   |zero=>rw[hd] at g1 b;simp at g1 b;subst g1;subst b;exact⟨n,rfl,λm e=>c _ (z m e)⟩
   |succ d=>rw[hd] at g1 b;simp only[f4,eM] at g1 b;rw[lO] at b;obtain⟨q,o,r⟩:=ok.road _ f k g1 b;exact⟨q,o,λm e=>c _ (r m e)⟩
def occ(ow:wj)(j:Nat):Prop:= ∃i,ow.getD j I=C i
def Eu{ow:wj}{j:Nat}{d:Option Nat}(h:j<ow.size):ow.getD j d=ow.getD j I:=by simp[fP,h]
def Lv{mask:Nat}{ow:wj}(U:ow.size=mask+1)(h:Int): ∀(a k:Nat),(∃r,k<=r/\r<k+a/\ ¬occ ow (ls mask h r).1)->(∀m,m<tm mask h k->occ ow (pr mask h m).j)->
  ∃n,bJ mask ow a (ls mask h k).1 (ls mask h k).2=C (pr mask h n).j/\ ¬occ ow (pr mask h n).j/\ ∀m,m<n->occ ow (pr mask h m).j:=by
 intro A
 induction A with
 |zero=>
  rintro k ⟨r,h1,v,_⟩ _
  lia
 |succ a z=>
  rintro k ⟨r,h1,v,g⟩ l;unfold bJ;have x:=JU mask h k;have y:=HM mask _ x
  cases c:(aj<|aE mask (ls mask h k).1+1-(ls mask h k).1).find? λt=>(ow.getD ((ls mask h k).1+t)<|C 0).isNone with
  |some t=>
   rw[List.find?_range_eq_some] at c;obtain⟨a1,q,s⟩:=c;rw[yK] at q;have p:t<=aE mask (ls mask h k).1-(ls mask h k).1:=by lia
   have e:=vR mask h k t p;refine⟨tm mask h k+t,by rw[e];rfl,?_,λm o=>?_⟩
   .rw[e];rintro⟨i,w⟩;rw[Eu (by show(ls mask h k).1+t<_;lia)] at a1;have u:ow.getD ((ls mask h k).1+t) I=C i:=w;rw[u] at a1;simp at a1
   .by_cases f:m<tm mask h k
    .exact l m f
    .have b:=vR mask h k (m-tm mask h k) (by lia);rw[show tm mask h k+(m-tm mask h k)=m by lia] at b;rw[b];have:=s (m-tm mask h k) (by lia);rw[Eu (by show(ls mask h k).1+(m-tm mask h k)<_;lia)] at this;show occ ow ((ls mask h k).1+(m-tm mask h k));unfold occ
     cases d:ow.getD ((ls mask h k).1+(m-tm mask h k)) I with
     |none=>rw[d] at this;simp at this
     |some i=>exact⟨i,rfl⟩
  |none=>
   rw[List.find?_range_eq_none] at c
   have all: ∀t,t<=aE mask (ls mask h k).1-(ls mask h k).1->occ ow ((ls mask h k).1+t):=λt p=>by
    have:=c t (by lia);rw[Eu<|by lia] at this;unfold occ
    cases d:ow.getD ((ls mask h k).1+t) I with
    |none=>rw[d] at this;simp at this
    |some i=>exact⟨i,rfl⟩
   have B:r≠k:=λe=>g (by subst e;have:=all 0<|lN _;simpa using this)
   have:=z (k+1) ⟨r,by lia,by lia,g⟩ (λm o=>by
    by_cases f:m<tm mask h k
    .exact l m f
    .unfold tm at o;have b:=vR mask h k (m-tm mask h k) (by lia);rw[show tm mask h k+(m-tm mask h k)=m by lia] at b;rw[b];exact all _ (by lia))
   exact this
def Ge{a e:Type}{f g:a->Option e}: ∀{l:List a},(∀x∈l,f x=g x)->l.filterMap f=l.filterMap g:=by
 intro d
 induction d with
 |nil=>intro _;exact H
 |cons x l c=>intro h;rw[uR,uR,h x kg,c λy b=>h y<|kj _ b]
noncomputable def ph(mask:Nat)(ow:wj):List (Nat×Nat):=(aj<|mask+1).filterMap λj=>(ow.getD j I).map (j,·)
def Qr:(j,i)∈ph mask ow↔j<=mask/\ow.getD j I=C i:=by
 unfold ph;simp only[c7,yK,fZ,Prod.mk.injEq];constructor
 .rintro⟨a,h1,b,c,rfl,rfl⟩;exact⟨by lia,c⟩
 .rintro⟨h1,c⟩;exact⟨j,by lia,i,c,rfl,rfl⟩
def OO(mask:Nat)(ow:wj):((ph mask ow).map (·.1)).Pairwise (· < ·):=by unfold ph;rw[List.map_filterMap,List.pairwise_filterMap];refine WQ.imp λ{a b} e x c y d=>?_;simp only[Option.mem_def,Option.map_map,fZ,bS] at c d;obtain⟨_,_,rfl⟩:=c;obtain⟨_,_,rfl⟩:=d;exact e
def ON{mask:Nat}{ow:wj}(f:ow.size=mask+1){j k:Nat}(d:j<=mask)(c:ow.getD j I=I):(ph mask<|ow.setIfInBounds j<|C k).Perm ((j,k)::ph mask ow):=by
 have g: ∀i,(ow.setIfInBounds j<|C k).getD i I=if i=j then C k else ow.getD i I:=λi=>by
  simp only[vp,Dr];by_cases e:i=j
  .subst e;simp[show i<ow.size by lia]
  .rw[je λz=>e z.symm,je e]
 have split:aj (mask+1)=aj j++j::(aj<|mask-j).map (λx=>j+1+x):=by rw[show mask+1=j+(mask-j+1) by lia,List.range_add,dL];simp[uI,xJ,ta 1]
 unfold ph;rw[split,Mq,Mq,uR,uR];simp only[g,c,iT H,Option.map_none,fm]
 have a1:(aj j).filterMap (λi=>(if i=j then C k else ow.getD i I).map (i,·))=(aj j).filterMap (λi=>(ow.getD i I).map (i,·)):=
  Ge λi a=>by rw[yK] at a;rw[je<|by lia]
 have b:((aj<|mask-j).map λx=>j+1+x).filterMap (λi=>(if i=j then C k else ow.getD i I).map (i,·))=((aj<|mask-j).map λx=>j+1+x).filterMap (λi=>(ow.getD i I).map (i,·)):=
  Ge λi a=>by obtain⟨x,_,rfl⟩:=my.mp a;rw[je<|by lia]
 rw[a1,b];exact Qp
structure LayOk(mask:Nat)(hs:iQ)(ow:wj):Prop where
 size:ow.size=mask+1
 perm:((ph mask ow).map (·.2)).Perm (aj<|Ps hs)
 road: ∀j i h,ow.getD j Op=N2 i->hs[i]?=N2 h-> ∃n,(pr mask h n).j=j/\ ∀m,m<n->occ ow (pr mask h m).j
def JP(h:occ ow x):occ (ow.setIfInBounds j<|C k) x:=by
 obtain⟨i,a⟩:=h;unfold occ;simp only[vp,Dr] at a ⊢;by_cases e:j=x
 .subst e;rw[iT H];split
  .exact⟨k,rfl⟩
  .rename_i b;rw[Dq<|by lia] at a;simp at a
 .rw[je e];exact⟨i,a⟩
def LayOk.step{mask k:Nat}(hk:mask+1=2^k){a:iQ}{ow:wj}(ok:LayOk mask a ow)(h:Int)(E:(Ps a)<=mask):
  ∃j,bJ mask ow (bT mask) (aM h%(mask+1)) (aM h)=C j/\LayOk mask (a++[h]) (ow.setIfInBounds j<|C<|Ps a):=by
 have o:(ph mask ow).length=(Ps a):=by have:=ok.perm.length_eq;simpa using this
 obtain⟨e,l,x⟩:=FQ mask ((ph mask ow).map (·.1)) (by rw[jF];lia)
 have s: ¬occ ow e:=by rintro⟨i,f⟩;exact x<|my.mpr ⟨(e,i),Qr.mpr ⟨l,f⟩,rfl⟩
 obtain⟨r,A,u⟩:=FL hk h l;obtain⟨n,f1,f2,t⟩:=Lv ok.size h (bT mask) 0 ⟨r,lN _,by unfold bT;lia,by rw[u];exact s⟩ (λm c=>by simp[tm] at c);have w:=NU mask h n
 have p:ow.getD (pr mask h n).j I=I:=by
  cases y:ow.getD (pr mask h n).j I with
  |none=>rfl
  |some i=>exact absurd ⟨i,y⟩ f2
 refine⟨_,f1,⟨by rw[Array.size_setIfInBounds];exact ok.size,?_,λj i v g1 g2=>?_⟩⟩
 .refine((ON ok.size w p).map _).trans ?_;rw[km,lP,uL,List.range_succ];exact(gL _ ok.perm).trans (Mp _ _).symm
 .by_cases b:j=(pr mask h n).j
  .subst b
   have:i=(Ps a):=by simp only[vp,Dr,iT H] at g1;rw[iT bA,iT<|by rw[ok.size];lia] at g1;exact(kN g1).symm
   subst this;rw[pO<|jW _] at g2;simp at g2;subst g2;exact⟨n,rfl,λm c=>JP<|t m c⟩
  .have d:ow.getD j I=C i:=by simp only[vp,Dr] at g1 ⊢;rw[je λz=>b z.symm] at g1;exact g1
   have f:i<(Ps a):=by
    have g:j<=mask:=by
     by_cases q:j<ow.size
     .have:=ok.size;lia
     .rw[vp,Dq<|by lia] at d;simp at d
    have:=ok.perm.mem_iff.mp<|my.mpr ⟨(j,i),Qr.mpr ⟨g,d⟩,rfl⟩;exact yK.mp this
   rw[uO f] at g2;obtain⟨q,B,U⟩:=ok.road j i v d g2;exact⟨q,B,λm c=>JP<|U m c⟩
def LayOk.start(mask:Nat):LayOk mask [] (fv (mask+1) I) where
 size:=by simp
 perm:=by
  have:ph mask (fv (mask+1) I)=[]:=by unfold ph;refine List.filterMap_eq_nil_iff.mpr λj a=>?_;rw[vp,Mn];split<;>rfl
  rw[this];exact vw _
 road:=λj i h h1=>by rw[vp,Mn] at h1;split at h1<;>cases h1
noncomputable def wO(mask:Nat)(a:Option (Array (Option Nat)×Nat))(h:Int):Option (Array (Option Nat)×Nat):=do
 let(owner,k) <-a
 let j <-bJ mask owner (bT mask) (aM h%(mask+1)) (aM h)
 pure (owner.setIfInBounds j<|C k,k+1)
def OR{mask k:Nat}(hk:mask+1=2^k): ∀(l a:iQ) (ow:wj),LayOk mask a ow->Ps a+Ps l<=mask+1->
  ∃c,l.foldl (wO mask) (C (ow,Ps a))=C (c,Ps a+Ps l)/\LayOk mask (a++l) c:=by
 intro m
 induction m with
 |nil=>intro a ow ok _;exact⟨ow,rfl,by rw[uP];exact ok⟩
 |cons h l i=>
  intro a ow ok g;rw[mw] at g;obtain⟨j,e,d⟩:=ok.step hk h (by lia);obtain⟨c,f,b⟩:=i (a++[h]) _ d (by rw[lP,uL];lia);refine⟨c,?_,by rw[ny] at b;exact b⟩;rw[sj]
  have:wO mask (C (ow,Ps a)) h=C (ow.setIfInBounds j<|C<|Ps a,Ps a+1):=by unfold wO;show(bJ mask ow (bT mask) (aM h%(mask+1)) (aM h)>>=_)=_;rw[e];rfl
  rw[this];rw[lP,uL] at f;rw[f,mw]
  congr 2;lia
def FU(hk:mask+1=2^k)(a:iQ)(c:(Ps a)<=mask): ∃ow,gA mask a.toArray=C ow/\LayOk mask a ow:=by
 obtain⟨ow,e,ok⟩:=OR hk a [] _ (LayOk.start mask) (by simp;lia);refine⟨ow,?_,by simpa using ok⟩;unfold gA;rw[<-Array.foldl_toList];show fx _ (eO (wO mask) _ a)=_;have b:eO (wO mask) (C (fv (mask+1) I,0)) a=C (ow,Ps a):=by simpa using e
 rw[b];rfl
def Sd(hk:mask+1=2^k)(w:3<=k)(o:k<=11)(finger moves:Nat)(led plain:Bool)(d:iQ)(E:5*(Ps d)<3*mask):
  ∃t c,ir mask finger moves led plain d.toArray=C (t,c)/\c.toList.Perm (aj<|Ps d)/\TabOk (c.toList.map λi=>d.getD i 0) t/\t.plain=plain/\t.led=led:=by
 obtain⟨ow,e,ok⟩:=FU hk d (by lia);refine⟨{mask,place:=((ph mask ow).map (·.1)).toArray,dummies:= #[],finger,led,moves,plain},((ph mask ow).map (·.2)).toArray,?_,by simpa using ok.perm,?_,rfl,rfl⟩
 .unfold ir;rw[e];rfl
 .have g:(ph mask ow).length=(Ps d):=by have:=ok.perm.length_eq;simpa using this
  refine⟨⟨k,w,o,hk⟩,rfl,by simp,by simp[g];lia,by simpa using OO mask ow,λj z=>?_,λi h j g1 g2=>?_⟩
  .have v:j∈(ph mask ow).map (·.1):=by simpa using z
   obtain⟨⟨a,b⟩,q,rfl⟩:=my.mp v;exact(Qr.mp q).1
  .have r:((ph mask ow).map (·.2)).map (λi=>d.getD i 0)=(((ph mask ow).map (·.2)).toArray).toList.map λi=>d.getD i 0:=by simp
   rw[<-r,ki,ki] at g1;have f:((ph mask ow).map (·.1))[i]?=C j:=by simpa using g2
   rw[ki] at f
   cases l:(ph mask ow)[i]? with
   |none=>rw[l] at f;cases f
   |some p=>
    obtain⟨a,b⟩:=p;rw[l] at g1 f;simp at g1 f;subst f;have q:=Qr.mp<|nB l
    have x:b<(Ps d):=by have:=ok.perm.mem_iff.mp<|my.mpr ⟨(a,b),nB l,rfl⟩;exact yK.mp this
    have y:d[b]?=C h:=by rw[jA x] at g1 ⊢;simpa using g1
    obtain⟨n,B,U⟩:=ok.road a b h q.2 y;refine⟨n,B,λm u=>?_⟩;obtain⟨A,s⟩:=U m u;show(pr mask h m).j∈(((ph mask ow).map (·.1)).toArray).toList;have:(pr mask h m).j∈(ph mask ow).map (·.1):=my.mpr ⟨(_,A),Qr.mpr ⟨NU mask h m,s⟩,rfl⟩;simpa using this
def D3: ∀n,n<2048-> ∃k,3<=k/\k<=11/\eg n=2^k/\n<2^k:=by
 intro n h
 have step: ∀(f k:Nat),3<=k->k<=11->11<k+f-> ∃b,3<=b/\b<=11/\SetTable.sizeAbove.go n f (2^k)=2^b/\n<2^b:=by
  intro f
  induction f with
  |zero=>intro k h1 c d;lia
  |succ f g=>
   intro k h1 c d;unfold SetTable.sizeAbove.go;by_cases a:2^k<=n
   .rw[iT a,<-qN];have:k≠11:=λe=>by subst e;lia
    exact g (k+1) (by lia) (by lia) (by lia)
   .rw[je a];exact⟨k,h1,c,rfl,by lia⟩
 exact step 64 3 (by lia) (by lia) (by lia)
open PyProof.Rows PySem.SeqAt
def KY{g:iQ}{t:mU}(ok:TabOk g t){hashAt:Nat->Int}{h:Int}{p:dF}{n:Nat}(f:p=pr t.mask h n)(e: ∀m,m<n->(pr t.mask h m).j∈t.place.toList):
    ∃m,n<=m/\m<10*(t.mask+14)/\(∀q,n<=q->q<m-> ∃i,t.place[i]?=C (pr t.mask h q).j/\hashAt i≠h)/\
      (((pr t.mask h m).j∉t.place.toList/\t.probe hashAt h p=C (.empty (pr t.mask h m).j I))\/
       (∃i,t.place[i]?=C (pr t.mask h m).j/\hashAt i=h/\t.probe hashAt h p=C (.candidate (pr t.mask h m).j i<|pr t.mask h<|m+1))):=by
  subst f;obtain⟨M,h1,a⟩:=ok.free h
  have c:n<=M:=by
    by_cases b:M<n
    · exact absurd (e M b) a
    · lia
  obtain⟨m,g1,g2,g3⟩:=NT ok hashAt h (10*bT t.mask) n ⟨M,c,by unfold bT;lia,a⟩
  have k:m<=M:=by
    by_cases b:M<m
    · obtain⟨i,d,_⟩:=g2 M c b
      rw[<-lO] at d;exact absurd (nB d) a
    · lia
  exact⟨m,g1,by lia,g2,g3⟩
section
variable {a:jd}{w:iW}{A:jf}{E:jw}{s:iI}
def EA(ok:TabOk b t)(h:(Ps b)=n):t.fits n=J:=by have:=ok.len;have:=ok.room;unfold iu iH;rw[ok.dum];simp only[lE,beq_iff_eq,rC];exact⟨by lia,by show _+0<=_;lia⟩
end
noncomputable abbrev yi(es:wg)(n:Nat)(t:mU):Obj:={cls:= .type "set",data:= .set es n t}
section
variable {b:jd}{w:iW}{A:jf}{E:jw}{s:iI}
def Fd{h:ja}{a:iB}{es es':wg}{n:Nat}{t t':mU}(c:h.get? a=C (yi es n t)):(h.update a<|i0 es' t').get? a=C (yi es' (n+1) t'):=by have:=uN (i0 es' t') c (by rw[putSet_of es' t' H];rfl);rw[putSet_of es' t' H] at this;exact this
def NA{c:Type}(a:Array c):(aj a.size).filterMap (λi=>a[i]?)=a.toList:=by
 have: ∀(l:List c),(aj<|Ps l).filterMap (λi=>l[i]?)=l:=by
  intro l
  induction l with
  |nil=>rfl
  |cons x l d=>rw[mw,dL,uR];simp only[List.getElem?_cons_zero,hZ,uI,f4,d]
 have h:=this a.toList;simpa using h
def Sx{a:wg}: ∀(l:jL),(∀i∈l,i<a.size)->(l.filterMap λi=>a[i]?).map (·.1)=l.map λi=>(a.toList.map (·.1)).getD i 0:=by
 intro f
 induction f with
 |nil=>intro _;exact H
 |cons i l e=>
  intro h;have c:=h i kg;rw[uR,rT c];simp only[km];rw[e λj d=>h j<|kj _ d]
  congr 1
  simp[c]
def tw{c:Type}(a:Array c)(p:Nat)(x:c):(ap a p x).toList.Perm (x::a.toList):=by rw[lZ];refine Qp.trans ?_;rw[vA]
end
end TT
namespace PX
open L2 PySem.SeqAt TS
section
variable {X:Cx}{a:jr}{b:L2.St}{H:Hp}{s:iI}
end
end PX
namespace TT
open PySem.SeqAt
def Br:wS K3 "set.__iter__"=C bn.«frozenset.__iter__»:=wP (id':="frozenset.__iter__") (by kernel_rfl) H (by decide+kernel) (by kernel_rfl)
def oi:Slot "set_iterator" "__next__" "set_iterator.__next__":= .of (owner:="set_iterator") (n:="__next__") (by rw[tz,Mm];kernel_rfl) (by decide+kernel) (by decide+kernel) (by decide+kernel) (by first|exact .inl (by decide+kernel)|exact .inr<|by decide+kernel) (by rw[Dp];kernel_rfl)
def wB:Slot "set_iterator" "__iter__" "set_iterator.__iter__":= .of (owner:="set_iterator") (n:="__iter__") (by rw[tz,Mm];kernel_rfl) (by decide+kernel) (by decide+kernel) (by decide+kernel) (by first|exact .inl (by decide+kernel)|exact .inr<|by decide+kernel) (by rw[Dp];kernel_rfl)
def vd:wS K3 "set_iterator.__next__"=C bn.«set_iterator.__next__»:=entryFor_of_fast (by kernel_rfl)
def B9:wS K3 "set_iterator.__iter__"=C bn.«dict_keyiterator.__iter__»:=wP (id':="dict_keyiterator.__iter__") (by kernel_rfl) H (by decide+kernel) (by kernel_rfl)
def xt(a:iO):xz "set_iterator.__next__" ⟨[a],[]⟩:=by unfold xz;kernel_rfl
def EN(a:iO):xz "set_iterator.__iter__" ⟨[a],[]⟩:=by unfold xz;kernel_rfl
theorem rM{a:Type}: ∀(l:List a) {i:Nat} (h:i<Ps l),(l[i]::l.eraseIdx i).Perm l
 |x::l,0,_=>by simp
 |x::l,i+1,h=>by have:=rM l (i:=i) (by simpa using h);simp only[List.getElem_cons_succ,f5];exact(gK x _ _).trans (gL x this)
def D9{d:Type}(next:Nat->Nat): ∀(a k:Nat) (left:List d) (b:Array d),Ps left<=a->(pickOrder.go next a k left b).toList.Perm (b.toList++left):=by
 intro f
 induction f with
 |zero=>intro k left b h;have:left=[]:=Qu.mp (by lia);subst this;unfold pickOrder.go;simp
 |succ a e=>
  intro k left b h;unfold pickOrder.go
  cases left with
  |nil=>simp
  |cons y l=>have c:next k%(y::l).length<(y::l).length:=xD _ (by simp);rw[jA c];dsimp only;refine(e (k+1) _ _ (by rw[Dm,iT c];simp at h ⊢;lia)).trans ?_;rw[eS,ny];refine Ml _ ?_;exact rM _ c
def AE{b:Type}(next:Nat->Nat)(a:Array b):(fV next a).toList.Perm a.toList:=by unfold fV;have:=D9 next a.size 0 a.toList #[] (by simp);simpa using this
noncomputable def oh(w:iW)(a:iB)(n:Nat)(b:wg):Array (Int×iO):=if w.params.followText "set-order"=J then fV (w.params.setOrder a n) b else b
def Gw(w:iW)(a:iB)(n:Nat)(b:wg):(oh w a n b).toList.Perm b.toList:=by
 unfold oh;split
 .exact AE _ _
 .exact vw _
def oR(w:iW)(a:iB)(n:Nat)(b:wg):(oh w a n b).size=b.size:=by rw[<-kE,(Gw w a n b).length_eq,kE]
noncomputable def Jr(t:mU):Nat->Nat
 |0=>0
 |i+1=>t.place.getD i 0+1
noncomputable def mB(w:iW)(t:mU)(i:Nat):Nat:=if w.params.followText "set-order"=J then 0 else Jr t i
structure SetIs(w:iW)(h:ja)(a:iB)(es:wg)(n:Nat)(t:mU):Prop where
 at_:h.get? a=N2 (yi es n t)
 tab:TabOk (es.toList.map (·.1)) t
 plain:t.plain=O0
 led:t.led=!w.params.followText "set-order"
def SetIter(w:iW)(h:ja)(c a:iB)(t:mU)(b n i:Nat):Prop:= ∃o,h.get? c=C o/\o.cls= .type "set_iterator"/\o.data= .fields #[.int (mB w t i) 0,.int i 0,.ref a,.int b 0,.int n 0]
section
variable {prog:jd}{w:iW}{A:jf}{E:jw}{s:iI}
def SetIs.fits{h a es n t}(S:SetIs w h a es n t):t.fits es.size=J:=EA S.tab (by simp)
def IU(c:t.place.toList.Pairwise (· < ·))(j:i<=t.place.size):ao t.place (Jr t i)=i:=by
 cases i with
 |zero=>
  obtain⟨h1,a,_⟩:=pG c 0
  cases g:ao t.place 0 with
  |zero=>exact g
  |succ k=>
   have h:0<t.place.size:=by lia
   have:=a 0 _ (by lia) (rT h)
   lia
 |succ i=>
  have hd:t.place.getD i 0=t.place[i]:=by simp[fP,show i<t.place.size by lia]
  show ao t.place (t.place.getD i 0+1)=i+1;rw[hd];have e:t.place[i]?=C t.place[i]:=rT (by lia);obtain⟨h1,a,f⟩:=pG c<|t.place[i]+1;by_cases l:ao t.place (t.place[i]+1)<i+1
  .have:=f i _ (by lia) e;lia
  .by_cases b:i+1<ao t.place (t.place[i]+1)
   .have d:t.place[i+1]?=C t.place[i+1]:=rT (by lia);have:=a (i+1) _ b d;have:=D7 c (sh i) e d
    lia
   .lia
def Av{a:iB}{b:wg}{n:Nat}{t:mU}(S:SetIs w s.heap a b n t){i:Nat}(q:i<=b.size){Q:Option (iO×Nat)->Shared->Prop}
  (h1: ∀e,(oh w a n b)[i]?=C e->Q (C (e.2,mB w t<|i+1)) s)(h:i=b.size->Q I s):ah (ai prog w) A (setNext a (mB w t i) i n) Q E s:=by
 have p:=S.tab.len;rw[jF,kE] at p;unfold setNext;refine iF<|zN S.at_ H S.fits ?_;dsimp only;unfold gh;refine iF<|iF<|xS<|iR ?_;by_cases c:w.params.followText "set-order"=J
 .have f:(ai prog w).w.params.followText "set-order"=J:=c;rw[iT f,je<|by simp];unfold setWalk gh;refine iF<|iF<|zN S.at_ H S.fits ?_;dsimp only;refine iF<|iF<|xS<|iR ?_;rw[iT f];refine iF<|xS<|iR<|iR ?_;have g:oh w a n b=fV (w.params.setOrder a n) b:=by unfold oh;rw[iT c]
  have d: ∀k,mB w t k=0:=λk=>by unfold mB;rw[iT c]
  show Q (((fV (w.params.setOrder a n) b)[i]?).map λe=>(e.2,mB w t i)) s;rw[<-g];rw[d] at h1;rw[d]
  cases j:(oh w a n b)[i]? with
  |some e=>exact h1 e j
  |none=>have:=WE.mp j;rw[oR] at this;exact h (by lia)
 .have f: ¬(ai prog w).w.params.followText "set-order"=J:=c;rw[je f];change ah _ _ (if(!t.plain&&decide (b.size>1))=J then _ else _) _ _ _;rw[je<|by rw[S.plain];simp];have m:t.led=J:=by rw[S.led];simpa using c
  refine iF ?_;change ah _ _ (if(!t.led&&!b.isEmpty)=J then _ else _) _ _ _;rw[je<|by rw[m];simp];refine iR ?_;have g:oh w a n b=b:=by unfold oh;rw[je c]
  have d: ∀k,mB w t k=Jr t k:=λk=>by unfold mB;rw[je c]
  have l:ao t.place (mB w t i)=i:=by rw[d];exact IU S.tab.ris (by lia)
  rw[l];rw[g] at h1;by_cases o:i<b.size
  .have g1:b[i]?=C b[i]:=rT o;have g2:t.place[i]?=C t.place[i]:=rT (by lia);rw[g1,g2];have:=h1 b[i] g1;rw[d] at this;rw[show Jr t (i+1)=t.place.getD i 0+1 from H] at this;have hd:t.place.getD i 0=t.place[i]:=by simp[fP,show i<t.place.size by lia]
   rw[hd] at this;exact iR this
  .rw[Dq<|by lia];exact iR<|h (by lia)
def SetIs.typeIs{a b n t}(S:SetIs w s.heap a b n t):s.TypeIs (.ref a) "set":=⟨_,S.at_,rfl⟩
def SetIter.typeIs{it a t z n i}(S:SetIter w s.heap it a t z n i):s.TypeIs (.ref it) "set_iterator":=let⟨o,c,b,_⟩:=S;⟨o,c,b⟩
def Pb(S:SetIs w s.heap a d n t) 
  (f: ∀c,SetIter w c s.heap.objs.size a t d.size n 0->(∀b o,s.heap.get? b=C o->c.get? b=C o)->c.objs.size=s.heap.objs.size+1->Q (.ref s.heap.objs.size) {s with heap:=c}):
  ah (ai prog w) A (en<|.ref a) Q E s:=by
 refine GH S.typeIs Mk<|oB Mk S.typeIs Br ?_<|PySem.F.args_set_iter_1 _;unfold bn.«frozenset.__iter__» l8 lf;simp -iota only[zM,vo,kT,↓reduceIte,wk,qL,uK];unfold eu me;refine iF<|iR ?_;dsimp only;refine iF<|iR ?_;refine iF<|iF<|GG S.at_ H S.fits<|iR ?_;unfold setDrawn gh;refine iF<|iF<|zN S.at_ H S.fits ?_;dsimp only;refine iF<|iF<|xS<|iR ?_;refine iR ?_;change ah _ _ (if(!w.params.followText "set-order"&&(!t.plain&&decide (d.size>1)))=J then _ else _) _ _ _;rw[je<|by rw[S.plain];simp];refine iF<|iR ?_;unfold setEpoch;refine iF<|iF<|zN S.at_ H S.fits<|iR ?_;refine iF<|mx<|iR ⟨_,rfl,"set_iterator",_,⟨_,kD _ rfl,rfl⟩,oi.lookup,?_⟩;refine f _ ⟨_,kD _ rfl,rfl,?_⟩ (λb o e=>kc _ e) (rE _ _);have:mB w t 0=0:=by unfold mB;split<;>rfl
 rw[this];rfl
def BU{c a:iB}{b:wg}{n:Nat}{t:mU}(S:SetIs w s.heap a b n t){i:Nat}(f:SetIter w s.heap c a t b.size n i)(x:c≠a){e:Int×iO}(j:(oh w a n b)[i]?=C e){Q:EV}
  (p: ∀d,SetIter w d c a t b.size n (i+1)->aR c s.heap d->Q (C e.2) {s with heap:=d}):ah (ai prog w) A (cz<|.ref c) Q E s:=by
 obtain⟨o,g,q,hd⟩:=id f;have r:i<b.size:=by have:=(Qv.mp j).1;rw[oR] at this;exact this
 unfold cz;refine iF<|rW<|rZ (name:=bf "__next__") f.typeIs oi<|oB oi f.typeIs vd ?_<|xt _;unfold bn.«set_iterator.__next__» lf;simp only[zM,vo,kT,↓reduceIte,wk,qL,uK];refine iF<|iR ?_;unfold fieldsOf;simp only[wk];refine iF<|yc g ?_;rw[hd];refine iF<|iR ?_;dsimp only;refine iF<|GG S.at_ H S.fits ?_;rw[je<|by simp];have h1:((mB w t i:Nat):Int).toNat=mB w t i:=qh _;have l:((i:Nat):Int).toNat=i:=qh _;have m:((n:Nat):Int).toNat=n:=qh _;rw[h1,l,m];refine iF (Av S (sv r) (λv h=>?_) λz=>by lia);rw[j] at h;cases h;dsimp only;refine iF<|vC g hd (by simp) ?_;have k:=uN (f3 λu=>u.setIfInBounds 0<|cO<|mB w t<|i+1) g<|DF<|uH hd _;refine iF<|vC k (uH hd _) (by simp)<|iR ⟨_,rfl,iR<|p _ ?_ ((rB ..).trans (rB ..))⟩;refine⟨_,uN _ k (DF<|uH (uH hd _) _),?_,?_⟩
 .rw[DE,DE];exact q
 .rw[uH<|uH hd _];simp[cO]
def Ek(k:A.handled=I)(S:SetIs w s.heap a c n t)(d:SetIter w s.heap it a t c.size n c.size)(q:it≠a) 
  (j: ∀e,ej it s.heap e->Q I {s with heap:=e}):ah (ai prog w) A (cz<|.ref it) Q E s:=by
 obtain⟨o,f,p,hd⟩:=id d;unfold cz;refine iF<|rW<|rZ (name:=bf "__next__") d.typeIs oi<|oB oi d.typeIs vd ?_<|xt _;unfold bn.«set_iterator.__next__» lf;simp only[zM,vo,kT,↓reduceIte,wk,qL,uK];refine iF<|iR ?_;unfold fieldsOf;simp only[wk];refine iF<|yc f ?_;rw[hd];refine iF<|iR ?_;dsimp only;refine iF<|GG S.at_ H S.fits ?_;rw[je<|by simp];have h1:((mB w t c.size:Nat):Int).toNat=mB w t c.size:=qh _;have h:((c.size:Nat):Int).toNat=c.size:=qh _;have i:((n:Nat):Int).toNat=n:=qh _;rw[h1,h,i];refine iF<|Av S (jW _) (λl g=>?_) λ_=>?_
 .have:=(Qv.mp g).1;rw[oR] at this;omega
 dsimp only;refine iF<|vC f hd (by simp) ?_;show ah _ _ (il (.type "StopIteration") []>>=_) _ _ _;refine iF ?_;simp -iota only[il,lm];refine iF<|mx ?_ (by size_fits);refine iF (m:=cP _ _)<|Ab (a:=au) (by first|rfl|(simp -iota only[cP];rfl)) ?_;refine mx ?_ (by size_fits);simp -iota only[ww];refine iF<|G2 ?_;rw[show A.in1.handled=I from k];refine iF<|iR<|GZ ?_;refine iF<|xM (T:="StopIteration") (b:=J) ⟨_,kD _ rfl,rfl⟩ Dz ?_;exact iR<|j _ (((rB ..).extBut.push _).push _)
def Ll(b:SetIter w s.heap it a t z n i)(c:Q (.ref it) s):ah (ai prog w) A (en<|.ref it) Q E s:=by refine GH b.typeIs wB<|oB wB b.typeIs B9 ?_<|EN _;unfold bn.«dict_keyiterator.__iter__» lf;simp -iota only[zM,vo,kT,↓reduceIte,wk,qL,uK];exact iF<|iR<|iR ⟨_,rfl,"set_iterator",_,b.typeIs,oi.lookup,c⟩
def SetIs.stay{a b n t}(S:SetIs w h a b n t)(k: ∀o,h.get? a=C o->c.get? a=C o):SetIs w c a b n t:=⟨k _ S.at_,S.tab,S.plain,S.led⟩
def KJ(r:A.handled=I)(U a:iB)(j:U≠a)(c:wg)(n:Nat)(t:mU):
  Walks prog w A U [U,a] [U] c.size (λi v=> ∃e,(oh w a n c)[i]?=C e/\v=e.2) (λi h=>SetIter w h U a t c.size n i/\SetIs w h a c n t) where
 sub:=λb d=>by simp at d;simp[d]
 frame:=λ_ _ _ st hk=>⟨(by obtain⟨o,h1,q⟩:=st.1;exact⟨o,hk U (by simp) o h1,q⟩),st.2.stay λo e=>hk a (by simp) o e⟩
 item:=λi s Q E u st f=>by
  have x:i<(oh w a n c).size:=by rw[oR];exact u
  have l:(oh w a n c)[i]?=C (oh w a n c)[i]:=rT x;refine BU st.2 st.1 j l λg m k=>?_;exact f _ g s.toks ⟨_,l,rfl⟩ ⟨m,st.2.stay λo e=>k.extBut a o (λh=>j h.symm) e⟩ λb o d e=>k.extBut b o (λh=>d<|by simp[h]) e
 done:=λs Q E st f=>Ek r st.2 st.1 j λg p=>f g s.toks λb o d e=>p b o (λh=>d<|by simp[h]) e
 self:=λ_ _ _ _ st f=>Ll st.1 f
def SQ(hh:A.handled=Op)(S:SetIs w s.heap a d n t)(hn:d.size<=sizeLine) 
  (hQ: ∀i tk,(∀b o,s.heap.get? b=N2 o->i.get? b=N2 o)->Q ((oh w a n d).toList.map (·.2)) {s with heap:=i,toks:=tk}):ah (ai prog w) A (fE<|.ref a) Q E s:=by
 have u:a<s.heap.objs.size:=ke S.at_;have q:a≠s.heap.objs.size:=jM u;have G:a≠s.heap.objs.size+1:=jM<|vE u;have y:s.heap.objs.size≠s.heap.objs.size+1:=jM<|sh _;unfold fE;refine iF<|G3<|sf Mj ?_;rw[vD Mi _];show ah _ A.in1 (ik []>>=λl=>again<|.builtin "list.__iadd__" ⟨[l,.ref a],[]⟩) _ _ s;refine iF<|mx ?_;refine iR ⟨xN Dl _,sf Mh ?_⟩;rw[vD Dl _];show ah _ A.in1 (bP (.ref s.heap.objs.size) (.ref a)<|.ref s.heap.objs.size) _ _ _;generalize C:({cls:= .type "list",data:= .seq ([]:List iO).toArray}:ey)=g;have p:SetIs w (s.heap.push g) a d n t:=S.stay λo e=>kc _ e;unfold bP;refine iF<|wq (T:="set") (s:={s with heap:=s.heap.push g}) p.typeIs ?_;have h1:bW (.ref s.heap.objs.size) (.ref a)=O1:=by simp only[bW,BK];exact q.symm
 have c:(b3 "set"==b3 "list")=O1:=by decide
 have Z:(b3 "set"==b3 "tuple")=O1:=by decide
 simp -iota only[h1,c,Z,o6,kT,kI];refine iF<|Pb (s:={s with heap:=s.heap.push g}) p λc x r z2=>?_;have v:(s.heap.push g).objs.size=s.heap.objs.size+1:=rE _ _;have h:SetIs w c a d n t:=p.stay λo e=>r _ _ e;refine iF<|nC ?_;unfold eI;refine iF<|tv (T:="set") (s:={s with heap:=c}) h.typeIs PySem.F.slot_set_len.lookup ?_;generalize H:("set.__len__":String)=id0;dsimp only;rw[show Fa id0=N2 ("set","__len__") from by subst H;decide+kernel];dsimp only;refine iF<|xM (T:="set") (s:={s with heap:=c}) (b:=O0) h.typeIs (by rw[Dp];kernel_rfl) ?_;simp -iota only[vo,kT,kI];change ah _ _ (if _=O0 then _ else _) _ _ _;rw[iT<|by subst H;decide+kernel];refine iF<|wq (T:="set") (s:={s with heap:=c}) h.typeIs ?_;dsimp only;refine iR ?_;change ah _ _ (if _=O0 then _ else _) _ _ _;rw[iT<|by decide+kernel];refine iF<|uJ ?_;have B:c.get? s.heap.objs.size=N2 g:=r _ _ (kD _ (by subst C;rfl));subst C;refine iF ?_;show ah _ A.in1 (gP s.heap.objs.size (·.push .none)>>=λ_=>gP s.heap.objs.size (·.pop)) _ _ _;refine iF<|Dk (s:={s with heap:=c}) B O9 ?_;have z:=uN (aG (·.push au)) B O9;refine Dk z O9 ?_;have V:=uN (aG (·.pop)) z O9
 have oth: ∀b o,b≠s.heap.objs.size->c.get? b=N2 o->((c.update s.heap.objs.size (aG (·.push au))).update s.heap.objs.size (aG (·.pop))).get? b=N2 o:=
  λb o f e=>(xZ _ _ (nV f)).trans<|(xZ _ _ (nV f)).trans e
 have W:=(KJ (prog:=prog) (w:=w) (A:=A.in1) (by show A.handled=Op;exact hh) (s.heap.objs.size+1) a G.symm d n t).toS;rw[v] at x;refine iR ⟨xN Mf _,?_⟩;rw[v];refine Me W hn s.heap.objs.size (by simp -iota only[lz,lD,mE,rV];exact⟨y,q.symm⟩) _ d.size 0 _ _ _ rfl (lN _) ?_ V (ItemsOf.nil _) λL m c' k J n9=>?_
 .refine⟨?_,h.stay λo e=>oth a o q e⟩;obtain⟨o,g1,g2⟩:=x;exact⟨o,oth _ o y.symm g1,g2⟩
 show ah _ A (load s.heap.objs.size>>=_) _ _ L;refine iF<|yc J ?_;obtain⟨i,R,M,P,N⟩:=L;have D:R=s.gens:=k.gens;have Y:M=s.drawn:=k.drawn;have K:N=s.os:=k.os;subst D;subst Y;subst K
 have U:m.toList=(oh w a n d).toList.map (·.2):=by
  obtain⟨a1,O⟩:=n9;apply G5
  .rw[jF,kE,kE,a1,oR]
  .intro j g1 g2;have X:m[j]?=N2 m.toList[j]:=by rw[<-lO];exact jA g1
   obtain⟨e,I,hv⟩:=O j _ X;rw[hv];rw[jF,kE] at g2;rw[dt];rw[<-lO,jA<|by rw[kE];exact g2] at I;cases I;rfl
 refine iR ?_;show Q m.toList _;rw[U];refine hQ i P λb o e=>?_;have f:=ke e;exact k.heap b o (by simp -iota only[lz,lD,mE,rV];exact⟨jM f,jM<|vE f⟩)<|oth b o (jM f)<|r _ _ (kc _ e)
end
section
variable {a:jd}{w:iW}{A:jf}{R:iV->Shared->Prop}{I:iB}{c b:kG}{G:Array fL->Array fL->Prop}{n:Nat}{P:Nat->iO->Prop}{St:Nat->Shared->Prop}
end
section
variable {a:jd}{w:iW}{A:jf}{E:jw}{s:iI}
noncomputable abbrev Wb(w:iW):SetTable:= .fresh 0 0 (!w.params.followText "set-order")
end
end TT
namespace PX
open L2 PySem.SeqAt TS
def Bo(h1:D.pr x=J)(a:D.pr y=J):D.eqb x y=J↔x=y:=by
 rw[IH x y h1 a];constructor
 .intro h;exact Bx x y h1 a (by simpa using h)
 .rintro rfl;rw[Km];rfl
def Gu(a:List D)(d:D):List D:=if a.any (D.eqb · d)=J then a else a++[d]
def mH{d i:Type}(f:d->i){g m:List i}(h:g.Perm m): ∀l:List d,m=l.map f-> ∃c:List d,c.Perm l/\g=c.map f:=by
 induction h with
 |nil=>
  intro l e;have:l=[]:=by simpa using e.symm
  subst this;exact⟨[],.refl _,rfl⟩
 |cons x _ n=>
  intro l e
  cases l with
  |nil=>simp at e
  |cons y l=>simp -iota only[km,da] at e;obtain⟨c,p,q⟩:=n l e.2;exact⟨y::c,p.cons y,by rw[q,e.1];rfl⟩
 |swap x y w=>
  intro l e
  cases l with
  |nil=>simp at e
  |cons a l=>
   cases l with
   |nil=>simp at e
   |cons b l=>simp -iota only[km,da] at e;exact⟨b::a::l,.swap a b l,by rw[e.1,e.2.1,e.2.2];rfl⟩
 |trans _ _ k j=>intro l e;obtain⟨o,s,u⟩:=j l e;obtain⟨r,t,v⟩:=k o u;exact⟨r,t.trans s,v⟩
def yP{b d:Type}{F:b->d->Prop}{c m:List d}(h:c.Perm m): ∀{z:List b},Paired F z m-> ∃a:List b,Paired F a c/\a.Perm z:=by
 induction h with
 |nil=>intro z p;exact⟨z,p,.refl _⟩
 |cons x _ i=>
  intro z p
  cases p with
  |cons r t=>obtain⟨a,h1,g⟩:=i t;exact⟨_::a,.cons r h1,g.cons _⟩
 |swap x y s=>
  intro z p
  cases p with
  |cons r t=>
   cases t with
   |cons o t=>exact⟨_,.cons o<|.cons r t,.swap _ _ _⟩
 |trans _ _ f e=>intro z p;obtain⟨u,j,l⟩:=e p;obtain⟨q,k,n⟩:=f j;exact⟨q,k,n.trans l⟩
def RepL.zip{K U}{O:AP'}: ∀{l:List D} {b:List V},RepL K U O l b-> ∀p∈l.zip b,Rep K U O p.1 p.2:=by
 intro f
 induction f with
 |nil=>intro b h p a;simp at a
 |cons d l e=>
  intro b h p a;rw[RepL] at h;obtain⟨v,r,rfl,h1,c⟩:=h;rw[qO] at a;rcases lz.mp a with rfl|a
  .exact h1
  .exact e c p a
def RepL.ofZip{K U}{O:AP'}: ∀{l:List (D×V)},(∀p∈l,Rep K U O p.1 p.2)->RepL K U O (l.map (·.1)) (l.map (·.2)):=by
 intro c
 induction c with
 |nil=>intro _;exact RepL.nil
 |cons p l b=>intro h;exact RepL.cons (h p kg)<|b λq a=>h q<|kj _ a
abbrev hv(p:D×V):Int×V:=(D.hash p.1,p.2)
theorem Ai: ∀(b:List D) (a:List V),(D.hashL b).zip a=(b.zip a).map hv
 |[],a=>by simp[D.hashL]
 |d::b,[]=>by simp
 |d::b,u::a=>by rw[D.hashL,qO,qO,km,Ai b a]
section
variable {X:Cx}{pins:jr}{σ:L2.St}{H:Hp}{s:iI}
structure SetV(X:Cx)(H:Hp)(O:AP')(h:ja)(a:iB)(vs:List D)(es:wg)(n:Nat)(t:mU)(l:List (D×V)):Prop where
 is:TT.SetIs X.w h a es n t
 perm:(l.map (·.1)).Perm vs
 rep: ∀p∈l,Rep X.K H O p.1 p.2
 par:Paired (λ(z:Int×V) (e:Int×iO)=>z.1=e.1/\RelV z.2 e.2) (l.map hv) es.toList
def AH{d c:Type}{F:d->c->Prop}{l:List d}{m:List c}(h:Paired F l m): ∀{i:Nat} {b:c},m[i]?=C b-> ∃a,l[i]?=C a/\F a b:=by
 induction h with
 |nil=>intro i b h;simp at h
 |cons r t f=>
  intro i b h
  cases i with
  |zero=>simp at h;subst h;exact⟨_,rfl,r⟩
  |succ i=>obtain⟨a,h1,e⟩:=f (i:=i) (b:=b) (by simpa using h);exact⟨a,by simpa using h1,e⟩
def HY{a b:Type}{F:a->b->Prop}: ∀{l:List a} {m:List b},Paired F l m->Ps l=(Ps m):=vH
def AI{l:List (Int×V)}{m:List (Int×iO)}(h:Paired (λ(z:Int×V) (e:Int×iO)=>z.1=e.1/\RelV z.2 e.2) l m):l.map (·.1)=m.map (·.1):=by
 induction h with
 |nil=>rfl
 |cons r t a=>rw[km,km,r.1,a]
def OthB.setV(U:Inv X pins σ H s)(h:OthB X.K (H a) .set o f us)(r:RepL X.K H O f us): ∃b n t l,SetV X H O s.heap a f b n t l:=by
 obtain⟨_,m,e,p⟩:=h;obtain⟨b,n,t,h1,c,g,i,j⟩:=(show ObjOk X.prog X.w H s.heap a (.stt m) from U.hok a _ e)
 rw[Ai] at p;obtain⟨l,d,rfl⟩:=mH hv p _ rfl;refine⟨b,n,t,l,⟨h1,by rw[<-AI c];exact g,i,j⟩,?_,λq k=>r.zip q<|d.mem_iff.mp k,c⟩;have:=d.map (·.1);rw[ka<|by rw[r.length];exact jW _] at this;exact this
def SetV.objOk{b n t l}(S:SetV X H O h a c b n t l):ObjOk X.prog X.w H' h a (.stt<|l.map hv):=
 ⟨b,n,t,S.is.at_,S.par,by rw[AI S.par];exact S.is.tab,S.is.plain,S.is.led⟩
def SetV.lens{b n t l}(S:SetV X H O h a c b n t l):b.size=Ps c/\(Ps l)=(Ps c):=by
 have h1:=HY S.par;have d:=S.perm.length_eq;simp only[jF,kE] at h1 d
 lia
def SetV.oth{O:AP'}{h:ja}{a:iB}{vs:List D}{e n t l}(S:SetV X H O h a vs e n t l){K H'}{O':AP'}(i: ∀p∈l,Rep K H' O' p.1 p.2)(f:H' a=C (.stt<|l.map hv)): ∃us,OthB K (H' a) .set [] vs us/\RepL K H' O' vs us:=by
 obtain⟨b,c,d⟩:=mH (·.1) S.perm.symm l O9;refine⟨b.map (·.2),⟨rfl,l.map hv,f,?_⟩,?_⟩
 .rw[d,Ai]
  have:(b.map (·.1)).zip (b.map (·.2))=b:=by
   clear c d
   induction b with
   |nil=>rfl
   |cons x l j=>rw[km,km,qO,j]
  rw[this];exact(c.map hv).symm
 .rw[d];exact RepL.ofZip λp g=>i p<|c.mem_iff.mp g
end
def Nj(b:l.Perm m)(a: ∀x∈l,D.pr x=J):mF ltT l=mF ltT m:=Nf (λx c=>a x<|b.mem_iff.mpr c) ((la ltT l).trans b)<|uf l
def KD{k:Nat}{l:List D}(h:SortsBy k l):nH l=J:=by
 unfold nH;rw[xG];right
 cases l with
 |nil=>rfl
 |cons x m=>simp only[lE,lU,rC];refine⟨⟨by rw[h.hd x kg];rfl,λy a=>⟨⟨?_,h.pr y a⟩,h.dp y a⟩⟩,λy a z b=>h.cm y a z b⟩;rw[h.hd x kg,h.hd y a];simp
def Fg(b:l.Perm m)(h:nH m=J):nH l=J:=by
 rcases Cp h with c|⟨k,B⟩
 .unfold nH;rw[xG];left;rw[b.length_eq];simpa using c
 .exact KD (k:=k) ⟨λx a=>B.hd x<|b.mem_iff.mp a,λx a=>B.pr x<|b.mem_iff.mp a,λx a=>B.dp x<|b.mem_iff.mp a,λx a y d=>B.cm x (b.mem_iff.mp a) y<|b.mem_iff.mp d⟩
section
variable {X:Cx}
end
end PX
namespace L2
section
variable {κ:Type}[DecidableEq κ]
def rN(a:List (κ×V))(k:κ):Option V:=(a.find? λb=>decide<|b.1=k).map (·.2)
def pM(a:List (κ×V))(k:κ)(v:V):List (κ×V):=
 if(a.any λb=>decide<|b.1=k)=J then a.map (λb=>if b.1=k then(b.1,v) else b) else a++[(k,v)]
theorem sG{p:κ×V}{r:List (κ×V)}{k:κ}(e:p.1=k):rN (p::r) k=C p.2:=by simp[rN,xy,e]
theorem oU{p:κ×V}{r:List (κ×V)}{k:κ}(e: ¬p.1=k):rN (p::r) k=rN r k:=by simp[rN,xy,e]
theorem Fb(k:κ): ∀a:List (κ×V),(a.any λb=>decide<|b.1=k)=(rN a k).isSome
 |[]=>rfl
 |p::r=>by
  rw[dc];by_cases e:p.1=k
  .simp only[sG e,pN e,Bool.true_or,eD]
  .rw[oU e,mZ e,Bool.false_or];exact Fb k r
theorem tu(a:List (κ×V))(k:κ)(v:V):(pM a k v).length<=Ps a+1:=by
 unfold pM;split
 .rw[jF];lia
 .rw[lP,mw,qL];lia
theorem RelO.isSome_eq{o:Option V}{u:Option iO}(r:RelO o u):o.isSome=u.isSome:=by
 cases o with
 |none=>cases u with
  |none=>rfl
  |some _=>exact(show False from r).elim
 |some _=>cases u with
  |none=>exact(show False from r).elim
  |some _=>rfl
theorem KV.val{kvs:List (κ×V)}{vs:List (κ×iO)}(r:KV kvs vs)(k:κ):RelO (rN kvs k) (f8 vs k):=by
 unfold KV at r
 induction r with
 |nil=>exact bA
 | @cons p q g c h t f=>
  obtain⟨h1,d⟩:=h;by_cases e:p.1=k
  .have a:q.1=k:=h1.symm.trans e;have b:f8 (q::c) k=C q.2:=by simp[f8,xy,a]
   rw[sG e,b];exact d
  .have a: ¬q.1=k:=λz=>e<|h1.trans z;have b:f8 (q::c) k=f8 c k:=by simp[f8,xy,a]
   rw[oU e,b];exact f
theorem KV.any{a:List (κ×V)}{vs:List (κ×iO)}(r:KV a vs)(k:κ):(a.any λb=>decide<|b.1=k)=vs.any λb=>decide (b.1=k):=by
 unfold KV at r
 induction r with
 |nil=>rfl
 |cons h t c=>rw[dc,dc,c,h.1]
theorem KV.repl{b:List (κ×V)}{c:List (κ×iO)}(r:KV b c)(k:κ){y:V}{u:iO}(g:RelV y u):
  KV (b.map λa=>if a.1=k then(a.1,y) else a) (c.map λa=>if a.1=k then(a.1,u) else a):=by
 unfold KV at r ⊢
 induction r with
 |nil=>exact .nil
 | @cons p q i j h t f=>
  rw[km,km];refine .cons ?_ f;obtain⟨h1,d⟩:=h;by_cases e:p.1=k
  .rw[iT e,iT<|h1.symm.trans e];exact⟨h1,g⟩
  .rw[je e,je λz=>e<|h1.trans z];exact⟨h1,d⟩
theorem KV.put{a:List (κ×V)}{b:List (κ×iO)}(r:KV a b)(k:κ){y:V}{u:iO}(c:RelV y u):KV (pM a k y) (stored b k u):=by
 unfold pM stored;rw[r.any k];by_cases e:(b.any λd=>decide<|d.1=k)=J
 .rw[iT e,iT e];exact r.repl k c
 .rw[je e,je e];exact Paired.snoc r ⟨rfl,c⟩
theorem KV.length{a:List (κ×V)}{vs:List (κ×iO)}(r:KV a vs):(Ps a)=(Ps vs):=vH r
end
def A4{P:jd}{w:iW}{k:Key}{u:iO}(r:RelV (kV k) u):(lb P w).is k u=J:=by
 cases k with
 |inl i=>obtain⟨t,e⟩:=(show ∃t,u=ef i t from r);subst e;exact FG P w i t
 |inr x=>obtain⟨t,e⟩:=(show ∃t,u=im x t from r);subst e;exact FF P w x t
theorem CP{P:jd}{w:iW}: ∀{a:List Key} {b:jD},Vals (a.map kV) b->ItemsAre (lb P w) a b
 |[],_,r=>by rw[rF] at r;cases r;exact .nil
 |k::a,_,r=>by
  rw[km] at r
  cases r with
  |cons h t=>exact .cons (A4 h)<|CP t
abbrev KT(U:Hp):List (List Key×V)->List (List Key×iB×iO)->Prop:=Paired λp q=>p.1=q.1/\U q.2.1=C (.tup<|p.1.map kV)/\RelV p.2 q.2.2
def KT.val{U:Hp}{kvs:List (List Key×V)}{d:List (List Key×iB×iO)}(r:KT U kvs d)(k:List Key):RelO (rN kvs k) ((g7 d k).map (·.2)):=by
 induction r with
 |nil=>exact bA
 | @cons p q i c h t g=>
  obtain⟨h1,_,f⟩:=h;by_cases e:p.1=k
  .have a:q.1=k:=h1.symm.trans e;have b:g7 (q::c) k=C q.2:=by simp[g7,xy,a]
   rw[sG e,b];exact f
  .have a: ¬q.1=k:=λz=>e<|h1.trans z;have b:g7 (q::c) k=g7 c k:=by simp[g7,xy,a]
   rw[oU e,b];exact g
def KT.repl{U:Hp}{a:List (List Key×V)}{d:List (List Key×iB×iO)}(r:KT U a d)(k:List Key){y:V}{u:iO}(i:RelV y u):
  KT U (a.map λb=>if b.1=k then(b.1,y) else b) (d.map<|putAt k u):=by
 induction r with
 |nil=>exact .nil
 | @cons p q j l h t g=>
  rw[km,km];refine .cons ?_ g;obtain⟨h1,c,f⟩:=h;unfold putAt;by_cases e:p.1=k
  .rw[iT e,iT<|h1.symm.trans e];exact⟨h1,c,i⟩
  .rw[je e,je λz=>e<|h1.trans z];exact⟨h1,c,f⟩
def KT.put{U:Hp}{a:List (List Key×V)}{c:List (List Key×iB×iO)}(r:KT U a c)(k:List Key){b:iB}{y:V}{u:iO}(f:U b=C (.tup<|k.map kV))(d:RelV y u):
  KT U (pM a k y) (storedH c k b u):=by
 have e:(a.any λg=>decide<|g.1=k)=(g7 c k).isSome:=by rw[Fb,(r.val k).isSome_eq,GF]
 unfold pM storedH;rw[e];by_cases q:(g7 c k).isSome=J
 .rw[iT q,iT q];exact r.repl k d
 .rw[je q,je q];exact Paired.snoc r ⟨rfl,f,d⟩
def KT.keeps{U c:Hp}{a:List (List Key×V)}{d:List (List Key×iB×iO)}(r:KT U a d)(f: ∀b e,U b=C (.tup e)->c b=C (.tup e)):KT c a d:=
 Paired.mapP r λ_ _ z=>⟨z.1,f _ _ z.2.1,z.2.2⟩
section
variable {P:jd}{w:iW}{H:Hp}{h:ja}{a:iB}
def Tu{u:HO}(ok:HOk P w H h)(e:Rd H a u):ObjOk P w H h a u:=e.ok ok
def PR{b:List (Key×V)}(ok:HOk P w H h)(e:Rd H a (.dK b)):(Ps b)<=sizeLine/\(a==bL)=Y/\ ∃c,KV b c/\h.DictOf (lb P w) a c:=
 show ObjOk P w H h a (.dK b) from Tu ok e
def Kf{b:List (Key×V)}(ok:HOk P w H h)(e:H a=C (.dK b)):(Ps b)<=sizeLine/\(a==bL)=Y/\ ∃c,KV b c/\h.DictOf (lb P w) a c:=PR ok<|.inl e
def yy{c:List Key}(ok:HOk P w H h)(e:H a=C (.tup<|c.map kV)):(d1<|lb P w).is h c a:=by
 obtain⟨_,b,r,o,h1,d,n,f⟩:=(show ObjOk P w H h a (.tup<|c.map kV) from ok a _ e)
 exact⟨o,b.toArray,n,h1,d,f,by simpa using CP r⟩
def PN{b:List (List Key×V)}(ok:HOk P w H h)(e:Rd H a (.dT b)):(Ps b)<=sizeLine/\(a==bL)=Y/\
  ∃d,KT H b d/\h.DictOfH (d1<|lb P w) a d:=by
 obtain⟨z,y,d,r,o,i,g,h1,j,k,n,s⟩:=(show ObjOk P w H h a (.dT b) from Tu ok e)
 refine⟨z,y,d,r,o,i,g,h1,j,k,n,λx c=>?_,s⟩
 have all: ∀{l:List (List Key×V)} {m:List (List Key×iB×iO)},KT H l m-> ∀x∈m,(d1<|lb P w).is h x.1 x.2.1:=by
  intro l m q
  induction q with
  |nil=>intro x c;exact nomatch c
  | @cons p q v A f t u=>
   intro x c;rcases lz.mp c with e|c
   .subst e;exact yy ok (by rw[<-f.1];exact f.2.1)
   .exact u x c
 exact all r x c
def PQ{b:List (List Key×V)}(ok:HOk P w H h)(e:H a=C (.dT b)):(Ps b)<=sizeLine/\(a==bL)=Y/\
  ∃c,KT H b c/\h.DictOfH (d1<|lb P w) a c:=PN ok<|.inl e
end
def DGet(U:Hp)(a:iB)(y:V)(r:Option V):Prop:=
 (∃c k,Rd U a (.dK c)/\y=kV k/\r=rN c k)\/ ∃c k b,Rd U a (.dT c)/\y= .ref b/\U b=C (.tup<|k.map kV)/\r=rN c k
def DPut(U:Hp)(a:iB)(y v:V)(c:Hp):Prop:=
 (∃kvs k,U a=C (.dK kvs)/\y=kV k/\(Ps kvs)<sizeLine/\c=upd U a (.dK<|pM kvs k v))\/
 ∃kvs k b,U a=C (.dT kvs)/\y= .ref b/\U b=C (.tup<|k.map kV)/\(Ps kvs)<sizeLine/\c=upd U a (.dT<|pM kvs k v)
def DGet.k{U:Hp}{a:iB}{kvs:List (Key×V)}{k:Key}(e:U a=C (.dK kvs)):DGet U a (kV k) (rN kvs k):= .inl ⟨kvs,k,.inl e,rfl,rfl⟩
def DGet.t{U:Hp}{a b:iB}{kvs:List (List Key×V)}{k:List Key}(e:U a=C (.dT kvs))(c:U b=C (.tup<|k.map kV)):DGet U a (.ref b) (rN kvs k):= .inr ⟨kvs,k,b,.inl e,rfl,c,rfl⟩
def DPut.k{U:Hp}{a:iB}{kvs:List (Key×V)}{k:Key}{v:V}(e:U a=C (.dK kvs))(b:(Ps kvs)<sizeLine):DPut U a (kV k) v (upd U a<|.dK<|pM kvs k v):= .inl ⟨kvs,k,e,rfl,b,rfl⟩
def DPut.t{U:Hp}{a b:iB}{kvs:List (List Key×V)}{k:List Key}{v:V}(e:U a=C (.dT kvs))(c:U b=C (.tup<|k.map kV))(d:(Ps kvs)<sizeLine):
  DPut U a (.ref b) v (upd U a<|.dT<|pM kvs k v):= .inr ⟨kvs,k,b,e,rfl,c,d,rfl⟩
section
variable {X:Cx}{d:jr}{f:St}{H:Hp}{s:iI}{a:iB}{y v:V}{u r:iO}{o:Option V}{A:jf}{E:jw}
def Inv.big(U:Inv X d f H s):bL<s.heap.objs.size:=by have h:am<s.heap.objs.size:=(U.mod.glob.keeps U.bk).lt;exact DH (by decide) h
def Y5{Q:jw}(t:A.units+1<bi)(U:Inv X d f H s)(g:DGet H a y o)(m:RelV y u)(h: ∀n,Inv X d f H n->Q (.bool o.isSome) n):
  ah (ai X.prog X.w) A (aw .In u<|.ref a) Q E s:=by
 rcases g with⟨j,k,e,i,l⟩|⟨j,k,b,e,i,p,l⟩
 .subst i;obtain⟨z,hd,x,c,dd⟩:=PR U.hok e;refine KE (A4 m) hd dd.mapOf ?_;rw[<-(c.val k).isSome_eq,<-l];exact h _ (U.tok _)
 .subst i;cases(show u=bM b from m);obtain⟨z,hd,B,c,dd⟩:=PN U.hok e;refine y7 (zL t) (yy U.hok p) hd dd ?_;have q:=(c.val k).isSome_eq;rw[GF] at q;rw[<-q,<-l];exact h _ (U.tok _)
def Ki{Q:jw}(t:A.units+1<bi)(U:Inv X d f H s)(g:DGet H a y o)(m:RelV y u)(h: ∀n,Inv X d f H n->Q (.bool (!o.isSome)) n):
  ah (ai X.prog X.w) A (aw .NotIn u<|.ref a) Q E s:=by
 rcases g with⟨j,k,e,i,l⟩|⟨j,k,b,e,i,p,l⟩
 .subst i;obtain⟨z,hd,x,c,dd⟩:=PR U.hok e;refine wn (A4 m) hd dd.mapOf ?_;rw[<-(c.val k).isSome_eq,<-l];exact h _ (U.tok _)
 .subst i;cases(show u=bM b from m);obtain⟨z,hd,B,c,dd⟩:=PN U.hok e;refine sK (zL t) (yy U.hok p) hd dd ?_;have q:=(c.val k).isSome_eq;rw[GF] at q;rw[<-q,<-l];exact h _ (U.tok _)
def uy{h':ja}{t':Nat}{c:HO}(U:Inv X d f H s)(j:Mut (H a))(i:aR a s.heap h')(h: ∃q,h'.get? a=C q)(new:ObjOk X.prog X.w (upd H a c) h' a c):
  Inv X d f (upd H a c) {s with heap:=h',toks:=t'}:=
 U.write (x:=a) (e:=a) j (.inl O9) (λb q g z=>(i.2 b g).trans z) h new
def PU{P:jd}{w:iW}{g:Hp}{h':ja}{b:List (Key×V)}{e:List (Key×iO)}(z:(Ps b)<=sizeLine)(hd:(a==bL)=Y)(c:KV b e)(dd:h'.DictOf (lb P w) a e):
  ObjOk P w g h' a (.dK b):=⟨z,hd,e,c,dd⟩
def yF{L:Hp}{Q:Unit->Shared->Prop}(hu:A.units+1<bi)(I:Inv X d f H s)(g:DPut H a y v L)(M:RelV y u)(J:RelV v r)(h: ∀N,Inv X d f L N->Q () N):
  ah (ai X.prog X.w) A (ib (.ref a) u r) Q E s:=by
 rcases g with⟨i,k,e,t,l,p⟩|⟨i,k,b,e,t,O,l,p⟩
 .subst t p;obtain⟨z,hd,S,j,dd⟩:=Kf I.hok e;have C:S.length<=sizeLine:=by rw[<-j.length];exact z
  have x:(pM i k v).length<=sizeLine:=by have:=tu i k v;lia
  refine wpAny_setItem_pairs (hsz:=C) (A4 M) dd λG m B=>h _ ?_;have R: ∃q,G.get? a=N2 q:=let⟨q,_,_,n,_⟩:=m;⟨q,n⟩
  exact uy I (by rw[e];exact bA) B R<|PU x hd (j.put k J) m
 .subst t p;cases(show u=bM b from M);obtain⟨z,hd,V,j,dd⟩:=PQ I.hok e;have C:V.length<=sizeLine:=by rw[<-vH j];exact z
  have x:(pM i k v).length<=sizeLine:=by have:=tu i k v;lia
  refine wpAny_setItem_heap (hsz:=C) (zL hu) (yy I.hok O) dd λG m B=>h _ ?_;obtain⟨q,Y,U,n,D,F,K,_,P⟩:=m;refine uy I (by rw[e];exact bA) B ⟨q,n⟩ ⟨x,hd,_,(j.put k O J).keeps λc W T=>?_,q,Y,U,n,D,F,K,P⟩;rw[jg<|TJ T e (λz=>nomatch z)];exact T
end
def Gj{P:jd}{w:iW}{U:Hp}(h:ja)(a:bL<h.objs.size):ObjOk P w U (h.push {cls:= .type "dict",data:= .dict #[]}) h.objs.size (.dK []):=
 ⟨lN _,BK.mpr<|nV<|jM a,[],.nil,Heap.DictOf.new h⟩
def UD:TE:=λ_ U Q=> ∀p,U p=I->Q (.ref p) (upd U p<|.dK [])
section
variable {X:Cx}{b:bB}
def Ob:PE X (.Dict [] [] b) UD:=λc s d T Q U h=>wpAny_Dict_empty ⟨.ref s.heap.objs.size,_,U.laid (a:=s.heap.objs.size) (o:= .dK []) (t':=s.toks) (λ_ _ q=>kc _ q) (jW _)<|Gj s.heap U.big,rfl,h _ (U.hok.fresh<|jW _)⟩
end
def HG:List (TE×TE)->St->Hp->(List (V×V)->Hp->Prop)->Prop
 |[],_,U,Q=>Q [] U
 |(e,f)::r,σ,U,Q=>e σ U λx a=>f σ a λy b=>HG r σ b λd c=>Q ((x,y)::d) c
abbrev VV:List (V×V)->List (iO×iO)->Prop:=Paired λp q=>RelV p.1 q.1/\RelV p.2 q.2
def PPs(X:Cx)(d:bB)(c:List (Option Expr))(a:kh)(h:List (TE×TE)):Prop:=
 ∀(b:jr) (s:iI) (e:St) (U:Hp) (Q:List (V×V)->Hp->Prop),Inv X b e U s->HG h e U Q->
  ah (ai X.prog X.w) X.A (evalPairs<|pairTrees c a X.env d) (λj i=> ∃g f,Inv X b e f i/\VV g j/\Q g f) X.xe s
def Ru{X:Cx}{a:bB}:PPs X a [] [] []:=λb s c T Q U h=>pairTrees_nil_walk ⟨[],T,U,.nil,h⟩
def NY{X:Cx}{b:bB}{k v:iK}{f:List (Option Expr)}{j:kh}{g i:TE}{e:List (TE×TE)}(hk:PE X k g)(hv:PE X v i)(r:PPs X b f j e):
  PPs X b (C k::f) (v::j) ((g,i)::e):=λa s d M Q N h=>
 pairTrees_cons_walk (thn (hk a s d M _ N h) λu s1 ⟨x,l,o,B,w⟩=>thn (hv a s1 d l _ o w) λO E ⟨y,m,p,U,z⟩=>thn (r a E d m _ p z) λT L ⟨t,n,q,c,A⟩=>⟨(x,y)::t,n,q,.cons ⟨B,U⟩ c,A⟩)
def AX(b more:List (Key×V)):List (Key×V):=more.foldl (λa c=>pM a c.1 c.2) b
def KV.merge: ∀{more:List (Key×V)} {c:List (Key×iO)} {a:List (Key×V)} {b:List (Key×iO)},KV more c->KV a b->KV (AX a more) (merged b c):=by
 intro more c a b r;unfold KV at r
 induction r generalizing a b with
 |nil=>intro q;exact q
 | @cons p q g i h t d=>
  intro f
  have e:KV (pM a p.1 p.2) (stored b q.1 q.2):=by have:=f.put p.1 h.2;rw[<-h.1];exact this
  exact d e
theorem va: ∀(more a:List (Key×V)),(AX a more).length<=Ps a+Ps more
 |[],a=>by show (Ps a)<=Ps a+0;lia
 |p::r,a=>by have h1:=va r<|pM a p.1 p.2;have b:=tu a p.1 p.2;show(AX (pM a p.1 p.2) r).length<=_;rw[mw];lia
theorem Bu{P:jd}{w:iW}: ∀{d:List (Key×V)} {g:List (iO×iO)},VV (d.map λf=>(kV f.1,f.2)) g-> ∃e,Carries (lb P w) g e/\KV d e
 |[],_,r=>by rw[rF] at r;cases r;exact⟨[],bA,.nil⟩
 |p::d,_,r=>by
  rw[km] at r
  cases r with
  | @cons a b j bs h t=>obtain⟨e,c,q⟩:=Bu (P:=P) (w:=w) t;obtain⟨b1,i⟩:=b;exact⟨(p.1,i)::e,⟨A4 h.1,rfl,c⟩,.cons ⟨rfl,h.2⟩ q⟩
def XY(d:List (TE×TE)):TE:=λf U Q=> ∀p,U p=I->HG d f (upd U p<|.dK []) λe b=>b p=C (.dK [])/\ ∃a:List (Key×V),e=a.map (λc=>(kV c.1,c.2))/\(Ps a)<=15/\Q (.ref p) (upd b p<|.dK<|AX [] a)
def RB{X:Cx}{i:bB}{b:List (Option Expr)}{d:kh}{m:List (TE×TE)}(h:PPs X i b d m)(r:b.all (·.isSome)=O0)(x:(Ps b)=Ps d)(u:b≠[])
  (j:(Ps b)<=15):PE X (.Dict b d i) (XY m):=by
 intro g s J H Q I q;have y:=I.hok.fresh<|jW s.heap.objs.size;have p:=I.laid (a:=s.heap.objs.size) (o:= .dK []) (h':=s.heap.push {cls:= .type "dict",data:= .dict #[]}) (t':=s.toks) (λ_ _ q=>kc _ q) (jW _)<|Gj s.heap I.big;refine wpAny_Dict_walk (knd:=lb X.prog X.w) r x u j<|thn (h g _ J _ _ p (q _ y)) λY' U a'=>?_;obtain⟨N,M,l,k,e,f,t,lk,E⟩:=a';subst t;obtain⟨T,c,O⟩:=Bu (P:=X.prog) (w:=X.w) k;obtain⟨z,hd,G,L,dd⟩:=Kf l.hok e;cases L;refine⟨T,c,dd,λh' n B=>⟨.ref s.heap.objs.size,_,?_,rfl,E⟩⟩
 have C:(AX [] f).length<=sizeLine:=by have h1:=va f [];rw[qL] at h1;rw[kf];lia
 have v: ∃q,h'.get? s.heap.objs.size=N2 q:=let⟨q,_,_,A,_⟩:=n;⟨q,A⟩
 exact uy l (by rw[e];exact bA) B v<|PU C hd (O.merge .nil) n
end L2
namespace PX
open L2 PySem.SeqAt TS
noncomputable def BW:D->Option Key
 | .int i=>C<|.inl i
 | .str x=>C<|.inr x
 |_=>I
noncomputable def FY:List D->Option (List Key)
 |[]=>C []
 |d::l=>(BW d).bind λk=>(FY l).map (k:: ·)
noncomputable def Em:D->Option (List Key)
 | .tup l=>FY l
 |_=>I
def qz(h:BW d=C k):d=kx k:=by
 cases d<;>simp[BW] at h<;>subst h<;>rfl
def OY: ∀{l:List D} {a:List Key},FY l=C a->l=a.map kx:=by
 intro e
 induction e with
 |nil=>intro a h;cases h;rfl
 |cons d l c=>intro a h;rw[FY] at h;obtain⟨k,h1,h⟩:=iA h;obtain⟨m,b,rfl⟩:=ju h;rw[qz h1,c b];rfl
def wQ(h:Em d=C a):d= .tup (a.map kx):=by
 cases d with
 |tup l=>rw[OY (show FY l=C a from h)]
 |_=>cases h
def xi(a b:Key):D.eqb (kx a) (kx b)=decide (a=b):=by
 cases a with
 |inl i=>cases b with
  |inl j=>simp only[kx,D.eqb,OX]
  |inr y=>simp only[kx,D.eqb,OW]
 |inr x=>cases b with
  |inl j=>simp only[kx,D.eqb,OV]
  |inr y=>simp only[kx,D.eqb,OU];rfl
theorem uw: ∀a b:List Key,D.eqbL (a.map kx) (b.map kx)=decide (a=b)
 |[],[]=>by simp[D.eqbL]
 |[],_::_=>by simp[D.eqbL]
 |_::_,[]=>by simp[D.eqbL]
 |x::a,y::b=>by simp only[km];rw[D.eqbL,xi,uw a b];simp only[da,mA]
def mV:List D->List D->D->Option D
 |a::b,v::c,k=>if D.eqb a k=J then C v else mV b c k
 |_,_,_=>I
def uS:List D->List D->D->D->List D
 |b::c,v::a,k,w=>(if D.eqb b k=J then w else v)::uS c a k w
 |_,a,_,_=>a
def uA(a b:List D)(k w:D):List D×List D:=if a.any (D.eqb · k)=J then(a,uS a b k w) else(a++[k],b++[w])
noncomputable def wU(a:List D)(k:D):Bool:=((BW k).isSome&&a.all λx=>(BW x).isSome)||((Em k).isSome&&a.all λx=>(Em x).isSome)
section
variable {K:jb}{H:Hp}{O:AP'}
def Fm(h:Rep K H O (kx k) v):v=kV k:=by
 cases k with
 |inl i=>exact Rep.int h
 |inr x=>exact Rep.str h
def KR: ∀{b:List Key} {a:List V},RepL K H O (b.map kx) a->a=b.map kV:=by
 intro e
 induction e with
 |nil=>intro a h;rw[rF,RepL] at h;exact h
 |cons k b d=>intro a h;rw[km,RepL] at h;obtain⟨v,r,rfl,h1,c⟩:=h;rw[Fm h1,d c];rfl
def tX(hk:BW d=C k)(h:kM K H O d v):v=kV k:=by
 rw[qz hk] at h;rcases h with h|⟨a,rfl,h⟩
 .exact Fm h
 .cases k<;>exact h.elim
def tV(hk:Em d=C c)(h:kM K H O d v): ∃b,v= .ref b/\H b=C (.tup<|c.map kV):=by
 rw[wQ hk] at h;rcases h with h|⟨a,rfl,h⟩
 .obtain⟨b,e,rfl,q,r⟩:=h.tup;rw[KR r] at q;exact⟨b,rfl,q.1⟩
 .exact h.elim
theorem OM{k:Key}: ∀{a:List (Key×V)} {b:List D},RepL K H O b (a.map (·.2))->(∀d,mV (a.map λp=>kx p.1) b (kx k)=C d-> ∃v,rN a k=C v/\Rep K H O d v)/\(mV (a.map λp=>kx p.1) b (kx k)=I->rN a k=I)
 |[],b,_=>⟨λd h=>by cases b<;>simp[mV] at h,λ_=>rfl⟩
 |(c,v)::a,[],h=>by rw[km,RepL] at h;cases h
 |(c,v)::a,m::b,h=>by
  rw[km,RepL] at h;obtain⟨w,r,e,h1,f⟩:=h;obtain⟨rfl,rfl⟩:=uF e;obtain⟨j,l⟩:=OM (k:=k) f;simp only[km,mV,xi];by_cases hk:c=k
  .simp only[hk,decide_true,ky];exact⟨λd h=>by cases h;exact⟨v,sG (p:=(k,v)) O9,h1⟩,λh=>by cases h⟩
  .simp only[hk,decide_false,kT,kI];refine⟨λd h=>?_,λh=>?_⟩
   .obtain⟨u,g,i⟩:=j d h;exact⟨u,by rw[oU (p:=(c,v)) hk];exact g,i⟩
   .rw[oU (p:=(c,v)) hk];exact l h
theorem OL{k:List Key}: ∀{a:List (List Key×V)} {b:List D},RepL K H O b (a.map (·.2))->(∀d,mV (a.map λp=> .tup (p.1.map kx)) b (.tup<|k.map kx)=C d-> ∃v,rN a k=C v/\Rep K H O d v)/\(mV (a.map λp=> .tup (p.1.map kx)) b (.tup<|k.map kx)=I->rN a k=I)
 |[],b,_=>⟨λd h=>by cases b<;>simp[mV] at h,λ_=>rfl⟩
 |(c,v)::a,[],h=>by rw[km,RepL] at h;cases h
 |(c,v)::a,m::b,h=>by
  rw[km,RepL] at h;obtain⟨w,r,e,h1,f⟩:=h;obtain⟨rfl,rfl⟩:=uF e;obtain⟨j,l⟩:=OL (k:=k) f;simp only[km,mV,D.eqb,uw];by_cases hk:c=k
  .simp only[hk,decide_true,ky];exact⟨λd h=>by cases h;exact⟨v,sG (p:=(k,v)) O9,h1⟩,λh=>by cases h⟩
  .simp only[hk,decide_false,kT,kI];refine⟨λd h=>?_,λh=>?_⟩
   .obtain⟨u,g,i⟩:=j d h;exact⟨u,by rw[oU (p:=(c,v)) hk];exact g,i⟩
   .rw[oU (p:=(c,v)) hk];exact l h
end
section
variable {P:jd}{w:iW}{H H':Hp}{h:ja}{a:iB}
def TZ(x:ObjOk P w H h a (.dT [])):ObjOk P w H' h a (.dK []):=by
 obtain⟨z,y,k,r,o,b,c,h1,d,f,g,j⟩:=x;cases r
 have:b= #[]:=by
  have:b.toList=[]:=by simpa using g
  exact WO.mp this
 subst this;refine⟨z,y,[],.nil,o,#[],c,h1,d,f,?_,?_,lT⟩
 .first|exact λe i=>by simp at i|(intro;simp)
 .first|exact .nil|trivial|simp[Pairs]
def T3(x:ObjOk P w H h a (.dK [])):ObjOk P w H' h a (.dT []):=by
 obtain⟨z,y,n,r,o,c,d,h1,f,g,k,b,m⟩:=x;cases r
 have:c= #[]:=by
  have j:(Ps c.toList)=0:=by
   first
    |simpa using (Ps b)
    |simpa using(vH b)
    |(
      cases i:c.toList with
      |nil=>rfl
      |cons e l=>rw[i] at b;cases b)
  exact WO.mp<|Qu.mp j
 subst this;exact⟨z,y,[],.nil,o,#[],d,h1,f,g,rfl,lT⟩
end
section
variable {X:Cx}{f:jr}{g:L2.St}{H:Hp}{s:iI}
def Lq{A:jf}{E:jw}(U:Inv X f g H s){H':Hp}{a:iB}{k:Key}{u:iO}{Q:jw}(x:ObjOk X.prog X.w H' s.heap a (.dK []))(d:RelV (kV k) u)(b:Bool)(h: ∀e,Inv X f g H e->Q (.bool b) e):
  ah (ai X.prog X.w) A (aw (if b=J then .NotIn else .In) u<|.ref a) Q E s:=by
 obtain⟨z,hd,i,c,dd⟩:=x;cases c
 cases b with
 |false=>exact KE (A4 d) hd dd.mapOf<|h _ (U.tok _)
 |true=>exact wn (A4 d) hd dd.mapOf<|h _ (U.tok _)
def Lp{A:jf}{E:jw}(e:A.units+1<bi)(U:Inv X f g H s){H':Hp}{a b:iB}{k:List Key}{Q:jw}(x:ObjOk X.prog X.w H' s.heap a (.dT []))(d:H b=C (.tup<|k.map kV))(c:Bool)(h: ∀i,Inv X f g H i->Q (.bool c) i):
  ah (ai X.prog X.w) A (aw (if c=J then .NotIn else .In) (.ref b)<|.ref a) Q E s:=by
 obtain⟨z,hd,u,r,o,l,j,h1,m,n,p,q⟩:=x;cases r;have dd:s.heap.DictOfH (d1<|lb X.prog X.w) a []:=⟨o,l,j,h1,m,n,p,(λx (t:x∈[])=>by simp at t),q⟩
 cases c with
 |false=>exact y7 (zL e) (yy U.hok d) hd dd<|h _ (U.tok _)
 |true=>exact sK (zL e) (yy U.hok d) hd dd<|h _ (U.tok _)
def wR(h:wU d k=J):(∃e,BW k=C e/\ ∀x∈d,∃c,BW x=C c)\/(∃i,Em k=C i/\ ∀x∈d,∃c,Em x=C c):=by
 unfold wU at h;rw[xG,lE,lE,lU,lU] at h;rcases h with⟨h1,a⟩|⟨h1,a⟩
 .exact .inl ⟨_,(LR.mp h1).choose_spec,λx b=>LR.mp<|a x b⟩
 .exact .inr ⟨_,(LR.mp h1).choose_spec,λx b=>LR.mp<|a x b⟩
def Jl{a:List Key}{c:Key}(h:BW (.tup<|a.map kx)=C c):False:=by cases h
def FZ(h:Em (kx k)=C c):False:=by cases k<;>cases h
def Y4(z:A.units+1<bi)(I:Inv X f g H s)(q:OthB X.K (H a) .dct ks n us)(r:RepL X.K H O n us)(hk:wU ks k=O0)(T:kM X.K H O k y)(o:RelV y u)(l:Bool)
  (h: ∀j,Inv X f g H j->Q (.bool<|xor l (mV ks n k).isSome) j):ah (ai X.prog X.w) A (aw (if l=O0 then .NotIn else .In) u<|.ref a) Q E s:=by
 have nil: ∀n:List D,mV [] n k=Op:=λn=>by cases n<;>rfl
 rcases q with⟨i,e,rfl,rfl⟩|⟨i,e,rfl,rfl⟩
 .rcases wR hk with⟨B,h1,_⟩|⟨C',h1,M⟩
  .have:=tX h1 T;subst this;have G:=qz h1;subst G;obtain⟨F,P⟩:=OM (k:=B) r
   have Y:(rN i B).isSome=(mV (i.map λp=>kx p.1) n<|kx B).isSome:=by
    cases x:mV (i.map λp=>kx p.1) n (kx B) with
    |none=>rw[P x];rfl
    |some d=>obtain⟨v,N,_⟩:=F d x;rw[N];rfl
   rw[<-Y] at h
   cases l with
   |false=>exact Y5 z I (DGet.k e) o λj m=>by simpa using h j m
   |true=>exact Ki z I (DGet.k e) o λj m=>by simpa using h j m
  .have J:i=[]:=by
    cases i with
    |nil=>rfl
    |cons p i=>obtain⟨c,U⟩:=M (kx p.1) (by simp);exact(FZ U).elim
   subst J;obtain⟨b,rfl,L⟩:=tV h1 T;cases o;rw[rF,nil] at h;exact Lp z I (T3 (H':=H)<|I.hok a _ e) L l λj m=>by simpa using h j m
 .rcases wR hk with⟨B,h1,M⟩|⟨C',h1,_⟩
  .have J:i=[]:=by
    cases i with
    |nil=>rfl
    |cons p i=>obtain⟨c,U⟩:=M (.tup<|p.1.map kx) (by simp);exact(Jl U).elim
   subst J;have:=tX h1 T;subst this;rw[rF,nil] at h;exact Lq I (TZ (H':=H)<|I.hok a _ e) o l λj m=>by simpa using h j m
  .obtain⟨b,rfl,L⟩:=tV h1 T;have G:=wQ h1;subst G;obtain⟨F,P⟩:=OL (k:=C') r
   have Y:(rN i C').isSome=(mV (i.map λp=> .tup (p.1.map kx)) n<|.tup<|C'.map kx).isSome:=by
    cases x:mV (i.map λp=> .tup (p.1.map kx)) n (.tup<|C'.map kx) with
    |none=>rw[P x];rfl
    |some d=>obtain⟨v,N,_⟩:=F d x;rw[N];rfl
   rw[<-Y] at h
   cases l with
   |false=>exact Y5 z I (DGet.t e L) o λj m=>by simpa using h j m
   |true=>exact Ki z I (DGet.t e L) o λj m=>by simpa using h j m
end
section
variable {X:Cx}
noncomputable def TY:F:=λa=>C ((.oth .dct [] [],J),a)
end
section
variable {K:jb}{T:AP'}{d:L2.St}{c:Dn}{H:Hp}{i:Nat}{g d':D}{a:iB}{o:HO}
def OwnI.writeG{j:Nat}{b:iB}(hd:c[i]?=C (C (g,J)))(h:OwnI d (c.set i<|C (d',J)) j b):OwnI d c j b:=by
 obtain⟨e,h1,f⟩:=h;rcases lQ h1 with⟨rfl,_,_⟩|⟨_,q⟩
 .exact⟨_,hd,f⟩
 .exact⟨e,q,f⟩
def ER.writeG(E:ER K H T d c)(hd:c[i]?=C (C (g,O0)))(p:d[i]?=C (C<|.ref a))(r:OwnOk K (upd H a o) (λb=>OwnA d c b\/T b) d' a):
  ER K (upd H a o) T d (c.set i<|C (d',O0))/\Keep d c H (c.set i<|C (d',O0)) (upd H a o):=by
 have M:i<(Ps c):=(rQ.mp hd).1;have s:OwnA d c a:=⟨i,_,hd,p⟩
 have y: ∀b,OwnA d (c.set i<|C (d',O0)) b->OwnA d c b:=λb a'=>by
  obtain⟨j,e,h1,m⟩:=a'
  obtain⟨N,t,v⟩:=OwnI.writeG hd ⟨e,h1,m⟩;exact⟨j,N,t,v⟩
 have B: ∀b u,H b=C u-> ¬(OwnA d c b\/T b)->upd H a o b=C u:=λb u e n=>by rw[jg<|by intro z;subst z;exact n<|.inl s];exact e
 have U: ∀b,H b≠I->upd H a o b≠I:=λb z=>by
  by_cases A:b=a
  .subst A;rw[jk];simp
  .rw[jg A];exact z
 have sub: ∀b,(OwnA d (c.set i<|C (d',O0)) b\/T b)->OwnA d c b\/T b:=λb z=>z.imp (y b) id;refine⟨⟨by rw[wo];exact E.len,λj e h=>?_,λj e h=>?_,λj k e f b h hk h1 m=>?_,λb z=>E.nT b<|y b z,λb z=>by have ne:b≠a:=λe=>E.nT a s<|e▸z;rw[jg ne];exact E.dom b z⟩,⟨λb u e n=>by rw[jg<|by intro z;subst z;exact n s];exact e,λj b z=>OwnI.writeG hd z,U⟩⟩
 .rcases lQ h with⟨_,_,q⟩|⟨_,q⟩
  .cases q
  .obtain⟨w,l,x⟩:=E.val j e q;exact⟨w,l,Rep.mono B (λb _ z=>sub b z) x⟩
 .rcases lQ h with⟨rfl,_,q⟩|⟨ne,q⟩
  .cases q;exact⟨a,p,r.mono (λ_ _ e _=>e) (λb _ z=>sub b z) λ_ e=>e⟩
  .obtain⟨b,l,x⟩:=E.own j e q;refine⟨b,l,x.mono B (λb _ z=>sub b z) λu Q=>?_⟩;rw[jg]
   .exact Q
   .intro z;subst z;exact ne<|E.inj i j _ _ _ hd q p l
 .obtain⟨L,t,v⟩:=OwnI.writeG hd ⟨e,h,h1⟩;obtain⟨O,G,J⟩:=OwnI.writeG hd ⟨f,hk,m⟩;exact E.inj j k L O b t G v J
end
section
variable {X:Cx}{c:jr}{d:L2.St}{H:Hp}{s:iI}{a:iB}
def US(U:Inv X c d H s)(e:H a=C (.dT [])):Inv X c d (upd H a<|.dK []) s:=by have:=uy (t':=s.toks) (h':=s.heap) U (by rw[e];exact bA) (DG a s.heap) (by obtain⟨z,y,g,r,o,f,b,h1,_⟩:=(show ObjOk X.prog X.w H s.heap a (.dT []) from U.hok a _ e);exact⟨o,h1⟩)<|TZ (H':=upd H a<|.dK [])<|U.hok a _ e;exact this
def UR(U:Inv X c d H s)(e:H a=C (.dK [])):Inv X c d (upd H a<|.dT []) s:=by have:=uy (t':=s.toks) (h':=s.heap) U (by rw[e];exact bA) (DG a s.heap) (by obtain⟨z,y,g,r,o,f,b,h1,_⟩:=(show ObjOk X.prog X.w H s.heap a (.dK []) from U.hok a _ e);exact⟨o,h1⟩)<|T3 (H':=upd H a<|.dT [])<|U.hok a _ e;exact this
def Yn:Tf:=λo i v H Q=> ∃a,o= .ref a/\((∃e,DPut H a i v e/\Q e)\/(∃f,H a=C (.dT [])/\i=kV f/\Q (upd H a<|.dK [(f,v)]))\/
 (∃g b,H a=C (.dK [])/\i= .ref b/\H b=C (.tup<|g.map kV)/\Q (upd H a<|.dT [(g,v)])))
def Np(j:X.A.units+1<bi):WC X Yn:=by
 intro c s d H o i v E U u Q T x l m h;obtain⟨a,rfl,h⟩:=h;cases x;rcases h with⟨r,g,q⟩|⟨y,e,rfl,q⟩|⟨B,b,e,rfl,n,q⟩
 .exact yF j T g l m λp f=>⟨r,f,q⟩
 .refine yF j (US T e) (DPut.k (k:=y) (v:=v) jk<|by rw[kf];decide) l m λp f=>⟨_,f,?_⟩
  rw[Jk];exact q
 .have w:b≠a:=TJ n e (λz=>nomatch z);refine yF j (UR T e) (DPut.t (k:=B) (v:=v) (b:=b) jk (by rw[jg w];exact n)<|by rw[kf];decide) l m λp f=>⟨_,f,?_⟩
  rw[Jk];exact q
end
section
variable {K:jb}{H:Hp}{O:AP'}
theorem Nw{k:Key}{w:D}{v:V}(d:Rep K H O w v): ∀{a:List (Key×V)} {b:List D},RepL K H O b (a.map (·.2))->RepL K H O (uS (a.map λp=>kx p.1) b (kx k) w) ((a.map λc=>if c.1=k then(c.1,v) else c).map (·.2))
 |[],b,h=>by cases b<;>simpa[uS] using h
 |(f,u)::a,[],h=>by rw[km,RepL] at h;cases h
 |(f,u)::a,i::b,h=>by
  rw[km,RepL] at h;obtain⟨x,r,e,h1,g⟩:=h;obtain⟨rfl,rfl⟩:=uF e;simp only[km,uS,xi];refine RepL.cons ?_<|Nw d g;by_cases hk:f=k
  .simp only[hk,decide_true,ky];exact d
  .simp only[hk,decide_false,kT,kI];exact h1
theorem Nv{k:List Key}{w:D}{v:V}(d:Rep K H O w v): ∀{a:List (List Key×V)} {b:List D},RepL K H O b (a.map (·.2))->RepL K H O (uS (a.map λp=> .tup (p.1.map kx)) b (.tup<|k.map kx) w) ((a.map λc=>if c.1=k then(c.1,v) else c).map (·.2))
 |[],b,h=>by cases b<;>simpa[uS] using h
 |(f,u)::a,[],h=>by rw[km,RepL] at h;cases h
 |(f,u)::a,i::b,h=>by
  rw[km,RepL] at h;obtain⟨x,r,e,h1,g⟩:=h;obtain⟨rfl,rfl⟩:=uF e;simp only[km,uS,D.eqb,uw];refine RepL.cons ?_<|Nv d g;by_cases hk:f=k
  .simp only[hk,decide_true,ky];exact d
  .simp only[hk,decide_false,kT,kI];exact h1
def Tz(a:Rep K H O w v)(h:RepL K H O b (kvs.map (·.2))):
  (uA (kvs.map λp=>kx p.1) b (kx k) w).1=(pM kvs k v).map (λp=>kx p.1)/\RepL K H O (uA (kvs.map λp=>kx p.1) b (kx k) w).2 ((pM kvs k v).map (·.2)):=by
 have c:(kvs.map λp=>kx p.1).any (D.eqb · (kx k))=kvs.any λd=>decide (d.1=k):=by rw[xR];congr 1;funext p;exact xi _ _
 unfold uA pM;rw[c];split
 .refine⟨?_,Nw a h⟩;rw[kH];apply uE;intro p _;simp only[bS];split<;>rfl
 .exact⟨by simp,by rw[nU];exact h.append<|RepL.one a⟩
def Tw{k:List Key}{w:D}{v:V}(b:Rep K H O w v){kvs:List (List Key×V)}{a:List D}(h:RepL K H O a (kvs.map (·.2))):
  (uA (kvs.map λp=> .tup (p.1.map kx)) a (.tup<|k.map kx) w).1=(pM kvs k v).map (λp=> .tup (p.1.map kx))/\RepL K H O (uA (kvs.map λp=> .tup (p.1.map kx)) a (.tup<|k.map kx) w).2 ((pM kvs k v).map (·.2)):=by
 have c:(kvs.map λp=>D.tup<|p.1.map kx).any (D.eqb · (.tup<|k.map kx))=kvs.any λd=>decide (d.1=k):=by rw[xR];congr 1;funext p;simp only[bS,D.eqb,uw]
 unfold uA pM;rw[c];split
 .refine⟨?_,Nv b h⟩;rw[kH];apply uE;intro p _;simp only[bS];split<;>rfl
 .exact⟨by simp,by rw[nU];exact h.append<|RepL.one b⟩
end
def Fl(i:Nat)(f:F)(g:FO):FS:=λc=>(f c).bind λp=>match p.2[i]? with
 |some (C _)=>(g p.2).bind λq=>match res q.2 q.1,q.2[i]? with
  |some k,C (C (.oth .dct a b,J))=>if wU a k=J/\(Ps a)<10000 then C (.nx<|q.2.set i<|C (.oth .dct (uA a b k p.1.1).1 (uA a b k p.1.1).2,J)) else I
  |_,_=>I
 |_=>I
section
variable {X:Cx}{e c:iK}{f:F}{g:FO}{b h a d:bB}{i:Nat}{x:aB}{A L:jT}{j:Hp}
end
end PX
namespace TT
open PySem.SeqAt
structure DRaw(h:ja)(d:iB)(es:Array ee)(ep:Nat):Prop where
 at_: ∃o,h.get? d=N2 o/\o.ExactDict/\o.data= .dict es ep
def DRaw.stay{d b a}(x:DRaw h d b a)(k: ∀o,h.get? d=C o->c.get? d=C o):DRaw c d b a:=let⟨o,h1,r⟩:=x.at_;⟨o,k _ h1,r⟩
section
variable {prog:jd}{w:iW}{A:jf}{E:jw}{s:iI}
def DRaw.typeIs{d b a}(x:DRaw s.heap d b a):s.TypeIs (.ref d) "dict":=let⟨o,h1,r,_⟩:=x.at_;⟨o,h1,r.1⟩
def J7(hd:(d==bL)=Y)(c:DRaw s.heap d g f)
  (h:Q (.ref s.heap.objs.size) {s with heap:=s.heap.push {cls:= .type "dict_keyiterator",data:= .fields #[.ref d,.int 0 0,.int g.size 0,.int f 0]}}):ah (ai prog w) A (en<|.ref d) Q E s:=by
 have b:=c.typeIs;obtain⟨o,e,i,a⟩:=c.at_;refine GH b Md<|oB Md b PySem.F.entry_dict_iter ?_<|PySem.F.args_dict_iter_1 _;unfold bn.«dict.__iter__»;refine iF ?_;unfold Builtin.Dict.dictSlotNone;refine iF<|wpAny_notOrdered_dict b ?_;change ah _ _ (pure<|bM d) _ _ s;refine iR ?_;change ah _ _ (Builtin.Dict.showsAll d>>=_) _ _ s;unfold Builtin.Dict.showsAll;rw[je<|by rw[hd];exact kU];refine iF<|iR ?_;refine iF<|GD e a ?_;refine iF<|GC e a ?_;refine iF<|mx<|iR ⟨_,rfl,"dict_keyiterator",_,⟨_,kD _ rfl,rfl⟩,Cf.lookup,?_⟩;simpa[cO] using h
def AW{b d:iB}{i f:Nat}{c:Array ee}{e:ee}{Q:EV}(a:s.heap.IsKeyIter b d i c.size f)(q:DRaw s.heap d c f)(r:c[i]?=C e)
  (n: ∀g,g.IsKeyIter b d (i+1) c.size f->aR b s.heap g->Q (C e.key) {s with heap:=g}):ah (ai prog w) A (cz<|.ref b) Q E s:=by
 obtain⟨o,h,p,hd⟩:=id a;obtain⟨t,k,u,l⟩:=q.at_;unfold cz;refine iF<|rW<|rZ (name:=bf "__next__") a.typeIs Cf<|oB Cf a.typeIs Mc ?_<|Mb _;refine iF<|iR ?_;refine iF ?_;refine iF ?_;refine iF<|Dj a.typeIs<|iR ?_;refine iF<|wr h hd ?_;have m:Builtin.Dict_items.ownsTuple "dict_keyiterator"=Y:=by decide
 simp only[m,kT,kI];change ah _ _ (if(bM d==au)=J then _ else _) _ _ s;rw[je (show ¬((bM d==au)=J) from kU)];refine iF<|iR ?_;refine iF<|GD k l ?_;rw[je<|by simp];refine iF<|iR ?_;refine iF<|GC k l ?_;rw[je<|by simp];refine iR ?_;simp only[show ¬((i:Int)<0) from by lia,kI,qh,r];refine iF ?_;refine iF<|Dj a.typeIs<|iR ?_;refine iF<|Ma a.typeIs ?_;change ah _ _ (li (.ref b) 1 (cO<|(i:Int)+1)>>=_) _ _ s;refine iF<|vC h hd (by simp) ?_
 have j:(s.heap.update b (f3 (·.setIfInBounds 1 (cO<|(i:Int)+1)))).IsKeyIter b d (i+1) c.size f:=
  ⟨_,uN _ h (DF<|uH hd _),(DE ..).trans p,by rw[uH hd];simp[cO]⟩
 refine iF<|nC ?_;refine iF (Ma (s:={s with heap:=s.heap.update b (f3 (·.setIfInBounds 1 (cO<|(i:Int)+1)))}) j.typeIs ?_);change ah _ _ (pure e.key) _ _ _;exact iR<|iR ⟨_,rfl,iR<|n _ j (rB ..)⟩
def BV(n:A.handled=I)(c:s.heap.IsKeyIter it d e.size e.size k)(p:DRaw s.heap d e k)
  (l: ∀h,ej it s.heap h->Q I {s with heap:=h}):ah (ai prog w) A (cz<|.ref it) Q E s:=by
 obtain⟨o,i,q,hd⟩:=id c;obtain⟨r,f,t,g⟩:=p.at_;unfold cz;refine iF<|rW<|rZ (name:=bf "__next__") c.typeIs Cf<|oB Cf c.typeIs Mc ?_<|Mb _;refine iF<|iR ?_;refine iF ?_;refine iF ?_;refine iF<|Dj c.typeIs<|iR ?_;refine iF<|wr i hd ?_;have j:Builtin.Dict_items.ownsTuple "dict_keyiterator"=Y:=by decide
 simp only[j,kT,kI];change ah _ _ (if(bM d==au)=J then _ else _) _ _ s;rw[je (show ¬((bM d==au)=J) from kU)];refine iF<|iR ?_;refine iF<|GD f g ?_;rw[je<|by simp];refine iF<|iR ?_;refine iF<|GC f g ?_;rw[je<|by simp];refine iR ?_;simp only[show ¬((e.size:Int)<0) from by lia,kI,qh,Dq<|jW e.size];refine iF ?_;refine iF<|Dj c.typeIs<|iR ?_;change ah _ _ (li (.ref it) 0 .none>>=_) _ _ s;refine iF<|vC i hd (by simp) ?_;change ah _ _ (il (.type "StopIteration") []>>=_) _ _ _;refine iF ?_;simp -iota only[il,lm];refine iF<|mx ?_ (by size_fits);refine iF (m:=cP _ _)<|Ab (a:=au) (by first|rfl|(simp -iota only[cP];rfl)) ?_;refine mx ?_ (by size_fits);simp -iota only[ww];refine iF<|G2 ?_;rw[show A.in1.handled=I from n];refine iF<|iR<|GZ ?_;refine iF<|xM (T:="StopIteration") (b:=J) ⟨_,kD _ rfl,rfl⟩ Dz ?_;exact iR<|l _ (((rB ..).extBut.push _).push _)
def Gx(p:A.handled=I)(U d:iB)(r:U≠d)(a:Array ee)(k:Nat):Walks prog w A U [U,d] [U] a.size (λi v=> ∃e,a[i]?=C e/\v=e.key) (λi h=>h.IsKeyIter U d i a.size k/\DRaw h d a k) where
 sub:=λb c=>by simp at c;simp[c]
 frame:=λ_ _ _ st hk=>⟨st.1.at λo e=>hk U (by simp) o e,st.2.stay λo e=>hk d (by simp) o e⟩
 item:=λi s Q E q st f=>by have l:a[i]?=C a[i]:=rT q;refine AW st.1 st.2 l λg m j=>?_;exact f _ g s.toks ⟨_,l,rfl⟩ ⟨m,st.2.stay λo e=>j.extBut d o (λh=>r h.symm) e⟩ λb o c e=>j.extBut b o (λh=>c<|by simp[h]) e
 done:=λs Q E st f=>BV p st.1 st.2 λg n=>f g s.toks λb o c e=>n b o (λh=>c<|by simp[h]) e
 self:=λ_ _ _ _ st f=>wpAny_pyIter_keyiter st.1 f
def P5(hd:(a==bL)=O1)(hh:A.handled=Op)(S:DRaw s.heap a d n)(hn:d.size<=sizeLine) 
  (hQ: ∀i tk,(∀b o,s.heap.get? b=N2 o->i.get? b=N2 o)->Q (d.toList.map (·.key)) {s with heap:=i,toks:=tk}):ah (ai prog w) A (fE<|.ref a) Q E s:=by
 have u:a<s.heap.objs.size:=let⟨_,h1,_⟩:=S.at_;ke h1;have q:a≠s.heap.objs.size:=jM u;have G:a≠s.heap.objs.size+1:=jM<|vE u;have y:s.heap.objs.size≠s.heap.objs.size+1:=jM<|sh _;unfold fE;refine iF<|G3<|sf Mj ?_;rw[vD Mi _];show ah _ A.in1 (ik []>>=λl=>again<|.builtin "list.__iadd__" ⟨[l,.ref a],[]⟩) _ _ s;refine iF<|mx ?_;refine iR ⟨xN Dl _,sf Mh ?_⟩;rw[vD Dl _];show ah _ A.in1 (bP (.ref s.heap.objs.size) (.ref a)<|.ref s.heap.objs.size) _ _ _;generalize C:({cls:= .type "list",data:= .seq ([]:List iO).toArray}:ey)=f;have p:DRaw (s.heap.push f) a d n:=S.stay λo e=>kc _ e;unfold bP;refine iF<|wq (T:="dict") (s:={s with heap:=s.heap.push f}) p.typeIs ?_;have h1:bW (.ref s.heap.objs.size) (.ref a)=O1:=by simp only[bW,BK];exact q.symm
 have c:(b3 "dict"==b3 "list")=O1:=by decide
 have Z:(b3 "dict"==b3 "tuple")=O1:=by decide
 simp -iota only[h1,c,Z,o6,kT,kI];refine iF<|J7 (s:={s with heap:=s.heap.push f}) hd p ?_;obtain⟨c,r⟩: ∃c,c=(s.heap.push f).push {cls:= .type "dict_keyiterator",data:= .fields #[.ref a,.int 0 0,.int d.size 0,.int n 0]}:=⟨_,rfl⟩
 have x:c.IsKeyIter (s.heap.push f).objs.size a 0 d.size n:=by rw[r];exact⟨_,kD _ rfl,rfl,rfl⟩
 have t: ∀b o,(s.heap.push f).get? b=N2 o->c.get? b=N2 o:=λb o e=>by rw[r];exact kc _ e
 rw[<-r];have v:(s.heap.push f).objs.size=s.heap.objs.size+1:=rE _ _;have h:DRaw c a d n:=p.stay λo e=>t _ _ e;refine iF<|nC ?_;unfold eI;refine iF<|tv (T:="dict") (s:={s with heap:=c}) h.typeIs PySem.F.slot_dict_len.lookup ?_;generalize H:("dict.__len__":String)=id0;dsimp only;rw[show Fa id0=N2 ("dict","__len__") from by subst H;decide+kernel];dsimp only;refine iF<|xM (T:="dict") (s:={s with heap:=c}) (b:=O0) h.typeIs (by rw[Dp];kernel_rfl) ?_;simp -iota only[vo,kT,kI];change ah _ _ (if _=O0 then _ else _) _ _ _;rw[iT<|by subst H;decide+kernel];refine iF<|wq (T:="dict") (s:={s with heap:=c}) h.typeIs ?_;dsimp only;refine iR ?_;change ah _ _ (if _=O0 then _ else _) _ _ _;rw[iT<|by decide+kernel];refine iF<|uJ ?_;have B:c.get? s.heap.objs.size=N2 f:=t _ _ (kD _ (by subst C;rfl));subst C;refine iF ?_;show ah _ A.in1 (gP s.heap.objs.size (·.push .none)>>=λ_=>gP s.heap.objs.size (·.pop)) _ _ _;refine iF<|Dk (s:={s with heap:=c}) B O9 ?_;have z:=uN (aG (·.push au)) B O9;refine Dk z O9 ?_;have V:=uN (aG (·.pop)) z O9
 have oth: ∀b o,b≠s.heap.objs.size->c.get? b=N2 o->((c.update s.heap.objs.size (aG (·.push au))).update s.heap.objs.size (aG (·.pop))).get? b=N2 o:=
  λb o g e=>(xZ _ _ (nV g)).trans<|(xZ _ _ (nV g)).trans e
 have W:=(Gx (prog:=prog) (w:=w) (A:=A.in1) (by show A.handled=Op;exact hh) (s.heap.objs.size+1) a G.symm d n).toS;rw[v] at x;refine iR ⟨xN Mf _,?_⟩;rw[v];refine Me W hn s.heap.objs.size (by simp -iota only[lz,lD,mE,rV];exact⟨y,q.symm⟩) _ d.size 0 _ _ _ rfl (lN _) ?_ V (ItemsOf.nil _) λL m c' k J n9=>?_
 .refine⟨?_,h.stay λo e=>oth a o q e⟩;obtain⟨o,g1,g2⟩:=x;exact⟨o,oth _ o y.symm g1,g2⟩
 show ah _ A (load s.heap.objs.size>>=_) _ _ L;refine iF<|yc J ?_;obtain⟨i,R,M,P,N⟩:=L;have D:R=s.gens:=k.gens;have Y:M=s.drawn:=k.drawn;have K:N=s.os:=k.os;subst D;subst Y;subst K
 have U:m.toList=d.toList.map (·.key):=by
  obtain⟨a1,O⟩:=n9;apply G5
  .rw[jF,kE,kE,a1]
  .intro j g1 g2;have X:m[j]?=N2 m.toList[j]:=by rw[<-lO];exact jA g1
   obtain⟨e,I,hv⟩:=O j _ X;rw[hv];rw[jF,kE] at g2;rw[dt];rw[<-lO,jA<|by rw[kE];exact g2] at I;cases I;rfl
 refine iR ?_;show Q m.toList _;rw[U];refine hQ i P λb o e=>?_;have g:=ke e;exact k.heap b o (by simp -iota only[lz,lD,mE,rV];exact⟨jM g,jM<|vE g⟩)<|oth b o (jM g)<|t _ _ (kc _ e)
end
end TT
namespace PX
open L2 PySem.SeqAt TS
section
variable {X:Cx}
def Ci{P:jd}{w:iW}{e:List ee}{f:List (Key×iO)}{a:List (Key×V)}(h:Pairs (lb P w) e f)(q:KV a f):Vals (a.map λp=>kV p.1) (e.map (·.key)):=by
 induction h generalizing a with
 |nil=>cases q;exact .nil
 |cons h1 j t g=>
  obtain _|⟨r,q⟩:=q;refine .cons ?_<|g q;dsimp only;rw[r.1];rcases kY (show AZ _ _=J from h1) with⟨i,d,b,c⟩|⟨x,d,b,c⟩
  .rw[b,c];exact⟨d,rfl⟩
  .rw[b,c];exact⟨d,rfl⟩
theorem yo{K:jb}{U:Hp}{O:AP'}: ∀(a:List (Key×V)),RepL K U O (a.map λp=>kx p.1)<|a.map λp=>kV p.1
 |[]=>RepL.nil
 |(k,v)::a=>by
  refine RepL.cons ?_<|yo a
  cases k with
  |inl i=>exact Rep.mkInt
  |inr x=>exact Rep.mkStr
def Rj(a:Gl X x)(b:X.mg x=C (.int i t))(hd:(x==("__debug__":aB))=Y):PX X (.Name x pos) (fC<|.int i):=PX.imp (JI (v:= .int i) a b ⟨t,rfl⟩ hd) λf U Q h=>by obtain⟨d,T,r,c,E,e,k⟩:=h;cases e;exact k _ _ (Post.val .refl E Rep.mkInt)
noncomputable def Nr:FS:=λ_=>I
def PK(i j:Int):F:=λδ=>C ((.oth .dct [.int i] [.int j],J),δ)
end
section
variable {X:Cx}{e:iK}{f:F}{b d a c:bB}{i:Nat}{x:aB}
end
structure PXs(X:Cx)(es:kh)(fs:List F):Prop where
 pa:PA X es (tA X.K<|fs.map iJ)
section
variable {X:Cx}{e:iK}{b:kh}{f:F}{fs:List F}{a:bB}
end
structure QX(X:Cx)(e:iK)(f:F):Prop where
 h:PX X e f
structure QO(X:Cx)(e:iK)(f:FO):Prop where
 h:PX.PO X e f
structure QA(X:Cx)(es:kh)(fs:List FO):Prop where
 h:PA X es (tA X.K fs)
structure QL(X:Cx)(es:kh)(fs:List F):Prop where
 h:PXs X es fs
structure QT(X:Cx)(e:iK)(f:FT):Prop where
 h:PTX X e f
structure QW(X:Cx)(e:iK)(f:FT):Prop where
 h:PWX X e f
structure QG(X:Cx)(A:jT)(e:iK)(t:Tg):Prop where
 h:PGX X A e t
structure QI(X:Cx)(B:SB)(tg e:iK)(f:FIt):Prop where
 h:PIX X B tg e f
structure QF(X:Cx)(es:kh)(f:FT):Prop where
 h:PIf X es (tT X.K f)
structure QB(X:Cx)(A:jT)(d:iB)(e:iK)(n:Nat)(f:FB):Prop where
 h:PB X (jK e n (.ref d) X.env) (tBx O1 X.K A d f)
structure QS(X:Cx)(A L:jT)(H0:Hp)(st:bv)(f:FS):Prop where
 h:PSX X A L H0 st f
structure QQ(X:Cx)(A L:jT)(H0:Hp)(st:List bv)(f:FS):Prop where
 h:Jc X A L H0 st f
structure QC(X:Cx)(v:iO)(g:List D->Option (D×Bool)):Prop where
 h:kR X v (rDn X.K g)
structure QP(X:Cx)(o:yJ)(g:D->D->Option (D×Bool)):Prop where
 h:OpR X o (rD X.K g)
abbrev SE(X:Cx)(e:iK)(a:kh):Prop:=ag (e::a) X.env=(Y,aU e X.env)::ag a X.env
abbrev BA(X:Cx)(p:bB)(a:kh):Prop:=(bc p<|ag a X.env).any (·.1)=Y
abbrev DB(x:aB):Prop:=(x==("__debug__":aB))=Y
abbrev un(A:jf)(n:Nat):Prop:=A.units+n<bi
structure ZZ where
 P:jd
 w:iW
 K:jb
 mg:aB->Option iO
 base:ja
def Oz(Z:ZZ)(k:Nat)(x:aB)(b:ji)(c:EvF):Prop:= ∃f a,FnOk Z.P Z.w Z.K Z.mg Z.base CX0 k f a b (spF Z.K c)/\Z.mg x=C (.ref f)/\bU Z.K (.ref f)=J/\Binds Z.K a b []
def Oz.up{Z:ZZ}{k j:Nat}{x:aB}{d:ji}{c:EvF}(o:Oz Z k x d c)(h:k<=j:=by decide):Oz Z j x d c:=let⟨f,e,a,b⟩:=o;⟨f,e,a.mono h,b⟩
noncomputable abbrev zX(X:Cx):ZZ:=⟨X.prog,X.w,X.K,X.mg,X.base⟩
noncomputable def btT:List (aB×iO):=[("len",.builtin "len"),("abs",.builtin "abs"),("int",.type "int"),("tuple",.type "tuple"),("list",.type "list"),("bool",.type "bool"),("max",.builtin "max"),("min",.builtin "min"),("all",.builtin "all"),("any",.builtin "any"),("sorted",.builtin "sorted"),("set",.type "set")]
def btA{c:lp}(T:Tx c): ∀p∈btT,c p.1=I/\aK p.1=C p.2:=by
 have h: ∀p∈btT,aK p.1=C p.2:=by decide+kernel
 intro p b;refine⟨?_,h p b⟩;have a:p∈btT:=b;unfold btT at a;simp only[lz,lD,mE] at a;rcases a with rfl|rfl|rfl|rfl|rfl|rfl|rfl|rfl|rfl|rfl|rfl|rfl
 .exact T.n_len
 .exact T.n_abs
 .exact T.n_int
 .exact T.n_tuple
 .exact T.n_list
 .exact T.n_bool
 .exact T.n_max
 .exact T.n_min
 .exact T.n_all
 .exact T.n_any
 .exact T.n_sorted
 .exact T.n_set
theorem Il{z:aB}{v:iO}: ∀{l:List (aB×iO)},l.lookup z=C v->(z,v)∈l
 |[],h=>by cases h
 |(y,u)::l,h=>by
  rw[oA] at h;split at h
  .rename_i q;cases h;rw[rY q];exact .head _
  .exact .tail _ (Il h)
def btM{a:lp}{z:aB}{v:iO}(T:Tx a)(h:btT.lookup z=C v):a z=I:=(btA T _ (Il h)).1
def btN{z:aB}{v:iO}(h:btT.lookup z=C v):aK z=C v:=(show ∀p∈btT,aK p.1=C p.2 from by decide+kernel) _ (Il h)
section
variable {X:Cx}{x z:aB}{e a b c st lo G:iK}{J:kh}{M U fc fo fl fh:FO}{f g:F}{ft fu:FT}{p p2 p3 m Y apos:bB}{A L:jT}{B:SB}{H0:Hp}{fs:List FO}{cu:List F}{i j k:Nat}{tg:iK}{S:bv}{Ss Ts:List bv}{u v:FS}
def xV(h1:X.N[i]?=C x:=by rfl)(l:Vis X.env.scope x:=by first|exact bC rfl|exact bI (bC H)|exact bI<|bI H)(n:DB x:=by decide)(r:(x==("__classdict__":aB))=O1:=by decide):QO X (.Name x m) (iC i):=⟨PE.imp' (AF h1 l n r) λy O Q h=>by
 obtain⟨s,T,o,t,E,e,k⟩:=h;unfold iC at e
 cases G:s[i]? with
 |none=>rw[G] at e;cases e
 |some q=>
  cases q with
  |none=>rw[G] at e;cases e
  |some p=>obtain⟨d,b⟩:=p;rw[G] at e;obtain⟨rfl,rfl⟩:=jc e;obtain⟨w,v,h1,l⟩:=E.freeze G;exact⟨v,h1,k v O ⟨.refl,E,h1⟩⟩⟩
def xW(h1:X.N[i]?=C x:=by rfl)(l:Vis X.env.scope x:=by first|exact bC rfl|exact bI (bC H)|exact bI<|bI H)(q:DB x:=by decide)(s:(x==("__classdict__":aB))=O1:=by decide):QX X (.Name x m) (jS i):=⟨PX.imp (AF h1 l q s) λy O Q h=>by
 obtain⟨t,T,r,w,E,e,k⟩:=h;unfold jS at e
 cases G:t[i]? with
 |none=>rw[G] at e;cases e
 |some o=>
  cases o with
  |none=>rw[G] at e;cases e
  |some p=>obtain⟨d,b⟩:=p;rw[G] at e;cases e;obtain⟨n,v,h1,l⟩:=E.freeze G;exact⟨v,h1,k v O<|Post.val .set n l⟩⟩
def xO(h:QX X e f):QO X e (iJ f):=⟨PX.po h.h⟩
def x1{j}:QX X (.Constant .none j m) (fC .non):=⟨PX.imp Vt λl O Q h=>by obtain⟨δ,T,r,d,E,e,k⟩:=h;cases e;exact k _ _ (Post.val .refl E (by first|exact Rep.mkInt|exact Rep.mkBl|exact Rep.mkNon|exact Rep.mkStr))⟩
def x2{i j}:QX X (.Constant (.bool i) j m) (fC<|.bl i):=⟨Tv⟩
def x3{i j}:QX X (.Constant (.int i) j m) (fC<|.int i):=⟨PX.imp HX λl O Q h=>by obtain⟨δ,T,r,d,E,e,k⟩:=h;cases e;exact k _ _ (Post.val .refl E (by first|exact Rep.mkInt|exact Rep.mkBl|exact Rep.mkNon|exact Rep.mkStr))⟩
def x4{i j}:QX X (.Constant (.str i) j m) (fC<|.str i):=⟨PX.imp Vq λl O Q h=>by obtain⟨δ,T,r,d,E,e,k⟩:=h;cases e;exact k _ _ (Post.val .refl E (by first|exact Rep.mkInt|exact Rep.mkBl|exact Rep.mkNon|exact Rep.mkStr))⟩
def x5{i:Int}(h: ∃t,X.mg x=C (.int i t))(g:Gl X x:=by rfl)(d:DB x:=by decide):QX X (.Name x m) (fC<|.int i):=let⟨_,h⟩:=h;⟨Rj g h d⟩
def x7:QX X (.Dict [] [] m) TY:=⟨PX.imp Ob λq O Q h=>by obtain⟨o,T,n,l,E,e,k⟩:=h;cases e;intro p d;have B:=Ops.nil E;exact(B.done k) p _ d (mK d) ⟨[],.inl ⟨[],jk,rfl,rfl⟩,RepL.nil⟩⟩
def x8{i j:Int}{a b:Nat}:QX X (.Dict [C<|.Constant (.int i) a p] [.Constant (.int j) b p2] m) (PK i j):=⟨
 PX.imp (RB (NY HX HX Ru) H H (by simp)<|by simp) λs O Q l=>by
 obtain⟨r,T,q,n,E,e,k⟩:=l;cases e;intro p d;refine⟨jk,[(.inl i,.int j)],rfl,by simp,?_⟩;have B:=Ops.nil E;refine(B.done k) p _ d ?_ ⟨[.int j],.inl ⟨[(.inl i,.int j)],?_,rfl,rfl⟩,RepL.one Rep.mkInt⟩
 .intro a o e;have h:a≠p:=by intro z;subst z;rw[e] at d;cases d
  rw[jg h,jg h];exact e
 .rw[jk];rfl⟩
def jX{d:Operator}{g:D->D->Option (D×Bool)}(o:QP X (bb d) g)(l:QO X a M)(n:QO X b U):QX X (.BinOp a d b m) (iU g M U):=⟨px2<|Yt o.h l.h n.h⟩
def pK(d:QO X a M):QX X (.UnaryOp .USub a m) (lB uB M):=⟨px1<|Yr QZ d.h⟩
def Uv(s:QX X a f):QX X (.UnaryOp .Not a m) (SA f):=⟨PX.imp (Vs s.h) λO H Q t=>by obtain⟨y,T,r,N,E,e,k⟩:=t;obtain⟨p,h1,e⟩:=iA e;obtain⟨⟨c,I⟩,q,n⟩:=iA e;obtain⟨o,rfl⟩:=xq q;obtain⟨rfl,rfl⟩:=jc n;refine⟨y,T,_,_,E,h1,λv l P=>?_⟩;obtain⟨d,w⟩:=P.rep E;exact⟨c,w.bl,k _ l (Post.val P.1 d Rep.mkBl)⟩⟩
def BM{d:cH}{g:D->D->Option (D×Bool)}(o:QP X (aw d) g)(l:QO X a M)(n:QO X b U)(q:c4 d b=O1:=by first|exact OB _|with_unfolding_all rfl):QX X (.Compare a [d] [b] m) (iU g M U):=⟨px2<|RC o.h l.h n.h q⟩
def tCmp{d:cH}{g:D->D->Option (D×Bool)}(o:QP X (aw d) g)(l:QO X a M)(n:QO X b U)(q:c4 d b=O1:=by first|exact OB _|with_unfolding_all rfl):QT X (.Compare a [d] [b] m) (fT<|iU g M U):=⟨
 PT.imp' (Ro o.h l.h n.h q) λs T Q r=>RS Yo<|Na r⟩
def xCh{l d:cH}(n:QO X a M)(o:QO X b U)(q:QO X c fc)(t:wW l:=by first|exact .inl rfl|exact .inr (.inl H)|exact .inr (.inr<|.inl H)|exact .inr<|.inr<|.inr H)(w:wW d:=by first|exact .inl rfl|exact .inr (.inl H)|exact .inr (.inr<|.inl H)|exact .inr<|.inr<|.inr H)(r:gV [l,d] [b,c]=O1:=by with_unfolding_all rfl):QX X (.Compare a [l,d] [b,c] m) (nj l d M U fc):=⟨
 PX.imp (Oc (zv t) (zv w) n.h o.h q.h r) λy T Q s=>C3 s⟩
def tCh{l d:cH}(n:QO X a M)(o:QO X b U)(q:QO X c fc)(t:wW l:=by first|exact .inl rfl|exact .inr (.inl H)|exact .inr (.inr<|.inl H)|exact .inr<|.inr<|.inr H)(w:wW d:=by first|exact .inl rfl|exact .inr (.inl H)|exact .inr (.inr<|.inl H)|exact .inr<|.inr<|.inr H)(r:gV [l,d] [b,c]=O1:=by with_unfolding_all rfl):QT X (.Compare a [l,d] [b,c] m) (fT<|nj l d M U fc):=⟨
 PT.imp' (NK (zv t) (zv w) n.h o.h q.h r) λy T Q s=>C3<|Na s⟩
def xBo{op}(d:QX X a f):QX X (.BoolOp op [a] m) f:=⟨Vr d.h⟩
def E6(I:QX X a f)(O:QX X (.BoolOp .And (b::J) m) g):QX X (.BoolOp .And (a::b::J) m) (Bm f g):=⟨PX.imp (Vw I.h O.h) λK H Q N=>by
 obtain⟨F,T,r,l,E,e,k⟩:=N;obtain⟨p,h1,e⟩:=iA e;obtain⟨⟨c,n⟩,C,d⟩:=iA e;obtain⟨o,rfl⟩:=xq C;refine⟨F,T,_,_,E,h1,λv s P=>?_⟩;obtain⟨q,D⟩:=P.rep E;refine⟨c,D.bl,?_⟩
 cases c with
 |true=>rw[iT O9] at d;rw[iT O9];exact⟨n,T,r,l,q,d,λw t y=>k w t<|y.pre P.1⟩
 |false=>rw[je kU] at d;rw[je kU];obtain⟨rfl,rfl⟩:=jc d;exact k _ s (Post.val P.1 q Rep.mkBl)⟩
def xOr(I:QX X a f)(O:QX X (.BoolOp .Or (b::J) m) g):QX X (.BoolOp .Or (a::b::J) m) (fOr f g):=⟨PX.imp (Ys I.h O.h) λK H Q N=>by
 obtain⟨F,T,r,l,E,e,k⟩:=N;obtain⟨p,h1,e⟩:=iA e;obtain⟨⟨c,n⟩,C,d⟩:=iA e;obtain⟨o,rfl⟩:=xq C;refine⟨F,T,_,_,E,h1,λv s P=>?_⟩;obtain⟨q,D⟩:=P.rep E;refine⟨c,D.bl,?_⟩
 cases c with
 |true=>rw[iT O9] at d;rw[iT O9];obtain⟨rfl,rfl⟩:=jc d;exact k _ s (Post.val P.1 q Rep.mkBl)
 |false=>rw[je kU] at d;rw[je kU];exact⟨n,T,r,l,q,d,λw t y=>k w t<|y.pre P.1⟩⟩
def ZG(y:QT X a ft)(C:QW X (.BoolOp .And (b::J) m) fu):QW X (.BoolOp .And (a::b::J) m) (Gg ft fu):=⟨PW.imp' (Vf y.h C.h) λN H Q I=>by
 obtain⟨O,T,c,l,E,e,k⟩:=I;obtain⟨⟨q,d⟩,h1,e⟩:=iA e;refine⟨O,T,q,d,E,h1,λs o n=>?_⟩
 cases q with
 |true=>rw[iT O9] at e;rw[iT O9];exact⟨d,T,c,l,n,e,λt w r=>k t (o.trans w) r⟩
 |false=>rw[je kU] at e;rw[je kU];obtain⟨rfl,rfl⟩:=jc e;exact k s o n⟩
def wOr(y:QT X a ft)(C:QW X (.BoolOp .Or (b::J) m) fu):QW X (.BoolOp .Or (a::b::J) m) (B8 ft fu):=⟨PW.imp' (Yq y.h C.h) λN H Q I=>by
 obtain⟨O,T,c,l,E,e,k⟩:=I;obtain⟨⟨q,d⟩,h1,e⟩:=iA e;refine⟨O,T,q,d,E,h1,λs o n=>?_⟩
 cases q with
 |true=>rw[iT O9] at e;rw[iT O9];obtain⟨rfl,rfl⟩:=jc e;exact k s o n
 |false=>rw[je kU] at e;rw[je kU];exact⟨d,T,c,l,n,e,λt w r=>k t (o.trans w) r⟩⟩
def XM(d:QT X a ft):QW X (.BoolOp .And [a] m) ft:=⟨Rm d.h⟩
def QY(d:QT X a ft):QW X (.BoolOp .Or [a] m) ft:=⟨Ve d.h⟩
def tW{op}(h:QW X (.BoolOp op J m) ft):QT X (.BoolOp op J m) ft:=⟨PW.pt h.h⟩
def tNot(n:QT X a ft):QT X (.UnaryOp .Not a m) (nY ft):=⟨PT.imp' (NJ n.h) λs O Q o=>by obtain⟨q,T,c,r,E,e,k⟩:=o;obtain⟨⟨l,d⟩,h1,e⟩:=iA e;obtain⟨rfl,rfl⟩:=jc e;exact⟨q,T,l,d,E,h1,k⟩⟩
def wz(h:QX X e f)(l: ∀d,isTrue e X.env d=(do let v <-d;cN e.pos;cw [v] (truthy v)):=by intro _;rfl):QT X e (fT f):=⟨PT.imp' (NI h.h l) λo T Q n=>Na n⟩
def xIf(C:QT X c ft)(t:QX X a f)(y:QX X b g):QX X (.IfExp c a b m) (fIf ft f g):=⟨PX.imp (Oa C.h t.h y.h) λD H Q I=>by
 obtain⟨O,T,r,l,E,e,k⟩:=I;obtain⟨⟨c,d⟩,h1,e⟩:=iA e;refine⟨O,T,c,d,E,h1,λN s q=>?_⟩
 cases c with
 |true=>rw[iT O9] at e;rw[iT O9];exact⟨d,T,r,l,q,e,λw n o=>k w n<|o.pre s⟩
 |false=>rw[je kU] at e;rw[je kU];exact⟨d,T,r,l,q,e,λw n o=>k w n<|o.pre s⟩⟩
def xIx(d:QO X a M)(l:QO X b U)(n:Ku b:=by exact λ_ _=>rfl):QX X (.Subscript a b m) (iU gIx M U):=⟨px2<|Yu YM d.h l.h n⟩
def MS(s:QO X a M)(t:QO X lo fl):QX X (.Subscript a (.Slice (N2 lo) Op Op p2) m) (tH M fl):=⟨
 PX.imp (Ft X6 s.h (JF t.h) JG) λR H Q y=>by
  obtain⟨N,T,P,D,E,e,k⟩:=y;unfold tH at e;obtain⟨⟨q,d⟩,h1,e⟩:=iA e;obtain⟨⟨O,n⟩,r,e⟩:=iA e;dsimp only at e;split at e
  .rename_i i G;obtain⟨x,C,e⟩:=iA e;obtain⟨z,I,e⟩:=iA e;obtain⟨rfl,rfl⟩:=jc e;refine⟨N,T,q,d,E,h1,λv F l=>⟨d,BH T q v,O,n,l.er E,r,λu K o=>?_⟩⟩;have B:=Ops.cons E l<|Ops.cons (l.er E) o<|Ops.nil<|o.er<|l.er E;exact⟨i,jq<|B.view (j:=1) O9 O9 G,_,x,z,λp w=>B.np w,B.view (j:=0) O9 O9 C,I,B.done k⟩
  .cases e⟩
def QM(s:QO X a M)(t:QO X G fh):QX X (.Subscript a (.Slice Op (N2 G) Op p2) m) (za M fh):=⟨
 PX.imp (Ft X6 s.h JG<|JF t.h) λR H Q y=>by
  obtain⟨N,T,P,D,E,e,k⟩:=y;unfold za at e;obtain⟨⟨q,d⟩,h1,e⟩:=iA e;obtain⟨⟨O,n⟩,r,e⟩:=iA e;dsimp only at e;split at e
  .rename_i i G;obtain⟨x,C,e⟩:=iA e;obtain⟨z,I,e⟩:=iA e;obtain⟨rfl,rfl⟩:=jc e;refine⟨N,T,q,d,E,h1,λv F l=>⟨d,BH T q v,O,n,l.er E,r,λu K o=>?_⟩⟩;have B:=Ops.cons E l<|Ops.cons (l.er E) o<|Ops.nil<|o.er<|l.er E;exact⟨i,jq<|B.view (j:=1) O9 O9 G,_,x,z,λp w=>B.np w,B.view (j:=0) O9 O9 C,I,B.done k⟩
  .cases e⟩
def ZD(O:QO X a M)(N:QO X st U):QX X (.Subscript a (.Slice Op Op (N2 st) p2) m) (Sy M U):=⟨
 PX.imp (Fs O.h N.h) λσ H Q D=>by
  obtain⟨R,T,rr,V,E,e,k⟩:=D;unfold Sy at e;obtain⟨⟨y,d⟩,h1,e⟩:=iA e;obtain⟨⟨K,o⟩,I,e⟩:=iA e;dsimp only at e;split at e
  .rename_i i G;split at e
   case isFalse=>cases e
   rename_i C;subst C;obtain⟨x,F,e⟩:=iA e;obtain⟨z,w,e⟩:=iA e;obtain⟨rfl,rfl⟩:=jc e;refine⟨R,T,y,d,E,h1,λv W n=>⟨d,BH T y v,K,o,n.er E,I,λu Z s=>?_⟩⟩;have B:=Ops.cons E n<|Ops.cons (n.er E) s<|Ops.nil<|s.er<|n.er E;have hv:=B.view (j:=0) O9 O9 F;refine⟨jq<|B.view (j:=1) O9 O9 G,?_⟩
   cases x with
   |tup l=>
    cases w;rcases hv with hv|⟨_,_,hv⟩
    .obtain⟨p,P,rfl,q,r⟩:=hv.tup;exact⟨p,P,rfl,q.sq,λp' t=>(B.done k).tup t (B.np<|nOw t) r.reverse⟩
    .exact hv.elim
   |_=>cases w
  .cases e⟩
def xL0:QL X [] []:=⟨⟨zt⟩⟩
def xL(d:QX X e f)(l:QL X J cu)(n:SE X e J:=by rfl):QL X (e::J) (f::cu):=⟨⟨sY (PX.po d.h) l.h.pa n⟩⟩
def xA0:QA X [] []:=⟨zt⟩
def xA(d:QO X e M)(l:QA X J fs)(n:SE X e J:=by rfl):QA X (e::J) (M::fs):=⟨sY d.h l.h n⟩
def lW{k}(h:QL X J cu):QX X (.Tuple J k m) (ly cu):=⟨U5 h.h.pa⟩
def mh(h:QL X J cu):QX X (.List J m) (lS cu):=⟨Vc h.h.pa⟩
def xB{id:String}{g:List D->Option (D×Bool)}(T:Tx X.mg)(hv:btT.lookup z=C (.builtin id))(l:QC X (.builtin id) g)(d:QA X (e::J) fs)(o:Gl X z:=by rfl)(q:z≠"__name__":=by decide)(s:DB z:=by decide)(n:SE X e J:=by rfl)(r:BA X m J:=by rfl):QX X (.Call (.Name z p) (e::J) [] m) (jm g fs):=⟨JC l.h o (btM T hv) (btN hv) d.h q s n r⟩
def xT{id:String}{g:List D->Option (D×Bool)}(T:Tx X.mg)(hv:btT.lookup z=C (.type id))(l:QC X (.type id) g)(d:QA X (e::J) fs)(o:Gl X z:=by rfl)(q:z≠"__name__":=by decide)(s:DB z:=by decide)(n:SE X e J:=by rfl)(r:BA X m J:=by rfl):QX X (.Call (.Name z p) (e::J) [] m) (jm g fs):=⟨Ri l.h o (btM T hv) (btN hv) d.h q s n r⟩
def xI{t:Ty}(T:Tx X.mg)(d:btT.lookup z=C (.type t.n))(o:QO X e M)(q:Gl X "isinstance":=by rfl)(l:Gl X z:=by rfl)(r:z≠"__name__":=by decide)(w:DB z:=by decide)
  (s1:SE X e [.Name z p2]:=by rfl)(y:SE X (.Name z p2) []:=by rfl)(s:BA X m [.Name z p2]:=by rfl):
  QX X (.Call (.Name "isinstance" p) [e,.Name z p2] [] m) (lB (Ex [t]) M):=⟨Vd o.h q T.n_isinstance l (btM T d) (btN d) r w qf s1 y s⟩
def xU{k:Nat}{T:ji}{d:EvF}(O:Oz (zX X) k x T d)(s:Room k X.A)(n:QA X (e::J) fs)(q:Gl X x:=by rfl)(y:DB x:=by decide)
  (o:SE X e J:=by rfl)(t:BA X m J:=by rfl):QX X (.Call (.Name x p) (e::J) [] m) (iX d fs):=
 let⟨_,_,ok,r,w,l⟩:=O;⟨Rh ok s q r w l n.h y o t⟩
def ZC{T:String}{mk:List D->D}{o:Bool}(d:Tx X.mg)(hv:btT.lookup z=C (.type T))(r:QA X [a,b] [M,U])(q:(T="list"/\mk= .lst/\o=O0)\/(T="tuple"/\mk= .tup/\o=O1):=by first|exact .inl ⟨rfl,rfl,rfl⟩|exact .inr ⟨rfl,rfl,rfl⟩)(s:X.calm=O0:=by rfl)(t:Gl X z:=by rfl)(w:z≠"__name__":=by decide)(Q:DB z:=by decide)(n:Gl X "range":=by rfl)
  (s1:SE X (.Call (.Name "range" p2) [a,b] [] p3) []:=by rfl)(E:SE X a [b]:=by rfl)
  (y:BA X m []:=by rfl)(l:BA X p3 [b]:=by rfl):
  QX X (.Call (.Name z p) [.Call (.Name "range" p2) [a,b] [] p3] [] m) (jm (gRg mk o) [M,U]):=⟨U7 q s t (btM d hv) (btN hv) w Q n d.n_range r.h s1 E y l⟩
def HA(hv:QO X (.Name x Y) (iC i))(he:QX X e f)(j6:ca (.Name x Y) "append" X.env (aU (.Name x Y) X.env)=aU (.Name x Y) X.env:=by rfl)
  (u4:((bc m<|ag [e] X.env).all (λx=>!x.1)&&(gr m<|eP [] X.env).all (λx=>x.1.isSome)&&decide ([e].length+([]:List c8).length+(if([]:List c8).isEmpty then 0 else 1)<30))=O0:=by rfl)
  (j5:(apos.endLine==m.line)=O0:=by rfl)(I:SE X e []:=by rfl)(i5:BA X m []:=by rfl):QX X (.Call (.Attribute (.Name x Y) "append" apos) [e] [] m) (lG i f):=⟨
 PX.imp (Od Di PySem.F.slot_list_append PySem.F.type_list_append Lf hv.h (nQ he.h sV I) j6 u4 j5 I i5) λσ H Q W=>by
 obtain⟨o,T,rr,δ',E,e,k⟩:=W;unfold lG at e;split at e
 .rename_i l0 w;obtain⟨⟨r,q⟩,h1,e⟩:=iA e;dsimp only at e;split at e
  .rename_i l C;obtain⟨Z,e⟩:=jl e;obtain⟨rfl,rfl⟩:=qR e;refine⟨o,T,.slot i,o,E,by unfold iC;rw[w],λv H1 P=>?_⟩;obtain⟨K,n,d⟩:=P;obtain⟨a,g1,V,g2,g3⟩:=n.own i _ w;rw[d] at g1;cases g1;refine⟨.inl ⟨rfl,V,SqL.of g2⟩,o,T,r,q,n,h1,λy H2 t=>?_⟩;obtain⟨s,ry⟩:=t.rep n;obtain⟨a',O,xs,q2,N⟩:=s.own i _ C;rw[d] at O;cases O;refine⟨_,xs,y,rfl,rfl,q2,by rw[N.length];exact Z,?_⟩;obtain⟨D,R⟩:=s.write C d<|N.append<|RepL.one ry;exact k _ _ (Post.val ((K.trans t.1).trans R) D Rep.mkNon)
  .cases e
 .cases e⟩
def ZE(hv:QO X (.Name x Y) (iC i))(he:QO X e fo)(j6:ca (.Name x Y) "pop" X.env (aU (.Name x Y) X.env)=aU (.Name x Y) X.env:=by rfl)
  (u4:((bc m<|ag [e] X.env).all (λx=>!x.1)&&(gr m<|eP [] X.env).all (λx=>x.1.isSome)&&decide ([e].length+([]:List c8).length+(if([]:List c8).isEmpty then 0 else 1)<30))=O0:=by rfl)
  (j5:(apos.endLine==m.line)=O0:=by rfl)(hs:SE X e []:=by rfl)(i5:BA X m []:=by rfl):QX X (.Call (.Attribute (.Name x Y) "pop" apos) [e] [] m) (Bk i fo):=⟨
 PX.imp (Od Di L9 L8 OC hv.h (nQ he.h sV hs) j6 u4 j5 hs i5) λσ H Q hw=>by
 obtain⟨I,T,rr,δ',E,e,k⟩:=hw;unfold Bk at e;split at e
 .rename_i l0 D;obtain⟨⟨o,r⟩,h1,e⟩:=iA e;dsimp only at e;split at e
  .rename_i V l hk F;split at e
   case isFalse=>cases e
   rename_i R;obtain⟨j,hj,e⟩:=iA e;obtain⟨d,hd,e⟩:=iA e;obtain⟨rfl,rfl⟩:=jc e;refine⟨I,T,.slot i,I,E,by unfold iC;rw[D],λv H1 P=>?_⟩;obtain⟨K1,s,q⟩:=P;obtain⟨a,g1,dD,g2,g3⟩:=s.own i _ D;rw[q] at g1;cases g1;refine⟨.inl ⟨rfl,dD,SqL.of g2⟩,I,T,o,r,s,h1,λy H2 N=>?_⟩;have B:=Ops.cons s N<|Ops.nil<|N.er s;have vy:=jq<|B.view (j:=0) O9 O9 hk;have O:ER X.K H2 T σ r:=B.er.mono (λ_ _ e _=>e) (λb _ z=>B.tt b z) λa z=>B.er.dom a<|B.tt a z;obtain⟨a',W,Z,q2,C⟩:=O.own i _ F;rw[q] at W;cases W;obtain⟨w,w1,w2⟩:=C.get hd;have hl:=C.length;have gx:ixN Z.length V=N2 j:=by rw[hl];exact hj
   obtain⟨s1,s2,s3,s4⟩:=En gx;obtain⟨E3,t⟩:=O.write F q<|RepL.erase j C;refine⟨_,Z,V,j,w,rfl,by rw[vy],q2,R.1,R.2,s1,w1,?_⟩;exact k _ _ (Post.val ((K1.trans B.keep).trans t) E3<|Rep.mono (λb o e n=>t.kp b o e λz=>n<|.inl z) (λb _ z=>z.imp (t.ow b) id) w2)
  .cases e
 .cases e⟩
def iR1(T:Tx X.mg)(w:QA X [a] [M])(y:Gl X "range":=by rfl)(I:ag [a] X.env=[(O1,aU a X.env)]:=by rfl):QI X B tg (.Call (.Name "range" p) [a] [] m) (BX M):=⟨PI.imp' (K6 y T.n_range w.h I) λK H R O=>by
 obtain⟨Q,T,F,N,E,e,k⟩:=O;obtain⟨⟨os,l⟩,h1,e⟩:=iA e;refine⟨Q,T,os,l,E,h1,λo q D B=>?_⟩;dsimp only at e;split at e
 .rename_i j n;obtain⟨⟨s,t⟩,e⟩:=jl e;obtain⟨rfl,rfl⟩:=qR e;have hv:=tY B n (j:=0) O9;obtain⟨C,_⟩:=oZ n
  have:o=[.int j]:=by
   have d:=B.len
   cases o with
   |nil=>simp at hv
   |cons v r=>
    cases r with
    |nil=>simp at hv;rw[hv]
    |cons _ _=>simp at C d;lia
  exact⟨j,this,s,t,k _ q B.keep (B.er.mono (λ_ _ e _=>e) (λb _ z=>B.tt b z) λa z=>B.er.dom a<|B.tt a z) (A7 0 j.toNat)⟩
 .cases e⟩
def iR2(T:Tx X.mg)(C:QA X [a,b] [M,U])(I:Gl X "range":=by rfl)(Q:ag [a,b] X.env=[(O1,aU a X.env),(O1,aU b X.env)]:=by rfl)(w:ag [b] X.env=[(O1,aU b X.env)]:=by rfl):QI X B tg (.Call (.Name "range" p) [a,b] [] m) (A6 M U):=⟨PI.imp' (K5 I T.n_range C.h Q w) λV H R N=>by
 obtain⟨D,T,P,F,E,e,k⟩:=N;obtain⟨⟨os,o⟩,h1,e⟩:=iA e;refine⟨D,T,os,o,E,h1,λq s K B=>?_⟩;dsimp only at e;split at e
 .rename_i i j n;obtain⟨t,e⟩:=jl e;obtain⟨rfl,rfl⟩:=qR e;have hv:=tY B n (j:=0) O9;have l:=tY B n (j:=1) O9;obtain⟨O,_⟩:=oZ n
  have:q=[.int i,.int j]:=by
   have d:=B.len
   match q,hv,l with
   |[x,y],hv,l=>simp at hv l;rw[hv,l]
   |x::y::z::r,_,_=>simp at O d;lia
  exact⟨i,j,this,t,k _ s B.keep (B.er.mono (λ_ _ e _=>e) (λb _ z=>B.tt b z) λa z=>B.er.dom a<|B.tt a z) (A7 i (j-i).toNat)⟩
 .cases e⟩
def iZ{d:kh}{w:Nat}{y:bB}(T:Tx X.mg)(n:QX X a f)(o:QX X b g)(q:Gl X "zip":=by rfl)(r:SE X a [b]:=by rfl)(l:SE X b []:=by rfl)(t:BA X m [b]:=by rfl):
  QI X B (.Tuple d w y) (.Call (.Name "zip" p) [a,b] [] m) (qB f g):=⟨PI.imp' (NZ (B:=B) q T.n_zip (PX.po n.h) (PX.po o.h) D2 D2 r l t) λE O R s=>by
 have:qB f g=Ip (iJ f) (iJ g):=funext λQ=>by
  unfold qB Ip iJ
  cases f Q with
  |none=>rfl
  |some p=>simp only[gg];cases g p.2<;>rfl
 rwa [this] at s⟩
def iE{d:kh}{r:Nat}{s:bB}(T:Tx X.mg)(l:QX X a f)(n:Gl X "enumerate":=by rfl)(o:ag [a] X.env=[(O1,aU a X.env)]:=by rfl)(s0:SE X a []:=by rfl):QI X B (.Tuple d r s) (.Call (.Name "enumerate" p) [a] [] m) (Eo 0 f):=⟨PI.imp' (N4 n T.n_enumerate (sY (PX.po l.h) zt s0) o) λt Q R q=>PM q⟩
def iS(h:QX X e f):QI X B tg e (kb f):=⟨PI.imp' (Fq (B:=B) (PX.po h.h) D2) λr T R l=>by
 have:kb f=A5 (iJ f):=funext λn=>by
  unfold kb A5 iJ
  cases f n with
  |none=>rfl
  |some p=>obtain⟨⟨d,o⟩,q⟩:=p;cases d<;>rfl
 rwa [this] at l⟩
def iSV(h:QO X e (iC i))(d:B i:=by decide):QI X B tg e (A5<|iC i):=⟨Fq h.h<|Q5 d⟩
def gN(l:X.N.Nodup)(G:X.N[i]?=C x:=by rfl)(s:Loc X.env.scope x:=by first|exact bC rfl|exact bI H)(o:X.fn x=O0\/X.env.scope.names.lookup x=C .local:=by first|exact bC rfl|exact bI H)(n:A i:=by decide):QG X A (.Name x m) (iL i):=⟨PG.imp' (JH l G s o) λv y O Q q=>by obtain⟨w,T,d,t,E,r,e,k⟩:=q;obtain⟨G,rfl⟩:=jl e;obtain⟨h1,h⟩:=Aq (A:=A) (r:=(d,O1)) (v:=v) E (Post.val .refl E r) G n;exact k _ h1 h⟩
def gT{d l:Tg}{k:Nat}(h1:QG X A a d)(n:QG X A b l)(o:X.calm=O0:=by rfl)(r:(aW [a,b] X.env).map (·.2)=cC a X.env::(aW [b] X.env).map (·.2):=by rfl)(s:(aW [b] X.env).map (·.2)=cC b X.env::(aW [] X.env).map (·.2):=by rfl)
  (q:(aW [a,b] X.env).length=2:=by rfl)(t:(aW [a,b] X.env).findIdx? (·.1)=I:=by rfl):QG X A (.Tuple [a,b] k m) (wy [d,l]):=⟨Ry o (Cr h1.h (Cr n.h N5 s) r) q H t⟩
def f0:QF X [] jH:=⟨λd s n N Q O h=>by obtain⟨δ,T,b,l,E,e,k⟩:=h;cases e;exact Rw d s n N Q O<|k N .refl E⟩
def f1(h:QT X e ft):QF X [e] ft:=⟨Rv h.h⟩
def bE{q:qg}{sc:jJ}{d:iB}{n:Nat}(he:QX X e f)(hn:q[n+1]?=Op:=by rfl):QB X A d (.ListComp e q sc p) n (jQ f):=⟨PB.imp' (RF hn he.h) λy H N F=>by
 obtain⟨O,T,D,i9,Z,B,e,k⟩:=F;obtain⟨⟨r,l⟩,h1,e⟩:=iA e;obtain⟨R,e⟩:=jl e;obtain⟨rfl,rfl⟩:=qR e;refine⟨O,T,r,l,B.er,h1,λv s P=>?_⟩;obtain⟨C,W⟩:=P.rep B.er;have E:SK A y O H y l s:=P.1.sk;have Q:=B.step E C;obtain⟨w,K,I⟩:=Q.at';refine⟨w,K,by rw[I.length];exact R,k y _ ?_ ?_⟩
 .have:SKd A d y l s y l (upd s d<|.lst<|w++[v]):=⟨λa o e n V=>by rw[jg V];exact e,λi a z=> .inl z,λa z=>by
   by_cases t:a=d
   .subst t;rw[jk];simp
   .rw[jg t];exact z,λ_ _=>rfl⟩
  exact E.skd.trans this
 .have hk: ∀b o,s b=N2 o-> ¬T b->upd s d (.lst<|w++[v]) b=N2 o:=λb o e n=>by rw[jg<|by intro z;subst z;exact n B.td];exact e
  have hd: ∀a,T a->Ow (upd s d (.lst<|w++[v]) a):=λa z=>by
   by_cases t:a=d
   .subst t;rw[jk];trivial
   .rw[jg t];exact C.dom a z
  refine⟨C.mono hk (λ_ _ z=>z) hd,B.td,w++[v],jk,?_⟩;exact RepL.mono (λb o e n=>hk b o e λz=>n<|.inr z) (λ_ _ z=>z)<|I.append<|RepL.one W⟩
def bF{l:qg}{r:jJ}{d:iB}{n:Nat}{c:oy}{q:FIt}{s:Tg}{U:FB}(E:l[n+1]?=C c)(T:QI X (λ_=>False) c.target c.iter q)(Q:QG X A c.target s)(w:QF X c.ifs ft)(O:QB X A d (.ListComp e l r p) (n+1) U)(t:X.xe=λ_ _=>False:=by rfl)(N:X.calm=O0:=by rfl)
  (y:c.is_async=0:=by rfl)(I: ∀o,l[n+1+1]?=C o->o.is_async=0:=by intro o h;cases h;try rfl)(H: ∀x,ay c.iter X.env x=pure x:=by intro _;rfl):QB X A d (.ListComp e l r p) n (LN q s ft U):=⟨RE t N (bC ⟨_,_,_,_,rfl⟩) E y I H T.h Q.h w.h O.h⟩
def cOk{N P:ji}{l scope:jJ}{N':ji}{d:jL}(S:FnScope N P l)(h:EI N l scope N' d k=O0:=by decide+kernel)(n:X.N=N:=by rfl)(o:X.env.scope=l:=by rfl):CompOk X N' scope d k:=P4 n o h
def xC{c:oy}{jG:qg}{s:iK}{scope:jJ}{w:FIt}{E:Tg}{y:FT}{U:FB}{n:jL}{N':ji}(C:CompOk X N' scope n k)(T:N'.Nodup)(pi:QI X (λi=>i∉n) c.target c.iter w)
  (u6: ∀(cl:kX) (C:iB) (r:iI) (o:Hp) (q:kG) (l:jr),(X.comp N' scope cl C r o q l).N.Nodup->
   QG (X.comp N' scope cl C r o q l) (λi=>Ps n<=i) c.target E/\QF (X.comp N' scope cl C r o q l) c.ifs y/\ ∀d,QB (X.comp N' scope cl C r o q l) (λi=>Ps n<=i) d (.ListComp s (c::jG) scope m) 0 U)
  (I:X.calm=O0:=by rfl)(H:c.is_async=0:=by rfl)(Q: ∀t,jG[0]?=N2 t->t.is_async=0:=by intro t h;cases h;try rfl)(O: ∀x,ay c.iter X.env x=pure x:=by intro _;rfl):QX X (.ListComp s (c::jG) scope m) (jy n k w E y U):=⟨Rk C I H Q O pi.h λcl C r o q l=>let⟨a,b,c⟩:=u6 cl C r o q l T;⟨a.h,b.h,λd=>(c d).h⟩⟩
def sC{c:oy}{jG:qg}{n:iK}{scope:jJ}{fi:FIt}{E:Tg}{y:FT}{U:FB}{caps:jL}{N':ji}{w t:bB}(O:X.N.Nodup)(C:CompOk X N' scope caps k)(nd:N'.Nodup)(pi:QI X (λi=>i∉caps) c.target c.iter fi)
  (u6: ∀(cl:kX) (C:iB) (r:iI) (o:Hp) (q:kG) (l:jr),(X.comp N' scope cl C r o q l).N.Nodup->
   QG (X.comp N' scope cl C r o q l) (λi=>Ps caps<=i) c.target E/\QF (X.comp N' scope cl C r o q l) c.ifs y/\ ∀d,QB (X.comp N' scope cl C r o q l) (λi=>Ps caps<=i) d (.ListComp n (c::jG) scope m) 0 U)
  (H:b6 (.ListComp n (c::jG) scope m) (N2<|.Name x w) t.line X.env=pure O0:=by rfl)(G:X.N[i]?=N2 x:=by rfl)(hx:X.env.scope.names.lookup x=N2 .local:=by rfl)(hf:X.fn x=O0:=by rfl)(I:A i:=by decide)
  (T:X.calm=O0:=by rfl)(Q:c.is_async=0:=by rfl)(l9: ∀s,jG[0]?=N2 s->s.is_async=0:=by intro s h;cases h;try rfl)(hs: ∀x,ay c.iter X.env x=pure x:=by intro _;rfl):QS X A L H0 (.Assign [.Name x w] (.ListComp n (c::jG) scope m) t) (kL i<|jy caps k fi E y U):=⟨NL H C T Q l9 hs pi.h (JH O G (bC hx)<|bC hf) I λcl C r o q l=>let⟨a,b,c⟩:=u6 cl C r o q l nd;⟨a.h,b.h,λd=>(c d).h⟩⟩
def s0:QQ X A L H0 [] jn:=⟨PSs.imp' JE λD l Q d=>by obtain⟨o,T,h,E,n,e,k⟩:=d;cases e;exact k l Q .refl E⟩
def s1(h:QS X A L H0 S u)(Q:QQ X A L H0 Ss v):QQ X A L H0 (S::Ss) (iP u v):=⟨PSs.imp' (sU h.h Q.h) λD R H N=>by
 obtain⟨F,T,y,E,C,e,k⟩:=N;obtain⟨o,O,e⟩:=iA e;refine⟨F,T,o,E,C,O,?_⟩
 cases o with
 |nx l=>
  intro K P w I;refine⟨l,T,y,I,C.step w,e,?_⟩
  cases y with
  |nx s=>exact λd n q t=>k d n (w.trans q) t
  |bk s=>exact λd n q t=>k d n (w.trans q) t
  |ct s=>exact λd n q t=>k d n (w.trans q) t
  |rt r s=>exact λv d n q R2=>k v d n (w.trans q) R2
 |rt r l=>cases e;exact k
 |bk l=>cases e;exact k
 |ct l=>cases e;exact k⟩
def sX:QS X A L H0 S Nr:=⟨λd s q O D Q h=>by obtain⟨o,T,l,E,n,e,k⟩:=h;cases e⟩
def sR(h:QX X e f):QS X A L H0 (.Return (C e) m) (lh f):=⟨PS.imp' (NO h.h) λD O N t=>by
 obtain⟨y,T,w,E,r,e,k⟩:=t;obtain⟨p,l,e⟩:=iA e;cases e;refine⟨y,T,p.1,p.2,E,l,λv n P=>k v O n P.1.sk ?_⟩;obtain⟨⟨d,o⟩,Q⟩:=p
 cases o with
 |false=>exact P.2
 |true=>obtain⟨q,h1,s,l⟩:=P.2;exact⟨q,h1,r.fresh s,l⟩⟩
def sRN:QS X A L H0 (.Return I m) Jv:=⟨PS.imp' Rr λD l Q d=>by obtain⟨o,T,h,E,n,e,k⟩:=d;cases e;exact k .non l Q .refl ⟨E,Rep.mkNon⟩⟩
def sRV(hl: ¬L i)(h1:X.N[i]?=N2 x:=by rfl)(s:Vis X.env.scope x:=by first|exact bC rfl|exact bI (bC O9)|exact bI<|bI O9)(h3:DB x:=by decide)(h4:(x==("__classdict__":aB))=O1:=by decide):QS X A L H0 (.Return (N2<|.Name x p) m) (oI i):=⟨PS.imp' (NO<|AF h1 s h3 h4) λD r H W=>by
 obtain⟨o,T,Z,E,R,e,k⟩:=W;unfold oI at e
 cases G:o[i]? with
 |none=>rw[G] at e;cases e
 |some q=>
  cases q with
  |none=>rw[G] at e;cases e
  |some p=>
   obtain⟨d,b⟩:=p;have V:i<(Ps o):=(rQ.mp G).1
   cases b with
   |false=>rw[G] at e;cases e;obtain⟨v,h1,s⟩:=E.val i d G;exact⟨v,h1,k v r H .refl ⟨E,s⟩⟩
   |true=>
    rw[G] at e;cases e;obtain⟨a,h1,s⟩:=E.own i d G
    have h: ∀j b,OwnI r (o.set i Op) j b->i≠j/\OwnI r o j b:=λj b a'=>by
     obtain⟨n,g1,g2⟩:=a'
     rcases lQ g1 with⟨_,_,q⟩|⟨ne,q⟩
     .cases q
     .exact⟨ne,n,q,g2⟩
    have l: ∀b,OwnA r (o.set i Op) b->OwnA r o b/\b≠a:=λb a'=>by
     obtain⟨j,n,g1,g2⟩:=a'
     obtain⟨ne,C,g3,Q⟩:=h j b ⟨n,g1,g2⟩;exact⟨⟨j,C,g3,Q⟩,λz=>ne<|by subst z;exact E.inj i j d C _ G g3 h1 Q⟩
    have F:OwnA r o a:=⟨i,d,G,h1⟩
    have sub: ∀b,H b≠Op->(OwnA r (o.set i Op) b\/(T b\/b=a))->(OwnA r o b\/T b):=λb _ z=>by
     rcases z with z|z|z
     .exact .inl (l b z).1
     .exact .inr z
     .subst z;exact .inl F
    refine⟨.ref a,h1,k (.ref a) r H ⟨λ_ _ e _=>e,λj b z=> .inl (h j b z).2,λ_ z=>z,λ_ _=>rfl⟩ ⟨a,rfl,?_,?_,s.mono (λ_ _ e _=>e) sub λ_ e=>e⟩⟩
    .rcases R.ow i a ⟨d,G,h1⟩ with z|z
     .exact absurd z hl
     .exact z
    .refine⟨by rw[wo];exact E.len,λj n y=>?_,λj n y=>?_,λj k n P b y hk g1 g2=>?_,λb z t=>?_,λb z=>?_⟩
     .rcases lQ y with⟨_,_,q⟩|⟨ne,q⟩
      .cases q
      .obtain⟨w,I,O⟩:=E.val j n q;exact⟨w,I,Rep.mono (λ_ _ e _=>e) sub O⟩
     .rcases lQ y with⟨_,_,q⟩|⟨ne,q⟩
      .cases q
      .obtain⟨w,I,O⟩:=E.own j n q;exact⟨w,I,O.mono (λ_ _ e _=>e) sub λ_ e=>e⟩
     .obtain⟨_,C,q1,q2⟩:=h j b ⟨n,y,g1⟩;obtain⟨_,K,q3,q4⟩:=h k b ⟨P,hk,g2⟩;exact E.inj j k C K b q1 q3 q2 q4
     .obtain⟨z1,z2⟩:=l b z;rcases t with t|t
      .exact E.nT b z1 t
      .exact z2 t
     .rcases z with z|z
      .exact E.dom b z
      .subst z;exact E.ownOw F⟩
def sE(h:QX X e f)(n:b6 e I m.line X.env=pure O1:=by rfl):QS X A L H0 (.Expr e m) (mG f):=⟨PS.imp' (Rt h.h n) λD s Q o=>by obtain⟨r,T,q,E,t,e,k⟩:=o;obtain⟨p,l,e⟩:=iA e;cases e;exact⟨r,T,p.1,p.2,E,l,λv d P=>k s d P.1.sk (P.rep E).1⟩⟩
def sI(n:QT X c ft)(d:QQ X A L H0 Ss u)(l:QQ X A L H0 Ts v):QS X A L H0 (.If c Ss Ts m) (sIf ft u v):=⟨Vh n.h d.h l.h⟩
def sW{n:Nat}(l:QT X c ft)(d:QQ X A L H0 Ss u)(o:eT (ai X.prog X.w) X.A X.env X.xe:=by exact PassesOwn.never):QS X A L H0 (.While c Ss [] m) (nJ ft u n):=⟨KW o l.h d.h⟩
def sF{d:FIt}{t:Tg}(G:QI X (λ_=>False) tg e d)(o:QG X A tg t)(l:QQ X A L H0 Ss u)(q:eT (ai X.prog X.w) X.A X.env X.xe:=by exact PassesOwn.never)(n:X.calm=O0:=by rfl)(r: ∀x,ay e X.env x=pure x:=by intro _;rfl):QS X A L H0 (.For tg e Ss [] m) (qt d t u):=⟨Rq q n G.h o.h l.h r⟩
def sS(q:X.N.Nodup)(t:QX X e f)(G:X.N[i]?=N2 x:=by rfl)(I:Loc X.env.scope x:=by first|exact bC rfl|exact bI O9)(w:X.fn x=O0\/X.env.scope.names.lookup x=N2 .local:=by first|exact bC rfl|exact bI O9)(s:A i:=by decide)(y:b6 e (N2<|.Name x p) m.line X.env=pure O1:=by rfl):QS X A L H0 (.Assign [.Name x p] e m) (kL i f):=⟨PS.imp' (NN q G I t.h y w) λD K H C=>by obtain⟨Q,T,O,E,F,e,k⟩:=C;obtain⟨⟨r,d⟩,o,e⟩:=iA e;obtain⟨G,rfl⟩:=jl e;refine⟨Q,T,r,d,E,o,λv l P=>?_⟩;obtain⟨h1,n⟩:=Aq (A:=A) E P G s;exact k _ l h1 n⟩
def sT{t:Tg}{pt:bB}(I:QX X e f)(O:QG X A (.Tuple J k pt) t)(Q:e8 [.Tuple J k pt] e m.line X.env=pure O1:=by rfl)(l:e9 [.Tuple J k pt] e X.env=pure Op:=by rfl)(h1:(aW [.Tuple J k pt] X.env).map (·.2)=[cC (.Tuple J k pt) X.env]:=by rfl):QS X A L H0 (.Assign [.Tuple J k pt] e m) (Q8 t f):=⟨PS.imp' (HU I.h O.h Q l h1) λD V H l=>by obtain⟨K,T,N,E,R,e,k⟩:=l;obtain⟨⟨r,d⟩,h1,e⟩:=iA e;obtain⟨n,C,e⟩:=iA e;cases e;refine⟨K,T,r,d,E,h1,λv w P=>?_⟩;obtain⟨s,F⟩:=P.rep E;exact⟨d,T,r.1,n,s,F,C,λo y q=>k o w (P.1.sk.trans y) q⟩⟩
def sIx{n:bB}(hv:QO X (.Name x Y) (iC i))(he:QX X e f)(G:QO X a fo)
  (ha: ∀v,cC (.Subscript (.Name x Y) a n) X.env v=(do
   let y <-cw [v] (aU (.Name x Y) X.env)
   let I' <-cw [v,y] (aU a X.env)
   cN n
   cw [v,y,I'] (ib y I' v)
   F0 [v,y,I'] []):=by intro _;rfl)
  (hs:e8 [.Subscript (.Name x Y) a n] e m.line X.env=pure O1:=by rfl)(C:e9 [.Subscript (.Name x Y) a n] e X.env=pure I:=by rfl)
  (h1:(aW [.Subscript (.Name x Y) a n] X.env).map (·.2)=[cC (.Subscript (.Name x Y) a n) X.env]:=by rfl):QS X A L H0 (.Assign [.Subscript (.Name x Y) a n] e m) (Az i f fo):=⟨PS.imp' (HU he.h (N7 hv.h G.h Nn ha) hs C h1) λD O H C=>by
 obtain⟨R,T,out,E,fi,e,k⟩:=C;obtain⟨⟨r,d⟩,h1,e⟩:=iA e;dsimp only at e;split at e
 case h_2=>cases e
 rename_i y0 h0;obtain⟨⟨o,w⟩,h2,e⟩:=iA e;dsimp only at e;split at e
 .rename_i kk l hk N;obtain⟨j,hj,e⟩:=iA e;cases e;refine⟨R,T,r,d,E,h1,λv W q=>⟨d,Tmp T r v,.slot i,d,q.er E,by unfold iC;rw[h0],λv2 H2 s=>⟨d,Tmp T r v,o,w,s.er<|q.er E,h2,λv3 Z P3=>?_⟩⟩⟩;have iq:PostO X.K T O R H (.val r) d v W:=q;have B:=Ops.cons E iq<|Ops.cons (q.er E) s<|Ops.cons (s.er<|q.er E) P3<|Ops.nil<|P3.er<|s.er<|q.er E;have Q:ER X.K Z T O w:=B.er.mono (λ_ _ e _=>e) (λb _ z=>B.tt b z) λa z=>B.er.dom a<|B.tt a z;have t:O[i]?=N2 (N2 v2):=s.2.2;obtain⟨a,F,xs,q2,P⟩:=Q.own i _ N;rw[t] at F;cases F;have vk:=jq<|B.view (j:=2) O9 O9 hk;have rv:=B.rep E (j:=0) (r:=r) O9 O9;refine⟨a,xs,kk,j,rfl,vk,q2,by rw[P.length];exact hj,?_⟩;obtain⟨V,K4⟩:=Q.write N t<|RepL.set rv j P;exact k _ _ (B.keep.trans K4).sk V
 .cases e⟩
def sDP{I:bB}(hu:un X.A 1)(hv:QO X (.Name x Y) (iC i))(he:QX X e f)(G:QO X a fo)
  (ha: ∀v,cC (.Subscript (.Name x Y) a I) X.env v=(do
   let ov <-cw [v] (aU (.Name x Y) X.env)
   let iv <-cw [v,ov] (aU a X.env)
   cN I
   cw [v,ov,iv] (ib ov iv v)
   F0 [v,ov,iv] []):=by intro _;rfl)
  (hs:e8 [.Subscript (.Name x Y) a I] e m.line X.env=pure O1:=by rfl)(hw:e9 [.Subscript (.Name x Y) a I] e X.env=pure Op:=by rfl)
  (h1:(aW [.Subscript (.Name x Y) a I] X.env).map (·.2)=[cC (.Subscript (.Name x Y) a I) X.env]:=by rfl):QS X A L H0 (.Assign [.Subscript (.Name x Y) a I] e m) (Fl i f fo):=⟨PS.imp' (HU he.h (N7 hv.h G.h (Np hu) ha) hs hw h1) λD Q H hw=>by
 obtain⟨δ,T,out,E,fi,e,k⟩:=hw;obtain⟨⟨r,d⟩,h1,e⟩:=iA e;dsimp only at e;split at e
 case h_2=>cases e
 rename_i y0 h0;obtain⟨⟨o,l⟩,h2,e⟩:=iA e;dsimp only at e;split at e
 .rename_i V W Z hk h3;obtain⟨⟨R,q⟩,e⟩:=jl e;cases e;refine⟨δ,T,r,d,E,h1,λv H1 N=>⟨d,Tmp T r v,.slot i,d,N.er E,by unfold iC;rw[h0],λv2 H2 P=>⟨d,Tmp T r v,o,l,P.er<|N.er E,h2,λv3 F P3=>?_⟩⟩⟩;have iq:PostO X.K T Q δ H (.val r) d v H1:=N;have B:=Ops.cons E iq<|Ops.cons (N.er E) P<|Ops.cons (P.er<|N.er E) P3<|Ops.nil<|P3.er<|P.er<|N.er E;have E3:ER X.K F T Q l:=B.er.mono (λ_ _ e _=>e) (λb _ z=>B.tt b z) λa z=>B.er.dom a<|B.tt a z;have C:Q[i]?=N2 (N2 v2):=P.2.2;obtain⟨a,q1,us,q2,q3⟩:=E3.own i _ h3;rw[C] at q1;cases q1;have vk:=B.view (j:=2) O9 O9 hk;have rv:=B.rep E (j:=0) (r:=r) O9 O9;have oa:OwnA Q l a:=⟨i,_,h3,C⟩
  have kp: ∀(s:HO) b u,F b=N2 u-> ¬(OwnA Q l b\/T b)->upd F a s b=N2 u:=λs b u e n=>by rw[jg<|by intro z;subst z;exact n<|.inl oa];exact e
  have ks10:10000<sizeLine:=by rw[kf];decide
  have fin: ∀s df,OthB X.K (N2 s) .dct (uA W Z V r.1).1 (uA W Z V r.1).2 df->RepL X.K F (λa=>OwnA Q l a\/T a) (uA W Z V r.1).2 df->D.nx Q (upd F a s):=λs df g1 g2=>by obtain⟨E4,K4⟩:=E3.writeG (o:=s) (d':= .oth .dct (uA W Z V r.1).1 (uA W Z V r.1).2) h3 C ⟨df,by rw[jk];exact g1,RepL.mono (kp s) (λ_ _ z=>z) g2⟩;exact k _ _ (B.keep.trans K4).sk E4
  refine⟨a,rfl,?_⟩;rcases q2 with⟨kvs,eH,rfl,rfl⟩|⟨kvs,eH,rfl,rfl⟩
  .rw[jF] at q;rcases wR R with⟨κ,g1,_⟩|⟨τ,g1,g2⟩
   .have y:=tX g1 vk;have w:=qz g1;subst w;obtain⟨O,p2⟩:=Tz (k:=κ) rv q3;refine .inl ⟨_,by rw[y];exact DPut.k eH<|by lia,fin _ _ (.inl ⟨_,rfl,O,rfl⟩) p2⟩
   .have cQ:kvs=[]:=by
     cases kvs with
     |nil=>rfl
     |cons p kvs=>obtain⟨c,hc⟩:=g2 (kx p.1) (by simp);exact(FZ hc).elim
    subst cQ;obtain⟨b,y,eb⟩:=tV g1 vk;have w:=wQ g1;subst w;obtain⟨O,p2⟩:=Tw (k:=τ) (kvs:=[]) rv q3;exact .inr<|.inr ⟨τ,b,eH,y,eb,fin _ _ (.inr ⟨[(τ,v)],rfl,O,rfl⟩) p2⟩
  .rw[jF] at q;rcases wR R with⟨κ,g1,g2⟩|⟨τ,g1,_⟩
   .have cQ:kvs=[]:=by
     cases kvs with
     |nil=>rfl
     |cons p kvs=>obtain⟨c,hc⟩:=g2 (.tup<|p.1.map kx) (by simp);exact(Jl hc).elim
    subst cQ;have y:=tX g1 vk;have w:=qz g1;subst w;obtain⟨O,p2⟩:=Tz (k:=κ) (kvs:=[]) rv q3;exact .inr<|.inl ⟨κ,eH,y,fin _ _ (.inl ⟨[(κ,v)],rfl,O,rfl⟩) p2⟩
   .obtain⟨b,y,eb⟩:=tV g1 vk;have w:=wQ g1;subst w;obtain⟨O,p2⟩:=Tw (k:=τ) rv q3;refine .inl ⟨_,by rw[y];exact DPut.t eH eb<|by lia,fin _ _ (.inr ⟨_,rfl,O,rfl⟩) p2⟩
 .cases e⟩
end
def Fz(K:jb)(b:lp)(x:aB)(st:bv):Prop:= ∃f a,b x=C (.ref f)/\Fun K x x st f a
def fz{K:jb}{h:ja}{e:lp}{x:aB}{st:bv}{f:iB}{i:iO}{j g:Option iB}{n:uC}{kV b m d ct:iO}(X:K.In h)(G:h.Ns am e)(a:aQ K am x=C (C<|.ref f))
  (l:K.lookup f=C ⟨i,j,.func<|bX x x (rp st) (lH st) (iG st) .none kV b m g d ct,n⟩)(c:dO K d x=J)(k:bU K (.ref f)=J):Fz K e x st:=⟨f,_,j2 X G a,Pq l c k⟩
def BdA(x:aB)(st:bv)(c:ji):Prop:= ∀(kV a f:iO) (d:Option iB) (e ct:iO) (b:jD),Ps b=Ps c->eR (bX x x (rp st) (lH st) (iG st) .none kV a f d e ct) ⟨b,[]⟩=pure (c.zip b)
def scM{N P:ji}{a:jJ}(h1:a.kind= .function:=by rfl)(b:a.isCoroutine=Y:=by rfl)(c:a.isGenerator=Y:=by rfl)(d:N.Nodup:=by decide+kernel)(e:N.take P.length=P:=by rfl)(f: ∀x∈P,a.names.lookup x=C .local\/a.names.lookup x=C .cell:=by decide+kernel)(g: ∀y∈a.names,y.2≠ .free:=by decide+kernel):FnScope N P a:=⟨h1,b,c,d,e,f,g⟩
def Bd(Z:ZZ)(k:Nat)(x:aB)(st:bv)(N d:ji)(c:jL)(fs:FS):Prop:= ∀(f:iB) (b:iO) (A:jf) (a:List dh) (s:iI) (U:Hp) (E:XK) (L:jT),(∀i,L i->i<Ps d)->Room k (A.deeper<|aV x (iG st) s.heap.objs.size f b)->
 un (A.deeper<|aV x (iG st) s.heap.objs.size f b) 60->un (A.deeper<|aV x (iG st) s.heap.objs.size f b) 1->un (A.deeper<|aV x (iG st) s.heap.objs.size f b) 62->un (A.deeper<|aV x (iG st) s.heap.objs.size f b) 90->N.Nodup->
 QQ (qd CX0 Z.P Z.w Z.K Z.mg Z.base N x (iG st) f b A a s U E).nox (λi=>i∈c) L U (lH st) fs
def fnB{Z:ZZ}{k:Nat}{x:aB}{st:bv}{N c:ji}{b:jL}{fs:FS}{f:iB}{d:mD}(F:Fun Z.K x x st f d)(S:FnScope N c (iG st))(j:Bd Z k x st N c b fs):FnOk Z.P Z.w Z.K Z.mg Z.base CX0 (k+1) f d c (spF Z.K<|evF (Ps N) (Ps c) b fs):=
 V9 F S λg A a s U E L i e=>by have:=e.un;exact(j f g A a s U E L i e (by unfold un;omega) (by unfold un;omega) (by unfold un;omega) (by unfold un;omega) S.nd).h
def ozB{Z:ZZ}{k:Nat}{x:aB}{st:bv}{N c:ji}{asg:jL}{fs:FS}(a:Fz Z.K Z.mg x st)(S:FnScope N c (iG st))(b:BdA x st c)(e:Bd Z k x st N c asg fs):Oz Z (k+1) x c (evF (Ps N) (Ps c) asg fs):=
 let⟨f,d,m,F⟩:=a;⟨f,d,fnB F S e,m,F.kp,F.binds b⟩
def us0{P:List iO->Prop}(h:P []): ∀b:List iO,Ps b=0->P b:=λb e=>by cases b with|nil=>exact h|cons a l=>cases e
def us1{P:List iO->Prop}{n:Nat}(h: ∀a,∀b:List iO,Ps b=n->P (a::b)): ∀b:List iO,Ps b=n+1->P b:=λb e=>by cases b with|nil=>cases e|cons a l=>exact h a l<|Nat.succ.inj e
def oz0{Z:ZZ}{x:aB}{st:bv}{c:ji}(a:Fz Z.K Z.mg x st)(b:BdA x st c):Oz Z 0 x c (λ_=>I):=
 let⟨f,d,m,F⟩:=a;⟨f,d,Sw,m,F.kp,F.binds b⟩
def mgI{K:jb}{h:ja}{b:lp}{x:aB}{i:Int}{t:m5}(X:K.In h)(G:h.Ns am b)(a:aQ K am x=C (C<|.int i t)): ∃t,b x=C (.int i t):=⟨t,j2 X G a⟩
def txK{K:jb}{h:ja}{g:lp}(X:K.In h)(G:h.Ns am g)(i:aQ K am "len"=C I)(j:aQ K am "abs"=C I)(k:aQ K am "int"=C I)(l:aQ K am "tuple"=C I)(m:aQ K am "list"=C I)(n:aQ K am "range"=C I)(o:aQ K am "isinstance"=C I)(p:aQ K am "bool"=C I)(q:aQ K am "max"=C I)(r:aQ K am "min"=C I)(a:aQ K am "all"=C I)(b:aQ K am "any"=C I)(c:aQ K am "sorted"=C I)(d:aQ K am "enumerate"=C I)(e:aQ K am "zip"=C I)(f:aQ K am "set"=C I):Tx g:=⟨oz X G i,oz X G j,oz X G k,oz X G l,oz X G m,oz X G n,oz X G o,oz X G p,oz X G q,oz X G r,oz X G a,oz X G b,oz X G c,oz X G d,oz X G e,oz X G f⟩
open AutoSeq1 (wpAny_loadPart')
def Ca(a l:iB)(b c:ey)(f:b.cls= .type "dict")(i:c.cls= .type "tuple"):hD (bn.«dict.__eq__» ⟨[.ref a,.ref l],[]⟩) (λ_ R s=>s.heap.get? a=C b/\s.heap.get? l=C c/\R (.ok<|.ret .notImplemented) s):=
 .of_wp λj w A R s h=>by
  obtain⟨o,g,d,t,os⟩:=s;obtain⟨h1,m,h⟩:=h;obtain⟨k,dd,e,q⟩:=b;obtain⟨n,r,data2,p⟩:=c;simp only at f i;subst f i;have f1:=F.sub_tuple_dict
  wp_walk using aY h1,aY m
  exact⟨_,rfl,h⟩
def BN(a l:iB)(e c:ey)(i:e.cls= .type "dict")(j:c.cls= .type "tuple"){b:mY}{n:Nat}(hd:c.data= .seq b n):hD (bn.«tuple.__eq__» ⟨[.ref l,.ref a],[]⟩) (λ_ R s=>s.heap.get? l=C c/\s.heap.get? a=C e/\R (.ok<|.ret .notImplemented) s):=
 .of_wp λk w A R s h=>by
  obtain⟨q,g,d,v,os⟩:=s;obtain⟨h1,o,h⟩:=h;obtain⟨m,dd,f,t⟩:=e;obtain⟨p,u,data2,r⟩:=c;simp only at i j hd;subst i j hd;have f1:=F.sub_dict_tuple
  wp_walk using aY h1,aY o
  exact⟨_,rfl,h⟩
def BP{A:jf}{s:iI}{a l:iB}{i:ey}{d:mY}(h1:s.heap.get? a=C i)(f:i.cls= .type "dict")(o:s.heap.IsTuple l d)(p:A.units<bi):RcAt A s (.ref a) (.ref l) Y:=λm w E Q h=>by
 obtain⟨j,c,b,n,hd⟩:=id o;have q:a≠l:=λe=>by subst e;rw[h1] at c;cases c;rw[f] at b;injection b with b;exact absurd b (by decide)
 exact rc_eq_decline_or (k:=Y) ⟨_,h1,f⟩ ⟨_,c,b⟩ (by decide) F.sub_tuple_dict F.slot_dict_eq L7
  (λ_ g=>wm F.slot_dict_eq ⟨_,h1,f⟩ F.entry_dict_eq (F.args_dict_eq_2 _ _) (Ca a l i j f b) ⟨h1,c,g⟩)
  (λ_ g=>wm L7 ⟨_,c,b⟩ F.entry_tuple_eq (F.args_tuple_eq_2 _ _) (BN a l i j f b hd) ⟨c,h1,g⟩)
  (λ_ g=>wpAny_isSame_ref_other q h1 c (by rw[f];simp) g) (.inr p) h
def Po(d e:D):Option (D×Bool):=match d,e with
 | .oth .dct _ _,.tup _=>C (.bl Y,Y)
 |_,_=>gEq d e
section
variable {X:Cx}
def RM(n:X.A.units+60<bi):OpR X (aw .Eq) (rD X.K Po):=by
 intro b s U M x y v u Q N j k h;obtain⟨O,d,e,z,np,h1,f,c,G⟩:=h;by_cases g: ∃i m l,d= .oth .dct i m/\e= .tup l
 .obtain⟨i,m,l,rfl,rfl⟩:=g;cases c;obtain⟨a,L,rfl,q,r⟩:=oS h1;obtain⟨p,J,rfl,B,E⟩:=lY f;cases j;cases k;obtain⟨t,T,w,_⟩:=N.tuple B;obtain⟨o,g1,g2⟩:=H9 N q;exact(BP g1 g2 w<|by lia) _ _ _ _ ⟨.bl _,M,N,rfl,G.bl⟩
 .refine qW n b s U M x y v u Q N j k ⟨O,d,e,z,np,h1,f,?_,G⟩;unfold Po at c;split at c
  .exact absurd ⟨_,_,_,rfl,rfl⟩ g
  .exact c
end
noncomputable abbrev abI(i:Int):Int:=if i<0 then -i else i
section
variable {d:jd}{w:iW}{A:jf}{E:jw}{s:iI}
def Ni{a:iB}{f:jD}{r:iQ}{n:Nat}{P:u3->Shared->Prop}(N:s.heap.get? a=N2 (bh "list" f.toArray n))(hi:dG f r)(h64:f.length<64)
  (h: ∀g y J' c,(∀b o,b≠a->s.heap.get? b=N2 o->g.get? b=N2 o)->g.get? a=N2 (bh "list" J' c)->KskOut O1 (r.map abI) f J'.toList->P (.done<|.ret .none) {s with heap:=g,toks:=y}):
  ah (ai d w) A (ksk_tree a (.builtin "abs") O1) P E s:=by
 have ha:a<s.heap.objs.size:=ke N;have Z:=hi.length;have T: ∀k,k<=f.length->k<=sizeLine:=λk hk=>by rw[kf];omega
 unfold ksk_tree;refine iF<|GQ N O9<|iF<|vz N O9 ?_ (T _ (by simp))<|lN _;obtain⟨B,o8⟩: ∃B,(s.heap.update a<|aG λ_=>(#[]:Array iO)).get? a=N2 (bh "list" #[] B):=⟨_,xH N λ_=> #[]⟩
 refine iF<|zP o8 O9<|iF<|DD ?_<|T _ (by simp);refine iF<|Dt ?_<|lN _;refine nC ?_
 let h1:=pR s.heap a f
 let m:Addr:=((s.heap.update a<|aG λ_=>(#[]:Array iO)).push<|bh "tuple" f.toArray 0).objs.size
 have hk:m=s.heap.objs.size+1:=by show _=_;simp -iota only[m];rw[size_push',Heap.size_update]
 have L:a≠m:=by rw[hk];exact jM<|vE ha
 have V: ∀b o,b≠a->s.heap.get? b=N2 o->h1.get? b=N2 o:=λb o z e=>kc _ (kc _ (by rw[GP _ _ _ _ z];exact e));have K:h1.get? a=N2 (bh "list" #[] B):=kc _ (kc _ o8);have ei:h1.get? m=N2 (bh "list" #[] 0):=kD _ rfl;show ah (ai d w) A (ksk_rest a (.builtin "abs") O1 f.toArray B<|.ref m) P E {s with heap:=h1};unfold ksk_rest;refine iF<|uJ ?_;rw[List.forIn_toArray];refine iF<|ksk_fold (λi Y=> ∃g y l e,Y={s with heap:=g,toks:=y}/\(∀b o,b≠m->h1.get? b=N2 o->g.get? b=N2 o)/\g.get? m=N2 (bh "list" l e)/\dG l.toList ((r.map abI).take i)) f 0 _ ⟨h1,s.toks,#[],0,rfl,λ_ _ _ e=>e,ei,.nil⟩ (λj x Y hx F=>?_) λY F=>?_
 .obtain⟨g,y,l,e,rfl,U,G,p⟩:=F;have X:j<f.length:=(rQ.mp hx).1;obtain⟨t,ht⟩:=hi.get j r[j]<|jA (by omega);rw[hx] at ht;cases ht
  have q:l.size<=f.length:=by have:=p.length;rw[kE,rG] at this;omega
  refine iF<|rW<|IX λu W=>?_;dsimp only;have s1:=rB g m (aG (·.push (.int (abI r[j]) u)));refine iF<|vz (s:={s with heap:=g,toks:=W}) G O9 ?_ (T _ q)<|lI (s8 (Array.size_push ..)) (by rw[kf];omega);refine iR ⟨rfl,_,_,l.push<|.int (abI r[j]) u,_,rfl,λb o z e=>(s1.2 b z).trans<|U b o z e,xH G _,?_⟩;rw[vB,List.take_add_one,ki,jA (show j<r.length by omega),eS];rw[vB] at p;exact p.append<|.cons _ _ .nil
 .obtain⟨g,y,l,e,rfl,U,G,p⟩:=F;have p:dG l.toList (r.map abI):=by rwa [vB,zU<|by simp;omega] at p
  have q:l.size=f.length:=by have:=p.length;rw[kE,jF] at this;omega
  have M:(l.zip f.toArray).size=f.length:=by rw[mL,q,jx,Nat.min_self]
  refine iF<|GQ (s:={s with heap:=g,toks:=y}) G O9 ?_
  have v: ∀st:rR,(fj st).Perm (l.zip f.toArray)->SortedTo (fj st) (fj st).size->fO st=Op->ah (ai d w) A (ksk_tail a O1 B (.ref m) st) P E {s with heap:=g,toks:=y}:=λst O S R=>by
   have s1:=rB g m<|aG λ_=>(#[]:Array iO);have D:(g.update m<|aG λ_=>(#[]:Array iO)).get? a=N2 (bh "list" #[] B):=(s1.2 a L).trans<|U a _ L K;have s2:=rB (g.update m<|aG λ_=>(#[]:Array iO)) a (aG λ_=>(fj st).map (·.2));unfold ksk_tail;simp -iota only[kT,kI];refine iF<|vz (s:={s with heap:=g,toks:=y}) G O9 ?_ (T _ (by omega))<|lN _;refine iF (DC (iF (zP D O9 (iF (vz D O9 ?_ (lN _) (Nat.le_succ_of_le (show((fj st).map (·.2)).size<=sizeLine from T _ (by rw[mN,O.size_eq,M];exact jW _))))))));rw[R];simp -iota only[uK,kT,kI];refine iR<|h _ _ _ _ (λb o z e=>?_) (xH D _) (ksk_out (b:=O1) p O S);have I:b≠m:=by rw[hk];exact jM<|vE<|ke e
   exact(s2.2 b z).trans ((s1.2 b I).trans<|U b o I<|V b o z e)
  unfold ksk_end;simp -iota only[kT,kI];by_cases H:f.toArray.size<2
  .rw[iT H,iT H];refine iF<|iR ?_;rw[GY];refine iF<|iR<|v _ (Array.Perm.refl _) (λi j o9 X=>?_) rfl;have dn:j<(l.zip f.toArray).size:=X;rw[M] at dn;rw[jx] at H;have:i=j:=by omega
   subst this;exact wf _
  .rw[je H,je H];rw[jx] at H;rw[ksk_kind p<|by rw[q];omega];refine iF (iR ?_)
   refine iF (oE (wpS_sortRuns (a₀:=l.zip f.toArray) (st:=SortSt.mk' x6 (l.zip f.toArray) #[] 7 Op) (Q:=λ_ C=>(fj C).Perm (l.zip f.toArray)/\fO C=Op/\SortedTo (fj C) (l.zip f.toArray).size)
    (ksk_intKeys p) ⟨Array.Perm.refl _,rfl,rfl,rfl⟩ (by rw[M];omega) (by rw[M];exact h64) λC a1 a2 a3=>⟨a1,a2,a3⟩) ?_ λ_ _ e=>e)
   rintro⟨⟨⟩,C⟩ Y ⟨rfl,O,R,S⟩;exact v C O (by rw[O.size_eq];exact S) R
end
noncomputable def aD:D->Int
 | .int i=>abI i
 |_=>0
noncomputable def isI:D->Bool
 | .int _=>J
 |_=>Y
noncomputable def ltA(x y:D):Bool:=decide<|aD x<aD y
noncomputable def yA:D->Option (D×Bool)
 | .lst l=>if l.all isI=J/\(l.map aD).Nodup/\(Ps l)<64 then C (.lst<|mF ltA l,J) else I
 |_=>I
def Pg{x:D}: ∀{l:List D},l.Pairwise (λa b=>aD a<=aD b)->(Er ltA x l).Pairwise λa b=>aD a<=aD b:=by
 intro g
 induction g with
 |nil=>intro _;simp[Er]
 |cons y l f=>
  intro h;obtain⟨h1,e⟩:=BL.mp h;unfold Er;by_cases d:aD y<aD x
  .rw[iT<|by simpa[ltA] using d];refine BL.mpr ⟨λz c=>?_,f e⟩;rcases lz.mp ((uq ltA x l).mem_iff.mp c) with rfl|c
   .omega
   .exact h1 z c
  .rw[je<|by simpa[ltA] using d];refine BL.mpr ⟨λz c=>?_,h⟩;rcases lz.mp c with rfl|c
   .omega
   .have:=h1 z c;omega
def yg: ∀l:List D,(mF ltA l).Pairwise λa b=>aD a<=aD b:=by
 intro d
 induction d with
 |nil=>exact .nil
 |cons _ l c=>exact Pg<|c
theorem CC: ∀{l:List D},(l.map aD).Nodup-> ∀a∈l,∀b∈l,aD a=aD b->a=b
 |x::l,h,a,d,b,f,e=>by
  rw[km,Ah] at h;rcases lz.mp d with h1|h1<;>rcases lz.mp f with c|c
  .rw[h1,c]
  .exact absurd (h1▸e▸vn c) h.1
  .exact absurd (c▸e▸vn h1) h.1
  .exact CC h.2 a h1 b c e
def Nk{l m:List D}(c:m.Perm l)(g:m.Pairwise λa b=>aD a<=aD b)(f:(l.map aD).Nodup):m=mF ltA l:=by refine(c.trans (la ltA l).symm).eq_of_pairwise (le:=λa b=>aD a<=aD b) (λa b d e x y=>CC f a (c.mem_iff.mp d) b ((la ltA l).mem_iff.mp e)<|by omega) g (yg l)
section
variable {X:Cx}{f:jr}{g:L2.St}{H:Hp}{s:iI}
def Yd{O:AP'}: ∀{l:List D} {j:List V} {c:jD},l.all isI=J->RepL X.K H O l j->Vals j c-> ∃e:List Int,l=e.map .int/\dG c e:=by
 intro n
 induction n with
 |nil=>intro j c _ r v;rw[RepL] at r;subst r;cases v;exact⟨[],rfl,.nil⟩
 |cons d l m=>
  intro j c h r v;rw[RepL] at r;obtain⟨x,q,rfl,o,p⟩:=r;rw[eJ,lE] at h
  cases d with
  |int i=>
   cases v with
   |cons a b=>obtain⟨e,rfl,k⟩:=m h.2 p b;rw[jq<|.inl o] at a;obtain⟨t,rfl⟩:=a;exact⟨i::e,rfl,.cons _ _ k⟩
  |_=>exact absurd h.1 (by simp[isI])
theorem WS: ∀{l:List D} {a:iQ} {xs:List V} {its:jD},l=a.map .int->Ps xs=Ps l->Ps its=Ps l->(a.map abI).zip its=(l.zip<|xs.zip its).map λt=>(aD t.1,t.2.2)
 |[],[],_,_,_,_,_=>by simp
 |d::l,i::a,x::xs,u::its,h,h1,b=>by obtain⟨rfl,c⟩:=uF h;have:=WS (xs:=xs) (its:=its) c (by simpa using h1) (by simpa using b);simp -iota only[km,qO,this];rfl
def HJ{u:iO}{Q:VK}{O:AP'}{d:D}{z:D×Bool}{x:V}(I:Inv X f g H s)(ru:RelV x u)(np: ∀p,¬Ow (H p)-> ¬O p)(hd:kM X.K H O d x)(M:yA d=N2 z)(G:Gen X.K H O z Q):
  ah (ai X.prog X.w) X.A (call (.builtin "sorted") [u] [(bf "key",.builtin "abs")]) (EP X f g Q) X.xe s:=by
 cases d with
 |lst l=>
  obtain⟨⟨hI,hn,hz⟩,rfl⟩:=jl M;obtain⟨p,xs,rfl,q,E⟩:=kO hd;cases ru;obtain⟨j,v,pl,_⟩:=I.list q;have e1:=E.length;have e2:=v.length;obtain⟨ns,R,r⟩:=Yd hI E v;have hl:j.length<=sizeLine:=by rw[kf];omega
  obtain⟨o,ho,hc,n,Z⟩:=pl.isList;refine call_function_entry_kw N1 IP IR (ksk_s1 _ _) ?_;unfold bn.«sorted»;refine iF (m:=checkCount "sorted" 1 1 _)<|iR ?_;refine iF<|GO p (.inl O9) ho hc Z (λh1 k1=>?_) (by rw[jx];omega);rw[List.toList_toArray];refine iF<|Dt ?_ hl;have T:(h1.push<|bh "list" j.toArray 0).get? h1.objs.size=N2 (bh "list" j.toArray 0):=kD _ rfl;have L:Inv X f g H {s with heap:=h1}:=I.kept k1;refine iF<|nC<|wpAny_call_entry_kw (s:={s with heap:=h1.push (bh "list" j.toArray 0)}) x0 ⟨_,T,rfl⟩ vu ?body<|ksk_l1 _ _
  case body=>
   show ah _ _ (bn.«list.sort» ⟨[.ref h1.objs.size],[(bf "key",.builtin "abs")]⟩) _ _ _;rw[ksk_t4];refine Ni (s:={s with heap:=h1.push (bh "list" j.toArray 0)}) T r (by omega) λh' tk C c k2 k3 ko=>⟨_,rfl,iR ⟨_,rfl,?_⟩⟩
   obtain⟨ps,U,k,Y⟩:=ko;rw[WS R (by omega)<|by omega] at U;obtain⟨a,F,rfl⟩:=mH _ U _ rfl;rw[kH] at k
   have S: ∀t∈a,Rep X.K H O t.1 t.2.1/\RelV t.2.1 t.2.2:=λt hm=>by obtain⟨i,hi⟩:=rX<|F.mem_iff.mp hm;obtain⟨gz,W⟩:=ET.mp hi;obtain⟨y,B⟩:=ET.mp W;obtain⟨w,P,w2⟩:=v.get y;rw[B] at P;cases P;exact⟨E.views gz y,w2⟩
   have J:a.map (·.1)=mF ltA l:=by
    refine Nk ?_ (by rw[og] at Y ⊢;exact Y.imp λh=>by simpa using h) hn;have:=F.map (·.1)
    rwa [ka<|by simp;omega] at this
   have hR: ∀a:List (D×V×iO),(∀t∈a,Rep X.K H O t.1 t.2.1/\RelV t.2.1 t.2.2)->RepL X.K H O (a.map (·.1)) (a.map (·.2.1))/\Vals (a.map (·.2.1)) (a.map (·.2.2)):=λa=>by
    induction a with
    |nil=>exact λ_=>⟨.nil,.nil⟩
    |cons t a ih=>intro h;obtain⟨i1,i2⟩:=ih λx hx=>h x<|kj _ hx;exact⟨.cons (h t kg).1 i1,.cons (h t kg).2 i2⟩
   obtain⟨r1,r2⟩:=hR a S;have keep: ∀b o,h1.get? b=N2 o->h'.get? b=N2 o:=λb o e=>k2 b o (jM<|ke e)<|kc _ e;have N:a.length=l.length:=by have:=nD el J;rw[(la ltA l).length_eq,jF] at this;exact this
   refine⟨.ref h1.objs.size,_,L.laid (t':=tk) keep (jW _) (show ObjOk X.prog X.w _ _ _ (.lst (a.map (·.2.1))) from⟨by rw[jF,kf];omega,C.toList,c,?_,?_⟩),rfl,?_⟩
   .rw[k];exact r2
   .rw[L6];exact k3
   .refine G.lst L.fresh ?_;rw[<-J];exact r1
 |_=>cases M
def N8{a:iK}{i:TA}{p b w v:bB}(c:Gl X "sorted")(q:X.mg "sorted"=I)(k:Gl X "abs")(l:X.mg "abs"=I)(m:PA X [a] i)
  (n:bc b (ag [a] X.env)=(Y,aU a X.env)::bc b (ag [] X.env))(t:(bc b<|ag [a] X.env).any (·.1)=Y):
  PE X (.Call (.Name "sorted" p) [a] [⟨C "key",.Name "abs" w,v⟩] b) (tCB (rDn X.K<|g1 yA) i):=by
 intro f s g H Q T h;refine vF<|qZ T c q LK<|callWith_kw (thn (m b f s g H _ T h) λU s1 ⟨E,B,e,y,r⟩=>kws_cons<|qZ e k l Wr<|kws_nil ?_) n t O9 O9;obtain⟨O,j,z,np,o,hv,c,G⟩:=r
 match j,c with
 |[d],c=>obtain⟨x,rfl⟩:=JO o O9;obtain⟨u,rfl,A⟩:=rJ y;exact HJ e A np (hv 0 d x O9 O9) c G
def NG{a:iK}{c:FO}{p b n m:bB}(j:Gl X "sorted")(k:X.mg "sorted"=I)(d:Gl X "abs")(e:X.mg "abs"=I)(h:PA X [a] (tA X.K [c]))
  (i:bc b (ag [a] X.env)=(Y,aU a X.env)::bc b (ag [] X.env))(l:(bc b<|ag [a] X.env).any (·.1)=Y):
  PX X (.Call (.Name "sorted" p) [a] [⟨C "key",.Name "abs" n,m⟩] b) (jm (g1 yA) [c]):=pxn<|N8 j k d e h i l
end
noncomputable def fPop(i:Nat):F:=λa=>match a[i]? with
 |some (C (.lst l,J))=>(l[Ps l-1]?).bind λd=>C ((d,Y),a.set i<|C (.lst l.dropLast,J))
 |_=>I
def RepL.dropLast{K U}{O:AP'}{l:List D}{a:List V}(r:RepL K U O l a):RepL K U O l.dropLast a.dropLast:=by rw[L5,L5,r.length];exact r.take _
section
variable {X:Cx}{x:aB}{i:Nat}{f c g:bB}
def U9(hv:PO X (.Name x f) (iC i))(B:ca (.Name x f) "pop" X.env (aU (.Name x f) X.env)=aU (.Name x f) X.env)(A:(c.endLine==g.line)=O0):
  PX X (.Call (.Attribute (.Name x f) "pop" c) [] [] g) (fPop i):=
 PX.imp (Vv Di L9 L8 VQ hv B A) λJ M Q y=>by
 obtain⟨r,T,G,L,E,e,k⟩:=y;unfold fPop at e;split at e
 .rename_i l m;obtain⟨d,hd,e⟩:=iA e;obtain⟨rfl,rfl⟩:=jc e;refine⟨r,T,.slot i,r,E,by unfold iC;rw[m],λv O P=>?_⟩;obtain⟨t,p,h⟩:=P;obtain⟨a,g1,q,g2,g3⟩:=p.own i _ m;rw[h] at g1;cases g1;obtain⟨w,U,N⟩:=g3.get hd;have u:=g3.length;obtain⟨s,j⟩:=p.write m h<|RepL.dropLast g3;refine⟨.inl ⟨rfl,q,SqL.of g2⟩,_,q,w,rfl,rfl,g2,by rw[u];exact U,?_⟩;exact k _ _ (Post.val (t.trans j) s<|Rep.mono (λb o e n=>j.kp b o e λz=>n<|.inl z) (λb _ z=>z.imp (j.ow b) id) N)
 .cases e
end
def V5:=gI λi j=>if tP i j then C (.int<|i*2^j.toNat) else I
def YU:=gI λi j=>if 0<=j then C (.int<|i / 2^j.toNat) else I
def TQ:=gI λi j=>C<|.int<|bV i j
section
variable {X:Cx}
def RL:OpR X (bb .LShift) (rD X.K V5):=uj VB
def RK:OpR X (bb .RShift) (rD X.K YU):=uj VA
def RN:OpR X (bb .BitAnd) (rD X.K TQ):=Fv VI
variable {a:iK}{e:FO}{p b f g d c:bB}{x:aB}{i:Nat}
def xSA(T:Tx X.mg)(k:QA X [a] [e])(m:Gl X "sorted":=by rfl)(j:Gl X "abs":=by rfl)(l:bc b (ag [a] X.env)=(Y,aU a X.env)::bc b (ag [] X.env):=by rfl)(n:BA X b [a]:=by rfl):
  QX X (.Call (.Name "sorted" p) [a] [⟨C "key",.Name "abs" f,g⟩] b) (jm (g1 yA) [e]):=⟨NG m (btM T (z:="sorted") H) j (btM T (z:="abs") H) k.h l n⟩
def XG(hv:QO X (.Name x d) (iC i))(k:ca (.Name x d) "pop" X.env (aU (.Name x d) X.env)=aU (.Name x d) X.env:=by rfl)(j:(c.endLine==b.line)=J:=by rfl):
  QX X (.Call (.Attribute (.Name x d) "pop" c) [] [] b) (fPop i):=⟨U9 hv.h k j⟩
end
section
variable {X:Cx}{a:jr}{b:L2.St}{H:Hp}{s:iI}
theorem Jy{K:jb}{O:AP'}: ∀(c:List Key),RepL K H O (c.map kx)<|c.map kV
 |[]=>RepL.nil
 |k::c=>by
  refine RepL.cons ?_<|Jy c
  cases k with
  |inl i=>exact Rep.mkInt
  |inr x=>exact Rep.mkStr
theorem vQ{K:jb}{O:AP'}(np: ∀p,¬Ow (H p)-> ¬O p): ∀{c:List (List Key×V)} {d:List (List Key×iB×iO)},L2.KT H c d->RepL K H O (c.map λp=> .tup (p.1.map kx)) (d.map λx=>V.ref x.2.1)
 |_,_,.nil=>RepL.nil
 |_,_,.cons h t=>by refine RepL.cons (Rep.mkTup ⟨h.2.1,np _ λz=>z.nt _ h.2.1⟩<|Jy _)<|vQ np t
def Ao{P:jd}{w:iW}(c:List (List Key×iB×iO)):Vals (c.map λx=>V.ref x.2.1) ((c.map<|entryOfKey<|d1<|lb P w).map (·.key)):=by
 induction c with
 |nil=>exact .nil
 |cons x c d=>exact .cons O9 d
end
def Ew(d:D):Option (D×Bool):=match d with
 | .oth .dct a _=>C (.lst a,J)
 |_=>Ba d
def Ng{b:jd}{w:iW}{a:iB}{c:Array ee}{d:Nat}(hd:(a==bL)=Y):PySem.W.KdlSrc b w "dict" a a c.size (λi v=> ∃e,c[i]?=C e/\v=e.key) (λh=>TT.DRaw h a c d) where
 type:=λs x=>x.typeIs
 there:=λh x=>let⟨_,h1,_⟩:=x.at_;⟨ke h1,ke h1⟩
 keep:=λh j x k=>x.stay λo e=>k a (.inl H) o e
 notList:=by decide
 notTuple:=by decide
 hint:=λA E s Q x h=>PySem.W.kdl_hint_dict x.typeIs h
 iter:=λA s g x=>by have f:a<s.heap.objs.size:=let⟨_,h1,_⟩:=x.at_;ke h1;exact⟨_,_,λE Q h=>TT.J7 hd x h,TT.Gx g s.heap.objs.size a (oD f) c d,⟨⟨_,kD _ rfl,rfl,rfl⟩,x.stay λo e=>kc _ e⟩⟩
section
variable {X:Cx}{b:jr}{f:L2.St}{H:Hp}{s:iI}
def wL(p:X.A.handled=I)(U:Inv X b f H s){a:iB}{g:Array ee}{n:Nat}{O:AP'}{k:List D}{j:List V}{Q:VK}(hd:(a==bL)=Y)(S:TT.DRaw s.heap a g n)(l:g.size<=sizeLine)
  (x:RepL X.K H O k j)(v:Vals j (g.toList.map (·.key)))(G:Gen X.K H O (.lst k,J) Q):ah (ai X.prog X.w) X.A (call (.type "list") [.ref a]) (EP X b f Q) X.xe s:=by
 refine PySem.W.kdl_call (Ng hd) p S l λz y d c t r m=>?_
 have o:d.toList=g.toList.map (·.key):=by
  apply xP;intro i;rw[lO,ki,lO]
  cases h:d[i]? with
  |some u=>obtain⟨e,h1,rfl⟩:=m.2 i u h;rw[h1];rfl
  |none=>have:=WE.mp h;rw[WE.mpr<|by rw[<-m.1];exact this];rfl
 have q:=v.length;refine⟨.ref s.heap.objs.size,_,U.laid (t':=y) t (jW _) (show ObjOk X.prog X.w _ _ _ (.lst j) from⟨by rw[q,jF,kE];exact l,d.toList,c,by rw[o];exact v,by rw[L6];exact r⟩),rfl,?_⟩;exact G.lst U.fresh x
def IQ(M:X.calm=O0):kR X (.type "list") (rDn X.K<|g1 Ew):=nN λb s f H x u Q O d z I B np hd t G=>by
 by_cases y: ∃m C,d= .oth .dct m C
 .obtain⟨m,C,rfl⟩:=y;cases(show N2 (D.lst m,O0)=N2 z from t);obtain⟨a,P,rfl,q,r⟩:=oS hd;cases B;have v:X.A.handled=Op:=I.ok.hd M;rcases q with⟨h,e,rfl,rfl⟩|⟨h,e,rfl,rfl⟩
  .obtain⟨U,i,N,c,o,n,T,h1,g,k,l,p,J⟩:=Kf I.hok e;have E:=Ci p c;have w:=E.length;simp only[jF,kE] at w;exact wL v I i ⟨o,h1,g,k⟩ (by lia) (yo h) E G
  .obtain⟨U,i,L,c,o,n,T,h1,g,k,l,p,J⟩:=PQ I.hok e;have w:=vH c;have F:n.size=L.length:=ul l;exact wL v I i ⟨o,h1,g,k⟩ (by lia) (vQ np c) (by rw[l];exact Ao L) G
 .have:Ew d=Ba d:=by
   unfold Ew;split
   .exact absurd ⟨_,_,rfl⟩ y
   .rfl
  exact Bw b s f H [x] [u] Q I (.cons B .nil) ⟨O,[d],z,np,rfl,λj Y R h1 g=>by
   cases j with
   |zero=>cases h1;cases g;exact hd
   |succ j=>simp at h1,by show Ba d=N2 z;rw[<-this];exact t,G⟩
end
def F6(d e:D):Option (D×Bool):=match d,e with
 | .lst l,.int k=>if 0<=k/\k<1000/\(Ps l)*k.toNat<=sizeLine then C (.lst (ac k.toNat l).flatten,J) else I
 |_,_=>pk d e
theorem RepL.rep{K U}{O:AP'}{l:List D}{a:List V}(r:RepL K U O l a): ∀n:Nat,RepL K U O (ac n l).flatten (ac n a).flatten
 |0=>RepL.nil
 |n+1=>by rw[uM,uM,xY,xY];exact r.append<|RepL.rep r n
section
variable {X:Cx}
def Oj:OpR X (bb .Mult) (rD X.K F6):=by
 intro i s σ H x y v u Q I N j h;obtain⟨O,d,e,z,np,h1,B,C,G⟩:=h;by_cases E: ∃l k,d= .lst l/\e= .int k
 .obtain⟨l,k,rfl,rfl⟩:=E;obtain⟨⟨W,ei,L⟩,rfl⟩:=jl (show(if 0<=k/\k<1000/\l.length*k.toNat<=sizeLine then N2 (D.lst (ac k.toNat l).flatten,O0) else Op)=N2 z from C);obtain⟨p,xs,rfl,q,r⟩:=kO h1;cases N;rw[jq B] at j;obtain⟨t,rfl⟩:=j;obtain⟨b,M,Z,_⟩:=I.list q;obtain⟨⟨S,dd,o,Y⟩,n,e,J,_,A⟩:=Z;simp only at J A;subst J A;have w:=r.length;have V:=M.length;have g:b.toArray.size*k.toNat<=sizeLine:=by rw[jx,<-V,w];exact L
  have f: ¬b.toArray.size*k.toNat>(2^63-1) / 8:=by
   have:(sizeLine:Nat)<=(2^63-1) / 8:=by decide
   lia
  have R: ¬(!u5 k)=O0:=by rw[wE (by lia)<|by lia];exact kU
  have c: ¬cZ (b.toArray.size*k.toNat)=O0:=by rw[OA g];exact kU
  have P:eO (λx1 x2=>x1++x2) #[] (ac (if b.toArray.isEmpty=O0 then 0 else k.toNat) b.toArray)=(ac k.toNat b).flatten.toArray:=by
   have f0: ∀m:Nat,eO (λx1 x2=>x1++x2) #[] (ac m b.toArray)=(ac m b).flatten.toArray:=λm=>by
    have:=CU b m []
    rwa [qK] at this
   rw[f0]
   cases b with
   |nil=>simp
   |cons a r'=>rw[je<|by simp]
  refine wpAny_binaryOp_repeat_ref (T:="list") (U:="int") (by decide) ⟨_,e,rfl⟩ (λs'=>nP s' k t) noFill_list_mul F.fills_int_mul F.slot_int_rmul repeat_list F.slot_int_index.lookup
   (wm F.slot_int_rmul (nP s k t) F.entry_int_rmul (F.args_int_rmul_2 _ _) (lm_int_rmul_list_any k t p b.toArray n dd Y)
    ⟨e,rfl,⟨_,e,rfl⟩,wm F.slot_list_mul ⟨_,e,rfl⟩ F.entry_list_mul (F.args_list_mul_2 _ _) (lm_list_mul_any p b.toArray n dd Y k t R f c) ⟨e,?_⟩⟩)
  rw[P];exact⟨.ref _,_,I.lnew (t':=s.toks) (M.rep k.toNat)<|by rw[R8,vq,w];exact L,rfl,G.lst I.fresh<|r.rep k.toNat⟩
 .have:F6 d e=pk d e:=by
   unfold F6;split
   .exact absurd ⟨_,_,rfl,rfl⟩ E
   .rfl
  exact nS i s σ H x y v u Q I N j ⟨O,d,e,z,np,h1,B,by rw[<-this];exact C,G⟩
end
section
variable {a:jd}{w:iW}{A:jf}{E:jw}{I:iB}{c b:kG}{n:Nat}{P:Nat->iO->Prop}{St:Nat->ja->Prop}
end
section
variable {X:Cx}{A:jT}{a:bB}{c:kh}{b:List Tg}
end
section
variable {X:Cx}{A:jT}{a b:iK}{c:bB}
variable {e d:iK}{f:F}{x z:aB}{p j g h:bB}{i k:Nat}{L:jT}{l:Hp}
end
def wX(d:D):Option (D×Bool):=match d with
 | .oth .dct a _=>kW a
 |_=>I
def wY(d e:D):Option (D×Bool):=match e with
 | .oth .dct a b=>if wU a d=J then C (.bl (!(mV a b d).isSome),Y) else I
 |_=>I
section
variable {X:Cx}{b:jr}{c:L2.St}{H:Hp}{s:iI}
def Ia(o:X.A.units+62<bi):OpR X (aw .NotIn) (rD X.K wY):=by
 intro b s c H x y v u Q U m n h;obtain⟨O,d,e,z,np,h1,l,f,G⟩:=h;by_cases j: ∃g i,e= .oth .dct g i
 .obtain⟨g,i,rfl⟩:=j;obtain⟨hk,rfl⟩:=jl (show(if wU g d=J then C (D.bl (!(mV g i d).isSome),Y) else I)=C z from f);obtain⟨a,t,rfl,q,r⟩:=oS l;cases n;exact Y4 (by lia) U q r hk h1 m J λp k=>⟨.bl _,H,k,by simp[L2.RelV],G.bl⟩
 .unfold wY at f;split at f
  .exact absurd ⟨_,_,rfl⟩ j
  .cases f
def EM(hc:X.calm=O0)(M:X.A.units+62<bi):kR X (.builtin "sorted") (rDn X.K<|g1 wX):=nN λb s c H x u Q O d z I W np hd h G=>by
 by_cases J: ∃v N,d= .oth .dct v N
 .obtain⟨v,N,rfl⟩:=J;have B:kW v=N2 z:=h;obtain⟨a,us,rfl,q,r⟩:=oS hd;cases W;have L:X.A.handled=Op:=I.ok.hd hc;rcases q with⟨g,e,rfl,rfl⟩|⟨g,e,rfl,rfl⟩
  .obtain⟨zl,i,Z,f,o,C,S,h1,m,n,p,E,V⟩:=Kf I.hok e;have U:=Ci E f;have T:=U.length;simp only[jF,kE] at T;exact qm M I (yo (O:=O) g) U B G λR F D j t=>TT.P5 i (by rw[j];exact L) ⟨o,h1,m,n⟩ (by lia) λl y k=>t l y k
  .obtain⟨zl,i,Y,f,o,C,S,h1,m,n,p,E,V⟩:=PQ I.hok e;have T:=vH f;have hz:C.size=Y.length:=ul p;refine qm M I (vQ np f) (Ao (P:=X.prog) (w:=X.w) Y) B G λR F D j t=>TT.P5 i (by rw[j];exact L) ⟨o,h1,m,n⟩ (by lia) λl y k=>?_;rw[p];exact t l y k
 .unfold wX at h;split at h
  .exact absurd ⟨_,_,rfl⟩ J
  .cases h
end
end PX
namespace TT
open PySem.SeqAt
section
variable {a:jd}{w:iW}{A:jf}{R:iV->Shared->Prop}{I:iB}{c b:kG}{G:Array fL->Array fL->Prop}{n:Nat}{P:Nat->iO->Prop}{St:Nat->Shared->Prop}
end
end TT
namespace PX
open L2 PySem.SeqAt TS
section
variable {a:jd}{w:iW}{A:jf}{E:jw}{s:iI}
end
end PX
namespace TT
open PySem.SeqAt
section
variable {a:jd}{w:iW}{A:jf}{E:jw}{s:iI}
end
end TT
namespace PX
open L2 PySem.SeqAt
section
variable {X:Cx}
variable {a:iK}{c:FO}{p b:bB}
end
open PySem.Builtin.Str
section
variable {X:Cx}
end
section
variable {X:Cx}{o e a:iK}{k l:FO}{b v:aB}{d p c i h g f:bB}{j:Nat}
end
section
variable {K:jb}{T:AP'}{b:L2.St}{c:Dn}{H:Hp}{A:jT}{i j:Nat}{d:D}{a:iB}
end
section
variable {X:Cx}{A L:jT}{d:Hp}{b a c:bB}{i j:Nat}{x y:aB}
end
end PX
namespace TT
open PySem.SeqAt
def Lw{c:iQ}{t:mU}(ok:TabOk c t)(h:Int): ∃m,(pr t.mask h m).j∉t.place.toList/\(∀q,q<m->(pr t.mask h q).j∈t.place.toList)/\t.freeSlot h=C ((pr t.mask h m).j,Y):=by
 obtain⟨m,_,_,d,e⟩:=KY ok (p:=t.probeStart h) (n:=0) (h:=h) (hashAt:=λ_=>h+1) H (λq b=>by lia);rcases e with⟨a1,a2⟩|⟨i,_,a2,_⟩
 .refine⟨m,a1,λq b=>?_,?_⟩
  .obtain⟨i,a,_⟩:=d q (lN _) b;rw[<-lO] at a;exact nB a
  .unfold M2;rw[a2];rfl
 .lia
def KS{es:wg}(t:mU)(s:5<=es.size)(u:es.size<=500): ∃t' es',relayAll t es (fe es.size)=(es',t',Y)/\es'.toList.Perm es.toList/\TabOk (es'.toList.map (·.1)) t'/\t'.plain=t.plain/\t'.led=t.led:=by
 have n:fe es.size=es.size*4:=by unfold fe;rw[je<|by lia]
 obtain⟨k,q,c,r,lk⟩:=D3 (es.size*4) (by lia);have p:eg (es.size*4)-1+1=2^k:=by have:=m6 k;lia
 obtain⟨t',a,g,b,h,j,l⟩:=Sd p q c t.finger (t.movedTo<|eg (es.size*4)-1) t.led t.plain (es.toList.map (·.1)) (by rw[jF,kE];lia);rw[jF,kE] at b
 have er:t.relaid (es.map (·.1)) (es.size*4)=C (t',a):=by unfold Ms;rw[<-g,<-Array.toList_map]
 have f: ∀i∈a.toList,i<es.size:=λi o=>yK.mp<|b.mem_iff.mp o;have d:(a.filterMap (es[·]?)).toList=a.toList.filterMap (λi=>es[i]?):=by simp
 have perm:(a.filterMap (es[·]?)).toList.Perm es.toList:=by rw[d];refine(b.filterMap _).trans ?_;rw[NA]
 have e:TabOk ((a.filterMap (es[·]?)).toList.map (·.1)) t':=by rw[d,Sx _ f];exact h
 refine⟨t',a.filterMap (es[·]?),?_,perm,e,j,l⟩;unfold relayAll;rw[n,er];have h1:coversAll a es.size=J:=by unfold coversAll;exact List.isPerm_iff.mpr b
 have m:t'.fits (a.filterMap (es[·]?)).size=J:=EA e (by rw[jF,kE]);dsimp only;rw[h1,m];rfl
section
variable {b:jd}{w:iW}{A:jf}{E:jw}{s:iI}
def WL{a:iB}{es:wg}{n:Nat}{t:mU}{k:Int}{x:iO}(u:(cp b w).is k x=J)(cE:x.scannable=J)(N:plainKind x=J)(I:s.heap.get? a=N2 (yi es n t))(d:TabOk (es.toList.map (·.1)) t)(i6:t.plain=J)(hz:es.size+1<=500)
  (fF:ElemsOf (cp b w) es.toList){Q:Bool->Shared->Prop}
  (y:(∃e∈es.toList,(cp b w).is k e.2=J)->Q O1 s)
  (L:(∀e∈es.toList,(cp b w).is k e.2=O1)-> ∀J' es' n' t',aR a s.heap J'->J'.get? a=N2 (yi es' n' t')->es'.toList.Perm (((cp b w).hash k,x)::es.toList)->TabOk (es'.toList.map (·.1)) t'->t'.plain=J->t'.led=t.led->Q J {s with heap:=J'}):
  ah (ai b w) A (FM a x<|(cp b w).hash k) Q E s:=by
 have S:t.fits es.size=J:=EA d (by simp);have hb:es.size<scanBound:=by show es.size<4096;lia
 unfold FM setAddHashedIn;refine nC<|iF<|zN I H S ?_;dsimp only;rw[byScan_of cE hb fF];simp only[↓reduceIte];unfold setAddByScan;refine iF ?_;refine iF<|uJ ?_;refine iF<|wpAny_setScan_of u I H S fF ?_
 cases V:List.findIdx? (λe=>(cp b w).is k e.2) es.toList with
 |some j=>dsimp only;obtain⟨hj,M,_⟩:=WD.mp V;exact iR<|iR<|y ⟨es.toList[j],GB hj,M⟩
 |none=>
  dsimp only;have K: ∀e∈es.toList,(cp b w).is k e.2=O1:=λe he=>by simpa using WN.mp V e he
  generalize hh:(cp b w).hash k=h at L ⊢;obtain⟨m,h1,h2,eA⟩:=Lw d h
  have r:(t.put (pr t.mask h m).j).1={t with place:=ap t.place (ao t.place (pr t.mask h m).j) (pr t.mask h m).j,dummies:= #[]}:=by unfold j3;dsimp only;rw[d.dum,Et];rfl
  have e2:(t.put (pr t.mask h m).j).2=ao t.place (pr t.mask h m).j:=rfl;have G:(t.put (pr t.mask h m).j).1.plain=J:=by rw[r];exact i6
  have q:(ap es (t.put (pr t.mask h m).j).2 (h,x)).size=es.size+1:=by rw[<-kE,(tw es _ _).length_eq,mw,kE]
  have f:(Ps es.toList)=es.size:=kE;have o:=d.len;rw[jF,f] at o
  have l:(t.put (pr t.mask h m).j).1.place.size=es.size+1:=by rw[r];show(ap t.place _ _).size=_;rw[<-kE,(tw t.place _ _).length_eq,mw,kE,o]
  have T:(t.put (pr t.mask h m).j).1.fill=es.size+1:=by unfold iH;rw[l,r];rfl
  have O:(t.put (pr t.mask h m).j).1.mask=t.mask:=by rw[r]
  have i:(t.put (pr t.mask h m).j).1.led=t.led:=by rw[r]
  have p:=d.room;rw[jF,f] at p
  have m7:7<=t.mask:=by
   obtain⟨k,k3,_,ek⟩:=d.pow;have:2^3<=2^k:=zO (by decide) k3
   lia
  have P:(t.put (pr t.mask h m).j).1.fits (ap es (t.put (pr t.mask h m).j).2 (h,x)).size=J:=by unfold iu;rw[l,q,T,O];simp only[BEq.rfl,xw,rC];lia
  have v:layNew t es h x=(ap es (t.put (pr t.mask h m).j).2 (h,x),(t.put (pr t.mask h m).j).1,O1,O1):=by unfold layNew;rw[eA];show(ap es (t.put (pr t.mask h m).j).2 (h,x),(t.put (pr t.mask h m).j).1.orStandIn (ap es (t.put (pr t.mask h m).j).2 (h,x)).size,O1,!(t.put (pr t.mask h m).j).1.fits (ap es (t.put (pr t.mask h m).j).2 (h,x)).size)=_;rw[P];unfold MB;rw[P];rfl
  rw[v];generalize g:ap es (t.put (pr t.mask h m).j).2 (h,x)=H' at*;generalize Y:(t.put (pr t.mask h m).j).1=t1 at*;dsimp only;refine iF<|iR ?_;rw[iT G,hashByValue_scannable 8 cE,N];refine iF<|iR ?_;simp only[↓reduceIte];refine iF<|pc I H ?_ (by rw[q,kf];lia);have D:=Fd (es':=H') (t':=t1) I;have C:=rB s.heap a<|i0 H' t1;have X:H'.toList.Perm ((h,x)::es.toList):=by rw[<-g];exact tw es _ _
  by_cases c:t1.tooFull=J
  .rw[c];simp only[Bool.not_false,Bool.and_self,↓reduceIte]
   have R:3*t.mask<=5*(es.size+1):=by unfold gE at c;rw[T,O] at c;have:=of_decide_eq_true c;lia
   obtain⟨t',es',r1,Z,r3,r4,r5⟩:=KS (es:=H') t1 (by rw[q];lia) (by rw[q];lia);rw[r1];dsimp only;refine iF<|iR ?_;have F:es'.size=es.size+1:=by rw[<-kE,Z.length_eq,kE,q]
   refine iF<|pc D H ?_ (by rw[F,kf];lia);exact iR<|iR<|L K _ es' _ t' (C.trans<|rB _ a _) (Fd D) (Z.trans X) r3 (by rw[r4];exact G) (by rw[r5];exact i)
  .have B:t1.tooFull=O1:=by simpa using c
   rw[B];simp only[nn,kT,↓reduceIte]
   have U:5*(es.size+1)<3*t.mask:=by
    unfold gE at c;rw[T,O] at c;have: ¬(es.size+1)*5>=t.mask*3:=λz=>c<|pN z
    lia
   obtain⟨W,p2⟩:=d.put h1 h2 (by rw[jF,f];exact U) H H;refine iR<|iR<|L K _ _ _ _ C D X ?_ G i;rw[Y] at W;rw[<-g,lZ,nU,km,o4,List.map_drop,e2];exact W
end
end TT
namespace PX
open L2 PySem.SeqAt TS
def okI:D->Bool
 | .int _=>J
 |_=>Y
def zw(h:okI d=J): ∃k,d= .int k:=by cases d<;>first|exact⟨_,rfl⟩|cases h
def Ou(h:okI d=J):D.pr d=J:=by obtain⟨k,rfl⟩:=zw h;rw[D.pr]
section
variable {X:Cx}{c:jr}{d:L2.St}{H:Hp}{s:iI}
def SetV.ints{a:iB}{j:List D}{u n t l}(S:SetV X H O h a j u n t l)(q:j.all okI=J): ∀(i:Nat) (e:Int×iO),u[i]?=C e-> ∃k r,e=(px k,.int k r)/\ .int k∈j:=λi e x=>by
 obtain⟨z,h1,m,f⟩:=AH S.par (i:=i) (b:=e) (by rw[lO];exact x);rw[ki] at h1
 cases o:l[i]? with
 |none=>rw[o] at h1;cases h1
 |some p=>rw[o] at h1;cases h1;have v:=nB o;have g:p.1∈j:=S.perm.mem_iff.mp<|vn v;obtain⟨k,hk⟩:=zw<|lU.mp q _ g;have w:=S.rep p v;rw[hk] at w;have:=w.int;rw[this] at f;obtain⟨r,f⟩:=f;obtain⟨y,A⟩:=e;dsimp only at m f;subst f;rw[hk,D.hash] at m;exact⟨k,r,by rw[m],hk▸g⟩
def SetV.elems{a:iB}{g:List D}{f n t l}(S:SetV X H O h a g f n t l)(b:g.all okI=J):ElemsOf (cp X.prog X.w) f.toList:=λe j=>by obtain⟨i,m⟩:=rX j;obtain⟨k,o,rfl,_⟩:=S.ints b i e (by rw[<-lO];exact m);exact⟨⟨k,zK _ _ k o,rfl⟩,rfl⟩
def SetV.there{a:iB}{u:List D}{f n t l}(S:SetV X H O h a u f n t l)(q:u.all okI=J)(k:Int):(∃e∈f.toList,(cp X.prog X.w).is k e.2=J)↔ .int k∈u:=by
 constructor
 .rintro⟨e,g,hk⟩;obtain⟨i,m⟩:=rX g;obtain⟨y,r,rfl,o⟩:=S.ints q i e (by rw[<-lO];exact m);rw[(cp X.prog X.w).inj _ k y hk (zK _ _ y r)];exact o
 .intro o;obtain⟨p,v,e⟩:=my.mp<|S.perm.mem_iff.mpr o;obtain⟨i,m⟩:=rX v
  have A:i<f.size:=by
   have:=(rQ.mp m).1;have:=S.lens
   lia
  have g:f[i]?=C f[i]:=rT A;obtain⟨z,h1,B,j⟩:=AH S.par (i:=i) (b:=f[i]) (by rw[lO];exact g);rw[ki,m] at h1;cases h1;have x:=S.rep p v;rw[e] at x;rw[x.int] at j;obtain⟨r,j⟩:=j;refine⟨f[i],by rw[<-lO] at g;exact nB g,?_⟩;rw[j];exact zK _ _ k r
def any_int{e:List D}(a:e.all okI=J)(k:Int):e.any (D.eqb · (.int k))=J↔ .int k∈e:=by
 rw[kA];constructor
 .rintro⟨x,b,f⟩;rw[(Bo (Ou<|lU.mp a x b)<|by rw[D.pr]).mp f] at b;exact b
 .intro h;exact⟨_,h,(Bo (by rw[D.pr])<|by rw[D.pr]).mpr O9⟩
def SetV.addI(S:SetV X H O s.heap a f v n t l)(b:f.all okI=O0)(hz:(Ps f)<500)
  (h: ∀r i y g q t' o,s.toks<=y->aR a s.heap i->SetV X H O i a (Gu f<|.int k) g q t' o->Q r {s with heap:=i,toks:=y}):ah (ai X.prog X.w) A (setAdd a<|.int k fN) Q E s:=by
 obtain⟨Y,U⟩:=S.lens;unfold setAdd;refine nC<|iF<|(cp X.prog X.w).pyHash (k:=k) (zK _ _ _ _) ?_;refine TT.WL (s:={s with toks:=s.toks+1}) (zK _ _ k fN) O9 O9 S.is.at_ S.is.tab S.is.plain (by lia) (S.elems b) (λJ=>?_) λC i g q t' g1 g2 g3 I L T=>?_
 .have:Gu f (.int k)=f:=by unfold Gu;rw[iT<|(any_int b k).mpr<|(S.there b k).mp J]
  exact h O1 s.heap (s.toks+1) v n t l (xX _) (DG a s.heap) (by rw[this];exact S)
 .have B: ¬f.any (D.eqb · (.int k))=O0:=λz=>by obtain⟨e,G,hk⟩:=(S.there b k).mpr<|(any_int b k).mp z;rw[C e G] at hk;cases hk
  have j:Gu f (.int k)=f++[.int k]:=by unfold Gu;rw[je B]
  have u:Paired (λ(z:Int×V) (e:Int×iO)=>z.1=e.1/\RelV z.2 e.2) (((D.int k,V.int k)::l).map hv) ((px k,ef k fN)::v.toList):= .cons ⟨by show D.hash _=_;rw[D.hash],⟨fN,rfl⟩⟩ S.par;obtain⟨F,M,N⟩:=yP g3 u;obtain⟨o,x,rfl⟩:=mH hv N _ rfl;refine h O0 i (s.toks+1) g q t' o (xX _) g1 ⟨⟨g2,I,L,T.trans S.is.led⟩,?_,λp m=>?_,M⟩
  .rw[j];refine(x.map (·.1)).trans ?_;rw[km];exact(S.perm.cons<|D.int k).trans (Mp (D.int k) f).symm
  .rcases lz.mp (x.mem_iff.mp m) with rfl|m
   .exact Rep.mkInt
   .exact S.rep p m
end
def tx(d:D):Option (D×Bool):=match d with
 | .oth .set [] a=>if a.all okI=J then kW a else I
 |_=>I
section
variable {X:Cx}
def EK(Y:X.calm=O0)(hu:X.A.units+62<bi):kR X (.builtin "sorted") (rDn X.K<|g1 tx):=nN λC s σ H x u Q O d z I R np hd h G=>by
 obtain⟨c,rfl⟩: ∃c,d= .oth .set [] c:=by
  by_cases y: ∃c,d= .oth .set [] c
  .exact y
  .change tx d=N2 z at h;unfold tx at h;split at h
   .exact absurd ⟨_,rfl⟩ y
   .cases h
 obtain⟨f,e⟩:c.all okI=O0/\kW c=N2 z:=by
  have e:(if c.all okI=O0 then kW c else Op)=N2 z:=h;split at e
  .rename_i f;exact⟨f,e⟩
  .cases e
 obtain⟨a,us,rfl,q,r⟩:=oS hd;cases R;obtain⟨j,n,t,l,S⟩:=q.setV I r;obtain⟨L,aA⟩:=S.lens;have wp:=TT.Gw X.w a n j;obtain⟨z',o,B⟩:=yP wp S.par;obtain⟨b,v,rfl⟩:=mH hv B _ rfl;have E:RepL X.K H O (b.map (·.1)) (b.map (·.2)):=RepL.ofZip λp F=>S.rep p<|v.mem_iff.mp F
 have W:Vals (b.map (·.2)) ((TT.oh X.w a n j).toList.map (·.2)):=by
  clear B v E wp;generalize (TT.oh X.w a n j).toList=m at o;revert o;generalize g:b.map hv=zz;intro o
  induction o generalizing b with
  |nil=>
    have:b=[]:=by simpa using g
    subst this;exact .nil
  |cons r t ih=>
   cases b with
   |nil=>simp at g
   |cons p b=>simp only[km,da] at g;rw[km,km];refine .cons ?_<|ih b g.2;have:=r.2;rw[<-g.1] at this;exact this
 have i:(b.map (·.1)).Perm c:=(v.map (·.1)).trans S.perm
 have T:kW (b.map (·.1))=N2 z:=by unfold kW at e ⊢;obtain⟨⟨h1,N⟩,rfl⟩:=jl e;rw[iT ⟨Fg i h1,by rw[i.length_eq];exact N⟩,Nj i λx P=>Ou<|lU.mp f x<|i.mem_iff.mp P]
 have D:X.A.handled=Op:=I.ok.hd Y
 have g:j.size<=sizeLine:=by unfold kW at e;rw[L];exact(jl e).1.2
 exact qm hu I E W T G λQ' E' Z J U=>TT.SQ (by rw[J];exact D) S.is g λM V k=>U M V k
end
def Ln:D->Int
 | .int k=>k
 |_=>0
def qc(l:iQ):Int:=l.foldl min<|l.headD 0
def Pl:D->Option (D×Bool)
 | .lst l=>if l.all okI=J/\l≠[] then C (.int<|qc<|l.map Ln,Y) else I
 |_=>I
def IC: ∀(l:iQ) (a:Int),l.foldl min a<=a/\ ∀x∈l,l.foldl min a<=x:=by
 intro l
 induction l with
 |nil=>intro a;exact⟨wf _,λx b=>by simp at b⟩
 |cons y l d=>
  intro a;obtain⟨h1,c⟩:=d<|min a y;have:=Int.min_le_left a y;have:=Int.min_le_right a y;refine⟨by rw[sj];lia,λx b=>?_⟩;rw[sj];rcases lz.mp b with rfl|b
  .lia
  .exact c x b
def Gb: ∀(l:iQ) (a:Int),l.foldl min a=a\/l.foldl min a∈l:=by
 intro l
 induction l with
 |nil=>intro a;exact .inl H
 |cons y l b=>
  intro a;rw[sj];rcases b (min a y) with h|h
  .rw[h];rcases Int.le_total a y with z|z
   .exact .inl (Int.min_eq_left z)
   .rw[Int.min_eq_right z];exact .inr kg
  .exact .inr (kj _ h)
def yW{l:iQ}(h:l≠[]):qc l∈l/\ ∀x∈l,qc l<=x:=by
 unfold qc
 cases l with
 |nil=>exact absurd H h
 |cons y l=>
  refine⟨?_,(IC (y::l) y).2⟩;rcases Gb (y::l) y with z|z
  .rw[show(y::l).headD 0=y from H,z];exact kg
  .exact z
def FR{l:iQ}{m:Int}(h1:m∈l)(a: ∀x∈l,m<=x):qc l=m:=by obtain⟨g1,g2⟩:=yW (l:=l)<|List.ne_nil_of_mem h1;exact Int.le_antisymm (g2 m h1)<|a _ g1
section
variable {X:Cx}
def Sk{K U}{O:AP'}: ∀{l:List D} {e:List V} {c:jD},l.all okI=J->RepL K U O l e->Vals e c-> ∃f:List (Int×m5),c=f.map (λp=> .int p.1 p.2)/\f.map (·.1)=l.map Ln:=by
 intro l
 induction l with
 |nil=>intro e c _ r v;rw[RepL] at r;subst r;cases v;exact⟨[],rfl,rfl⟩
 |cons d l j=>
  intro e c h r v;rw[eJ,lE] at h;rw[RepL] at r;obtain⟨x,o,rfl,m,n⟩:=r
  cases v with
  |cons a b=>obtain⟨k,rfl⟩:=zw h.1;rw[m.int] at a;obtain⟨t,rfl⟩:=a;obtain⟨f,g,i⟩:=j h.2 n b;exact⟨(k,t)::f,by rw[g];rfl,by rw[km,km,i];rfl⟩
def LG(o:X.calm=O0):kR X (.builtin "min") (rDn X.K<|g1 Pl):=nN λm s F H x u Q O d z I J np hd h G=>by
 cases d with
 |lst l=>
  obtain⟨⟨f,C⟩,rfl⟩:=jl (show(if l.all okI=O0/\l≠[] then N2 (D.int<|qc<|l.map Ln,O1) else Op)=N2 z from h);obtain⟨p,Y,rfl,q,r⟩:=kO hd;cases J;obtain⟨E,v,T,_⟩:=I.list q;obtain⟨a,rfl,c⟩:=Sk f r v;have w:X.A.handled=Op:=I.ok.hd o
  have y:s.heap.IsList p (gm a.toArray):=by
   have:(a.map λp=>ef p.1 p.2).toArray=gm a.toArray:=by simp[gm]
   rw[<-this];exact T.isList
  have g:0<a.toArray.size:=by
   cases a with
   |nil=>rw[rF] at c;cases l with
    |nil=>exact absurd O9 C
    |cons _ _=>simp at c
   |cons _ _=>simp
  refine min_intList w y g λv M U hv hk=>?_;obtain⟨t,rfl⟩:=intItems_at hv;obtain⟨h1,n⟩:=argBest_lt (gj a.toArray)<|a.toArray.size-1
  have e:qc (l.map Ln)=gj a.toArray (argBest (λi j=>decide<|gj a.toArray i<gj a.toArray j)<|a.toArray.size-1):=by
   rw[<-c]
   have k: ∀j,j<Ps a->gj a.toArray j=(a.map (·.1))[j]!/\(a.map (·.1))[j]?=N2 (gj a.toArray j):=λj b=>by
    have:(a.map (·.1))[j]?=N2 (gj a.toArray j):=by rw[ki,jA b];simp[gj,b]
    exact⟨by rw[List.getElem!_eq_getElem?_getD,this];rfl,this⟩
   have N:a.toArray.size=(Ps a):=by simp
   refine FR ?_ λx B=>?_
   .exact nB (k _ (by omega)).2
   .obtain⟨j,b⟩:=rX B;have L:j<(Ps a):=by have:=(rQ.mp b).1;simpa using this
    rw[(k j L).2] at b;have:=n j (by omega);cases b;exact this
  exact⟨.int _,H,I.kept hk,⟨t,by rw[e]⟩,G.int⟩
 |_=>cases h
end
end PX
namespace TT
def WI{a:jd}{w:iW}{A:jf}{E:jw}{s:iI}{Q:jw}(h:Q (.ref s.heap.objs.size) {s with heap:=s.heap.push (yi #[] 0 (Wb w))}):ah (ai a w) A (newSet<|.type "set") Q E s:=by
 unfold newSet gh;obtain⟨b,g,d,c,os⟩:=s;dsimp only;refine iF<|iF<|xS<|iR ?_;dsimp only;simp only[newObj]
 first
  |exact iF<|G9<|iR h
  |exact iF<|iR<|iF<|G9<|iR h
end TT
namespace L2
def RA{X:Cx}{e:iK}{c:oy}{jG:qg}{scope:jJ}{f:bB}{u:ji}{pre:St->St}{L:TI}{g:TG}{ti:TT}{tb:iB->TB}
  (S:CompScope X u scope pre)(hc:X.calm=J)(ha:c.is_async=0)(l9: ∀B,jG[0]?=N2 B->B.is_async=0)
  (hs: ∀x,ay c.iter X.env x=pure x)(pi:PI X c.target c.iter L)
  (u6: ∀(cl:kX) (C:iB) (E:iI) (p:Hp) (z:kG) (a:jr),let j:=X.comp u scope cl C E p z a
   PG j c.target g/\PIf j c.ifs ti/\ ∀d,PB j (jK (.SetComp e (c::jG) scope f) 0 (.ref d) j.env)<|tb d):
  PE X (.SetComp e (c::jG) scope f) (λi H' Q=>L i H' λJ' O=>Jo (.stt []) J' g ti tb pre i O Q):=by
 intro a s i H' Q I h;obtain⟨n,y,l,U⟩:=c;obtain rfl:U=0:=ha;obtain⟨cl,n4,Z,l5⟩:=rA X.env scope λx W P=>I.ok.has x.1<|S.free x W P;rw[arm_eval_SetComp];show ah _ X.A (gH _ scope X.env _ (newSet<|.type "set") O1 (aU y X.env)) _ _ s;refine G6 (use:=Op) (g:=⟨n,y,l,0⟩) (gs:=jG) H hs n4 S.kind S.names<|thn (pi a s i H' _ I h) λv s1 h1=>thn h1 λdg s2 K=>?_;obtain⟨it,z,tn,J',H2,rfl,r,T,N,f2,V⟩:=K;refine TT.WI ?_;refine yG (RR:=λk C=>wT (ai X.prog X.w) X.A X.xe Op (EP X a i Q) k C) (.inr ⟨_,_,_,_,rfl⟩) H S hc H l9 u6 Z l5 r T N f2 (r.laid (t':=s2.toks) (o:= .stt []) (λb ob q=>kc _ q) (jW _) ⟨#[],0,_,kD _ rfl,.nil,TT.TabOk.fresh _ _ _,rfl,rfl⟩) V λd D E p G σ' s4 M F t q=>?_;obtain⟨m,R,_⟩:=id t.loc;exact⟨m,R,λh' Y=>⟨.ref d,G,Bs M F t Y,rfl,q⟩⟩
end L2
namespace PX
open L2 PySem.SeqAt
def yH(f:F):FB:=λa b=>(f b).bind λp=>if a.all okI=J/\okI p.1.1=J/\(Ps a)<500 then C (Gu a p.1.1,p.2) else I
def PH(a:jL)(k:Nat)(c:FIt)(d:Tg)(ti:FT)(b:FB):F:=IE I a k c d ti b
section
variable {X:Cx}{A:jT}{d:iB}{q:iK}{f:F}
def K7{g:qg}{sc:jJ}{p:bB}{depth:Nat}(hn:g[depth+1]?=Op)(he:PX X q f):PB X (jK (.SetComp q g sc p) depth (.ref d) X.env) (tBx Op X.K A d<|yH f):=by
 intro x s m H N I hw;obtain⟨J,T,W,i9,δ',B,e,k⟩:=hw;obtain⟨⟨r,c⟩,h1,e⟩:=iA e;obtain⟨⟨o1,D,o3⟩,e⟩:=jl e;obtain⟨rfl,rfl⟩:=qR e
 have e1:jK (.SetComp q g sc p) depth (.ref d) X.env=(do let v <-aU q X.env;cN q.pos;let _ <-call (.builtin "set.add") [.ref d,v]):=by unfold jK;simp -iota only[clausesOf.eq_def];rw[hn]
 rw[e1];refine iF<|thn (he x s m H (λy h=>Post X.K T m J H r c y h) I ⟨J,T,r,c,B.er,h1,λv h P=>P⟩) λu s1 a'=>?_;obtain⟨y,h,M,ru,P⟩:=a';obtain⟨L,Q⟩:=P.rep B.er;have U:SK A m J H m c h:=P.1.sk;have V:=B.step U L;obtain⟨j,E⟩:=zw D;dsimp only at E D Q;rw[E] at Q;rw[Q.int] at ru;obtain⟨t0,rfl⟩:=ru;obtain⟨us,R,q3⟩:=V.at';obtain⟨es,n,t,l,S⟩:=OthB.setV M R q3;refine iF<|yd<|iF ?_;refine oB PySem.F.slot_set_add ⟨_,S.is.at_,rfl⟩ PySem.F.entry_set_add ?_<|PySem.F.args_set_add_2 _ _;unfold bn.«set.add» mi;simp only[zM,wk];unfold eu;refine iF<|iR ?_
 try dsimp only
 refine iF<|iR ?_
 try dsimp only
 refine iF<|SetV.addI S o1 o3 λb h' tk es' n' t' O ht Z C=>?_;show ah _ _ (ret au) _ _ _;have G:T d:=B.td;have kp: ∀(Y:HO) b u,h b=N2 u-> ¬(OwnA m c b\/T b)->upd h d Y b=N2 u:=λY b u e n=>by rw[jg<|by intro z;subst z;exact n<|.inr G];exact e
 obtain⟨df,z1,z2⟩:=C.oth (K:=X.K) (H':=upd h d<|.stt<|O.map hv) (O':=λa=>OwnA m c a\/T a) (λp hp=>Rep.mono (kp _) (λ_ _ z=>z)<|C.rep p hp) jk;refine iR ⟨_,rfl,iR ⟨m,upd h d<|.stt<|O.map hv,?_,k m _ ?_ ?_⟩⟩
 .obtain⟨us2,zs2,g4,_⟩:=R;exact uy (t':=tk) M (by rw[g4];exact bA) Z ⟨_,C.is.at_⟩ C.objOk
 .have:SKd A d m c h m c (upd h d<|.stt<|O.map hv):=⟨λa o e n nd=>by rw[jg nd];exact e,λi a z=> .inl z,λa z=>by
   by_cases w:a=d
   .subst w;rw[jk];simp
   .rw[jg w];exact z,λ_ _=>rfl⟩
  exact U.skd.trans this
 .refine⟨L.mono (λb o e n=>by rw[jg<|by intro z;subst z;exact n G];exact e) (λ_ _ z=>z) λa z=>?_,G,df,?_,?_⟩
  .by_cases w:a=d
   .subst w;rw[jk];trivial
   .rw[jg w];exact L.dom a z
  .rw[E];exact z1
  .rw[E];exact z2
variable {c:oy}{jG:qg}{scope:jJ}{w:bB}{G:ji}{m:jL}{k:Nat}{O:FIt}{E:Tg}{ti:FT}{L:FB}
def U6(U:CompOk X G scope m k)(o:X.calm=J)(n:c.is_async=0)(r: ∀e,jG[0]?=C e->e.is_async=0)
  (p: ∀x,ay c.iter X.env x=pure x)(s:PIX X (λi=>i∉m) c.target c.iter O)
  (u: ∀(cl:kX) (U:iB) (t:iI) (j:Hp) (l:kG) (a:jr),let b:=X.comp G scope cl U t j l a
   PGX b (λi=>Ps m<=i) c.target E/\PIf b c.ifs (tT X.K ti)/\ ∀d,PB b (jK (.SetComp q (c::jG) scope w) 0 (.ref d) b.env)<|tBx I X.K (λi=>Ps m<=i) d L):
  PX X (.SetComp q (c::jG) scope w) (PH m k O E ti L):=PX.imp (RA (g:=tG X.K (λi=>Ps m<=i) E) (ti:=tT X.K ti) (tb:=λd=>tBx I X.K (λi=>Ps m<=i) d L) U.sco o n r p s u) λv T Q h=>CY (S:=I) h
end
def Zz{X:Cx}{n:iK}{f:F}{k:Nat}{o:bB}{c:oy}{scope:jJ}{p:FIt}{r:Tg}{q:FT}{g:jL}{N':ji}(U:CompOk X N' scope g k)(v:N'.Nodup)(w:QI X (λi=>i∉g) c.target c.iter p)
  (y: ∀(cl:kX) (U:iB) (m:iI) (j:Hp) (l:kG) (e:jr),(X.comp N' scope cl U m j l e).N.Nodup->
   QG (X.comp N' scope cl U m j l e) (λi=>Ps g<=i) c.target r/\QF (X.comp N' scope cl U m j l e) c.ifs q/\QX (X.comp N' scope cl U m j l e) n f)
  (t:X.calm=J:=by rfl)(s:c.is_async=0:=by rfl)(u: ∀x,ay c.iter X.env x=pure x:=by intro _;rfl):
  QX X (.SetComp n [c] scope o) (PH g k p r q<|yH f):=
 ⟨U6 U t s (by intro z h;cases h) u w.h λcl U m j l e=>let⟨a,b,c⟩:=y cl U m j l e v;⟨a.h,b.h,λd=>K7 H c.h⟩⟩
end PX
namespace L2
open PySem.W
structure Fly(P:jd)(w:iW)(outer:List dh)(H:Hp)(s:iI)(C:iB)(H':Hp)(ea:iB)(s':iI)(h0 B:ja)(F:kG):Prop where
 os:s'.os=s.os
 bare:dI s'.gens
 un:Un (frs outer) [] H H' s.heap h0
 hok:HOk P w H' h0
 fr: ∀b∈F,H' b=Op/\(b∈frs outer\/s.heap.objs.size<=b)
 st: ∀b o,h0.get? b=N2 o->b∉F->B.get? b=N2 o
 fl: ∃a0,Heap.FlyingW B outer ea (.ref C) a0 s'.heap
 up:h0.UpToSlots s'.heap
 ne:h0.get? ea=Op
def CXx(P:jd)(w:iW):CXT:=λa T s E e f=> ∃U b c d B F,e= .ref c/\Fly P w a T s U b c f d B F/\E (.ref U) I b
section
variable {P:jd}{w:iW}{c:List dh}{H h:Hp}{s s':iI}{C i:iB}{g B d:ja}{F:kG}
def Fly.end(f:Fly P w c H s C h i s' g B F)(t: ∀b∈frs c,∃o,s.heap.get? b=N2 o/\(∀O,o.data≠ .fields O)/\H b=I)(E:B.StaysIn d)(v:g.UpToSlots d):Un (frs c) [] H h s.heap d/\HOk P w h d:=by
 have keep: ∀b o,g.get? b=N2 o->b∉F->d.get? b=N2 o:=λb o e n=>E b o<|f.st b o e n
 have x: ∀b o,s.heap.get? b=N2 o->b∉frs c->b∉F:=λb o e n z=>by
  rcases(f.fr b z).2 with q|q
  .exact n q
  .exact absurd (ke e) (Qw.mpr q)
 refine⟨⟨λb o e n j k=>keep b o (f.un.keep b o e n j k)<|x b o e j,λb o e n j k=>?_,f.un.free,λb o e k=>?_,f.un.tups,f.un.frzs,f.un.tbls⟩,λa o e=>?_⟩
 .obtain⟨U,m,r,_⟩:=t b j;rw[e] at m;cases m;obtain⟨L,l⟩:=f.un.slot b o e n j k;obtain⟨A,p⟩:=v b _ l r;exact⟨A,p⟩
 .by_cases j:b∈frs c
  .obtain⟨U,m,r,n⟩:=t b j;rw[e] at m;cases m;obtain⟨L,l⟩:=f.un.slot b o e n j k;obtain⟨A,p⟩:=v b _ l r;exact⟨_,p⟩
  .obtain⟨y,l⟩:=f.un.there b o e k;exact⟨y,keep b y l<|x b o e j⟩
 .refine(f.hok a o e).stay (λb u j q=>keep b u q λz=>?_) (λ_ q=>q) λ_ _ q=>q;have:=(f.fr b z).1;rcases j with rfl|j
  .rw[e] at this;cases this
  .rw[j] at this;cases this
end
section
variable {X:Cx}{g:jr}{k:St}{H:Hp}{s s':iI}{C j:iB}
def Inv.frsOk(U:Inv X g k H s): ∀b∈frs X.stack,∃o,s.heap.get? b=N2 o/\(∀d,o.data≠ .fields d)/\H b=I:=λb a=>by obtain⟨_,o,c,hd⟩:=U.stack.mem a;exact⟨o,c,hd,U.stkFree b a⟩
def XeOk(X:Cx)(P:jd)(w:iW)(d:List dh)(i:Hp)(s0:iI)(E:XK):Prop:=X.prog=P/\X.w=w/\X.stack=X.env::d/\X.outer=d/\X.H₀=i/\X.s₀=s0/\X.ex=[]/\X.env.frame=N2 X.env.locals/\
 ∀e s',ah (ai P w) X.A (Gc X.env e) (λ_ a=>CXx P w d i s0 E e a) (λb a=>CXx P w d i s0 E b a) s'->X.xe e s'
def tQ{P:jd}{w:iW}{K:jb}{a:lp}{base:ja}{N:ji}{qual:aB}{scope:jJ}{f:iB}{cd:iO}{A:jf}{d:List dh}{s:iI}{H:Hp}{E:XK}:
  XeOk (qd (CXx P w) P w K a base N qual scope f cd A d s H E) P w d H s E:=⟨rfl,rfl,rfl,rfl,rfl,rfl,rfl,rfl,λ_ _ h=>h⟩
variable {P:jd}{w:iW}{d:List dh}{i:Hp}{s0:iI}{E:XK}
def Kx{r:Hp}{u:ja}{L:iB}(a:Un (frs d) [] i H s0.heap s.heap)(b:Un (L::frs d) [] H r s.heap u)(A:s0.heap.objs.size<=L):Un (frs d) [] i r s0.heap u where
 keep:=λc o q n h e=>b.keep c o (a.keep c o q n h e) (a.free c o q n e) (λz=>(lz.mp z).elim (λz=>by subst z;exact absurd (ke q)<|Qw.mpr A) h) e
 slot:=λc o q n h e=>by obtain⟨Q,f⟩:=a.slot c o q n h e;obtain⟨y,m⟩:=b.slot c _ f (a.free c o q n e) (kj _ h) e;exact⟨y,m⟩
 free:=λc o q n e=>by obtain⟨p,f⟩:=a.there c o q e;exact b.free c p f (a.free c o q n e) e
 there:=λc o q e=>by obtain⟨p,f⟩:=a.there c o q e;exact b.there c p f e
 tups:=λc l q=>b.tups c l<|a.tups c l q
 frzs:=λc o l q=>b.frzs c o l<|a.frzs c o l q
 tbls:=λc O q=>by obtain⟨B,f⟩:=a.tbls c O q;obtain⟨U,m⟩:=b.tbls c _ f;exact⟨B++U,by rw[m,Hr]⟩
def Bi{a:dh}{L:iB}(h:a.frame=N2 L):frs (a::d)=L::frs d:=by unfold frs;rw[uR,h]
def XeOk.made(x:XeOk X P w d i s0 E)(U:Inv X g k H s){r:ja}{f:jD}(p:Heap.MadeExcOf s.heap r j (.ref C) f)(q:E (.ref C) I H):X.xe (.ref j) {s with heap:=r}:=by
 obtain⟨rfl,rfl,c,B,rfl,rfl,hex,u,v⟩:=x;refine v _ _ (wpAny_leaves_madeW (base:=hideAll s.heap<|frs X.stack) (h:=s.heap) (L:=X.env.locals) (U.ok.frames.trans<|by rw[c]) u (λb o e=>of_hideAll _ e) ?_ p λO t y _ _ up=>?_)
 .rw[<-c];exact funFrames_hide U.stack λm A a z=>c7.mpr ⟨m,A,z⟩
 .refine⟨C,H,j,s.heap,_,frs X.stack,rfl,⟨U.os,U.bare,?_,U.hok,λb l=>⟨U.stkFree b l,?_⟩,λb o e n=>hideAll_get _ e n,⟨_,y⟩,(Heap.UpToSlots.of_keeps p.keeps).trans up,p.new⟩,q⟩
  .have:=U.base;unfold Cx.fs at this
   rwa [B,hex] at this
  .rw[c,Bi u] at l;rcases lz.mp l with rfl|l
   .exact .inr U.ok.above
   .exact .inl l
def XeOk.pass(x:XeOk X P w d i s0 E):ES (CXx P w) X E:=λg k H s e s' U h=>by
 obtain⟨rfl,rfl,c,v,rfl,rfl,hex,l,r⟩:=x;obtain⟨C,o,j,u,B,F,rfl,f,q⟩:=h;obtain⟨p,m⟩:=f.fl;rw[c] at m;refine r _ _ (wpAny_leaves_onW (L:=X.env.locals) (U.ok.frames.trans<|by rw[c]) l m λy t up=>?_);refine⟨C,o,j,u,B,F,rfl,⟨f.os.trans U.os,f.bare,?_,f.hok,λb n=>⟨(f.fr b n).1,?_⟩,f.st,⟨p,t⟩,f.up.trans up,f.ne⟩,q⟩
 .have a:=U.base;unfold Cx.fs at a;rw[v,hex] at a;have b:=f.un;rw[c,Bi l] at b;exact Kx a b U.ok.above
 .rcases(f.fr b n).2 with z|z
  .rw[c,Bi l] at z;rcases lz.mp z with rfl|z
   .exact .inr U.ok.above
   .exact .inl z
  .exact .inr (lI U.sz z)
end
abbrev veB:List Value:=[.type "ValueError",.type "Exception",.type "BaseException",.type "object"]
def SR{K:Frag}{h:ja}{U:iB}{b:jD}{e:String}(c:K.In h)(q:excIn K U b e=J):
  ∃a N nm g bs hd sn sub ab col dd k0 k1 k2 k3 k5 j,h.get? U=C (excClassObj nm g U N bs a hd sn sub ab col dd k0 k1 k2 k3 k5 e)/\h.Ns N j/\j "__init__"=I/\OwnTail h b a:=by
 unfold excIn at q;split at q
 case h_2=>cases q
 rename_i dd cd i lk;split at q
 case h_2=>cases q
 rename_i y a k0 k1 k2 k3 n k5 p r;rw[lE,lE,lE,lE,lE] at q;obtain⟨⟨⟨⟨⟨t,u⟩,v⟩,w⟩,k⟩,x⟩:=q;cases beq_iff_eq.mp t;cases beq_iff_eq.mp u;obtain⟨nm,bs,f,s,g,hd,sn,sub,ab,col,d⟩:=cd;have l:f= .ref U::a:=p;have m:d=Y:=by simpa using v
 obtain⟨i⟩:=i;have o:i=[k0,k1,k2,k3,C<|.builtin e,k5]:=r;subst l m o;exact⟨a,s,nm,g,bs,hd,sn,sub,ab,col,dd,k0,k1,k2,k3,k5,_,c _ _ lk,.of_isNs<|isNs_of_in c k,nsMap_none_of_in c k<|beq_iff_eq.mp x,tail_of_in c w⟩
section
variable {X:Cx}{P:jd}{w:iW}{b:List dh}{g:Hp}{s0:iI}{E:XK}{x:aB}{C:iB}{a:iK}{d:TE}{np f c:bB}
def NP(T:XeOk X P w b g s0 E)(z:X.calm=O0)(t:excIn X.K C veB "ValueError.__new__"=O0)(B:X.mg x=N2 (.ref C))(A:Gl X x)(y:PE X a d)(hd:(x==("__debug__":aB))=Y)
  (n:ag [a] X.env=[(Y,aU a X.env)]):PS X (.Raise (N2<|.Call (.Name x np) [a] [] f) Op c) (λD k H'=>d k H' λ_ l=>E (.ref C) Op l):=by
 intro i s k H' D I h;obtain⟨G,N,nm,Q,bs,o,sn,sub,ab,col,dd,k0,k1,k2,k3,k5,M,h1,p,r,m⟩:=SR I.ok.mod.kin t;have L:(bc f<|ag [a] X.env).any (·.1)=Y:=by rw[n];rfl
 refine wpAny_Raise_call_subT (nm:=nm) (q:=Q) (N:=N) (bs:=bs) (hdct:=o) (sn:=sn) (sub:=sub) (ab:=ab) (col:=col) (dd:=dd) (k0:=k0) (k1:=k1) (k2:=k2) (k3:=k3) (k5:=k5) PySem.F.excBase_ValueError (m.hasType<|by decide) (I.ok.hd z) L r<|wN I A B ⟨rfl,?_⟩ hd;rw[n];refine MD<|Ho (thn (y i s k H' _ I h) λu s1 a'=>by obtain⟨v,l,j,U,O⟩:=a';exact Hq ⟨rfl,(show 1<=sizeLine by decide),j.bk _ _ h1,p.keeps j.bk,m.keeps j.bk,λJ e mk=>T.made j mk O⟩)
end
def yx(q:aB):HO:= .tbl #[.str q 0]
structure OnlyT(TB:List (iB×aB))(H:Hp):Prop where
 one: ∀b,H b=Op\/(∃o xs,H b=N2 (.frz o<|.lst xs))\/ ∃q,(b,q)∈TB/\H b=N2 (yx q)
 all: ∀p∈TB,H p.1=N2 (yx p.2)
def Lh{P:jd}{w:iW}{K:jb}{C mb:lp}{CX:CXT}{k:Nat}{fa a:iB}{fd:mD}{x:aB}{sp:Sp}{c:iI}{O:jD}{Q:iQ}{TB:List (iB×aB)}
  (KX:K.In c.heap)(aJ:c.heap.Ns am C)(g:c.heap.Ns gq mb)(hbb: ∀x:aB,x≠"__name__"->mb x=aK x)(Y:c.heap.NoLimit)(hg:c.gens= #[])
  (M: ∀p∈TB,c.heap.get? p.1=N2 (tabObj #[]))(fJ: ∀p∈TB,K.lookup p.1=Op)(fI: ∀p∈TB,isCodeTable c.heap p.1)(eE:(TB.map (·.1)).Nodup)(U: ∀p∈TB,c.heap.BuiltinsAt C p.1)
  (N:c.heap.get? a=N2 {cls:= .type "list",data:= .seq O.toArray})(hi:dG O Q)(hl:Q.length<=sizeLine)(hr:Room k fG)
  (F: ∀base:ja,K.In base->base.Ns am C->(∀p∈TB,base.BuiltinsAt C p.1)->FnOk P w K C base CX k fa fd [x] sp)(p0: ∀(s:iI) (u:iO),fM s fd ⟨[u],[]⟩ [(x,u)])
  (bx: ∀H8:Hp,OnlyT TB H8->SqL K H8 a (Q.map V.int)->sp [.ref a] H8 (λv H'=>v= .bl O0/\ ∀p∈TB,H' p.1=N2 (yx p.2)) λ_ _ _=>False)
  (hCX: ∀H8 e j,CX [] H8 c (λ_ _ _=>False) e j->False):
  cR (ai P w) fG (.call (.ref fa) ⟨[.ref a],[]⟩) (λr j=>r= .ok (.ret<|.bool O0)/\OldK c.heap j.heap/\j.os=c.os/\dI j.gens) c:=by
 have rv:=Kw hi;have R:=hi.length
 have Z: ∀p∈TB,p.1≠a:=λp f e=>by have:=M p f;rw[e,N] at this;cases this
 have t: ∀H8:Hp,OnlyT TB H8->SqL K H8 a (Q.map V.int)->HOk P w H8 c.heap->(∀b,H8 b≠Op->b=a\/ ∃p∈TB,b=p.1)->(H8 a≠Op->K.lookup a=Op)->
   cR (ai P w) fG (.call (.ref fa) ⟨[.ref a],[]⟩) (λr j=>r= .ok (.ret<|.bool O0)/\OldK c.heap j.heap/\j.os=c.os/\dI j.gens) c:=by
  intro H8 hO hS D hA hK;have u7: ∀{b:iB} {o:ey},c.heap.get? b=N2 o->H8 b=Op->(BY c.heap H8).get? b=N2 o:=λe n=>Ph e n
  have bw: ∀{b:iB} {o:ey},c.heap.get? b=N2 o->(∀its n,o.data≠ .seq its n)->(∀I,o.data≠ .fields I)->H8 b=Op:=λ{b o} e d d2=>by
   cases q:H8 b with
   |none=>rfl
   |some u=>
    rcases hA b (by rw[q];simp) with rfl|⟨p,f,rfl⟩
    .rw[N] at e;cases e;exact absurd H<|d _ _
    .rw[M p f] at e;cases e;exact absurd H<|d2 _
  have X: ∀{b:iB} {m:lp},c.heap.Ns b m->(BY c.heap H8).Ns b m:=λ{b m} ⟨o,es,ep,e,d,r⟩=>⟨o,es,ep,u7 e (bw e (λ_ _ z=>by rw[d] at z;cases z) λ_ z=>by rw[d] at z;cases z),d,r⟩
  have J:K.In (BY c.heap H8):=λb o e=>u7 (KX b o e) (by
   cases q:H8 b with
   |none=>rfl
   |some u=>
    rcases hA b (by rw[q];simp) with rfl|⟨p,f,rfl⟩
    .rw[hK<|by rw[q];simp] at e;cases e
    .rw[fJ p f] at e;cases e)
  have hBA: ∀p∈TB,(BY c.heap H8).BuiltinsAt C p.1:=λp f=>by obtain⟨bm,o,h1,h2,h3,h4,h5,h6,h7,h8⟩:=U p f;exact⟨bm,o,h1,h2,h3,h4,u7 h5 (bw h5 (λ_ _ z=>by rw[h8] at z;cases z) λ_ z=>by rw[h8] at z;cases z),h6,h7,h8⟩
  have hM:Mod K C (BY c.heap H8):=⟨J,X aJ,⟨mb,X g,hbb⟩,let⟨mc,h1,h2⟩:=Y;⟨mc,X h1,h2⟩⟩
  have e0:Env0 P w K C (BY c.heap H8) fG [] c H8:=⟨rfl,hM,λb o e=>RW e,s8<|Lr _ _,trivial,λb g=>absurd (show b∈([]:List iB) from g)<|by simp,D,.of_eq hg⟩
  refine sm ((F _ J (X aJ) hBA).run fG [] c H8 ⟨[.ref a],[]⟩ [.ref a] [.ref a] _ _ hr e0 (p0 c<|.ref a) (.cons H .nil) (bx H8 hO hS)) λr j h=>?_
  cases r with
  |error e=>exact(hCX H8 e j h).elim
  |ok fl=>
   cases fl with
   |next=>exact aZ h
   |brk=>exact aZ h
   |cont=>exact aZ h
   |ret u=>
    obtain⟨v,H',os,T,un,B,r',q,L⟩:=h;subst q;obtain rfl:u=cK O0:=r'
    have W: ∀p∈TB,∃I,j.heap.get? p.1=N2 (tabObj I):=λp f=>by
     obtain⟨_,_,I,_,e,_⟩:=(show ObjOk P w H' j.heap p.1 (.tbl #[.str p.2 0]) from B _ _ (L p f))
     exact⟨I,e⟩
    have keep: ∀b o,c.heap.get? b=N2 o->(∀p∈TB,b≠p.1)->j.heap.get? b=N2 o:=λb o e n=>by
     cases q:H8 b with
     |none=>exact un.keep b o e q (by intro z;exact absurd (show b∈([]:List iB) from z)<|by simp) (by simp)
     |some u=>
      rcases hO.one b with z|⟨ob,xs,z⟩|⟨qq,hm,z⟩
      .rw[q] at z;cases z
      .have z2:=un.frzs b ob _ z;obtain⟨e1,_⟩:=D b _ z;obtain⟨G,_⟩:=B b _ z2;rw[e] at e1;cases e1;exact G
      .exact absurd H (n _ hm)
    refine⟨rfl,⟨λb o e=>?_,λb o e=>?_⟩,os,T⟩
    .by_cases g: ∃p∈TB,b=p.1
     .obtain⟨p,f,rfl⟩:=g;obtain⟨I,G⟩:=W p f;rw[M p f] at e;cases e;refine .inr<|.inl ⟨fI p f,rfl,#[],I,rfl,?_⟩;rw[G];simp
     .exact .inl (keep b o e λp f z=>g ⟨p,f,z⟩)
    .by_cases g: ∃p∈TB,b=p.1
     .obtain⟨p,f,rfl⟩:=g;obtain⟨I,G⟩:=W p f;exact⟨_,G⟩
     .exact⟨o,keep b o e λp f z=>g ⟨p,f,z⟩⟩
 have A: ∀{b q},TB.lookup b=N2 q->(b,q)∈TB:=λh=>by
  revert h;generalize TB=l
  induction l with
  |nil=>intro h;simp at h
  |cons x l ih=>
   intro h;rw[oA] at h;split at h
   .rename_i g;cases h;rw[beq_iff_eq.mp g];exact kg
   .exact kj _ (ih h)
 have S: ∀p∈TB,TB.lookup p.1=N2 p.2:=by
  clear A t Z bx fJ fI U F M
  induction TB with
  |nil=>intro p f;simp at f
  |cons x l ih=>
   intro p f;rw[km,Ah] at eE;rw[oA];rcases lz.mp f with rfl|f
   .simp
   .have:(p.1==x.1)=O1:=by rw[BK];exact λe=>eE.1 (e▸vn f)
    rw[this];exact ih eE.2 p f
 have E: ∀(H8:Hp) (b:iB) (q:aB),(b,q)∈TB->ObjOk P w H8 c.heap b (yx q):=λH8 b q hm=>⟨q,0,#[],rfl,M _ hm,trivial,λpos cv z=>by simp[ed] at z⟩
 cases hk:K.lookup a with
 |some o=>
  have e:=KX a o hk;rw[N] at e;cases e;refine t (λb=>(TB.lookup b).map yx) ⟨λb=>?_,λp f=>by rw[S p f];rfl⟩ (.inr ⟨_,O.toArray,_,hk,rfl,rfl,rfl,by rw[jx,R];exact hl,by simpa using rv⟩) (λb u z=>?_) (λb z=>?_) λz=>?_
  .cases q:TB.lookup b with
   |none=>exact .inl H
   |some y=>exact .inr<|.inr ⟨y,A q,rfl⟩
  .have i:(TB.lookup b).map yx=N2 u:=z
   cases q:TB.lookup b with
   |none=>rw[q] at i;cases i
   |some y=>rw[q] at i;cases i;exact E _ b y (A q)
  .have i:(TB.lookup b).map yx≠Op:=z
   cases q:TB.lookup b with
   |none=>rw[q] at i;exact absurd H i
   |some y=>exact .inr ⟨_,A q,rfl⟩
  .have i:(TB.lookup a).map yx≠Op:=z
   cases q:TB.lookup a with
   |none=>rw[q] at i;exact absurd H i
   |some y=>exact absurd H<|Z _ (A q)
 |none=>
  have hat: ∀p∈TB,(if p.1=a then N2 (HO.frz {cls:= .type "list",data:= .seq O.toArray}<|.lst<|Q.map V.int) else(TB.lookup p.1).map yx)=N2 (yx p.2):=λp f=>by rw[je<|Z p f,S p f];rfl
  refine t (λb=>if b=a then N2 (.frz {cls:= .type "list",data:= .seq O.toArray}<|.lst<|Q.map V.int) else(TB.lookup b).map yx) ⟨λb=>?_,hat⟩ (.inl<|.inr ⟨{cls:= .type "list",data:= .seq O.toArray},iT H⟩) (λb u z=>?_) (λb z=>?_) λ_=>hk
  .by_cases g:b=a
   .exact .inr (.inl ⟨_,_,iT g⟩)
   .cases q:TB.lookup b with
    |none=>exact .inl (by simp[g,q])
    |some y=>exact .inr<|.inr ⟨y,A q,by simp[g,q]⟩
  .by_cases g:b=a
   .have i:=(iT g).symm.trans z;cases i;subst g;exact⟨N,by rw[jF];exact hl,O,_,rv,N⟩
   .have i:=(je g).symm.trans z
    cases q:TB.lookup b with
    |none=>rw[q] at i;cases i
    |some y=>rw[q] at i;cases i;exact E _ b y (A q)
  .by_cases g:b=a
   .exact .inl g
   .cases q:TB.lookup b with
    |none=>exact absurd (by simp[g,q]) z
    |some y=>exact .inr ⟨_,A q,rfl⟩
end L2
namespace PX
open L2
def Sa{TB:List (iB×aB)}{K:jb}{k:EvF}{U:Hp}{a:iB}{f:iQ}(m: ∀p∈TB,U p.1=C (yx p.2))(l:SqL K U a (f.map V.int)){o:Bool}{c:Dn}(h:k [(.lst<|f.map .int,Y)]=C ((.bl J,o),c)):spF K k [.ref a] U (λv g=>v= .bl J/\ ∀p∈TB,g p.1=C (yx p.2)) λ_ _ _=>False:=by
 have no: ∀b,¬OwnA [C<|V.ref a] [C (D.lst<|f.map .int,Y)] b:=λb T=>by
  obtain⟨i,d,h1,q⟩:=T
  cases i with
  |zero=>simp at h1
  |succ i=>simp at h1
 refine⟨λ_=>False,[(.lst<|f.map .int,Y)],_,c,⟨rfl,λi d hd=>?_,λi d hd=>?_,λi j d e b h1=>?_,λb z=>absurd z<|no b,λb z=>z.elim⟩,h,λv g P=>?_⟩
 .cases i with
  |zero=>simp at hd;subst hd;refine⟨_,rfl,Rep.mkLst (a:=a) (xs:=f.map V.int) ?_<|KQ f⟩;exact l.imp (λz=>⟨z,λz=>z.elim (no a) id⟩) id
  |succ i=>simp at hd
 .cases i with
  |zero=>simp at hd
  |succ i=>simp at hd
 .cases i with
  |zero=>simp at h1
  |succ i=>simp at h1
 .refine⟨?_,λp n=>P.1.kp _ _ (m p n) (no _)⟩
  cases o with
  |false=>exact P.2.2.bl
  |true=>obtain⟨p,_,_,_,ok⟩:=P.2;exact ok.elim
end PX
namespace L2
open PySem.W
theorem wx{a b:Int}{t u:Nat}{c:iO}: ∀l:List iO,g8 l->g8 (l++[.int a t,.int b u,c])
 |[],_=>trivial
 | .int _ _:: .int _ _::_::jG,h=>wx jG h
theorem BD{a b:Int}{t u:Nat}{e:bB}{c f:iO}: ∀l:List iO,g8 l->ed e (l++[.int a t,.int b u,c])=C f->ed e l=C f\/f=c
 |[],_,h=>by
  simp only[qK,ed] at h;split at h
  .exact .inr (kN h).symm
  .cases h
 | .int i _:: .int j _::d::jG,h0,h=>by
  simp only[zJ,ed] at h ⊢;split at h
  .rename_i q;rw[iT q];exact .inl h
  .rename_i q;rw[je q];exact BD jG h0 h
structure LamAt(q:aB)(params:cI)(body:iK)(scope:jJ)(b8:kX)(H:Hp)(h:ja)(fl:iB):Prop where
 fn: ∃pm c' q9,h.get? fl=N2 (kla_obj "<lambda>" q params body scope b8 pm c' q9)/\ ∃ob u vs t,H c'=N2 (.frz ob u)/\ob.data= .fields vs/\vs[1]?=N2 (.str q t)
 un:H fl=Op
section
variable {X:Cx}{i:jr}{m:St}{H:Hp}{s:iI}{P c:iB}{f:cI}{g:iK}{scope:jJ}{j:kX}{l:bB}
def TH{h:ja}{a:iB}(e:h.objs.size<=a):h.get? a=I:=by
 cases q:h.get? a with
 |none=>rfl
 |some o=>exact absurd (ke q)<|Qw.mpr e
def OS{M:fY}{A:jf}{E:jw}{Q:jw}(I:Inv X i m H s){more:mY}(N:H P=N2 (.tbl (#[.str (X.env.qual++"<lambda>") 0]++more)))(hc:X.env.code= .ref c)(C:CodeHd X.base c P)(hB:X.base.BuiltinsAt X.mg P)(gC:am≠P)
  (n4:on scope X.env=pure j)(bg:n7 f X.env=([],[]))
  (k: ∀s1 T fl,Inv X i m T s1->(∀b o,H b=N2 o->T b=N2 o)->LamAt (X.env.qual++"<lambda>") f g scope j T s1.heap fl->(∀b o,s.heap.get? b=N2 o->H b=Op->s1.heap.get? b=N2 o)->(∀b o,s.heap.get? b=N2 o->H b=Op->T b=Op)->s.heap.get? fl=Op->Q (.ref fl) s1):
  ah M A (aU (.Lambda f g scope l) X.env) Q E s:=by
 refine kla_eval bg ?_;obtain⟨qq,tq,ps,J,B,Y,hm⟩:=(show ObjOk X.prog X.w H s.heap P (.tbl (#[.str (X.env.qual++"<lambda>") 0]++more)) from I.hok P _ N)
 have W:qq=X.env.qual++"<lambda>":=by rw[Array.getElem?_append_left<|by simp] at J;simp at J;exact J.1.symm
 subst W;have n5:s.heap.BuiltinsAt X.mg P:=let⟨bm,o,h1,F,K,R,h5,h6⟩:=hB;⟨bm,o,h1,F,K,R,I.bk _ _ h5,h6⟩
 have hg:s.heap.Ns am X.mg:=I.ok.mod.glob.keeps I.bk
 cases S:ed l ps.toList with
 |some cv=>refine kla_makeFunctionHit n4 I.ok.glob hg hc (C.keeps I.bk) B Y S n5 λh v D p sz=>?_;obtain⟨a,ob,u,vs,t,rfl,F,K,R⟩:=hm l cv S;have bO: ∀b o,s.heap.get? b=N2 o->(v.push<|kla_obj "<lambda>" (X.env.qual++"<lambda>") f g scope j ((X.mg "__name__").getD .none) a h).get? b=N2 o:=λb o e=>kc _ (p b o e);exact k _ H _ (I.kept (t':=D) bO) (λ_ _ e=>e) ⟨⟨_,a,h,kD _ rfl,ob,u,vs,t,F,K,R⟩,I.hok.fresh sz⟩ (λb o e _=>bO b o e) (λ_ _ _ n=>n) (TH sz)
 |none=>
  refine kla_makeFunction n4 I.ok.glob hg hc (C.keeps I.bk) B Y S gC n5 λa h v D ex G x cr tb=>?_;obtain⟨c0,r,vs,t,ec,dU,dw,hq⟩:=cr;cases ec;have nc:H a=Op:=I.hok.fresh G;have p: ∀b o,b≠P->s.heap.get? b=N2 o->(v.push<|kla_obj "<lambda>" (X.env.qual++"<lambda>") f g scope j ((X.mg "__name__").getD .none) a h).get? b=N2 o:=λb o n e=>kc _ (ex b o n e);have up: ∀b o,H b=N2 o->upd H a (.frz r<|.own 0) b=N2 o:=λb o e=>by rw[jg<|ll e nc];exact e
  have Z: ∀b,H b=Op->b≠P:=λb n z=>by rw[z,N] at n;cases n
  have y:=kc (kla_obj "<lambda>" (X.env.qual++"<lambda>") f g scope j ((X.mg "__name__").getD .none) a h) tb
  have un:Un (frs X.stack) [] H (upd H a<|.frz r<|.own 0) s.heap (v.push<|kla_obj "<lambda>" (X.env.qual++"<lambda>") f g scope j ((X.mg "__name__").getD .none) a h):=
   ⟨λb o e n _ _=>p b o (Z b n) e,λb o e n _ _=>⟨o.slots,p b o (Z b n) e⟩,λb o e n _=>by rw[jg<|jM<|nE (ke e) G];exact n,λb o e _=>by
    by_cases z:b=P
    .subst z;exact⟨_,y⟩
    .exact⟨o,p b o z e⟩,λb xs e=>up b _ e,λb o xs e=>up b _ e,λb ps e=>⟨#[],by rw[up b _ e];simp⟩⟩
  have V:HOk X.prog X.w (upd H a<|.frz r<|.own 0) (v.push<|kla_obj "<lambda>" (X.env.qual++"<lambda>") f g scope j ((X.mg "__name__").getD .none) a h):=λb u e=>by
   by_cases U:b=a
   .subst U;rw[jk] at e;cases e;exact⟨kc _ dU,⟨r,kc _ dU⟩⟩
   .rw[jg U] at e;by_cases L:b=P
    .subst L;rw[N] at e;cases e;refine⟨_,tq,_,J,y,?_,λO cv z=>?_⟩
     .rw[L4];exact wx _ Y
     .rw[L4] at z;rcases BD _ Y z with z|z
      .obtain⟨x,ob,u,vs,t,r1,r2,r3,r4⟩:=hm O cv z;exact⟨x,ob,u,vs,t,r1,up _ _ r2,r3,r4⟩
      .exact⟨a,r,_,vs,t,z,jk,dw,hq⟩
    .refine(I.hok b u e).stay (λd w hd q=>p d w (λz=>?_) q) (λd q=>up d _ q) (λd xs q=>up d _ q) λd _ _ q=>up d _ q;subst z;rcases hd with z|z
     .exact L z.symm
     .rw[N] at z;cases z
  have I1:Inv X i m (upd H a<|.frz r<|.own 0) {s with heap:=v.push<|kla_obj "<lambda>" (X.env.qual++"<lambda>") f g scope j ((X.mg "__name__").getD .none) a h,toks:=D}:=I.call (g':=s.gens) (d':=s.drawn) (t':=D) un V I.bare λb U=>absurd U (by simp);refine k _ _ _ I1 up ⟨⟨_,a,h,kD _ rfl,r,_,vs,t,jk,dw,hq⟩,?_⟩ (λb o e n=>p b o (Z b n) e) (λb o e n=>un.free b o e n<|by simp) (TH<|sv<|GA G x);rw[jg<|oD x];exact I.hok.fresh<|sv<|GA G x
end
def Bq(q:aB)(scope:jJ)(L fl:iB)(cd:iO)(a:kX):Env:=
 newEnv scope L am a (q++".<locals>.") (C fl) cd I gq
def tL(CX:CXT)(P:jd)(w:iW)(K:Frag)(d:lp)(base:ja)(N:ji)(q:aB)(scope:jJ)(fl:iB)(cd:iO)(b:kX)(A:jf)(a:List dh)(s:iI)(U:Hp)(E:XK):Cx where
 prog:=P
 w:=w
 K:=K
 mg:=d
 base:=base
 A:=A.deeper<|Bq q scope s.heap.objs.size fl cd b
 N:=N
 s₀:=s
 H₀:=U
 env:=Bq q scope s.heap.objs.size fl cd b
 outer:=a
 stack:=Bq q scope s.heap.objs.size fl cd b::a
 ex:=[]
 calm:=J
 fn:=λ_=>Y
 pn:=[]
 xe:=λe h=>ah (ai P w) (A.deeper<|Bq q scope s.heap.objs.size fl cd b) (Gc (Bq q scope s.heap.objs.size fl cd b) e) (λ_ c=>CX a U s E e c) (λg c=>CX a U s E g c) h
structure LamScope(scope:jJ):Prop where
 kind:scope.kind= .function
 co:scope.isCoroutine=O1
 gen:scope.isGenerator=O1
 cell: ∀y∈scope.names,y.2≠ .cell
structure LamCells(N:ji)(scope:jJ)(b8:kX)(σ:St)(H:Hp)(h:ja):Prop where
 inj: ∀x y c,b8.lookup x=N2 c->b8.lookup y=N2 c->x=y
 has: ∀x,scope.names.lookup x=N2 .free-> ∃c,b8.lookup x=N2 c
 cell: ∀x c,b8.lookup x=N2 c->(∃v,h.IsCell c v)/\H c=Op
 val: ∀(i:Nat) (x:aB) (v:V),N[i]?=N2 x->σ[i]?=N2 (N2 v)->scope.names.lookup x=N2 .free/\ ∃c u,b8.lookup x=N2 c/\h.IsCell c (N2 u)/\RelV v u
 len:(Ps σ)=(Ps N)
section
variable {CX:CXT}{P:jd}{w:iW}{K:Frag}{g:lp}{base:ja}{N:ji}{q:aB}{scope:jJ}{fl:iB}{cd:iO}{d:kX}{A:jf}{a:List dh}{s:iI}{H:Hp}{E:XK}{f:St}
def Sj(S:LamScope scope)(hd:A.handled=I)(e:Env0 P w K g base A a s H)(U:LamCells N scope d f H s.heap){h1:ja}{t1:Nat}(l:h1.Ns s.heap.objs.size (λ_=>I))(hk: ∀b o,s.heap.get? b=C o->h1.get? b=C o):
  Inv (tL CX P w K g base N q scope fl cd d A a s H E) [] f H {s with heap:=h1,toks:=t1}:=by
 have k: ∀b:iB,b∉(tL CX P w K g base N q scope fl cd d A a s H E).ex:=λb z=>absurd (show b∈([]:List iB) from z) (by simp)
 refine⟨⟨e.mod,S.kind,rfl,rfl,jW _,U.inj,λy j=>?_,λy c z _=>absurd z<|by simp[tL],λ_=>hd,ML e.frames,.inr ⟨rfl,rfl⟩,λb z=>absurd z<|k b,e.bs,e.bsz,λb _ _=>k b,λb z=>absurd z<|k b,e.funs,e.frf⟩,
  rfl,e.bare,Un.kept hk,⟨_,l,λi y v h1 m _=>?_⟩,λy c h=>?_,e.hok.fresh<|jW _,λy c h=>(U.cell y c h).2,λp x=>absurd (show p∈([]:List (iB×ey)) from x)<|by simp,e.hok.kept hk,U.len⟩
 .have j:scope.names.lookup y=C .cell\/scope.names.lookup y=C .free:=j;rcases j with j|j
  .exact absurd O9 (S.cell _ (qi j))
  .exact U.has y j
 .obtain⟨t,c,u,n,B,r⟩:=U.val i y v h1 m;exact⟨u,r,.inr ⟨.inr t,c,n,B.keeps hk⟩⟩
 .obtain⟨⟨v,hv⟩,_⟩:=U.cell y c h;exact⟨v,hv.keeps hk⟩
def Sb{h:cI}{c:iK}{k:Nat}{t:TE}{Q:VK}(S:LamScope scope)(n:Room (k+1) A)(m:Env0 P w K g base A a s H)(C:LamCells N scope d f H s.heap)(L:LamAt q h c scope d H s.heap fl)
  (p0: ∀B i O,eR (kla_fn "<lambda>" q h c scope d B (.ref i) O) ⟨[],[]⟩=pure [])
  (Y: ∀i:iB,Room k (A.deeper<|Bq q scope s.heap.objs.size fl (.ref i) d)->PE (tL CX P w K g base N q scope fl (.ref i) d A a s H E) c t)(ht:t f H Q):
  cR (ai P w) A (.call (.ref fl) ⟨[],[]⟩) (CR CX a P w H s Q E) s:=by
 obtain⟨B,i,O,D,R,u,vs,tk,h1,M,U⟩:=L.fn;have Z:s.heap.CodeRec (.ref i) q:=⟨i,R,vs,tk,rfl,(m.hok i _ h1).1,M,U⟩
 have r:s.heap.NoLimit:=m.mod.nolimit.keeps λb o e=>(m.bs b o e).1;refine kla_callFunE n.depth D O9 S.co S.gen O9 Z ?_;rw[p0];refine iR<|wpAny_newFunctionEnv S.cell (by intro y F;simp at F) (λl G z=>⟨r.fresh _ z,?_⟩) S.kind;show cR _ _ (.expr c<|Bq q scope s.heap.objs.size fl (.ref i) d) _ _;have j: ∀b o,s.heap.get? b=N2 o->l.get? b=N2 o:=λb o e=>z.extBut b o (jM<|ke e)<|kc _ e;have I:=Sj (CX:=CX) (q:=q) (fl:=fl) (cd:= .ref i) (E:=E) (t1:=s.toks+([]:List (aB×iO)).length) S n.hd m C (by simpa using G) j;refine kla_codeExpr<|oE (Y i (n.deeper _) [] _ f H Q I ht) (λv X p=>?_) λe X p=>p;obtain⟨x,T,J,W,V⟩:=p;exact⟨x,T,J.os,J.bare,J.base,J.hok,W,V⟩
end
open PySem.Calls Builtin Builtin.ObjectAttr Builtin.Getset_descriptor
structure ExcK(K:Frag)(C:iB):Prop where
 ga:findIn K (.ref C) "__getattribute__"=N2 (N2<|.builtin "BaseException.__getattribute__")
 gb:findIn K (.ref C) "__getattr__"=N2 Op
 mrB:mroIn K C (.type "BaseException")=N2 O0
 dct:hasDictIn K C=O0
 fnd:findIn K (.ref C) "__class__"=N2 (N2<|.builtin "object.__class__")
 spc:specialIn K (.builtin "object.__class__") "__get__"=N2 (N2<|.builtin "getset_descriptor.__get__")
 tks:takesIn K (.builtin "object.__class__")=N2 O0
 mro:mroIn K C (.type "object")=N2 O0
section
variable {K:Frag}{C x:iB}{o:ey}
def Pz{M:fY}{h:ja}(Z:ExcK K C)(X:K.In h):Looks M h (find (.ref x) (.ref C) "__class__") (.bind (.builtin "getset_descriptor.__get__")<|.builtin "object.__class__"):=by have a:=looks_takesIn (M:=M) X Z.tks;exact(looks_findIn X Z.fnd).andThen ((show Looks M h (getOf<|N2<|.builtin "object.__class__") _ from looks_specialIn X Z.spc).andThen<|(show Looks M h (dataDescriptor? (N2<|.builtin "object.__class__")<|N2<|.builtin "getset_descriptor.__get__") (N2 (.builtin "getset_descriptor.__get__",.builtin "object.__class__")) from a.andThen .now).andThen<|Looks.tag .now)
def OT(Z:ExcK K C)(v:o.cls= .ref C):KitX K (.ref x) (.ref C) λh=>h.get? x=N2 o:=by
 have ty: ∀(M:fY) (h:ja),h.get? x=N2 o->Looks M h (ia<|.ref x) (.ref C):=λM h e=>v▸(Looks.ld e).andThen .now;obtain⟨r,f,_⟩:=any_some Z.dct;unfold clsIn at f;split at f
 case h_2=>cases f
 rename_i U Y p D j;refine⟨λM h _ e=>ty M h e,λM h X _=>?_,λh I dd B n S X i=>?_,λ{a w A E Q s} X e k=>?_⟩
 .intro L N O R H q;unfold isType loadHead;exact iF<|wpAny_loadPart (H _ _ (X _ _ j))<|iR q
 .refine WG.mpr λq=>?_;have e:C=I:=Value.ref.inj<|beq_iff_eq.mp q;subst e;have z:=(X _ _ j).symm.trans i;cases z
 .obtain⟨y,g,d,t,os⟩:=s;have T0:=ty (ai a w) y e;have l:=looks_findIn (M:=ai a w) X Z.ga;have m:=looks_findIn (M:=ai a w) X Z.gb;have T:=Pz (x:=x) (M:=ai a w) Z X;have G:=looks_mroIn (M:=ai a w) X Z.mro;unfold getAttr? getAttrBy? getAttrBy;refine iF<|wpAny_mkText<|iF<|rW<|nC<|iF<|T0.at<|iF<|l.at ?_;have J:=looks_mroIn (M:=ai a w) X Z.mrB;have u:(ew "BaseException.__getattribute__"==ew "object.__getattribute__")=O1:=by decide+kernel
  show ah _ _ (if onTheHeap (bM C)&&ew "BaseException.__getattribute__"==ew "object.__getattribute__" then _ else u0 _ _ _ _ _ _) _ _ _;rw[je<|by rw[u];simp];unfold u0;refine iF<|(show Looks _ _ (hookBefore<|.ref C) Op from m).at<|iF<|rW<|nC ?_;show ah _ _ (w9 (.builtin "BaseException.__getattribute__") (.ref x)<|.str "__class__" _) _ _ _;unfold w9;rw[show bindSpecial (.builtin "BaseException.__getattribute__") (.ref x)=pure (.builtin "BaseException.__getattribute__",[.ref x]) from WM.ga.bind _];refine iF<|iR<|DM<|L0 WM.ga.plain F.entry_bexc_ga ?_;have hk:builtinKind "BaseException.__getattribute__"=N2 .slot:=by decide+kernel
  have b:Fa "BaseException.__getattribute__"=N2 ("BaseException","__getattribute__"):=by decide+kernel
  have P:=F.args_bexc_ga (.ref x)<|.str "__class__" t;simp only[ro,hk,b];refine iF ?_;unfold isInstance
  repeat lk
  refine wpAny_run (h:=Op) (c:= .call (.builtin "getset_descriptor.__get__") ⟨[.builtin "object.__class__",.ref x,.ref C],[]⟩) ?_;refine L0 KF.slot_gs.plain KF.entry_gs<|KF.slot_gs.check _ _ _ _ _ _ _ _ (show Shared.TypeIs _ (.builtin "object.__class__") "getset_descriptor" from KF.type_class) (KF.args_gs _ _ _) ?_;unfold bn.«getset_descriptor.__get__» descrGet;rw[dga_obj];refine iF<|iR ?_;unfold descrGetter descrCheckInstance descrNameAndClass isInstance;simp only[KF.owner_class]
  repeat lk
  refine⟨Code.quiet_builtin _ (by decide+kernel),sf KF.entry_class ?_⟩;unfold bn.«object.__class__» shownTypeOf
  repeat lk
  exact k
end
section
variable {X:Cx}{f:jr}{h g:St}{H:Hp}{s:iI}{a:iB}{o:ey}{j:ja}
def Inv.track(T:Inv X f h H s)(L:H a=I)(B:X.s₀.heap.get? a=I)(r:s.heap.get? a=C o)(U: ∀v,o.data≠ .cell v)(E:a≠X.env.locals)(O: ∀p∈X.pn++f,p.1≠a):Inv X f h (upd H a<|.frz o<|.own 0) s:=by
 have up: ∀b u,H b=C u->upd H a (.frz o<|.own 0) b=C u:=λb u e=>by rw[jg<|ll e L];exact e
 refine⟨T.ok,T.os,T.bare,⟨T.base.keep,T.base.slot,λb k e n i=>?_,T.base.there,λb y e=>up _ _ (T.base.tups b y e),λb k u e=>up _ _ (T.base.frzs b k u e),λb Q e=>?_⟩,T.loc,T.cell,?_,λx c i=>?_,λp w=>?_,λb u e=>?_,T.len⟩
 .rw[jg (λz=>by subst z;rw[B] at e;cases e)];exact T.base.free b k e n i
 .obtain⟨m,d⟩:=T.base.tbls b Q e;exact⟨m,up _ _ d⟩
 .rw[jg<|nV E];exact T.free
 .rw[jg λz=>?_];exact T.freeC x c i;obtain⟨v,k,d,l⟩:=T.cell x c i;subst z;rw[r] at d;cases d;exact U v l
 .obtain⟨d,l,A⟩:=T.pin p w;exact⟨d,by rw[jg<|O p w];exact l,A⟩
 .by_cases t:b=a
  .subst t;rw[jk] at e;cases e;exact⟨r,⟨o,r⟩⟩
  .rw[jg t] at e;exact(T.hok b u e).stay (λ_ _ _ q=>q) (λc q=>up c _ q) (λc y q=>up c _ q) λc _ _ q=>up c _ q
def Inv.names(I:Inv X f h H s){t':Nat}(L:aR X.env.locals s.heap j)(U:(Ps g)=Ps h)(w: ∀(i:Nat) v,g[i]?=N2 (N2 v)->h[i]?=N2 (N2 v))
  (Y: ∀m,s.heap.Ns X.env.locals m-> ∃B,j.Ns X.env.locals B/\ ∀(i:Nat) x v,X.N[i]?=N2 x->g[i]?=N2 (N2 v)->B x=m x):Inv X f g H {s with heap:=j,toks:=t'}:=by
 obtain⟨m,D,J⟩:=id I.loc;obtain⟨B,T,E⟩:=Y m D;have oth: ∀b l,b≠X.env.locals->s.heap.get? b=N2 l->j.get? b=N2 l:=λb l n e=>(L.2 b n).trans e;have O: ∀{b l},X.s₀.heap.get? b=N2 l->b≠X.env.locals:=λe=>jM<|nE (ke e) I.ok.above;refine⟨I.ok,I.os,I.bare,⟨λb l e n C A=>oth b l (O e)<|I.base.keep b l e n C A,λb l e n C A=>?_,I.base.free,λb l e A=>?_,I.base.tups,I.base.frzs,I.base.tbls⟩,⟨B,T,λi x v t Q G=>?_⟩,λx c e=>?_,I.free,I.freeC,λp F=>?_,λb u e=>?_,U.trans I.len⟩
 .obtain⟨R,t⟩:=I.base.slot b l e n C A;exact⟨R,oth b _ (O e) t⟩
 .obtain⟨P,t⟩:=I.base.there b l e A;exact⟨P,oth b _ (O e) t⟩
 .obtain⟨u,r,q⟩:=J i x v t (w i v Q) G;refine⟨u,r,?_⟩;rcases q with⟨k,z⟩|⟨k,c,z,y⟩
  .exact .inl ⟨k,(E i x v t Q).trans z⟩
  .exact .inr ⟨k,c,z,y.sameBut L<|I.cne x c z⟩
 .obtain⟨v,z⟩:=I.cell x c e;exact⟨v,z.sameBut L<|I.cne x c e⟩
 .obtain⟨e,n,ne,K,d⟩:=I.pin p F;exact⟨oth _ _ ne e,n,ne,K,d⟩
 .refine(I.hok b u e).stay (λc v M q=>oth c v (λz=>?_) q) (λ_ q=>q) λ_ _ q=>q;subst z;rcases M with z|z
  .subst z;rw[I.free] at e;cases e
  .rw[I.free] at z;cases z
def Cx.mark(X:Cx)(e:iO)(E:jw):Cx:={X with A:=X.A.mark<|C e,calm:=Y,xe:=E}
def Inv.mark(U:Inv X f h H s)(e:iO)(E:jw):Inv (X.mark e E) f h H s:=
 ⟨⟨U.ok.mod,U.ok.kind,U.ok.glob,U.ok.blt,U.ok.above,U.ok.inj,U.ok.has,U.ok.cab,(λz=>by cases z),U.ok.frames,U.ok.stk,U.ok.exf,U.ok.bs,U.ok.bsz,U.ok.noex,U.ok.exfs,U.ok.funs,U.ok.frf⟩,U.os,U.bare,U.base,U.loc,U.cell,U.free,U.freeC,U.pin,U.hok,U.len⟩
def Inv.unmark{e:iO}{E:jw}(U:Inv (X.mark e E) f h H s)(hd:X.calm=J->X.A.handled=I):Inv X f h H s:=
 ⟨⟨U.ok.mod,U.ok.kind,U.ok.glob,U.ok.blt,U.ok.above,U.ok.inj,U.ok.has,U.ok.cab,hd,U.ok.frames,U.ok.stk,U.ok.exf,U.ok.bs,U.ok.bsz,U.ok.noex,U.ok.exfs,U.ok.funs,U.ok.frf⟩,U.os,U.bare,U.base,U.loc,U.cell,U.free,U.freeC,U.pin,U.hok,U.len⟩
end
def ObjOk.there{P:jd}{w:iW}{T:Hp}{h:ja}{a:iB}{o:HO}(x:ObjOk P w T h a o): ∃c,h.get? a=C c:=by
 cases o with
 |lst d=>obtain⟨_,_,_,_,e⟩:=x;exact⟨_,e⟩
 |tup d=>obtain⟨_,_,_,c,e,_⟩:=x;exact⟨_,e⟩
 |dK b=>obtain⟨_,_,_,_,o,_,_,e,_⟩:=x;exact⟨_,e⟩
 |dT b=>obtain⟨_,_,_,_,o,_,_,e,_⟩:=x;exact⟨_,e⟩
 |set S n=>obtain⟨o,_,_,_,e,_⟩:=x;exact⟨_,e⟩
 |stt k=>obtain⟨_,_,_,e,_⟩:=x;exact⟨_,e⟩
 |ins U g fs=>obtain⟨_,_,_,e,_⟩:=x;exact⟨_,e⟩
 |own y=>exact x
 |xd fs=>obtain⟨_,⟨_,_,_,e,_⟩,_⟩:=x;exact⟨_,e⟩
 |rng lo i=>obtain⟨_,_,_,e⟩:=x;exact⟨_,e⟩
 |frz c u=>exact⟨_,x.1⟩
 |tbl j=>obtain⟨_,_,_,_,e,_⟩:=x;exact⟨_,e⟩
 |met f y=>exact⟨_,x⟩
 |ext l=>exact x.2.1
section
variable {X:Cx}{c:jr}{g:St}{H d:Hp}{s s':iI}{C a:iB}{n B h':ja}{F:kG}{r:iO}
def Fly.inv(U:Inv X c g H s)(f:Fly X.prog X.w X.stack H s C d a s' n B F)(h:B.StaysIn h')(j:n.UpToSlots h'):Inv X c g d {s' with heap:=h'}:=by obtain⟨un,e⟩:=f.end U.frsOk h j;exact U.call' (s':={s' with heap:=h'}) f.os un e f.bare λb i=>absurd i (by simp)
def Fly.fresh(U:Inv X c g H s)(hex:X.ex=[])(f:Fly X.prog X.w X.stack H s C d a s' n B F):d a=I/\X.s₀.heap.get? a=I/\s.heap.get? a=I:=by
 have h:s.heap.get? a=I:=by
  cases e:s.heap.get? a with
  |none=>rfl
  |some o=>obtain⟨i,b⟩:=f.un.there a o e (by simp);rw[f.ne] at b;cases b
 refine⟨?_,?_,h⟩
 .cases e:d a with
  |none=>rfl
  |some o=>obtain⟨j,z⟩:=(f.hok a o e).there;rw[f.ne] at z;cases z
 .cases e:X.s₀.heap.get? a with
  |none=>rfl
  |some o=>obtain⟨i,b⟩:=U.base.there a o e (by rw[hex];simp);rw[h] at b;cases b
def aaw{E:XK}{e:iO}{xr xx t:aB}{CR:iB}{i j:Nat}{D:Ends}{p4 p5 p6 p7 p8:bB}(v9:X.stack=X.env::X.outer)(cq:X.env.frame=N2 X.env.locals)(hex:X.ex=[])(I:Inv X c g H s)(h:CXx X.prog X.w X.stack H s E e s')
  (hg:Gl X xr)(hm:X.mg xr=N2 (.ref CR))(l7:(xr==("__debug__":aB))=Y)(cU: ∀C d,E (.ref C) Op d->exmOne X.K (.ref C) (.ref CR)=N2 O0)
  (hN:X.N.Nodup)(hi:X.N[i]?=N2 xx)(hj:X.N[j]?=N2 t)(o9:i≠j)(lx:X.env.scope.names.lookup xx=N2 .local)(U:X.env.scope.names.lookup t=N2 .local)(gM:(t==("__debug__":aB))=Y)(gO:(t==("__classdict__":aB))=Y)
  (bQ:b6 (.Name t p6) (N2<|.Name xx p5) p7.line X.env=pure Y)
  (k: ∀C d a o,E (.ref C) Op d->d a=Op->o.cls= .ref C->D.nx ((g.set j Op).set i<|N2<|.ref a) (upd d a<|.frz o<|.own 0)):
  ah (ai X.prog X.w) X.A (gQ e X.env) (λ_ Y'=>ah (ai X.prog X.w) X.A (setFlight e Op) (λ_ s₃=>ah (ai X.prog X.w) X.A (handleBy e X.env [.ExceptHandler (N2<|.Name xr p4) (N2 t) [.Assign [.Name xx p5] (.Name t p6) p7] p8]) (SP X c D) X.xe s₃) X.xe Y') X.xe s':=by
 obtain⟨C,d,a,n,B,F,rfl,f,q⟩:=h;obtain⟨r,V⟩:=f.fl;obtain⟨n1,n2,n3⟩:=f.fresh I hex;rw[v9] at V;have fD:i<(Ps g):=by rw[I.len];exact(rQ.mp hi).1
 have gw:j<(Ps g):=by rw[I.len];exact(rQ.mp hj).1
 have bY:(X.env.scope.kind== .class||(X.env.scope.kind== .module&&X.env.locals !=X.env.globals))=Y:=by rw[I.ok.kind];rfl
 refine wpAny_looks_onW (I.ok.frames.trans<|by rw[v9]) cq V λh2 J bu=>?_;refine wpAny_landsW J λh3 hG dE=>?_;have I3:Inv X c g d {s' with heap:=h3}:=f.inv I hG.1<|f.up.trans<|bu.trans dE;obtain⟨ob3,he3,hc3⟩:=hG.there;refine wpAny_handleBy_cons (codeAny_handlers_test ?_) (by intro q;cases q);refine wN (X:=X.mark (.ref a) λ_ _=>False) (I3.mark _ _) hg hm ?_ l7;refine(exm_one (M:=ai X.prog X.w) I3.kIn (hc3▸(Looks.ld he3).andThen .now)<|cU C d q).here ?_;refine codeAny_handlers_suite_as ?_;obtain⟨g1,g2,g3,g4⟩:=id hG;refine wpAny_setFlight_noneW g1 g3 g4 λh4 k1 k2 k3 k4=>?_;have up4:h3.UpToSlots h4:=λb o hb W=>⟨o.slots,k4 b o hb W⟩
 have I4:Inv X c g d {s' with heap:=h4}:=f.inv I k1<|f.up.trans<|bu.trans<|dE.trans up4;obtain⟨oe,vs,T,oT,ts,he,⟨y,_⟩,hd,_⟩:=id k3
 have I5:Inv X c g (upd d a<|.frz oe<|.own 0) {s' with heap:=h4}:=by
  refine I4.track n1 n2 he (λv z=>by rw[hd] at z;cases z) (λz=>?_) λp hp z=>?_
  .have:=I.lt;obtain⟨m,⟨o,_,_,ho,_⟩,_⟩:=id I.loc;rw[<-z,n3] at ho;cases ho
  .obtain⟨S,_⟩:=I.pin p hp;rw[z,n3] at S;cases S
 refine Ap I5 hN hj (.inl U) (v:= .ref a) O9 (λs6 I6=>?_)<|.inr U;have ps:=λE0:iO->Shared->Prop=>sU (X:=X.mark (.ref a) E0) (NN (X:=X.mark (.ref a) E0) hN hi (.inl lx) (AF (X:=X.mark (.ref a) E0) hj (.inl U) gM gO) bQ<|.inr lx)<|JE (X:=X.mark (.ref a) E0);refine thn (ps _ c s6 _ _ {nx:=λP H7=>P=(g.set j<|N2<|.ref a).set i (N2<|.ref a)/\H7=upd d a (.frz oe<|.own 0),rt:=λ_ _=>False} (I6.mark (.ref a) _) ⟨.ref a,by rw[oF gw],rfl,rfl⟩) λV s7 Z=>?_
 cases V with
 |ret u=>obtain⟨_,_,_,_,_,z⟩:=Z;exact z.elim
 |brk=>obtain⟨_,_,_,z⟩:=Z;exact z.elim
 |cont=>obtain⟨_,_,_,z⟩:=Z;exact z.elim
 |next=>
  obtain⟨P,H7,R,rfl,rfl⟩:=Z;have R:=R.unmark I.ok.hd;obtain⟨m,W,_⟩:=id R.loc;refine iF<|wpAny_bindName<|MO U W (λh₁ L Q=>?_) bY;unfold unbindBehindTheSuite;refine zW ?_;unfold unbindName;refine iF<|J4<|iF ?_;unfold deleteName;have ln':X.env.kindOf t=N2 .local:=U;simp only[ln',bY];rw[je<|by decide];refine iF<|wpAny_nsDel_keeps L λh₂ v₂ O G=>?_;simp only[ky,eD,vo,kT,kI];refine iR<|J4 ⟨(g.set j Op).set i<|N2<|.ref a,_,R.names (Q.trans G) (by simp) (λl v z=>?_) λm0 hm0=>?_,k C d a oe q n1 y⟩
  .by_cases hl:l=i
   .subst hl;rw[oF<|by simpa using fD] at z ⊢;exact z
   .rw[oP<|nV hl] at z ⊢;by_cases aA:l=j
    .subst aA;rw[oF gw] at z;cases z
    .rw[oP<|nV aA] at z ⊢;exact z
  .refine⟨_,O,λl x v S e2=>?_⟩
   have hx:x≠t:=λz=>by subst z;have:=AV hN S hj;subst this;rw[oP o9,oF gw] at e2;cases e2
   simp only[hx,kI];obtain⟨o1,eK,ep1,z1,z2,_,z3⟩:=id W;obtain⟨o2,es2,ep2,y1,y2,_,y3⟩:=id hm0;rw[z1] at y1;cases y1;rw[z2] at y2;cases y2;exact(z3 x).symm.trans (y3 x)
end
end L2
namespace PX
open L2 PySem.SeqAt PySem.W
abbrev XS:=Dn->Option aB
def tZ(K:jb)(f:lp)(E:XK)(x:XS):L2.St->Hp->Prop:=λe Q=> ∃b T c,ER K Q T e b/\(∀a,¬OwnA e b a)/\x b=C c/\ ∀d U,(∀a o,Q a=C o->d a=C o)->f c=C (.ref U)->E (.ref U) I d
def PZ(X:Cx)(E:XK)(st:bv)(x:XS):Prop:=PS X st λ_=>tZ X.K X.mg E x
def PZs(X:Cx)(E:XK)(st:List bv)(x:XS):Prop:=PSs X st λ_=>tZ X.K X.mg E x
def PZE(X:Cx)(E:XK)(e:iK)(x:XS):Prop:=PE X e λa U _=>tZ X.K X.mg E x a U
def spR(K:jb)(f:lp)(h:List D->Option aB):Sp:=λg Q _ E=> ∃T e c,ER K Q T (g.map C) ((e.map λd=>(d,Y)).map C)/\h e=C c/\ ∀U b,(∀a o,Q a=C o->b a=C o)->f c=C (.ref U)->E (.ref U) I b
def xcF(n np:Nat)(x:XS):List D->Option Str:=λa=>if (Ps a)=np/\np<=n then x (((a.map λd=>(d,Y)).map C)++ac (n-np) I) else I
def rH(b:List D->Option aB)(fs:List FO):XS:=λc=>(kF fs c).bind λp=>(jZ p.2 p.1).bind λargs=>if(args.all λa=>!a.2)=J then b (args.map (·.1)) else I
def Hu(c:aB)(f:F):XS:=λa=>(f a).bind λ_=>C c
def Sr(a:Dn):Bool:=a.all λx=>match x with
 |some (_,J)=>Y
 |_=>J
def zIf(t:FT)(x y:XS):XS:=λa=>(t a).bind λp=>if Sr p.2=J then(if p.1=J then x p.2 else y p.2) else I
def zNo:XS:=λ_=>I
def Ka{b:Dn}(h:Sr b=J)(c:L2.St)(a:iB): ¬OwnA c b a:=λU=>by
 obtain⟨i,d,h1,_⟩:=U
 have:=lU.mp h _ (nB h1);simp at this
section
variable {X:Cx}{P:jd}{w:iW}{g:List dh}{L:Hp}{s0:iI}{E:XK}{A:jT}{st:bv}{m a b:List bv}{x y:XS}{e:iK}{i:bB}
def Zv:PZs X E m zNo:=λc s d T D U h=>by obtain⟨_,_,_,_,_,e,_⟩:=h;cases e
def HS:PSs X m λ_ _ _=>False:=λ_ _ _ _ _ _ h=>h.elim
def Ht(h:PZ X E st x):PZs X E (st::m) x:=PSs.imp' (sU h HS) λ_ _ _ h=>h
def Qy{z:aB}{U:iB}{a:iK}{f:F}{np N:bB}(O:XeOk X P w g L s0 E)(t:X.calm=J)(p:excIn X.K U veB "ValueError.__new__"=J)(j:X.mg z=C (.ref U))(u:Gl X z)(s:PX X a f)(hd:(z==("__debug__":aB))=Y)
  (B:ag [a] X.env=[(Y,aU a X.env)]):PZ X E (.Raise (C<|.Call (.Name z np) [a] [] N) I i) (Hu z f):=PS.imp' (NP O t p j u s hd B) λD G M h=>by
 obtain⟨Q,T,c,E0,no,e,k⟩:=h;obtain⟨⟨r,d⟩,h1,e⟩:=iA e;cases e;exact⟨Q,T,r,d,E0,h1,λv l n=>k l U (λa o q=>n.1.kp a o q<|no a) j⟩
def Zw{c:iK}{f:FT}(v:PTX X c f)(s:PZs X E a x)(u:PZs X E b y):PZ X E (.If c a b i) (zIf f x y):=PS.imp' (NS v s u) λD j M h=>by
 obtain⟨Q,T,c,E0,no,e,k⟩:=h;obtain⟨⟨t,d⟩,h1,e⟩:=iA e;dsimp only at e;split at e
 case isFalse=>cases e
 rename_i fz;refine⟨Q,T,t,d,E0,h1,λp r l=>?_⟩;have fin: ∀z:XS,z d=C c->tZ X.K X.mg E z j p:=λz N=>⟨d,T,c,l,Ka fz j,N,λn U O B=>k n U (λa o q=>O a o<|r.kp a o q<|no a) B⟩
 cases t with
 |true=>exact V0<|fin x (by simpa using e)
 |false=>exact V1<|fin y (by simpa using e)
variable {k:Nat}{f:iB}{u:mD}{n:ji}{l:List D->Option aB}{j:kh}{fs:List FO}{z:aB}{p:bB}
def T8(xk:XeOk X P w g L s0 E)(F:FnOk X.prog X.w X.K X.mg X.base (CXx P w) k f u n (spR X.K X.mg l))(hr:Room k X.A)(hg:Gl X z)(hm:X.mg z=N2 (.ref f))(hk:bU X.K (.ref f)=O0)(hb:Binds X.K u n [])
  (t:PA X (e::j) (tA X.K fs))(l7:(z==("__debug__":aB))=O1)(he:ag (e::j) X.env=(O1,aU e X.env)::ag j X.env)(i6:(bc i<|ag j X.env).any (·.1)=O1):
  PZE X E (.Call (.Name z p) (e::j) [] i) (rH l fs):=PE.imp' (JJ F hr hg hm hk hb (.nil) xk.pass t l7 he i6) λσ H Q h=>by
 obtain⟨δ,T,c,E0,no,e,S⟩:=h;obtain⟨⟨os,I⟩,h1,e⟩:=iA e;obtain⟨r,G,e⟩:=iA e;dsimp only at e G;split at e
 case isFalse=>cases e
 rename_i Y;refine⟨δ,T,os,I,E0,h1,λvs N T1 B=>?_⟩;show spR X.K X.mg l (vs++[]) N Q E;rw[uP]
 have J: ∀a∈r,a=(a.1,O1):=λa t=>by
  have:=lU.mp Y a t;obtain⟨d,f⟩:=a
  cases f with
  |false=>rfl
  |true=>cases this
 have v:r=(r.map (·.1)).map λd=>(d,O1):=by
  rw[kH]
  conv=>lhs;rw[<-uD r]
  exact uE λa t=>J a t
 have Z: ∀(os:List Opd) (s:List (D×Bool)),(∀a∈s,a=(a.1,O1))->jh os s=[]:=λos=>by
  induction os with
  |nil=>intro s _;cases s<;>simp[jh]
  |cons o os ih=>
   intro s h
   cases s with
   |nil=>simp[jh]
   |cons a s=>have U:=h a kg;obtain⟨d,f⟩:=a;cases U;cases o<;>simp[jh,ih s λa t=>h a<|kj _ t]
 have O:=zD E0 B G (by rw[Z os r J];exact lT);rw[v] at O;exact⟨_,r.map (·.1),c,O,e,λC M V R=>S M C (λa o q=>V a o<|B.keep.kp a o q<|no a) R⟩
end
def Sq{P:jd}{w:iW}{K:jb}{j:lp}{base:ja}{x qual:aB}{st:bv}{f:iB}{n:mD}{N b:ji}{k:Nat}{t:XS}(F:Fun K x qual st f n)(S:FnScope N b (iG st))
  (G: ∀(i:iO) (A:jf) (a:List dh) (s:iI) (H:Hp) (E:XK),Room k (A.deeper<|aV qual (iG st) s.heap.objs.size f i)->PZs (qd (CXx P w) P w K j base N qual (iG st) f i A a s H E) E (lH st) t):
  FnOk P w K j base (CXx P w) (k+1) f n b (spR K j<|xcF (Ps N) (Ps b) t):=by
 obtain⟨U,Y,kV,v,D,M,i,ct,R,e,lk,J⟩:=F.ex;subst e;refine Px lk J S (λr H Q E h=>?_) λA a s H r Q E I h=>?_
 .obtain⟨T,l,c,E0,e,_⟩:=h;unfold xcF at e;split at e
  case isFalse=>cases e
  rename_i q;have:=E0.len;simp at this;rw[this,q.1]
 .obtain⟨T,l,c,E0,e,L⟩:=h;unfold xcF at e;split at e
  case isFalse=>cases e
  rename_i q;have o:=E0.len;simp at o;refine⟨_,G i A a s H E I,((l.map λd=>(d,O1)).map N2)++ac (Ps N-Ps b) Op,T,c,?_,?_,e,λu C O y=>L C u O y⟩
  .have:=E0.pad (m:=Ps N-Ps b);unfold L2.pQ;rw[show (Ps r)=(Ps b) by rw[o,q.1]];exact this
  .refine Ka ?_ _;unfold Sr;rw[lU];intro z g;rcases pJ.mp g with g|g
   .obtain⟨p,B,rfl⟩:=my.mp g;obtain⟨d,_,rfl⟩:=my.mp B;rfl
   .rw[(List.mem_replicate.mp g).2]
end PX
namespace L2
open PySem.W
def YZ{CX:CXT}{P:jd}{w:iW}{K:Frag}{B:lp}{base:ja}{k:Nat}{f:iB}{j qual:aB}{c:cI}{d:List bv}{scope:jJ}{Y kV p pm l ct oc:iO}{U od:Option iB}
  {v5:uC}{N C:ji}{A:jf}{a:List dh}{s:iI}{H:Hp}{i:Args}{us:jD}{vs:List V}{Q:VK}{E:XK}(lk:K.lookup f=N2 ⟨oc,od,.func<|fnOf j qual c d scope Y kV p pm U l ct,v5⟩)(t8:codeIn K l qual=O0)(S:FnScope N C scope)
  (L:Room (k+1) A)(z:Env0 P w K B base A a s H)(hb:fM s (fnOf j qual c d scope Y kV p pm U l ct) i (C.zip us))(r:Vals vs us)(hl:(Ps vs)=Ps C)
  (m9:Room k (A.deeper<|aV qual scope s.heap.objs.size f l)-> ∃t,PSs (qd CX P w K B base N qual scope f l A a s H E) d t/\t {nx:=λ_ h=>Q .non h,rt:=Q} (pQ N vs) H):
  cR (ai P w) A (.call (.ref f) i) (CR CX a P w H s Q E) s:=by
 have M:K.In s.heap:=z.mod.kin.keeps λb o e=>(z.bs b o e).1;have O:s.heap.NoLimit:=z.mod.nolimit.keeps λb o e=>(z.bs b o e).1
 have D: ∀y∈C.zip us,scope.names.lookup y.1=N2 .local\/(scope.names.lookup y.1=N2 .cell/\((br (s.heap.objs.size+1) scope.names []).lookup y.1).isSome=O0):=λ⟨n,v⟩ hy=>by
  rcases S.par n (yb hy).1 with q|q
  .exact .inl q
  .exact .inr ⟨q,cellsFrom_some _ _ _ (.inl q)⟩
 refine MI L.depth (M _ _ lk) O9 S.co S.gen O9 (codeRec_of M t8)<|hb _ _ _ _ ?_;refine MH S.kind D λF W s1 x=>?_;subst W;refine⟨O.keeps x.toInCall.keep,Go ?_⟩;obtain⟨t,Z,X⟩:=m9<|L.deeper _;have I:Inv (qd CX P w K B base N qual scope f l A a s H E) [] (pQ N vs) H s1:=CQ S L.hd z hl r x;refine oE (Z [] s1 (pQ N vs) H _ I X) (λR G m=>?_) λe G m=>m
 have fin: ∀{g:St} {h:Hp} {v:V} {u:iO},Inv (qd CX P w K B base N qual scope f l A a s H E) [] g h G->RelV v u->Q v h->CE a P w H s Q u G:=
  λ{g h v u} J T q=>⟨v,h,J.os,J.bare,J.base,J.hok,T,q⟩
 cases R with
 |ret u=>obtain⟨v,g,h,J,T,q⟩:=m;exact fin J T q
 |next=>obtain⟨g,h,J,q⟩:=m;exact fin (v:=V.non) (u:=au) J O9 q
 |brk=>obtain⟨_,_,_,q⟩:=m;exact aZ q
 |cont=>obtain⟨_,_,_,q⟩:=m;exact aZ q
section
variable {fs:kG}{N:ji}{scope:jJ}{d:kX}{j:St}{H g:Hp}{h h':ja}{q:aB}{a:cI}{b:iK}{f:iB}
def LamCells.keep(U:LamCells N scope d j H h)(u:Un fs [] H g h h')(n: ∀x c,d.lookup x=C c->c∉fs):LamCells N scope d j g h':=by
 have p: ∀{x c v},d.lookup x=C c->h.IsCell c v->h'.IsCell c v:=λ{x c v} e z=>by obtain⟨o,k,l⟩:=z;exact⟨o,u.keep c o k (U.cell x c e).2 (n x c e)<|by simp,l⟩
 refine⟨U.inj,U.has,λx c e=>?_,λi x v h1 s=>?_,U.len⟩
 .obtain⟨⟨v,o,k,l⟩,y⟩:=U.cell x c e;exact⟨⟨v,p e ⟨o,k,l⟩⟩,u.free c o k y<|by simp⟩
 .obtain⟨t,c,w,m,A,r⟩:=U.val i x v h1 s;exact⟨t,c,w,m,p m A,r⟩
def LamAt.keep(L:LamAt q a b scope d H h f)(u:Un fs [] H g h h')(n:f∉fs):LamAt q a b scope d g h' f:=by obtain⟨l,c,m,e,k,w,o,t,h1,i⟩:=L.fn;exact⟨⟨l,c,m,u.keep f _ e L.un n (by simp),k,w,o,t,u.frzs _ _ _ h1,i⟩,u.free f _ e L.un (by simp)⟩
end
section
variable {X:Cx}{N:ji}{scope:jJ}{b8:kX}{σl:St}{q:aB}{params:cI}{body:iK}{fl:iB}{k:Nat}{t:XK->TE}
structure LamIn(X:Cx)(N:ji)(scope:jJ)(b8:kX)(σl:St)(q:aB)(params:cI)(body:iK)(fl:iB)(k:Nat)(t:XK->TE):Prop where
 sc:LamScope scope
 cel:LamCells N scope b8 σl X.H₀ X.s₀.heap
 lam:LamAt q params body scope b8 X.H₀ X.s₀.heap fl
 nfl:fl∉X.fs
 ncl: ∀x c,b8.lookup x=N2 c->c∉X.fs
 bnd: ∀pm c' q9,eR (kla_fn "<lambda>" q params body scope b8 pm (.ref c') q9) ⟨[],[]⟩=pure []
 run: ∀(E:XK) (c':iB) (s:iI) (H:Hp),Room k (X.A.deeper<|Bq q scope s.heap.objs.size fl (.ref c') b8)->PE (tL (CXx X.prog X.w) X.prog X.w X.K X.mg X.base N q scope fl (.ref c') b8 X.A X.stack s H E) body (t E)
def Vi{g y B b:aB}{CR:iB}{l i j:Nat}{J M U p4 Y p6 p7 p8 p9:bB}(L:LamIn X N scope b8 σl q params body fl k t)(v9:X.stack=X.env::X.outer)(cq:X.env.frame=C X.env.locals)(hex:X.ex=[])(hr:Room (k+1) X.A)
  (hc:X.N[l]?=C g)(vc:Vis X.env.scope g)(dw:(g==("__debug__":aB))=O1)(fH:(g==("__classdict__":aB))=O1)
  (cE:b6 (.Call (.Name g J) [] [] M) Op U.line X.env=pure O1)
  (hg:Gl X y)(hm:X.mg y=C (.ref CR))(l7:(y==("__debug__":aB))=O1)
  (hN:X.N.Nodup)(hi:X.N[i]?=C B)(hj:X.N[j]?=C b)(o9:i≠j)(lx:X.env.scope.names.lookup B=C .local)(ln:X.env.scope.names.lookup b=C .local)(gM:(b==("__debug__":aB))=O1)(gO:(b==("__classdict__":aB))=O1)
  (bQ:b6 (.Name b p6) (C<|.Name B Y) p7.line X.env=pure O1):
  PS X (.Try [.Expr (.Call (.Name g J) [] [] M) U] [.ExceptHandler (C<|.Name y p4) (C b) [.Assign [.Name B Y] (.Name b p6) p7] p8] [] [] p9)
   (λD c H'=>c[l]?=C (C<|.ref fl)/\ ∃E:XK,t E σl H' (λ_ a=>D.nx c a)/\(∀C' a,E (.ref C') Op a->exmOne X.K (.ref C') (.ref CR)=C O0)/\
    ∀C' a O o,E (.ref C') Op a->a O=Op->o.cls= .ref C'->D.nx ((c.set j Op).set i<|C<|.ref O) (upd a O<|.frz o<|.own 0)):=by
 intro p s c H' D I h;obtain⟨W,E,ht,S,hk⟩:=h;have un:Un X.fs [] X.H₀ H' X.s₀.heap s.heap:=by have:=I.base;rwa [hex] at this
 have C1:=L.cel.keep un L.ncl;have L1:=L.lam.keep un L.nfl;refine wpAny_Try_except ?_;refine rc<|wv ?_ I.quiet cE;refine vF ?_;refine oE (AF (X:=X.nox) hc vc dw fH p s c H' (λv a=>v= .ref fl/\a=H') (I.wish _) ⟨.ref fl,W,rfl,rfl⟩) (λf s1 Z=>?_) λ_ _ z=>aZ z;obtain⟨v,T,d,rv,rfl,rfl⟩:=Z;cases rv;have d:=d.unwish;have x:Un X.fs [] X.H₀ T X.s₀.heap s1.heap:=by have:=d.base;rwa [hex] at this
 have F:=L.cel.keep x L.ncl;have m:=L.lam.keep x L.nfl;obtain⟨pm,G,q9,e,_⟩:=id m.fn;refine callWith_F0 ⟨_,_,_,_,e⟩<|DM<|sm (Sb (CX:=CXx X.prog X.w) (E:=E) (t:=t E) (Q:=λ_ a=>D.nx c a) L.sc hr d.env0 F m L.bnd (λG V=>L.run E G s1 T V) ht) λr s2 n=>?_
 cases r with
 |error e=>exact aaw v9 cq hex d n hg hm l7 S hN hi hj o9 lx ln gM gO bQ hk
 |ok f=>
  cases f with
  |next=>exact aZ n
  |brk=>exact aZ n
  |cont=>exact aZ n
  |ret u=>obtain⟨v,P,R,_,qq⟩:=d.after n;exact Ag<|Ag ⟨c,P,R,qq⟩
end
end L2
namespace PX
open L2 PySem.SeqAt PySem.W
def sim:D->Bool
 | .non| .bl _| .int _| .str _=>J
 |_=>Y
def Js{K c:Frag}{U a:Hp}{O e:AP'}{d:D}{v:V}(h:sim d=J)(r:Rep K U O d v):Rep c a e d v:=by
 cases d with
 |non=>rw[Rep] at r ⊢;exact r
 |bl b=>rw[Rep] at r ⊢;exact r
 |int b=>rw[Rep] at r ⊢;exact r
 |str b=>rw[Rep] at r ⊢;exact r
 |_=>cases h
def yM(n i:Nat)(fs:FS)(d:D):Option D:=match fs ((ac n I).set i<|C (d,Y)) with
 |some (.rt (r,Y) _)=>if sim r=J then C r else I
 |_=>I
def yD(b:jL)(f:F)(x:XS)(n i:Nat)(fs:FS)(g:aB->Option Nat):F:=λe=>(jZ e<|b.map .slot).bind λargs=>if(args.all λa=>!a.2)=J then
  (match f (args.map C) with
   |some _=>yM n i fs .non
   |none=>(x<|args.map C).bind λc=>(g c).bind λU=>yM n i fs<|.oth (.exc U) [] []).bind λd=>C ((d,Y),e)
 else I
def zy{n i:Nat}{d:D}(c:L2.St)(a:iB): ¬OwnA c ((ac n I).set i<|C (d,Y)) a:=λU=>by
 obtain⟨j,e,h1,_⟩:=U
 by_cases b:j=i
 .subst b;rw[Aa] at h1;split at h1
  .split at h1<;>simp at h1
  .rename_i z;exact z H
 .rw[oP<|nV b,wt] at h1;split at h1<;>cases h1
def Wj{K:Frag}{U:Hp}{f:L2.St}{n i:Nat}{d:D}{v:V}(o:(Ps f)=n)(k:f[i]?=C (C v))(r:Rep K U (λ_=>False) d v):ER K U (λ_=>False) f ((ac n I).set i<|C (d,Y)):=by
 have c: ∀{j:Nat} {e:D} {b:Bool},((ac n I).set i<|C (d,Y))[j]?=C (C (e,b))->j=i/\e=d/\b=Y:=λ{j e b} h=>by
  by_cases m:j=i
  .subst m;rw[oF<|by rw[MJ,<-o];exact(rQ.mp k).1] at h;cases h;exact⟨rfl,rfl,rfl⟩
  .rw[oP<|nV m,wt] at h;split at h<;>cases h
 refine⟨by simp[o],λj e h=>?_,λj e h=>?_,λj l e g a h=>?_,λa z=>absurd z<|zy f a,λ_ z=>z.elim⟩
 .obtain⟨rfl,rfl,_⟩:=c h;exact⟨v,k,Rep.mono (λ_ _ e _=>e) (λb _ z=>z.elim (zy f b) id) r⟩
 .obtain⟨_,_,z⟩:=c h;cases z
 .obtain⟨_,_,z⟩:=c h;cases z
structure ClK(K:Frag)(C CR:iB):Prop where
 k:ExcK K C
 ty: ∀n∈["int","bool","str","tuple","list","dict"],kitOne K (.ref C) (.type n)=N2 O1
 up:exmOne K (.ref C) (.ref CR)=N2 O0
def Sv{b:List (D×Bool)}(h:(b.all λa=>!a.2)=J): ∀a∈b,a=(a.1,Y):=λa c=>by
 have:=lU.mp h a c;obtain⟨d,f⟩:=a
 cases f with
 |false=>rfl
 |true=>cases this
theorem Ga: ∀(os:List Opd) (b:List (D×Bool)),(∀a∈b,a=(a.1,Y))->jh os b=[]
 |[],b,_=>by cases b<;>simp[jh]
 |o::os,[],_=>by simp[jh]
 |o::os,a::b,h=>by have c:=h a kg;obtain⟨d,f⟩:=a;cases c;cases o<;>simp[jh,Ga os b λa e=>h a<|kj _ e]
def Wc{b:List (D×Bool)}(h: ∀a∈b,a=(a.1,Y))(f:L2.St)(a:iB): ¬OwnA f (b.map C) a:=λU=>by
 obtain⟨i,d,h1,_⟩:=U
 rw[ki] at h1;obtain⟨p,c,e⟩:=ju h1;cases e;have:=h _ (nB c);simp at this
section
variable {X:Cx}
def PE.or{e:iK}{t u:TE}(h1:PE X e t)(c:PE X e u):PE X e λb T Q=>t b T Q\/u b T Q:=λa s b T Q U h=>h.elim (h1 a s b T Q U)<|c a s b T Q U
def P6{T:AP'}{g:L2.St}{l:Dn}{U:Hp}{d:jL}{f:List (D×Bool)}{K:Frag}(m:ER K U T g l)(r:jZ l (d.map .slot)=C f):
  ∃vs:List V,D8 d 0 g=vs.map C/\Ops K T g l U (d.map Opd.slot) vs l U T:=by
 obtain⟨u,s⟩:=pH r
 have there: ∀(i j:Nat),d[i]?=C j-> ∃v,g[j]?=C (C v):=λi j e=>by
  have t:i<(Ps f):=by have:=(rQ.mp e).1;simp at u;lia
  obtain⟨o,q,k⟩:=s i _ (jA t);rw[ki,e] at q;cases q;have n:=qA k;generalize f[i]=y at n;obtain⟨x,b⟩:=y
  cases b with
  |false=>obtain⟨v,h,_⟩:=m.val j x n;exact⟨v,h⟩
  |true=>obtain⟨a,h,_⟩:=m.own j x n;exact⟨_,h⟩
 refine⟨d.map λj=>((g[j]?).join).getD .non,?_,by simp,.refl,m,λ_ z=>z,λj x v e=>?_,λj x v e=>?_,λj i v e hv=>?_⟩
 .unfold D8;rw[c3,uP];apply xP;intro i;rw[ki,ki,ki]
  cases e:d[i]? with
  |none=>rfl
  |some j=>obtain⟨v,hv⟩:=there i j e;simp[hv]
 .rw[ki] at e;obtain⟨_,_,z⟩:=ju e;cases z
 .rw[ki] at e;obtain⟨_,_,z⟩:=ju e;cases z
 .rw[ki] at e;obtain⟨c,p,z⟩:=ju e;cases z;obtain⟨w,k⟩:=there j i p;rw[ki,p] at hv;simp[k] at hv;rw[k,hv]
end
section
variable {X:Cx}{Pt c:iB}{params:cI}{body:iK}{scope:jJ}{pos y4 pf:bB}{caps:jL}{N' NR:ji}{fB:F}{xB:XS}{bp:FS}{CI:aB->Option Nat}{asg:jL}{st:bv}{fr:iB}{dz:mD}{xf xc xr xx xn:aB}{CR:iB}{i j k:Nat}
structure RefBody(X:Cx)(st:bv)(NR:ji)(fr:iB)(xf xc xr xx xn:aB)(CR:iB)(i j k:Nat)(asg:jL)(bp:FS):Prop where
 sc:FnScope NR [xc] (iG st)
 as0:0∉asg
 hi:NR[i]?=N2 xx
 hj:NR[j]?=N2 xn
 ij:i≠j
 j0:j≠0
 lc:(iG st).names.lookup xc=N2 .local
 lx:(iG st).names.lookup xx=N2 .local
 ln:(iG st).names.lookup xn=N2 .local
 gl:(iG st).names.lookup xr=N2 .globalImplicit
 mg:X.mg xr=N2 (.ref CR)
 db:(xc==("__debug__":aB))=O1/\(xc==("__classdict__":aB))=O1/\(xn==("__debug__":aB))=O1/\(xn==("__classdict__":aB))=O1/\(xr==("__debug__":aB))=O1
 body: ∃p1 p2 p3 p4 p5 p6 p7 p8 p9 S1 jG,lH st=S1:: .Try [.Expr (.Call (.Name xc p1) [] [] p2) p3] [.ExceptHandler (N2<|.Name xr p4) (N2 xn) [.Assign [.Name xx p5] (.Name xn p6) p7] p8] [] [] p9::jG/\
  ∀(b7:iO) (A:jf) (outer:List dh) (s:iI) (H:Hp) (L:jT),(∀i,L i->i<1)->Room k (A.deeper<|aV xf (iG st) s.heap.objs.size fr b7)->
   b6 (.Call (.Name xc p1) [] [] p2) Op p3.line (aV xf (iG st) s.heap.objs.size fr b7)=pure O1/\b6 (.Name xn p6) (N2<|.Name xx p5) p7.line (aV xf (iG st) s.heap.objs.size fr b7)=pure O1/\
   PSX (qd CX0 X.prog X.w X.K X.mg X.base NR xf (iG st) fr b7 A outer s H L2.E0).nox (λi=>i∈asg) L H S1 (kL i<|fC .non)/\Jc (qd CX0 X.prog X.w X.K X.mg X.base NR xf (iG st) fr b7 A outer s H L2.E0).nox (λi=>i∈asg) L H jG bp
def U8{more:mY}(R:RefBody X st NR fr xf xc xr xx xn CR i j (k+1) asg bp)(F:Fun X.K xf xf st fr dz)(gR:Binds X.K dz [xc] [])(gB:Gl X xf)(hmf:X.mg xf=N2 (.ref fr))(cV:(xf==("__debug__":aB))=O1)
  (cS: ∀x,X.fn x=O0)(hr:Room (k+2) X.A)(hTb:X.H₀ Pt=N2 (.tbl (#[.str (X.env.qual++"<lambda>") 0]++more)))(t8:X.env.code= .ref c)(C:CodeHd X.base c Pt)(hB:X.base.BuiltinsAt X.mg Pt)(gC:am≠Pt)
  (CO:CompOk X N' scope caps 0)(LS:LamScope scope)(bg:n7 params X.env=([],[]))(p0: ∀b8 pm J q9,eR (kla_fn "<lambda>" (X.env.qual++"<lambda>") params body scope b8 pm (.ref J) q9) ⟨[],[]⟩=pure [])
  (he:ag [.Lambda params body scope y4] X.env=(O1,aU (.Lambda params body scope y4) X.env)::ag [] X.env)(i6:(bc pos<|ag [] X.env).any (·.1)=O1)
  (gY: ∀z C0,CI z=N2 C0->X.mg z=N2 (.ref C0)/\ClK X.K C0 CR)
  (hb: ∀(B:iB) (b8:kX) (J:iB) (A:jf) (N:List dh) (s:iI) (H:Hp) (E:XK),Room k (A.deeper<|Bq (X.env.qual++"<lambda>") scope s.heap.objs.size B (.ref J) b8)->
   PX (tL (CXx X.prog X.w) X.prog X.w X.K X.mg X.base N' (X.env.qual++"<lambda>") scope B (.ref J) b8 A N s H E) body fB/\PZE (tL (CXx X.prog X.w) X.prog X.w X.K X.mg X.base N' (X.env.qual++"<lambda>") scope B (.ref J) b8 A N s H E) E body xB):
  PX X (.Call (.Name xf pf) [.Lambda params body scope y4] [] pos) (yD caps fB xB (Ps NR) i bp CI):=by
 intro pins s g H Q I hw;obtain⟨U,T,r,δ',E1,e,kq⟩:=hw;obtain⟨t,ha,e⟩:=iA e;split at e
 case isFalse=>cases e
 rename_i hfz;have du:=Sv hfz;obtain⟨d,hd,e⟩:=iA e;obtain⟨rfl,rfl⟩:=jc e;obtain⟨vs,gi,B0⟩:=P6 E1 ha;have nd0:=Ga (caps.map Opd.slot) t du;have Ec:=zD E1 B0 ha (by rw[nd0];exact lT);obtain⟨S,hclo,k7,l5⟩:=rA X.env scope λx hx hf=>I.ok.has x.1<|CO.free x hx hf;obtain⟨more2,hP⟩:=I.base.tbls Pt _ hTb;rw[Hr] at hP;refine vF<|wN I gB hmf ?_ cV;refine callWith_K (h₀:=X.base) I.ok.mod.kin F.kp ?_ he i6;rw[he];show ah _ _ (Fk ((O1,aU (.Lambda params body scope y4) X.env)::bc pos (ag [] X.env))) _ _ s;refine Ho<|OS I hP t8 C hB gC hclo bg λs1 Y B P up L kp fr0 new=>?_;refine Hq ⟨P.kIn,?_⟩
 have nst: ∀x c,S.lookup x=N2 c->c∉frs X.stack:=λx c e z=>by
  rcases lz.mp (I.stkSub c z) with q|q
  .exact I.cne x c (k7 x c e) q
  .obtain⟨_,o,ho,_⟩:=I.ok.funs.mem q;exact absurd (ke ho)<|Qw.mpr<|I.ok.cab x c (cS x)<|k7 x c e
 have nfl:B∉frs X.stack:=λz=>by obtain⟨_,o,ho,_⟩:=I.stack.mem z;rw[new] at ho;cases ho
 have LC:LamCells N' scope S (vs.map N2) Y s1.heap:=by
  rw[<-gi];refine⟨λx y c h1 h2=>I.ok.inj x y c (k7 x c h1)<|k7 y c h2,λx hx=>l5 x<|qi hx,λx c h=>⟨P.cell x c<|k7 x c h,P.freeC x c<|k7 x c h⟩,λl x v h1 h2=>?_,CO.sco.len g⟩;obtain⟨hf,jj,hj,hv⟩:=CO.sco.pre g l v x h2 h1;refine⟨hf,?_⟩;obtain⟨m,hn,hl⟩:=P.loc;have n8:=CO.free (x,.free) (qi hf) O9;obtain⟨u,r,q⟩:=hl jj x v hj hv (by rcases n8 with z|z;exact .inr<|.inl z;exact .inr<|.inr z);rcases q with⟨gu,_⟩|⟨_,c,hc,k8⟩
  .have ba:X.env.scope.names.lookup x=N2 .local:=gu;rcases n8 with z|z<;>(have z':X.env.scope.names.lookup x=_:=z;rw[ba] at z';cases z')
  .obtain⟨J,bG⟩:=l5 x<|qi hf;have:=k7 x J bG;rw[hc] at this;cases this;exact⟨c,u,bG,k8,r⟩
 have noT: ∀(g:L2.St) (a:iB),¬OwnA g (t.map N2) a:=Wc du;obtain⟨oc,od,kV,doc,pm,an,b7,ct,v5,rfl,lkr,hcdr⟩:=F.ex;have hbt:=gR s1 [.ref B] P.kIn O9;refine thn (DM<|sm (YZ (CX:=CX0) (E:=L2.E0) (Q:=λv p=>Post X.K T g U H (d,O1) U v p) (vs:=[.ref B]) lkr hcdr R.sc hr P.env0 hbt (.cons O9 .nil) O9 λdk=>?_) (R:=L2.CR CX0 X.stack X.prog X.w Y s1 (λv p=>Post X.K T g U H (d,O1) U v p) L2.E0) λrr s2 hq=>?_) (Q:=EP X pins g λv p=>Post X.K T g U H (d,O1) U v p) λv s2 ⟨x,G,I2,rx,q⟩=>⟨x,G,I2,rx,kq x G q⟩
 .obtain⟨p1,p2,p3,p4,p5,p6,p7,p8,p9,S1,jG,cb,hq⟩:=R.body;obtain⟨sw1,sw2,hS1,Z⟩:=hq b7 X.A X.stack s1 Y (λ_=>False) (λ_ z=>z.elim) dk
  have nl: ∀{n:Nat} {a:iB} {g:L2.St},¬OwnA g (ac n Op) a:=λ{n a g} a'=>by
   obtain⟨l,e,h1,_⟩:=a'
   rw[wt] at h1;split at h1<;>cases h1
  have hlen:(L2.pQ NR [V.ref B]).length=(Ps NR):=by
   have:1<=(Ps NR):=by have:=nD el R.sc.pre;rw[rG] at this;simp at this;lia
   unfold L2.pQ;simp;lia
  have fin: ∀(z:D) (G:Hp) (O:L2.St) (v0:V),yM (Ps NR) i bp z=N2 d->(∀a o,Y a=N2 o->G a=N2 o)->(∀a,Y a≠Op->G a≠Op)->Ps O=Ps NR->O[i]?=N2 (N2 v0)->Rep X.K G (λ_=>False) z v0->
    tS X.K (λi=>i∈asg) (λ_=>False) Y bp {nx:=λ_ p=>Post X.K T g U H (d,O1) U .non p,rt:=λv p=>Post X.K T g U H (d,O1) U v p} O G:=λz G O v0 ht W dm2 aA dq rz=>by
   unfold yM at ht;split at ht
   case h_2=>cases ht
   rename_i rr δr eA;obtain⟨hs,rfl⟩:=jl ht;refine⟨_,λ_=>False,_,Wj aA dq rz,⟨λl a ⟨d,h1,h2⟩=>absurd ⟨l,d,h1,h2⟩<|zy O a,dm2,λ_ _ z=>z⟩,eA,λv σ3 H3 S3 hrv=>?_⟩;have ext: ∀a o,H a=N2 o->H3 a=N2 o:=λa o q=>S3.kp a o (W a o<|up a o q)<|zy O a;exact⟨.ext ext,E1.mono (λb o q _=>ext b o q) (λ_ _ z=>z) λa z=>(E1.dom a z).up<|ext a,Js hs hrv.2⟩
  rw[cb];have Xs:=(qd CX0 X.prog X.w X.K X.mg X.base NR xf (iG st) fr b7 X.A X.stack s1 Y L2.E0).nox
  have run: ∀(E:XK) (J:iB) (s:iI) (H:Hp),Room k ((X.A.deeper<|aV xf (iG st) s1.heap.objs.size fr b7).deeper<|Bq (X.env.qual++"<lambda>") scope s.heap.objs.size B (.ref J) S)->
    PE (tL (CXx X.prog X.w) X.prog X.w X.K X.mg X.base N' (X.env.qual++"<lambda>") scope B (.ref J) S (X.A.deeper<|aV xf (iG st) s1.heap.objs.size fr b7) (aV xf (iG st) s1.heap.objs.size fr b7::X.stack) s H E) body (λg H Q=>tF X.K fB g H Q\/tZ X.K X.mg E xB g H):=λE J s H gn=>
   let⟨h1,h2⟩:=hb B S J _ _ s H E gn
   PE.or h1 h2
  have LI:LamIn (qd CX0 X.prog X.w X.K X.mg X.base NR xf (iG st) fr b7 X.A X.stack s1 Y L2.E0).nox N' scope S (vs.map N2) (X.env.qual++"<lambda>") params body B k (λE g H Q=>tF X.K fB g H Q\/tZ X.K X.mg E xB g H):=⟨LS,LC,L,nfl,nst,p0 S,run⟩
  have h0:NR[0]?=N2 xc:=by have:=nD (λl=>l[0]?) R.sc.pre;simpa using this
  have pt:=Vi (p4:=p4) (p8:=p8) (p9:=p9) LI O9 O9 O9 dk h0 (.inl R.lc) R.db.1 R.db.2.1 sw1 R.gl R.mg R.db.2.2.2.2 R.sc.nd R.hi R.hj R.ij R.lx R.ln R.db.2.2.1 R.db.2.2.2.1 sw2;refine⟨_,(sU hS1<|sU pt Z).nox,?_⟩;have gy:i<(Ps NR):=(rQ.mp R.hi).1;refine⟨ac (Ps NR) Op,λ_=>False,.nx<|(ac (Ps NR) Op).set i<|N2 (.non,O1),⟨by simp[hlen],λl d h=>?_,λl d h=>?_,λl m d e a h=>?_,λa z=>absurd z nl,λ_ z=>z.elim⟩,⟨λl a ⟨d,h1,h2⟩=>absurd ⟨l,d,h1,h2⟩ nl,λ_ z=>z,λ_ _ z=>z⟩,?_,λσ1 G K1 ER1=>?_⟩
  .rw[wt] at h;split at h<;>cases h
  .rw[wt] at h;split at h<;>cases h
  .rw[wt] at h;split at h<;>cases h
  .show(if i<(ac (Ps NR) (Op:Sl)).length then N2 (Out.nx _) else Op)=_;rw[iT<|by simpa using gy]
  .have W: ∀a o,Y a=N2 o->G a=N2 o:=λa o q=>K1.kp a o q nl;have aX:(Ps σ1)=(Ps NR):=by have:=ER1.len;simpa using this
   have hs0:σ1[0]?=N2 (N2<|V.ref B):=by rw[K1.as 0 R.as0];unfold L2.pQ;rfl
   have Ec2:ER X.K G (Tc T g U vs t) (vs.map N2) (t.map N2):=Ec.mono (λb o q _=>W b o<|up b o q) (λ_ _ z=>z) λa z=>(Ec.dom a z).up λo q=>W a o<|up a o q;split at hd
   ·
    rename_i z hz;refine⟨hs0,λ_ _ _=>False,.inl ⟨_,_,z.1,z.2,Ec2,hz,λv H3 P3=>?_⟩,λ_ _ z=>z.elim,λ_ _ _ _ z=>z.elim⟩;obtain⟨v0,fk,dJ⟩:=ER1.val i .non (by rw[oF<|by simpa using gy]);refine fin .non H3 σ1 v0 hd (λa o q=>P3.1.kp a o (W a o q)<|noT _ a) (λa q=>P3.1.dm a<|K1.dm a q) aX fk<|Js O9 dJ
   ·
    obtain⟨cn,hx,hd⟩:=iA hd;obtain⟨C0,hC0,hd⟩:=iA hd;obtain⟨hmC,ck⟩:=gY cn C0 hC0;refine⟨hs0,λcls _ p=>cls= .ref C0/\ ∀a o,G a=N2 o->p a=N2 o,.inr ⟨_,_,cn,Ec2,noT _,hx,λp C' eV fA=>?_⟩,λC' p ⟨q,_⟩=>?_,λC' p ea o ⟨q,eV⟩ hn ho=>?_⟩
    .rw[hmC] at fA;cases fA;exact⟨rfl,eV⟩
    .cases q;exact ck.up
    .cases q;have dE: ∀a M,p a=N2 M->upd p ea (.frz o<|.own 0) a=N2 M:=λa M q=>by rw[jg<|ll q hn];exact q
     refine fin (.oth (.exc C0) [] []) _ _ (.ref ea) hd (λa M q=>dE a M<|eV a M<|W a M q) (λa q=>?_) (by simp[aX]) (by rw[oF<|by simpa[aX] using gy]) (Rep.mkOth (us:=[]) (λz=>z) ⟨⟨rfl,rfl,rfl⟩,o,jk,ho,λa=>OT ck.k ho,ck.ty⟩ RepL.nil)
     cases hh:Y a with
     |none=>exact absurd hh q
     |some M=>rw[dE a M<|eV a M<|W a M hh];simp
 .cases rr with
  |error e=>exact aZ hq
  |ok f=>
   cases f with
   |ret u=>exact P.after hq
   |_=>exact aZ hq
end
def iD:D->Int
 | .int i=>i
 |_=>0
def V4:D->Option (D×Bool)
 | .lst l=>if l.all isI=J then C (.int<|ig (λj=>iD<|l.getD j .non)<|Ps l,Y) else I
 |_=>I
theorem A8: ∀{c:jD} {b:iQ},dG c b-> ∃a:List (Int×m5),c=a.map (λp=>ef p.1 p.2)/\b=a.map (·.1)
 |_,_,.nil=>⟨[],rfl,rfl⟩
 |_,_,.cons n t r=>let⟨a,h1,d⟩:=A8 r;⟨(n,t)::a,by rw[h1];rfl,by rw[d];rfl⟩
theorem yO{f g:Nat->Int}: ∀n,(∀j,j<n->f j=g j)->ig f n=ig g n
 |0,_=>rfl
 |n+1,h=>by rw[ig,ig,yO n λj a=>h j<|by lia,h n<|by lia]
section
variable {X:Cx}
def LF(i:X.calm=O0):kR X (.builtin "sum") (rDn X.K<|g1 V4):=nN λe s J M x u Q O d z N B np hd b G=>by
 cases d with
 |lst l=>
  obtain⟨h,rfl⟩:=jl b;obtain⟨p,T,rfl,q,r⟩:=kO hd;cases B;obtain⟨t,v,y,_⟩:=N.list q;obtain⟨L,c,n⟩:=Yd h r v;obtain⟨f,g,a⟩:=A8 n;have k:X.A.handled=I:=N.ok.hd i
  have o:s.heap.IsList p (gm f.toArray):=by have:=y.isList;rw[g] at this;simpa[gm] using this
  refine sum_intListG k o λE U t' w=>?_;refine⟨.int<|ig (λj=>iD<|l.getD j .non)<|Ps l,M,N.kept (t':=U) w,⟨t',?_⟩,G.int⟩;have:(Ps l)=(Ps f):=by rw[c,a];simp
  rw[this,jx]
  congr 1
  refine yO _ λj m=>?_;rw[c,a];simp[gj,iD,qP,m]
 |_=>cases b
def Wf(l:List D):Option Nat:=(mP l).bind λbs=>bs.findIdx? id
def SF(i:Nat):F:=λa=>match a[i]? with
 |some (C (.lst l,J))=>(Wf l).bind λj=>if (Ps l)<=1000 then C ((.int j,Y),a) else I
 |_=>I
def aau(x:V)(b:List V)(U:Hp)(Q:VK):Prop:= ∃(l:iB) (a:List V) (bs:List Bool) (j:Nat),x= .ref l/\b=[.bl J]/\U l=C (.lst a)/\a=bs.map V.bl/\bs.findIdx? id=C j/\(Ps bs)<=1000/\Q (.int j) U
theorem Ji: ∀{bs:List Bool} {a:jD},Vals (bs.map V.bl) a->a=bs.map cK
 |[],_,.nil=>rfl
 |b::bs,_,.cons r t=>by cases r;rw[Ji t];rfl
def OD:MtM X "list.index" aau:=by
 intro c s J M x T v O Q N U B h;obtain⟨l,G,bs,j,rfl,rfl,g,rfl,k,E,q⟩:=h;cases U;obtain⟨u,rfl,w⟩:=B.one;cases w;obtain⟨z,p,n,r,a,e⟩:=N.lstM g;have i:=Ji r;subst i;obtain⟨h1,d,f⟩:=WD.mp k
 refine wm F.slot_list_index ⟨_,e,rfl⟩ F.entry_list_index (F.args_list_index_2 _ _)
  (list_indexAt l (bs.map cK).toArray n I #[] (.bool O0) (λy=>match y with| .bool b=>b|_=>Y) j (by simpa using h1) (by lia) (by simpa using d) (λm L t=>?_)) ⟨e,λy o=>?_,⟨.int j,M,N.tok _,⟨_,rfl⟩,q⟩⟩
 .have:=f m t;simpa using this
 .obtain⟨b,_,rfl⟩:=my.mp<|List.mem_toArray.mp o;have:=gF (A:=X.A.in1) (s:=s) b O0;cases b<;>simpa using this
variable {B w c o f:bB}{i:Nat}{x:aB}{g:Nat}
theorem Jz{K:jb}{U:Hp}{O:AP'}: ∀{l:List D} {bs:List Bool} {a:List V},mP l=C bs->RepL K U O l a->a=bs.map V.bl
 |[],bs,a,h,r=>by cases h;rw[RepL] at r;exact r
 | .bl b::l,bs,a,h,r=>by obtain⟨d,h1,rfl⟩:=ju h;rw[RepL] at r;obtain⟨v,k,rfl,e,j⟩:=r;rw[e.bl,Jz h1 j];rfl
theorem C8: ∀{l:List D} {bs:List Bool},mP l=C bs->Ps bs=Ps l
 |[],_,h=>by cases h;rfl
 | .bl b::l,_,h=>by obtain⟨a,h1,rfl⟩:=ju h;simp[C8 h1]
def NH(hv:PO X (.Name x w) (iC i))(G:ca (.Name x w) "index" X.env (aU (.Name x w) X.env)=aU (.Name x w) X.env)
  (U:((bc o<|ag [.Constant (.bool O0) g f] X.env).all (λx=>!x.1)&&(gr o<|eP [] X.env).all (λx=>x.1.isSome)&&decide ([Expr.Constant (.bool O0) g f].length+([]:List c8).length+(if([]:List c8).isEmpty then 0 else 1)<30))=O0)
  (O:(c.endLine==o.line)=O0)(s:ag [.Constant (.bool O0) g f] X.env=(O1,aU (.Constant (.bool O0) g f) X.env)::ag [] X.env)(L:(bc o<|ag [] X.env).any (·.1)=O1):
  PX X (.Call (.Attribute (.Name x w) "index" c) [.Constant (.bool O0) g f] [] o) (SF i):=
 PX.imp (Od Di PySem.F.slot_list_index PySem.F.type_list_index OD hv (nQ Tv sV s) G U O s L) λW H Q C=>by
 obtain⟨d,T,V,D,E,e,k⟩:=C;unfold SF at e;split at e
 .rename_i l m;obtain⟨j,n,e⟩:=iA e;obtain⟨bs,r,n⟩:=iA n;obtain⟨A,e⟩:=jl e;obtain⟨rfl,rfl⟩:=qR e;refine⟨d,T,.slot i,d,E,by unfold iC;rw[m],λv K P=>?_⟩;obtain⟨u,h,b⟩:=P;obtain⟨a,g1,z,g2,g3⟩:=h.own i _ m;rw[b] at g1;cases g1;refine⟨.inl ⟨rfl,z,SqL.of g2⟩,d,T,_,d,h,rfl,λy R q=>?_⟩;obtain⟨p,N⟩:=q.rep h;have I:=N.bl;subst I;obtain⟨S,t,Y,J,M⟩:=p.own i _ m;rw[b] at t;cases t;refine⟨_,Y,bs,j,rfl,rfl,J,Jz r M,n,by rw[C8 r];exact A,?_⟩;exact k _ _ (Post.val (u.trans q.1) p Rep.mkInt)
 .cases e
end
def zm(a:jL)(b:Nat):D->Option (D×Bool)
 | .oth (.exc U) _ _=>if a.contains U=J then C (.bl<|U==b,Y) else I
 |_=>I
def V7(a:jL):D->Option (D×Bool)
 | .oth (.exc U) _ _=>if a.contains U=J then C (.bl J,Y) else I
 |_=>I
section
variable {X:Cx}{e:iK}{fa:FO}{pos p p2:bB}{z:aB}{CL:jL}{D0:Nat}
def V3{g:D->Option (D×Bool)}{f:iO}{i:V}(M:RelV i f)(E: ∀l,RelV i l->l=f)(B: ∀d t,g d=C t-> ∃C' b j m,d= .oth (.exc C') j m/\t=(.bl b,O1)/\kitOne X.K (.ref C') f=C b):
  kR X (.builtin "isinstance") (λn H' Q=> ∃(O:AP') (d:D) (x:V) (b:Bool),n=[x,i]/\kM X.K H' O d x/\g d=C (.bl b,O1)/\Q (.bl b) H'):=by
 intro k s Y H' n T Q I r h;obtain⟨O,d,x,b,rfl,hd,c,q⟩:=h;obtain⟨u,U,rfl,L,v⟩:=Cj r;have:=E _ v;subst this;obtain⟨C',G,j,m,rfl,y,hk⟩:=B _ _ c;cases y;obtain⟨a,T,rfl,oth,_⟩:=oS hd;cases L;obtain⟨_,o,e,h1,A,J⟩:=oth;exact kia_one (A a) I.kIn (show ObjOk X.prog X.w H' s.heap a (.frz o<|.own 0) from I.hok a _ e).1 hk (λz=>nomatch z) λN=>⟨.bl _,H',I.tok _,rfl,q⟩
def JB{g:D->Option (D×Bool)}{w2:V}{h:iO}{a:iK}(w:PO X e fa)(c:PE X a (tC w2))(f:RelV w2 h)(A: ∀s,RelV w2 s->s=h)(q: ∀d i,g d=C i-> ∃U b r t,d= .oth (.exc U) r t/\i=(.bl b,Y)/\kitOne X.K (.ref U) h=C b)
  (u:Gl X "isinstance")(y:X.mg "isinstance"=Op)(hv:aK "isinstance"=C (.builtin "isinstance"))(s1:ag [e,a] X.env=(Y,aU e X.env)::ag [a] X.env)(L:ag [a] X.env=(Y,aU a X.env)::ag [] X.env)(I:(bc pos<|ag [a] X.env).any (·.1)=Y):
  PX X (.Call (.Name "isinstance" p) [e,a] [] pos) (lB g fa):=by
 refine PX.imp (AG (V3 (X:=X) f A q) u y hv (nQ w (nQ c sV L) s1) (by decide) (by decide) s1 I) λN H Q f=>?_;obtain⟨O,T,M,G,E,e,k⟩:=f;obtain⟨⟨o,l⟩,h1,e⟩:=iA e;obtain⟨x,c,e⟩:=iA e;obtain⟨i,n,e⟩:=iA e;obtain⟨rfl,rfl⟩:=jc e;obtain⟨U,b,r,t,rfl,rfl,hk⟩:=q _ _ n;refine⟨O,T,o,l,E,h1,λv J m=>?_⟩;have B:=Ops.cons E m<|Ops.nil<|m.er E;exact⟨_,_,v,b,rfl,B.view (j:=0) O9 O9 c,n,(B.done k).bl⟩
structure ClT(K:Frag)(mg:lp)(CL:jL)(D0:Nat)(z:aB):Prop where
 mg:mg z=N2 (.ref D0)
 is: ∀C∈CL,kitOne K (.ref C) (.ref D0)=N2 (C==D0)
def xE(T:Tx X.mg)(c:ClT X.K X.mg CL D0 z)(f:QO X e fa)(b:Gl X "isinstance":=by rfl)(a:Gl X z:=by rfl)(k:DB z:=by decide)(s1:ag [e,.Name z p2] X.env=(Y,aU e X.env)::ag [.Name z p2] X.env:=by rfl)(l:SE X (.Name z p2) []:=by rfl)(i:BA X pos [.Name z p2]:=by rfl):
  QX X (.Call (.Name "isinstance" p) [e,.Name z p2] [] pos) (lB (zm CL D0) fa):=⟨JB (w2:= .ref D0) f.h (JI a c.mg H k) H (λu h=>by cases h;rfl) (λd n h=>by
 unfold zm at h;split at h
 .rename_i U j m;obtain⟨g,rfl⟩:=jl h;exact⟨U,_,j,m,rfl,rfl,c.is U<|by simpa using g⟩
 .cases h) b T.n_isinstance qf s1 l i⟩
def xEV(T:Tx X.mg)(c:X.mg "ValueError"=I)(hk: ∀U∈CL,kitOne X.K (.ref U) (.type "ValueError")=C J)(f:QO X e fa)(b:Gl X "isinstance":=by rfl)(a:Gl X "ValueError":=by rfl)(s1:ag [e,.Name "ValueError" p2] X.env=(Y,aU e X.env)::ag [.Name "ValueError" p2] X.env:=by rfl)(k:SE X (.Name "ValueError" p2) []:=by rfl)(i:BA X pos [.Name "ValueError" p2]:=by rfl):
  QX X (.Call (.Name "isinstance" p) [e,.Name "ValueError" p2] [] pos) (lB (V7 CL) fa):=⟨JB (w2:= .ty "ValueError") f.h (JK (v:= .ty "ValueError") a c (by decide+kernel) H (by decide)<|by decide) H (λu h=>by cases h;rfl) (λd m h=>by
 unfold V7 at h;split at h
 .rename_i U j l;obtain⟨g,rfl⟩:=jl h;exact⟨U,_,j,l,rfl,rfl,hk U<|by simpa using g⟩
 .cases h) b T.n_isinstance qf s1 k i⟩
variable {x:aB}{i kk:Nat}{f7 apos:bB}{a:iK}{f:F}
def ZF(hv:QO X (.Name x f7) (iC i))(g:ca (.Name x f7) "index" X.env (aU (.Name x f7) X.env)=aU (.Name x f7) X.env:=by rfl)
  (j:((bc pos<|ag [.Constant (.bool J) kk p2] X.env).all (λx=>!x.1)&&(gr pos<|eP [] X.env).all (λx=>x.1.isSome)&&decide ([Expr.Constant (.bool J) kk p2].length+([]:List c8).length+(if([]:List c8).isEmpty then 0 else 1)<30))=J:=by rfl)
  (d:(apos.endLine==pos.line)=J:=by rfl)(b:SE X (.Constant (.bool J) kk p2) []:=by rfl)(c:BA X pos []:=by rfl):QX X (.Call (.Attribute (.Name x f7) "index" apos) [.Constant (.bool J) kk p2] [] pos) (SF i):=⟨NH hv.h g j d b c⟩
end
def Oy(Z:ZZ)(k:Nat)(x:aB)(b:ji)(c:List D->Option aB):Prop:= ∃f a,FnOk Z.P Z.w Z.K Z.mg Z.base (CXx Z.P Z.w) k f a b (spR Z.K Z.mg c)/\Z.mg x=C (.ref f)/\keepIn Z.K (.ref f)=J/\Binds Z.K a b []
def Oy.up{Z:ZZ}{k j:Nat}{x:aB}{c:ji}{d:List D->Option aB}(o:Oy Z k x c d)(h:k<=j:=by decide):Oy Z j x c d:=let⟨f,e,a,b⟩:=o;⟨f,e,a.mono h,b⟩
def oyB{Z:ZZ}{k:Nat}{x:aB}{st:bv}{N e:ji}{xs:XS}(a:Fz Z.K Z.mg x st)(S:FnScope N e (iG st))(b:BdA x st e)
  (i: ∀(f:iB) (d:iO) (A:jf) (c:List dh) (s:iI) (U:Hp) (E:XK),Room k (A.deeper<|aV x (iG st) s.heap.objs.size f d)->un (A.deeper<|aV x (iG st) s.heap.objs.size f d) 60->un (A.deeper<|aV x (iG st) s.heap.objs.size f d) 1->un (A.deeper<|aV x (iG st) s.heap.objs.size f d) 62->N.Nodup->
   PZs (qd (CXx Z.P Z.w) Z.P Z.w Z.K Z.mg Z.base N x (iG st) f d A c s U E) E (lH st) xs):Oy Z (k+1) x e (xcF (Ps N) (Ps e) xs):=
 let⟨f,h,m,F⟩:=a
 ⟨f,h,Sq F S λd A c s U E g=>by have:=g.un;exact i f d A c s U E g (by unfold un;omega) (by unfold un;omega) (by unfold un;omega) S.nd,m,F.kp,F.binds b⟩
def ClX(Z:ZZ)(z:aB):Prop:= ∃U,Z.mg z=C (.ref U)/\excIn Z.K U veB "ValueError.__new__"=J
section
variable {X:Cx}{P:jd}{w:iW}{d:List dh}{o:Hp}{s0:iI}{E:XK}{A:jT}{st:bv}{n b:List bv}{x y:XS}{e:iK}{g p r:bB}{f:FS}{z:aB}{a:iK}{m:F}{k:Nat}{q:ji}{j:List D->Option aB}{i:kh}{fs:List FO}{l:FT}{c:iK}
def zR(T:XeOk X P w d o s0 E)(c:ClX (zX X) z)(t:QX X a m)(u:X.calm=J:=by rfl)(v:Gl X z:=by rfl)(hd:DB z:=by decide)(U:ag [a] X.env=[(Y,aU a X.env)]:=by rfl):PZ X E (.Raise (C<|.Call (.Name z p) [a] [] r) I g) (Hu z m):=
 let⟨_,B,s⟩:=c;Qy T u s B v t.h hd U
def zI(t:QT X c l)(s:PZs X E n x):PZ X E (.If c n b g) (zIf l x zNo):=Zw t.h s Zv
def zC(T:XeOk X P w d o s0 E)(O:Oy (zX X) k z q j)(M:Room k X.A)(s:QA X (e::i) fs)(v:Gl X z:=by rfl)(Q:DB z:=by decide)(u:SE X e i:=by rfl)(L:BA X g i:=by rfl)(U:X.prog=P:=by rfl)(N:X.w=w:=by rfl):PZE X E (.Call (.Name z p) (e::i) [] g) (rH j fs):=by subst U;subst N;obtain⟨f,G,F,B,hk,t⟩:=O;exact T8 T F M v B hk t s.h Q u L
end
def E5{P:jd}{w:iW}{K:Frag}{d:lp}{base:ja}{N:ji}{q:aB}{scope:jJ}{c:iB}{cd:iO}{b:kX}{A:jf}{a:List dh}{s:iI}{U:Hp}{E:XK}:
  XeOk (tL (CXx P w) P w K d base N q scope c cd b A a s U E) P w a U s E:=⟨rfl,rfl,rfl,rfl,rfl,rfl,rfl,rfl,λ_ _ h=>h⟩
def Te(q:aB)(a:iB)(U:Hp):Prop:= ∃more,U a=C (.tbl (#[.str q 0]++more))
def spT(TB:List (iB×aB))(a:Sp):Sp:=λb U Q E=>(∀p∈TB,Te p.2 p.1 U)/\a b U Q E
structure TabX(X:Cx)(Pt:iB):Prop where
 t:Te (X.env.qual++"<lambda>") Pt X.H₀
 c: ∃c,X.env.code= .ref c/\CodeHd X.base c Pt
 b:X.base.BuiltinsAt X.mg Pt
 g:am≠Pt
def Rf(Z:ZZ)(st:bv)(h:ji)(a f n o m:aB)(i j k:Nat)(c:jL)(l:FS)(g:aB->Option Nat):Prop:=
 ∃d e CR,Fun Z.K a a st d e/\Binds Z.K e [f] []/\Z.mg a=C (.ref d)/\(∀X:Cx,zX X=Z->RefBody X st h d a f n o m CR i j (k+1) c l)/\ ∀z b,g z=C b->Z.mg z=C (.ref b)/\ClK Z.K b CR
def Im(scope:jJ):Bool:=decide (scope.kind= .function)&&!scope.isCoroutine&&!scope.isGenerator&&(scope.names.all λy=>y.2 != .cell)
def YK{scope:jJ}(h:Im scope=J):LamScope scope:=by unfold Im at h;simp only[lE,lU,rC,eZ,bne_iff_ne] at h;exact⟨h.1.1.1,h.1.1.2,h.1.2,h.2⟩
def xRf{X:Cx}{L:iB}{d:cI}{f:iK}{scope:jJ}{p B pf:bB}{l:jL}{N' v:ji}{z:F}{xB:XS}{y:FS}{u:aB->Option Nat}{asg:jL}{st:bv}{r xc xr xx xn:aB}{i j k:Nat}
  (R:Rf (zX X) st v r xc xr xx xn i j k asg y u)(q:TabX X L)(hr:Room (k+2) X.A)(C:CompOk X N' scope l 0)(I:Im scope=O0)
  (hb: ∀(o:iB) (m:kX) (n:iB) (A:jf) (e:List dh) (s:iI) (H:Hp) (E:XK),Room k (A.deeper<|Bq (X.env.qual++"<lambda>") scope s.heap.objs.size o (.ref n) m)->
   QX (tL (CXx X.prog X.w) X.prog X.w X.K X.mg X.base N' (X.env.qual++"<lambda>") scope o (.ref n) m A e s H E) f z/\PZE (tL (CXx X.prog X.w) X.prog X.w X.K X.mg X.base N' (X.env.qual++"<lambda>") scope o (.ref n) m A e s H E) E f xB)
  (J:Gl X r:=by rfl)(T:DB r:=by decide)(Q: ∀x,X.fn x=O0:=by exact λ_=>rfl)(O:n7 d X.env=([],[]):=by rfl)(p0: ∀m pm n q9,eR (kla_fn "<lambda>" (X.env.qual++"<lambda>") d f scope m pm (.ref n) q9) ⟨[],[]⟩=pure []:=by exact λ_ _ _ _=>rfl)
  (he:SE X (.Lambda d f scope B) []:=by rfl)(i6:BA X p []:=by rfl):
  QX X (.Call (.Name r pf) [.Lambda d f scope B] [] p) (yD l z xB (Ps v) i y u):=by
 obtain⟨W,V,CR,F,M,P,Y,N⟩:=R;obtain⟨more,S⟩:=q.t;obtain⟨c,D,U⟩:=q.c;exact⟨U8 (Y X O9) F M J P T Q hr S D U q.b q.g C (YK I) O p0 he i6 N λo m n A e s H E G=>let⟨a,b⟩:=hb o m n A e s H E G;⟨a.h,b⟩⟩
def walkT{l:OpenLaw}{q:jd}{m:ji}{XP:(aB->Option iO)->ja->Prop}{E:iW->ja->Prop}{d:DefRec}{K:Params->Frag}{LV:Nat}{x:aB}{Q:EvF}{TB:List (iB×aB)}(hk:Room LV fG)(hn:l.most=N2 63)(cV:d.params.defaults=[])(hY: ∀(w:iW) (h:ja),E w h->(K w.params).In h)
  (L: ∀(w:iW) (h:ja),E w h-> ∀p∈TB,h.get? p.1=N2 (tabObj #[]))(fJ: ∀(w:iW),∀p∈TB,(K w.params).lookup p.1=I)(eE:(TB.map (·.1)).Nodup)
  (F: ∀(w:iW) (n:lp) (v:iB) (h:ja),(K w.params).In h->h.Ns am n->n d.name=N2 (.ref v)-> ∃I':mD,(∀(s:iI) (u:iO),fM s I' ⟨[u],[]⟩ [(x,u)])/\(∀p∈TB,∃c,codeHdIn (K w.params) c p.1=O0)/\ ∀base:ja,(K w.params).In base->base.Ns am n->(∀p∈TB,base.BuiltinsAt n p.1)->FnOk l.prog w (K w.params) n base CX0 LV v I' [x] (spT TB<|spF (K w.params) Q))
  (M: ∀A:List Int,Ps A<=63-> ∃o j,Q [(.lst<|A.map .int,O1)]=N2 ((.bl O0,o),j)):WalkO q m XP E l.row.toRowW d [] (λf B=>r0 f B):=by
 refine Att.S7 hn cV λw U D n mb v o pm cd S a B A G Y ho hd t8 O R k i hg=>?_;have C:=hY w _ Y;obtain⟨I',hb,fI,hF⟩:=F w n v _ C G.T.g O;have N:=L w _ Y;refine Lh (TB:=TB) C G.T.g G.T.b G.T.builtins G.T.nolimit hg N (fJ w) (λp t=>?_) eE (λp t=>?_) R k (lI i<|by decide) hk hF hb (λH J hS=>?_) λH e s' z=>z
 .obtain⟨c,hc⟩:=fI p t;obtain⟨o,B,_,_,_,_,_,_,_,V,W,X,Z,_⟩:=codeHd_of_K C hc;exact⟨c,o,B,V,W,X,Z⟩
 .obtain⟨P,ob,h1,h2,r,h4,h5,y⟩:=G.T.bmain;refine⟨P,ob,h1,h2,λz=>?_,λz=>?_,r,h4,h5,y⟩
  .obtain⟨o',es,ep,e,dd,_⟩:=G.T.g;rw[z,e] at r;cases r;rw[dd] at y;cases y
  .rw[z,N p t] at r;cases r;cases y
 .obtain⟨o,j,e⟩:=M A i;exact⟨λp t=>⟨#[],by rw[J.all p t];rfl⟩,Sa J.all hS e⟩
def aaO(TB:List (iB×aB))(U:Hp):Prop:= ∀p∈TB,Te p.2 p.1 U
def fnU{Z:ZZ}{k:Nat}{x:aB}{st:bv}{N d:ji}{c:jL}{fs:FS}{f:iB}{e:mD}{TB:List (iB×aB)}(F:Fun Z.K x x st f e)(S:FnScope N d (iG st))
  (m: ∀(b:iO) (A:jf) (a:List dh) (s:iI) (U:Hp) (E:XK) (L:jT),(∀i,L i->i<Ps d)->Room k (A.deeper<|aV x (iG st) s.heap.objs.size f b)->
   un (A.deeper<|aV x (iG st) s.heap.objs.size f b) 60->un (A.deeper<|aV x (iG st) s.heap.objs.size f b) 1->un (A.deeper<|aV x (iG st) s.heap.objs.size f b) 62->un (A.deeper<|aV x (iG st) s.heap.objs.size f b) 90->N.Nodup->
   b=e.code->aaO TB U->QQ (qd CX0 Z.P Z.w Z.K Z.mg Z.base N x (iG st) f b A a s U E).nox (λi=>i∈c) L U (lH st) fs):
  FnOk Z.P Z.w Z.K Z.mg Z.base CX0 (k+1) f e d (spT TB<|spF Z.K<|evF (Ps N) (Ps d) c fs):=by
 obtain⟨q,r,kV,j,t,p,b,ct,u,rfl,lk,n⟩:=F.ex;refine Px lk n S (λo U Q E h=>Jp h.2) λA a s U o Q E g h=>?_;obtain⟨L,h1,l⟩:=Nh h.2;have:=g.un;exact⟨_,((m b A a s U E L h1 g (by unfold un;omega) (by unfold un;omega) (by unfold un;omega) (by unfold un;omega) S.nd H h.1).h).nox,l⟩
def aaI{Z:ZZ}{k:Nat}{x q:aB}{st:bv}{N e:ji}{asg:jL}{fs:FS}{f c d:iB}{g:mD}{TB:List (iB×aB)}(F:Fun Z.K x x st f g)(t:g.code= .ref c)(n:CodeHd Z.base c d)(m:Z.base.BuiltinsAt Z.mg d)(v:am≠d)(y:(d,q)∈TB)(S:FnScope N e (iG st))
  (r: ∀(f:iB) (b:iO) (A:jf) (a:List dh) (s:iI) (T:Hp) (E:XK) (L:jT),(∀i,L i->i<Ps e)->Room k (A.deeper<|aV x (iG st) s.heap.objs.size f b)->
   un (A.deeper<|aV x (iG st) s.heap.objs.size f b) 60->un (A.deeper<|aV x (iG st) s.heap.objs.size f b) 1->un (A.deeper<|aV x (iG st) s.heap.objs.size f b) 62->un (A.deeper<|aV x (iG st) s.heap.objs.size f b) 90->N.Nodup->
   TabX (qd CX0 Z.P Z.w Z.K Z.mg Z.base N x (iG st) f b A a s T E).nox d->QQ (qd CX0 Z.P Z.w Z.K Z.mg Z.base N x (iG st) f b A a s T E).nox (λi=>i∈asg) L T (lH st) fs)
  (z: ∀(L f:iB) (cd:iO),(aV x (iG st) L f cd).qual++"<lambda>"=q:=by exact λ_ _ _=>rfl):FnOk Z.P Z.w Z.K Z.mg Z.base CX0 (k+1) f g e (spT TB<|spF Z.K<|evF (Ps N) (Ps e) asg fs):=
 fnU F S λb A a s T E L o B h1 h j l U u p=>r f b A a s T E L o B h1 h j l U ⟨by show Te ((aV x (iG st) s.heap.objs.size f b).qual++"<lambda>") d T;rw[z];exact p _ y,⟨c,u.trans t,n⟩,m,v⟩
def FzT(K:Frag)(d:lp)(x:aB)(st:bv)(b:iB):Prop:= ∃f a c,d x=C (.ref f)/\Fun K x x st f a/\a.code= .ref c/\codeHdIn K c b=J
def fzT{K:Frag}{h:ja}{g:lp}{x:aB}{st:bv}{f c d:iB}{m:iO}{n i:Option iB}{p:uC}{kV b o ct:iO}(X:K.In h)(G:h.Ns am g)(a:nsIn K am x=C (C<|.ref f))
  (l:K.lookup f=C ⟨m,n,.func<|fnOf x x (rp st) (lH st) (iG st) .none kV b o i (.ref c) ct,p⟩)(e:codeIn K (.ref c) x=J)(k:keepIn K (.ref f)=J)(j:codeHdIn K c d=J):FzT K g x st d:=⟨f,_,c,mg_of X G a,Pq l e k,rfl,j⟩
def FzT.cd{K:Frag}{d:lp}{x:aB}{st:bv}{b:iB}(a:FzT K d x st b): ∃c,codeHdIn K c b=J:=let⟨_,_,c,_,_,_,h⟩:=a;⟨c,h⟩
section
variable {X:Cx}{k:Nat}{f:iB}{g:mD}{d:ji}{x:aB}{p b:bB}{e a:iK}{j:kh}{i:EvF}{fs:List FO}{c:FO}{TB:List (iB×aB)}
def Zy(q:X.mg "sum"=I)(l:QA X [a] [c])(m:X.calm=J:=by rfl)(o:Gl X "sum":=by rfl)(n:SE X a []:=by rfl)(r:BA X b []:=by rfl):QX X (.Call (.Name "sum" p) [a] [] b) (jm (g1 V4) [c]):=
 ⟨JC (LF m) o q (by decide+kernel) l.h (by decide) (by decide) n r⟩
end
structure ClsK(K:Frag)(mg:lp)(ct rs:List (aB×Nat))(CR:Nat):Prop where
 m: ∀p∈ct,mg p.1=N2 (.ref p.2)
 mr: ∀p∈rs,mg p.1=N2 (.ref p.2)
 is: ∀p∈rs,∀r∈ct,kitOne K (.ref p.2) (.ref r.2)=N2 (p.2==r.2)
 ve: ∀p∈rs,kitOne K (.ref p.2) (.type "ValueError")=N2 O0
 ck: ∀p∈rs,ClK K p.2 CR
 ex: ∀p∈rs,excIn K p.2 veB "ValueError.__new__"=O0
 su:mg "sum"=Op
 vm:mg "ValueError"=Op
 re:mg "RiddleError"=N2 (.ref CR)
def aN{a:Type}{P:a->Prop}: ∀p∈([]:List a),P p:=λ_ h=>nomatch h
def aC{b:Type}{P:b->Prop}{a:b}{l:List b}(h:P a)(r: ∀p∈l,P p): ∀p∈a::l,P p:=List.forall_mem_cons.mpr ⟨h,r⟩
def ctD(ct:List (aB×Nat))(z:aB):Nat:=(ct.lookup z).getD 0
section
variable {Z:ZZ}{ct a:List (aB×Nat)}{CR:Nat}
def lkM{z:aB}{U:Nat}(h:ct.lookup z=C U):(z,U)∈ct:=qi h
def ClsK.x(c:ClsK Z.K Z.mg ct a CR)(z:aB)(h:(a.lookup z).isSome=J:=by decide):ClX Z z:=by obtain⟨U,b⟩:=LR.mp h;exact⟨U,c.mr _ (lkM b),c.ex _ (lkM b)⟩
def ClsK.t(c:ClsK Z.K Z.mg ct a CR)(z:aB)(h:(ct.lookup z).isSome=J:=by decide):ClT Z.K Z.mg (a.map (·.2)) (ctD ct z) z:=by
 obtain⟨U,b⟩:=LR.mp h;have:ctD ct z=U:=by unfold ctD;rw[b];rfl
 rw[this];refine⟨c.m _ (lkM b),λD d=>?_⟩;obtain⟨p,e,rfl⟩:=my.mp d;exact c.is p e _ (lkM b)
def ClsK.v(c:ClsK Z.K Z.mg ct a CR): ∀U∈a.map (·.2),kitOne Z.K (.ref U) (.type "ValueError")=C J:=λD b=>by obtain⟨p,d,rfl⟩:=my.mp b;exact c.ve p d
def ClsK.ci(c:ClsK Z.K Z.mg ct a CR): ∀z b,a.lookup z=C b->Z.mg z=C (.ref b)/\ClK Z.K b CR:=λz U h=>⟨c.mr _ (lkM h),c.ck _ (lkM h)⟩
end
def aaF{K:Frag}{j:lp}{x y:aB}{st:bv}{i h:iB}(a:FzT K j x st h)(n:j x=C (.ref i))(b:BdA x st [y]): ∃d c,Fun K x x st i d/\d.code= .ref c/\codeHdIn K c h=J/\ ∀(s:iI) (v:iO),fM s d ⟨[v],[]⟩ [(y,v)]:=by obtain⟨f,d,c,m,F,h1,o⟩:=a;have e:=n.symm.trans m;cases e;refine⟨d,c,F,h1,o,?_⟩;obtain⟨q,r,kV,g,p,k,l,ct,t,e,_⟩:=F.ex;exact λs v=>by subst e;exact .of_eq<|b kV g p k l ct [v] H
section
variable {X:Cx}{x y a b c d:iK}{u v z:aB}{t s r q:FO}{f k j i h g:bB}{p o n:Nat}{l m e:cH}
end
end PX
namespace TT
section
variable {a:jd}{w:iW}{A:jf}{E:jw}{s:iI}
end
end TT
namespace PX
open L2 PySem.SeqAt
section
variable {X:Cx}{e:iK}{f:F}{d:FO}{b g a c p:bB}{i:Nat}{x:aB}
end
open PySem.W
section
variable {X:Cx}{E:XK}{A:jT}{c iter:iK}{a:List bv}{d:FIt}{t:Tg}{e:FS}{x:XS}{b:bB}
end
def zT{X:Cx}{E:XK}{e:iK}{x:XS}{a b:List bv}{p d:bB}(h:PZE X E e x)(f: ∀c,isTrue e X.env c=(do let v <-c;cN e.pos;cw [v] (truthy v)):=by intro _;rfl):PZ X E (.If (.UnaryOp .Not e p) a b d) x:=PS.imp' (NS (NJ<|NI h f) HS HS) λ_ _ _ h=>h
def ozD{Z:ZZ}{k:Nat}{x:aB}{st:bv}{N d:ji}{c:jL}{fs:FS}(a:Fz Z.K Z.mg x st)(S:FnScope N d (iG st))(e:Bd Z k x st N d c fs)(b:BdA x st d:=by intro _ _ _ _ _ _;repeat' (first|exact us0 rfl|refine us1 λ_=>?_)):Oz Z (k+1) x d (evF (Ps N) (Ps d) c fs):=ozB a S b e
section
variable {X:Cx}{k:iK}{c:FO}{a b:bB}{j:Nat}
end
section
variable {X:Cx}{b:jr}{d:L2.St}{H:Hp}{s:iI}
variable {a:iK}{g:FO}{c p:bB}{k:iK}{f:FO}{e:bB}{j:Nat}
end
section
variable {K:jb}{T g:AP'}{d:L2.St}{e c:Dn}{H h i:Hp}{os:List Opd}{f:List V}{b:List (D×Bool)}{a:Dn}{r:D×Bool}{v:V}
end
section
variable {X:Cx}{e:iK}{d:kh}{fs:List FO}{a p:bB}{k:Nat}{b:ji}{c:EvF}{x:aB}
end
end PX
set_option backward.eqns.nonrecursive true
namespace PV
open L2 PX
noncomputable abbrev Ze:Nat:=100000
abbrev RD:Nat:=6
abbrev Xr:=iP (lh<|Bm (lB (Ex [.int])<|iC 0)<|SA<|lB (Ex [.bool])<|iC 0) jn
def yY:FS:=Xr
def nZ:EvF:=evF 1 1 [] yY
def rl:FS:=iP (lh<|Bm (iX nZ [iC 0])<|nj .LtE .LtE (iC 1) (iC 0)<|iC 2) jn
def mn:EvF:=evF 3 3 [] rl
abbrev lV:=iJ<|fC<|.int 1
def Bf:FS:=iP (lh<|iX mn [iC 1,lV,iC 0]) jn
def rn:EvF:=evF 2 2 [] Bf
abbrev Hw:=iJ<|jm (g1 Ey) [iC 1]
def vW:FS:=iP (lh<|Bm (iX nZ [iC 1])<|iX rn [iC 0,Hw]) jn
def mS:EvF:=evF 2 2 [] vW
def pv:FS:=iP (sIf (fT<|iU (ot .Lt) (iC 1)<|iJ<|jm (g1 F7) [iC 0]) (iP (lh<|iU gIx (iC 0)<|iC 1) jn) jn)<|iP (lh<|fC<|.int 0) jn
def md:EvF:=evF 2 2 [] pv
abbrev Hv:=fC<|.bl J
abbrev Xf:=iJ<|iU Iv (iJ<|fC<|.int 10)<|iJ<|fC<|.int 18
def rh:FS:=iP (kL 2<|iX md [iC 0,iC 1])<|iP (sIf (fT<|iU (ot .GtE) (iC 2) Xf) (iP (lh<|lS [iU gSub (iC 2) Xf,Hv]) jn) jn)<|iP (lh<|lS [iU BZ (iC 2)<|iJ<|fC<|.int 2147483647,fC<|.bl Y]) jn
def nr:EvF:=evF 3 2 [2] rh
abbrev sx:=iJ<|fC<|.int 0
abbrev Ug:=iU gIx (iC 0) lV
abbrev DT:=iJ<|iU gIx (iC 0) sx
def tE:FS:=iP (sIf (fT Ug) (iP (kL 2<|iU BZ DT<|iC 1)<|iP (Az 0 (iU Pp DT<|iC 1) sx)<|iP (oI 2) jn) jn)<|iP (Az 0 (iU BZ (iJ<|iU lA (iJ<|iU pk DT<|iJ<|fC<|.int 48271)<|iJ<|fC<|.int 29)<|iJ<|fC<|.int 2147483647) sx)<|iP (kL 3<|iU BZ (iJ<|iU lA (iJ<|iU lA (iJ<|iU pk DT DT)<|iJ<|iU pk (iJ<|fC<|.int 39373) DT)<|iJ<|fC<|.int 7)<|iJ<|fC<|.int 2147483629)<|iP (kL 3<|iU BZ (iJ<|iU lA (iJ<|iU pk (iC 3)<|iC 3)<|iJ<|iU pk (iJ<|fC<|.int 16807)<|iC 3)<|iJ<|fC<|.int 2147483587)<|iP (lh<|iU BZ (iJ<|iU Pp (iC 3)<|iJ<|fC<|.int 8)<|iC 1) jn
def jI:EvF:=evF 4 2 [2,3] tE
abbrev MQ:=lB uB lV
abbrev QE:=iJ<|jm (g1 F7) [iC 2]
abbrev Hy:=iJ<|iU lA (iC 1) lV
abbrev Uo:=iJ<|iX jI [iC 0,iJ<|fC<|.int 2]
abbrev Xg:=iJ<|lS [fC<|.int 1,MQ]
abbrev Xn:=Bk 2<|iJ<|iX jI [iC 0,QE]
abbrev Ut:=iU gIx Xg Uo
abbrev Uu:=iJ Ut
def Bb:FS:=iP (kL 2<|jm (gRg .lst J) [lV,Hy])<|iP (kL 3<|lS [])<|iP (qt (BX<|iC 1) (iL 4)<|iP (mG<|lG 3<|iU pk (iJ Xn) Uu) jn)<|iP (lh<|jm (g1 pj) [iC 3]) jn
def pA:EvF:=evF 5 2 [2,3,4] Bb
abbrev Us:=iJ<|iU gIx (iC 0)<|iJ<|iU gSub Hw lV
def oH:FS:=iP (lh<|iU pk Us<|iJ<|iU gIx Xg<|iJ<|jm (g1 Iy) [iJ<|iU (ot .Lt) (iC 1) sx]) jn
def lr:EvF:=evF 2 2 [] oH
def qC:FS:=Xr
def ml:EvF:=evF 1 1 [] qC
abbrev DS:=wy [iL 0,iL 1]
abbrev Hx:=tH (iC 0) lV
abbrev WU:=jQ<|iU (ot .Lt) (iC 0)<|iC 1
def Ez:FS:=iP (lh<|jm (g1 tD) [iJ<|jy [] 2 (qB (jS 0) Hx) DS jH WU]) jn
def oM:EvF:=evF 1 1 [] Ez
abbrev Aj:=kb<|jS 1
abbrev Ub:=jm (g1 Ey) [iC 0]
abbrev Uc:=iJ<|jm (g1 F7) [iC 1]
abbrev EY:=iP (lh<|fC<|.bl Y) jn
abbrev WW:=nY<|fT<|lB (Ex [.tuple])<|iC 1
abbrev W0:=jQ<|iX mS [iC 0,iC 1]
abbrev Xw:=iJ<|jy [0] 1 Aj (iL 1) jH W0
abbrev zC8:=B8 WW<|nY<|fT<|nj .LtE .LtE lV Uc<|iJ<|fC<|.int 5
def oJ:FS:=iP (sIf zC8 EY jn)<|iP (sIf (nY<|fT<|jm (g1 tD) [Xw]) EY jn)<|iP (lh<|iX oM [iJ<|jy [] 1 Aj (iL 0) jH<|jQ Ub]) jn
def ku:EvF:=evF 2 2 [] oJ
def CS:FS:=iP (lh<|iX mn [iC 0,sx,lV]) jn
def qF:EvF:=evF 1 1 [] CS
def xa:FS:=iP (lh<|Bm (lB (Ex [.tuple])<|iC 1)<|Bm (iU gEq Uc<|iC 0)<|jm (g1 tD) [iJ<|jy [] 1 Aj (iL 0) jH<|jQ<|iX qF [iC 0]]) jn
def nu:EvF:=evF 2 2 [] xa
abbrev WZ:=iU (ot .Gt) (iC 1) sx
def F9:FS:=iP (lh<|iU gEq Us<|iJ<|fIf (fT WZ) (fC<|.int 1)<|fC<|.int 0) jn
def xh:EvF:=evF 2 2 [] F9
def zr:FS:=iP (lh<|jm (g1 Iz) [iJ<|jy [0] 1 Aj (iL 1) jH<|jQ<|iX xh [iC 0,iC 1]]) jn
def lJ:EvF:=evF 2 2 [] zr
def Pr:FS:=iP (Q8 (wy [iL 2,iL 3])<|jS 0)<|iP (lh<|Bm (iX nu [iC 2,iC 1])<|jm (g1 tD) [iJ<|jy [1] 1 (kb<|jS 3) (iL 1) jH<|jQ<|iX lJ [iC 0,iC 1]]) jn
def xg:EvF:=evF 4 2 [2,3] Pr
abbrev T9:=iJ<|ly [jS 1]
abbrev Ud:=ly [fC<|.int 0,fC<|.int 1]
abbrev zC4:=iP (kL 1<|jy [] 2 Aj (iL 0) jH<|LN (kb Ud) (iL 1) jH<|jQ<|iU lA (iC 0) T9) jn
def Bh:FS:=iP (kL 1<|lS [ly []])<|iP (qt (BX<|iC 0) (iL 2) zC4)<|iP (oI 1) jn
def pE:EvF:=evF 3 1 [1,2] Bh
abbrev EX:=jQ<|jS 1
abbrev Ur:=iX pE [DT]
def IB:FS:=iP (lh<|jy [0] 1 (kb Ur) (iL 1) (fT<|iX xg [iC 0,iC 1]) EX) jn
def pD:EvF:=evF 1 1 [] IB
abbrev Kv:=iJ<|lS []
abbrev W5:=iP (lh<|jm (g1 pj) [iC 2]) jn
abbrev Xu:=fT<|iU gEq Uo sx
def wZ:FS:=iP (kL 2<|jy [0] 1 (A6 lV Hy) (iL 1) Xu<|jQ<|iU pk (iC 1) Uu)<|iP (sIf (fT<|iU gEq (iC 2) Kv) (iP (kL 2<|lS [iU pk (iJ<|iU lA lV<|iJ<|iX jI [iC 0,iC 1]) Uu]) jn) jn) W5
def lR:EvF:=evF 3 2 [2] wZ
abbrev Ul:=iX lr [iC 0,iC 1]
abbrev XD:=jQ<|ly [jm (g1 Ey) [iJ Ul],Ul]
def rP:FS:=iP (kL 2<|jy [1] 1 (kb<|jS 0) (iL 1) jH XD)<|iP (lh<|jm (g1 pj) [iJ<|jy [] 2 (kb<|jm (g1 zA) [iC 2]) DS jH EX]) jn
def lg:EvF:=evF 3 2 [2] rP
abbrev Uh:=fT<|iU gEq (iC 1) sx
abbrev Ui:=iX lR [iC 0,iC 1]
abbrev Xo:=iP (Fl 3 Hv<|iJ Ui) jn
abbrev XE:=iP (sIf (fT<|iU wY (iC 7)<|iC 3) (iP (Fl 3 Hv<|iC 7)<|iP (mG<|lG 6<|jS 7) jn) jn) jn
def yB:FS:=iP (sIf Uh (iP (lh<|ly [fC<|.int 0,ly []]) jn) jn)<|iP (kL 2<|iU gIx (iJ<|lS [fC<|.int 3,fC<|.int 5,fC<|.int 12])<|iJ<|iX jI [iC 0,iJ<|fC<|.int 3])<|iP (kL 3 TY)<|iP (qt (BX<|iJ<|iX jI [iC 0,iJ<|iU lA (iC 2) lV]) (iL 4) Xo)<|iP (kL 5<|iX pA [iC 0,iC 1])<|iP (kL 6<|iU F6 (iJ<|jm (g1 Ew) [iC 3])<|iJ<|iU gIx (iJ<|lS [fC<|.int 1,fC<|.int 0]) Uo)<|iP (nJ (fT<|iU gNe (iC 6) Kv) (iP (kL 7<|iX lg [iJ<|fPop 6,iC 5]) XE) Ze)<|iP (lh<|ly [jS 1,jm (g1 pj) [iJ<|za (iJ<|jm (g1 wX) [iC 3])<|iJ<|fC<|.int 30]]) jn
def nK:EvF:=evF 8 2 [2,3,4,5,6,7] yB
abbrev zC3:=iJ<|jy [1,0] 1 (BX<|iC 0) (iL 2) jH<|jQ<|iU TQ (iJ<|iU YU (iC 0)<|iJ<|iU gSub (iJ<|iU gSub (iC 1) lV)<|iC 2) lV
def F8:FS:=iP (lh<|jy [0] 1 (BX<|iJ<|iU V5 lV<|iC 0) (iL 1) jH<|jQ<|jm (g1 pj) [zC3]) jn
def tJ:EvF:=evF 1 1 [] F8
abbrev W4:=fT<|iX lJ [iC 1,iC 0]
def vX:FS:=iP (lh<|jy [1] 1 (kb<|iX pD [iC 0]) (iL 1) (nY W4) EX) jn
def mT:EvF:=evF 2 2 [] vX
abbrev MR:=iU Po (iC 1)<|iJ<|ly []
def zo:FS:=iP (lh<|fOr MR<|iX ku [iC 0,iC 1]) jn
def mM:EvF:=evF 2 2 [] zo
def Wa:FS:=iP (lh<|jm (g1 pj) [iJ<|jm (g1 yA) [iJ<|jm (g1 tx) [iJ<|PH [2] 1 (kb<|iU lA (iC 0)<|iC 1) (iL 1) (fT<|iU gNe Hw<|iC 0)<|yH<|jS 1]]]) jn
def Bn:EvF:=evF 3 3 [] Wa
abbrev Xd:=iJ<|iX mT [iC 0,iC 1]
abbrev Zx:=fT<|iX mM [DT,iC 1]
abbrev QK:=nY Zx
def Bg:FS:=iP (sIf QK (iP Nr jn) jn)<|iP (lh<|iU gEq Xd Kv) jn
def pB:EvF:=evF 2 2 [] Bg
abbrev QD:=iJ<|lB uB<|iC 1
abbrev Ua:=iP (lh<|fC .non) jn
abbrev XC:=jm (g1 tD) [iJ<|jy [1] 1 (kb<|jS 3) (iL 1) jH<|jQ<|iU gIn QD<|iC 0]
def yC:FS:=iP (qt (Eo 0<|jS 0) (wy [iL 2,iL 3])<|iP (sIf (fT XC) (iP (oI 2) jn) jn) jn) Ua
def nL:EvF:=evF 4 2 [2,3] yC
abbrev W2:=Q8 (wy [iL 3,iL 4])<|jS 0
abbrev Uk:=iJ<|iU lA (iC 3) lV
abbrev W7:=iU rg QD<|iC 0
abbrev W8:=iJ<|iU lA (iC 1)<|iJ<|ly [jS 6]
abbrev Xc:=kL 5<|iX nL [iC 4,iC 1]
abbrev Um:=ly [fC<|.str "met",jS 7,jS 8,jS 6]
abbrev Xh:=iJ<|iU lA (iC 1)<|iJ<|ly [lB uB<|iC 6]
abbrev Uq:=iU gSub QE lV
abbrev Xj:=iJ<|iU gIx (iJ<|iU gIx (iC 2)<|iC 7) sx
abbrev Xi:=iJ<|iU gIx (iJ<|iU gIx (iC 2)<|iC 8) sx
abbrev Xl:=A6 lV Uk
abbrev Xv:=Gg (fT<|iU rg (iC 1)<|iC 0)<|fT W7
abbrev zC6:=sIf (fT<|iU Iw (iC 5)<|iJ<|fC .non) (iP (mG<|lG 2<|ly [iU gIx (iC 4)<|iC 5,ly [fC<|.str "given",jS 5]])<|iP Jv jn) jn
def oK(a:EvF):FS:=iP W2<|iP Xc<|iP zC6<|iP (kL 6<|jm (g1 Pl) [iJ<|jy [1] 1 Xl (iL 1) Xv EX])<|iP (mG<|iX a [iC 0,Xh,iC 2])<|iP (kL 7 Uq)<|iP (sIf (fT<|iU rg (iC 6) Xj) (iP Jv jn) jn)<|iP (mG<|iX a [iC 0,W8,iC 2])<|iP (kL 8 Uq)<|iP (sIf (fT<|iU gIn (iJ<|lB uB<|iC 6) Xi) (iP (mG<|lG 2<|ly [iX Bn [Xj,Xi,iC 6],Um]) jn) jn) jn
def lj:Nat->EvF
 |0=>λ_=>I
 |m+1=>evF 9 3 [3,4,5,6,7,8]<|oK<|lj m
abbrev QJ:=iX pB [iC 0,iC 1]
abbrev QH:=iJ MQ
abbrev WV:=fT QJ
abbrev Up:=iJ<|iU gIx (iC 2) QH
abbrev Xq:=sIf (nY WV) Ua jn
abbrev XA:=iU gNe (iJ<|iU gIx Up sx)<|iC 1
abbrev zC9:=iX (lj RD) [iC 0,iJ<|jm (g1 pj) [iJ<|jy [] 1 Aj (iL 0) jH<|jQ<|lB uB<|iC 0],iC 2]
abbrev zC7:=mG zC9
def yX:FS:=iP Xq<|iP (kL 2<|lS [])<|iP zC7<|iP (sIf (fT XA) (iP (mG<|lG 2<|ly [jS 1,ly [fC<|.str "wide",Uq]]) jn) jn) W5
def pW:EvF:=evF 3 2 [2] yX
abbrev Xm:=iJ<|jm (g1 Iy) [iJ WZ]
def B6:FS:=iP (lh<|jm (g1 Iz) [iJ<|jy [0] 1 Aj (iL 1) jH<|jQ<|iU gEq Us Xm]) jn
def lL:EvF:=evF 2 2 [] B6
abbrev zC1:=iP (sIf (fT<|jm (g1 tD) [iJ<|jy [2] 1 (kb Ug) (iL 1) jH<|jQ<|iX lL [iC 0,iC 1]]) (iP (mG<|lG 1<|jS 2) jn) jn) jn
def vV:FS:=iP (kL 1<|lS [])<|iP (qt (kb<|iX tJ [DT]) (iL 2) zC1)<|iP (oI 1) jn
def mR:EvF:=evF 3 1 [1,2] vV
abbrev XB:=Bm (iX ml [iC 1])<|nj .LtE .LtE lV Hw<|iC 0
def nX:FS:=iP (sIf (B8 WW<|nY<|fT<|jm (g1 tD) [iJ<|jy [0] 1 Aj (iL 1) jH<|jQ XB]) EY jn)<|iP (lh<|jm (g1 tD) [iJ<|jy [] 2 (qB (jS 1)<|tH (iC 1) lV) DS jH<|jQ<|iU (ot .Lt) (iJ Ub) Hw]) jn
def kQ:EvF:=evF 2 2 [] nX
def qT:XS:=zIf QK (Hu "NoClause" (fC<|.str "that is no clause of the riddle's names")) zNo
def nG:List D->Option Str:=xcF 2 2 qT
def sy:XS:=rH nG [iC 0,iC 1]
def pP:List D->Option Str:=xcF 3 2 sy
abbrev Xe:=iU Iv (iJ<|fC<|.int 10)<|iJ<|fC<|.int 29
def Bc:FS:=iP (kL 1<|lS [fC .non,Hv,fC<|.bl Y,MQ,fC<|.int 0,fC<|.int 1,fC<|.str "",fC<|.str "1",ly [],lS [],ly [Hv],lS [fC<|.int 1],PK 0 1,ly [fC .non],ly [ly [fC<|.int 1]],Xe])<|iP (lh<|iU gIx (iJ<|iU lA (iC 1)<|iJ<|lS [ly [fC<|.int 0],ly [fC<|.int 1,fC<|.int 2]])<|iJ<|iX jI [iC 0,iJ<|fC<|.int 18]) jn
def ma:EvF:=evF 2 1 [1] Bc
def CT:List (aB×Nat):=[("NoName",37),("NoBit",49),("NoTurning",61),("NoAnswer",73),("NoNumber",85),("NoClause",97),("NoPutting",109),("TooMany",121),("NoRiddle",133),("BadNote",145)]
def qJ:List (aB×Nat):=[("NoClause",97)]
def jt(ct a:List (aB×Nat)):FS:=(iP (sIf (fT<|iU gIs (iC 1)<|iJ<|fC .non) Ua jn) (iP (kL 3 (lS [(lB (zm (a.map (·.2))<|ctD ct "NoName")<|iC 1),(lB (zm (a.map (·.2))<|ctD ct "NoBit")<|iC 1),(lB (zm (a.map (·.2))<|ctD ct "NoTurning")<|iC 1)])) (iP (kL 3 (iU lA (iC 3) (iJ (lS [(lB (zm (a.map (·.2))<|ctD ct "NoAnswer")<|iC 1),(lB (zm (a.map (·.2))<|ctD ct "NoNumber")<|iC 1),(lB (zm (a.map (·.2))<|ctD ct "NoClause")<|iC 1)])))) (iP (kL 3 (iU lA (iC 3) (iJ (lS [(lB (zm (a.map (·.2))<|ctD ct "NoPutting")<|iC 1),(lB (zm (a.map (·.2))<|ctD ct "TooMany")<|iC 1),(lB (zm (a.map (·.2))<|ctD ct "NoRiddle")<|iC 1)])))) (iP (mG (lG 3 (lB (zm (a.map (·.2))<|ctD ct "BadNote")<|iC 1))) (iP (sIf (B8 (nY (fT (lB (V7 (a.map (·.2)))<|iC 1)))<|fT<|iU gNe (iJ<|jm (g1 V4) [iJ<|jy [] 1 (A5<|iC 3) (iL 0) jH<|jQ<|jm (g1 Iy) [iC 0]]) lV) (iP (lh<|fC<|.str "none of these") jn) jn)<|iP (kL 4<|lS [fC<|.str "name",fC<|.str "bit",fC<|.str "turning",fC<|.str "answer",fC<|.str "number",fC<|.str "clause",fC<|.str "putting",fC<|.str "many",fC<|.str "riddle",fC<|.str "note"])<|iP (lh<|iU gIx (iC 4)<|iJ<|SF 3) jn))))))
abbrev Qz:=BX<|iJ<|fC<|.int 4
abbrev Xb:=jQ Ui
abbrev Xt:=kL 2<|iU lA (iC 2)<|iJ<|lS [ly [jS 3],ly [lB uB<|iC 3]]
abbrev Xx:=A6 Uk Hy
abbrev zC2:=iP (kL 2<|iU lA (iC 2)<|iJ<|lS [ly [jS 3,jS 4],ly [jS 3,lB uB<|iC 4],ly [lB uB<|iC 3,jS 4],ly [lB uB<|iC 3,lB uB<|iC 4]]) jn
def zp:FS:=iP (sIf Uh (iP (lh<|lS [ly []]) jn) jn)<|iP (kL 2<|lS [ly []])<|iP (qt (A6 lV Hy) (iL 3)<|iP Xt<|iP (qt Xx (iL 4) zC2) jn)<|iP (lh<|iU lA (iC 2)<|iJ<|jy [0,1] 1 Qz (iL 2) jH Xb) jn
def ox:EvF:=evF 5 2 [2,3,4] zp
abbrev Xk:=iJ<|iU lA (iJ<|za (iC 2)<|iC 3)<|iJ<|ly [jS 4]
def zq:FS:=iP (kL 3<|iX jI [iC 0,iJ<|iU lA QE lV])<|iP (kL 4<|iU gIx (iJ<|lS [fC<|.int 0,iU lA (iC 1) lV,iU gSub QD lV,Hv,fC .non,fC<|.str "1",ly [fC<|.int 1],fC<|.int 1,MQ,jS 1,lB uB<|iC 1,Xe])<|iJ<|iX jI [iC 0,iJ<|fC<|.int 12])<|iP (kL 5<|lS [iU lA Xk<|iJ<|tH (iC 2)<|iC 3,iU lA Xk<|iJ<|tH (iC 2) Uk,jm (g1 Ba) [iC 2],Sy (iC 2) QH])<|iP (kL 5<|iU lA (iC 5)<|iJ<|lS [ly [jS 2],iU lA (iC 2)<|iJ<|za (iC 2) lV,iU lA (iC 2)<|iJ<|tH (iC 2) QH,fC .non])<|iP (lh<|iU gIx (iC 5)<|iJ<|iU gIx (iJ<|lS [fC<|.int 0,fC<|.int 0,fC<|.int 1,fC<|.int 1,fC<|.int 2,fC<|.int 3,fC<|.int 4,fC<|.int 5,fC<|.int 6,fC<|.int 7])<|iJ<|iX jI [iC 0,iJ<|fC<|.int 10]) jn
def mO:EvF:=evF 6 3 [3,4,5] zq
abbrev Ue:=iX pW [iC 0,iC 1]
abbrev WX:=kL 4<|iX mR [iC 3]
abbrev Uj:=iJ<|iU gIx (iC 3) sx
abbrev WY:=iJ<|iU gIx (iC 1) sx
abbrev W3:=iJ<|lS [iX ma [iC 2]]
abbrev W6:=kL 2<|iX nr [iC 0,iC 1]
abbrev Xp:=kL 5<|iX ox [iC 2,Uj]
abbrev Xz:=kL 3<|iX nK [iC 2,iJ<|iX jI [iC 2,iJ<|fC<|.int 6]]
abbrev Xy:=iJ<|jy [6] 1 (kb<|jS 4) (iL 1) jH<|jQ<|iX lL [iC 1,iC 0]
abbrev XF:=jQ<|iX mO [iC 0,WY,Up]
abbrev zC5:=iU gIx (iJ<|lS [fC .non,fC<|.str "clause"])<|iJ<|jm (g1 Iy) [iJ<|SA<|iX kQ [Uj,iC 8]]
abbrev zC0:=iP (kL 7<|iX pB [iC 3,iC 6])<|iP (sIf (B8 (nY<|fT<|lB (Ex [.bool])<|iC 7)<|fT<|iU gNe (iC 7)<|iJ<|jm (g1 tD) [Xy]) EY jn) jn
def Be:FS:=iP (qt (BX<|iJ<|jm (g2 Pn) [lV,iJ<|jm (g2 Pm) [iJ<|jm (g1 F7) [iC 0],iJ<|fC<|.int 6]]) (iL 1)<|iP W6<|iP Xz<|iP WX<|iP Xp<|iP (qt (kb<|jS 5) (iL 6) zC0)<|iP (qt (kb<|iU lA (iJ<|jy [2,3,5] 1 Qz (iL 3) jH XF) W3) (iL 8)<|iP (kL 9 zC5)<|iP (sIf (fT<|iU gNe (iJ<|yD [3,8] QJ (rH nG [iC 0,iC 1]) 5 1 (jt CT qJ) λz=>qJ.lookup z)<|iC 9) EY jn)<|iP (sIf (fT<|iU gNe (iJ<|yD [3,8] Ue (rH pP [iC 0,iC 1]) 5 1 (jt CT qJ) λz=>qJ.lookup z)<|iC 9) EY jn) jn) jn)<|iP (lh Hv) jn
def vb:EvF:=evF 10 1 [1,2,3,4,5,6,7,8,9] Be
end PV
namespace K62
open L2 PX PV
noncomputable def top(i:Nat):Stmt:=PySem.Challenge.pw_twinriddles_k62_what_follows.main.body.getD i<|.Pass ⟨0,0,0,0⟩
abbrev TB62:List (iB×aB):=[(373,"law.<locals>.<lambda>")]
section
variable {Z:ZZ}{k:Nat}
noncomputable abbrev vO:Stmt:=top 14
abbrev vU(Z:ZZ)(k:Nat):Prop:=Oz Z k "is_whole" ["thing"] nZ
def FD(a:Fz Z.K Z.mg "is_whole" vO)(T:Tx Z.mg):vU Z (k+1):=by have S:FnScope ["thing"] ["thing"] (iG vO):=scM;refine ozD a S λf c A b s U E L d e g h i j l=>?_;exact(s1 (sR<|E6 (xI T H xV)<|xBo<|Uv<|xI T H xV) s0)
noncomputable abbrev sN:Stmt:=top 15
abbrev tj(Z:ZZ)(k:Nat):Prop:=Oz Z k "is_number" ["thing","least","most"] mn
def Ef(a:Fz Z.K Z.mg "is_number" sN)(T:Tx Z.mg)(d:vU Z k):tj Z (k+1):=by have S:FnScope ["thing","least","most"] ["thing","least","most"] (iG sN):=scM;refine ozD a S λf e A b s U E L g c h i j l m=>?_;exact(s1 (sR<|E6 (xU d c<|xA xV xA0)<|xBo<|xCh xV xV xV) s0)
noncomputable abbrev Ay:Stmt:=top 16
abbrev FE(Z:ZZ)(k:Nat):Prop:=Oz Z k "is_bit" ["thing"] qF
def Lc(a:Fz Z.K Z.mg "is_bit" Ay)(T:Tx Z.mg)(d:tj Z k):FE Z (k+1):=by have S:FnScope ["thing"] ["thing"] (iG Ay):=scM;refine ozD a S λf e A b s U E L g c h i j l m=>?_;exact(s1 (sR<|xU d c<|xA xV<|xA (xO x3)<|xA (xO x3) xA0) s0)
noncomputable abbrev ym:Stmt:=top 17
abbrev Cy(Z:ZZ)(k:Nat):Prop:=Oz Z k "is_name" ["names","thing"] rn
def Ig(a:Fz Z.K Z.mg "is_name" ym)(T:Tx Z.mg)(d:tj Z k):Cy Z (k+1):=by have S:FnScope ["names","thing"] ["names","thing"] (iG ym):=scM;refine ozD a S λf e A b s U E L g c h i j l m=>?_;exact(s1 (sR<|xU d c<|xA xV<|xA (xO x3)<|xA xV xA0) s0)
noncomputable abbrev yk:Stmt:=top 18
abbrev Cw(Z:ZZ)(k:Nat):Prop:=Oz Z k "is_sign" ["names","thing"] mS
def Ie(a:Fz Z.K Z.mg "is_sign" yk)(T:Tx Z.mg)(e:vU Z k)(b:Cy Z k):Cw Z (k+1):=by have S:FnScope ["names","thing"] ["names","thing"] (iG yk):=scM;refine ozD a S λf g A c s U E L h d i j l m n=>?_;exact(s1 (sR<|E6 (xU e d<|xA xV xA0)<|xBo<|xU b d<|xA xV<|xA (xO<|xB T H ⟨lM⟩<|xA xV xA0) xA0) s0)
noncomputable abbrev sM:Stmt:=top 19
abbrev yS(Z:ZZ)(k:Nat):Prop:=Oz Z k "is_rising" ["things"] oM
def Ee(a:Fz Z.K Z.mg "is_rising" sM)(T:Tx Z.mg):yS Z (k+1):=by have S:FnScope ["things"] ["things"] (iG sM):=scM;refine ozD a S λf e A c s U E L g h d i j l b=>?_;exact(s1 (sR<|xB T H ⟨mv H⟩<|xA (xO<|by exact xC (N':=["one","other"]) (cOk S) (by decide+kernel) (iZ T xW<|MS xV<|xO x3) λ_ _ _ _ _ _ b=>⟨gT (gN b)<|gN b,f0,λ_=>bE<|BM ⟨qV (.inl H) d⟩ xV xV⟩) xA0) s0)
noncomputable abbrev sO:Stmt:=top 20
abbrev yT(Z:ZZ)(k:Nat):Prop:=Oz Z k "is_clause" ["names","thing"] ku
def Eg(a:Fz Z.K Z.mg "is_clause" sO)(T:Tx Z.mg)(h: ∃t,Z.mg "MOST_SIGNS"=C (.int 5 t))(c:Cw Z k)(b:yS Z k):yT Z (k+1):=by have S:FnScope ["names","thing"] ["names","thing"] (iG sO):=scM;refine ozD a S λf i A e s U E L j g l m n o d=>?_;exact(s1 (sI (tW<|wOr (tNot<|wz<|xI T H xV)<|QY<|tNot<|tCh (xO x3) (xO<|xB T H ⟨mq⟩<|xA xV xA0)<|xO<|x5 h) (s1 (sR x2) s0) s0)<|s1 (sI (tNot<|wz<|xB T H ⟨mv H⟩<|xA (xO<|by exact xC (N':=["names","sign"]) (cOk S) (by decide+kernel) (iS xW) λ_ _ _ _ _ _ d=>⟨gN d,f0,λ_=>bE<|xU c g<|xA xV<|xA xV xA0⟩) xA0) (s1 (sR x2) s0) s0)<|s1 (sR<|xU b g<|xA (xO<|by exact xC (N':=["sign"]) (cOk S) (by decide+kernel) (iS xW) λ_ _ _ _ _ _ d=>⟨gN d,f0,λ_=>bE<|xB T H ⟨lM⟩<|xA xV xA0⟩) xA0) s0)
noncomputable abbrev sP:Stmt:=top 21
abbrev yU(Z:ZZ)(k:Nat):Prop:=Oz Z k "is_answer" ["names","thing"] nu
def Eh(a:Fz Z.K Z.mg "is_answer" sP)(T:Tx Z.mg)(b:FE Z k):yU Z (k+1):=by have S:FnScope ["names","thing"] ["names","thing"] (iG sP):=scM;refine ozD a S λf h A c s U E L i e g j l m d=>?_;exact(s1 (sR<|E6 (xI T H xV)<|E6 (BM ⟨qW g⟩ (xO<|xB T H ⟨mq⟩<|xA xV xA0) xV)<|xBo<|xB T H ⟨mv H⟩<|xA (xO<|by exact xC (N':=["bit"]) (cOk S) (by decide+kernel) (iS xW) λ_ _ _ _ _ _ d=>⟨gN d,f0,λ_=>bE<|xU b e<|xA xV xA0⟩) xA0) s0)
noncomputable abbrev D6:Stmt:=top 22
abbrev JR(Z:ZZ)(k:Nat):Prop:=Oz Z k "is_so" ["answer","sign"] xh
def Ot(a:Fz Z.K Z.mg "is_so" D6)(T:Tx Z.mg):JR Z (k+1):=by have S:FnScope ["answer","sign"] ["answer","sign"] (iG D6):=scM;refine ozD a S λf d A b s U E L e g c h i j l=>?_;exact(s1 (sR<|BM ⟨qW c⟩ (xO<|xIx xV<|xO<|jX ⟨nR⟩ (xO<|xB T H ⟨lM⟩<|xA xV xA0)<|xO x3)<|xO<|xIf (tCmp ⟨qV (.inr<|.inr<|.inl H) c⟩ xV<|xO x3) x3 x3) s0)
noncomputable abbrev oY:Stmt:=top 23
abbrev pe(Z:ZZ)(k:Nat):Prop:=Oz Z k "keeps_clause" ["answer","clause"] lJ
def zj(a:Fz Z.K Z.mg "keeps_clause" oY)(T:Tx Z.mg)(b:JR Z k):pe Z (k+1):=by have S:FnScope ["answer","clause"] ["answer","clause"] (iG oY):=scM;refine ozD a S λf g A c s U E L h e i j l m d=>?_;exact(s1 (sR<|xB T H ⟨C6 H⟩<|xA (xO<|by exact xC (N':=["answer","sign"]) (cOk S) (by decide+kernel) (iS xW) λ_ _ _ _ _ _ d=>⟨gN d,f0,λ_=>bE<|xU b e<|xA xV<|xA xV xA0⟩) xA0) s0)
noncomputable abbrev D5:Stmt:=top 24
abbrev JQ(Z:ZZ)(k:Nat):Prop:=Oz Z k "keeps" ["riddle","thing"] xg
def Oq(a:Fz Z.K Z.mg "keeps" D5)(T:Tx Z.mg)(b:yU Z k)(g:pe Z k):JQ Z (k+1):=by have S:FnScope ["riddle","thing","names","clauses"] ["riddle","thing"] (iG D5):=scM;refine ozD a S λf h A d s U E L i e j l m n c=>?_;exact(s1 (sT xW<|gT (gN c)<|gN c)<|s1 (sR<|E6 (xU b e<|xA xV<|xA xV xA0)<|xBo<|xB T H ⟨mv H⟩<|xA (xO<|by exact xC (N':=["thing","clause"]) (cOk S) (by decide+kernel) (iS xW) λ_ _ _ _ _ _ c=>⟨gN c,f0,λ_=>bE<|xU g e<|xA xV<|xA xV xA0⟩) xA0) s0)
noncomputable abbrev qb:Stmt:=top 25
abbrev uY(Z:ZZ)(k:Nat):Prop:=Oz Z k "all_answers" ["names"] pE
def AN(a:Fz Z.K Z.mg "all_answers" qb)(T:Tx Z.mg):uY Z (k+1):=by have S:FnScope ["names","begun","place"] ["names"] (iG qb):=scM;refine ozD a S λf e A c s U E L d g i j l m b=>?_;exact(s1 (sS b<|mh<|xL (lW xL0) xL0)<|s1 (sF (iR1 T<|xA xV xA0) (gN b)<|s1 (sC (N':=["begin","bit"]) b (cOk S) (by decide+kernel) (iS xW) λ_ _ _ _ _ _ b=>⟨gN b,f0,λ_=>bF H (iS<|lW<|xL x3<|xL x3 xL0) (gN b) f0<|bE<|jX ⟨jz⟩ xV<|xO<|lW<|xL xW xL0⟩) s0)<|s1 (sRV λh=>absurd (d _ h)<|by decide) s0)
noncomputable abbrev yn:Stmt:=top 26
abbrev Cz(Z:ZZ)(k:Nat):Prop:=Oz Z k "answers" ["riddle"] pD
def Ii(a:Fz Z.K Z.mg "answers" yn)(T:Tx Z.mg)(b:uY Z k)(c:JQ Z k):Cz Z (k+1):=by have S:FnScope ["riddle"] ["riddle"] (iG yn):=scM;refine ozD a S λf h A d s U E L i e j l m n g=>?_;exact(s1 (sR<|by exact xC (N':=["riddle","answer"]) (cOk S) (by decide+kernel) (iS<|xU b e<|xA (xO<|xIx xV<|xO x3) xA0) λ_ _ _ _ _ _ g=>⟨gN g,f1<|wz<|xU c e<|xA xV<|xA xV xA0,λ_=>bE xW⟩) s0)
noncomputable abbrev ng:Stmt:=top 27
abbrev ni(Z:ZZ)(k:Nat):Prop:=Oz Z k "answers_against" ["riddle","clause"] mT
def vT(a:Fz Z.K Z.mg "answers_against" ng)(T:Tx Z.mg)(b:Cz Z k)(g:pe Z k):ni Z (k+1):=by have S:FnScope ["riddle","clause"] ["riddle","clause"] (iG ng):=scM;refine ozD a S λf h A c s U E L i d j l m n e=>?_;exact(s1 (sR<|by exact xC (N':=["clause","answer"]) (cOk S) (by decide+kernel) (iS<|xU b d<|xA xV xA0) λ_ _ _ _ _ _ e=>⟨gN e,f1<|tNot<|wz<|xU g d<|xA xV<|xA xV xA0,λ_=>bE xW⟩) s0)
abbrev oW:Stmt:=top 29
abbrev pd(Z:ZZ)(k:Nat):Prop:=Oz Z k "may_be_shown" ["names","thing"] mM
def zh(a:Fz Z.K Z.mg "may_be_shown" oW)(T:Tx Z.mg)(b:yT Z k):pd Z (k+1):=by have S:FnScope ["names","thing"] ["names","thing"] (iG oW):=scM;refine ozD a S λf g A c s U E L h d e i j l m=>?_;exact(s1 (sR<|xOr (BM ⟨RM e⟩ xV<|xO<|lW xL0)<|xBo<|xU b d<|xA xV<|xA xV xA0) s0)
abbrev Nq:Stmt:=top 30
abbrev Ox(Z:ZZ)(k:Nat):Prop:=Oz Z k "met" ["one","other","name"] Bn
def VN(a:Fz Z.K Z.mg "met" Nq)(T:Tx Z.mg):Ox Z (k+1):=by have S:FnScope ["one","other","name"] ["one","other","name"] (iG Nq):=scM;refine ozD a S λf g A b s U E L h i d j e l c=>?_;exact(s1 (sR<|xT T H ⟨lF⟩<|xA (xO<|xSA T<|xA (xO<|xB T H ⟨EK H e⟩<|xA (xO<|by exact Zz (N':=["name","sign"]) (cOk S) (by decide+kernel) (iS<|jX ⟨jz⟩ xV xV) λ_ _ _ _ _ _ c=>⟨gN c,f1<|tCmp ⟨vS d⟩ (xO<|xB T H ⟨lM⟩<|xA xV xA0) xV,xW⟩) xA0) xA0) xA0) s0)
abbrev qp:Stmt:=top 31
def Aw:FnScope ["riddle","clause"] ["riddle","clause"] (iG qp):=scM
abbrev uk(Z:ZZ)(k:Nat):Prop:=Oz Z k "follows" ["riddle","clause"] pB
def BC:BdA "follows" qp ["riddle","clause"]:=λ_ _ _ _ _ _=>us1 λ_=>us1 λ_=>us0 H
abbrev ye(Z:ZZ)(k:Nat):Prop:=Oy Z k "follows" ["riddle","clause"] nG
def Hz{CR:Nat}(a:Fz Z.K Z.mg "follows" qp)(T:Tx Z.mg)(d:ClsK Z.K Z.mg CT qJ CR)(g:pd Z k)(b:ni Z k):ye Z (k+1):=by have S:=Aw;have n:= @tQ;refine oyB (xs:=qT) a S BC λf h A c s U E e i j l m=>?_;exact(Ht<|zI (tNot<|wz<|xU g e<|xA (xO<|xIx xV<|xO x3)<|xA xV xA0)<|Ht<|zR tQ (d.x "NoClause") x4)
def Ih(a:Fz Z.K Z.mg "follows" qp)(T:Tx Z.mg)(g:pd Z k)(b:ni Z k):uk Z (k+1):=by have S:=Aw;refine ozB (asg:=[]) (fs:=Bg) a S BC λf h A c s U E L i d e j l m n=>?_;exact(s1 (sI (tNot<|wz<|xU g d<|xA (xO<|xIx xV<|xO x3)<|xA xV xA0) (s1 sX s0) s0)<|s1 (sR<|BM ⟨qW e⟩ (xO<|xU b d<|xA xV<|xA xV xA0)<|xO<|mh xL0) s0)
abbrev oo:Stmt:=top 32
abbrev oq(Z:ZZ)(k:Nat):Prop:=Oz Z k "first_against" ["clauses","so"] nL
def yw(a:Fz Z.K Z.mg "first_against" oo)(T:Tx Z.mg):oq Z (k+1):=by have S:FnScope ["clauses","so","at","clause"] ["clauses","so"] (iG oo):=scM;refine ozD a S λf g A c s U E L d i e j l m b=>?_;exact(s1 (sF (iE T xW) (gT (gN b)<|gN b)<|s1 (sI (wz<|xB T H ⟨mv H⟩<|xA (xO<|by exact xC (N':=["so","sign"]) (cOk S) (by decide+kernel) (iS xW) λ_ _ _ _ _ _ b=>⟨gN b,f0,λ_=>bE<|BM ⟨Ol e⟩ (xO<|pK xV) xV⟩) xA0) (s1 (sRV λh=>absurd (d _ h)<|by decide) s0) s0) s0)<|s1 (sR x1) s0)
abbrev nW:Stmt:=top 33
abbrev yV(Z:ZZ)(k:Nat):Prop:=Oz Z k "add_steps" ["riddle","so","steps"] (lj RD)
def xp:BdA "add_steps" nW ["riddle","so","steps"]:=λ_ _ _ _ _ _=>us1 λ_=>us1 λ_=>us1 λ_=>us0 H
def BQ{e:EvF}(a:Fz Z.K Z.mg "add_steps" nW)(T:Tx Z.mg)(j:oq Z k)(i:Ox Z k)(h:Oz Z k "add_steps" ["riddle","so","steps"] e):Oz Z (k+1) "add_steps" ["riddle","so","steps"] (evF 9 3 [3,4,5,6,7,8]<|oK e):=by have S:FnScope ["riddle","so","steps","names","clauses","at","name","one","other"] ["riddle","so","steps"] (iG nW):=scM;refine ozB (asg:=[3,4,5,6,7,8]) (fs:=oK e) a S xp λf l A g s U E L m c d n o p b=>?_;exact(s1 (sT xW<|gT (gN b)<|gN b)<|s1 (sS b<|xU j c<|xA xV<|xA xV xA0)<|s1 (sI (tCmp ⟨K8⟩ xV<|xO x1) (s1 (sE<|HA xV<|lW<|xL (xIx xV xV)<|xL (lW<|xL x4<|xL xW xL0) xL0)<|s1 sRN s0) s0)<|s1 (sS b<|xB T H ⟨LG H⟩<|xA (xO<|by exact xC (N':=["so","free"]) (cOk S) (by decide+kernel) (iR2 T<|xA (xO x3)<|xA (xO<|jX ⟨jz⟩ xV<|xO x3) xA0) λ_ _ _ _ _ _ b=>⟨gN b,f1<|tW<|ZG (tCmp ⟨yt d⟩ xV xV)<|XM<|tCmp ⟨yt d⟩ (xO<|pK xV) xV,λ_=>bE xW⟩) xA0)<|s1 (sE<|xU h c<|xA xV<|xA (xO<|jX ⟨jz⟩ xV<|xO<|lW<|xL (pK xV) xL0)<|xA xV xA0)<|s1 (sS b<|jX ⟨nR⟩ (xO<|xB T H ⟨mq⟩<|xA xV xA0)<|xO x3)<|s1 (sI (tCmp ⟨yt d⟩ xV<|xO<|xIx (xO<|xIx xV xV)<|xO x3) (s1 sRN s0) s0)<|s1 (sE<|xU h c<|xA xV<|xA (xO<|jX ⟨jz⟩ xV<|xO (lW (xL xW xL0)))<|xA xV xA0)<|s1 (sS b<|jX ⟨nR⟩ (xO<|xB T H ⟨mq⟩<|xA xV xA0)<|xO x3)<|s1 (sI (tCmp ⟨Ol d⟩ (xO<|pK xV)<|xO<|xIx (xO<|xIx xV xV)<|xO x3) (s1 (sE<|HA xV<|lW<|xL (xU i c (xA (xO (xIx (xO (xIx xV xV)) (xO x3))) (xA (xO (xIx (xO (xIx xV xV)) (xO x3))) (xA xV xA0)))) (xL (lW (xL x4 (xL xW (xL xW (xL xW xL0))))) xL0)) s0) s0) s0)
theorem wI(a:Fz Z.K Z.mg "add_steps" nW)(T:Tx Z.mg)(c:oq Z k)(b:Ox Z k): ∀m,Oz Z (k+m) "add_steps" ["riddle","so","steps"] (lj m)
 |0=>(oz0 a xp).up (by omega)
 |m+1=>BQ a T (c.up<|mo k m) (b.up<|mo k m)<|wI a T c b m
abbrev oV:Stmt:=top 34
def yN:FnScope ["riddle","clause","steps"] ["riddle","clause"] (iG oV):=scM
abbrev AO(Z:ZZ)(k:Nat):Prop:=Oz Z k "paper_of" ["riddle","clause"] pW
def zc:BdA "paper_of" oV ["riddle","clause"]:=λ_ _ _ _ _ _=>us1 λ_=>us1 λ_=>us0 H
abbrev Ak(Z:ZZ)(k:Nat):Prop:=Oy Z k "paper_of" ["riddle","clause"] pP
def EZ{CR:Nat}(a:Fz Z.K Z.mg "paper_of" oV)(T:Tx Z.mg)(e:ClsK Z.K Z.mg CT qJ CR)(m:uk Z k)(i:yV Z k)(d:ye Z k):Ak Z (k+1):=by have S:=yN;have o:= @tQ;refine oyB (xs:=sy) a S zc λf g A b s U E c h j l n=>?_;exact(Ht<|zT<|zC tQ d c<|xA xV<|xA xV xA0)
def Fw(a:Fz Z.K Z.mg "paper_of" oV)(T:Tx Z.mg)(h:uk Z k)(g:yV Z k):AO Z (k+1):=by have S:=yN;refine ozB (asg:=[2]) (fs:=yX) a S zc λf i A c s U E L j d e l m n b=>?_;exact(s1 (sI (tNot<|wz<|xU h d<|xA xV<|xA xV xA0) (s1 (sR x1) s0) s0)<|s1 (sS b<|mh xL0)<|s1 (sE<|xU g d<|xA xV<|xA (xO<|xT T H ⟨lF⟩<|xA (xO<|by exact xC (N':=["sign"]) (cOk S) (by decide+kernel) (iS xW) λ_ _ _ _ _ _ b=>⟨gN b,f0,λ_=>bE<|pK xV⟩) xA0)<|xA xV xA0)<|s1 (sI (tCmp ⟨vS e⟩ (xO<|xIx (xO<|xIx xV<|xO<|pK<|xO x3)<|xO x3) xV) (s1 (sE<|HA xV<|lW<|xL xW<|xL (lW<|xL x4<|xL (jX ⟨nR⟩ (xO<|xB T H ⟨mq⟩<|xA xV xA0)<|xO x3) xL0) xL0) s0) s0)<|s1 (sR<|xT T H ⟨lF⟩<|xA xV xA0) s0)
noncomputable abbrev pZ:Stmt:=top 36
abbrev uW(Z:ZZ)(k:Nat):Prop:=Oz Z k "_law_cell_at" ["_law_script","_law_k"] md
def AL(a:Fz Z.K Z.mg "_law_cell_at" pZ)(T:Tx Z.mg):uW Z (k+1):=by have S:FnScope ["_law_script","_law_k"] ["_law_script","_law_k"] (iG pZ):=scM;refine ozD a S λf d A b s U E L e g c h i j l=>?_;exact(s1 (sI (tCmp ⟨qV (.inl H) c⟩ xV<|xO<|xB T H ⟨mq⟩<|xA xV xA0) (s1 (sR<|xIx xV xV) s0) s0)<|s1 (sR x3) s0)
noncomputable abbrev sL:Stmt:=top 37
abbrev yR(Z:ZZ)(k:Nat):Prop:=Oz Z k "_law_state" ["_law_script","_law_k"] nr
def Ed(a:Fz Z.K Z.mg "_law_state" sL)(T:Tx Z.mg)(b:uW Z k):yR Z (k+1):=by have S:FnScope ["_law_script","_law_k","_law_cell"] ["_law_script","_law_k"] (iG sL):=scM;refine ozD a S λf h A c s U E L i d e j l m g=>?_;exact(s1 (sS g<|xU b d<|xA xV<|xA xV xA0)<|s1 (sI (tCmp ⟨qV (.inr<|.inr<|.inr H) e⟩ xV<|xO<|jX ⟨zu⟩ (xO x3)<|xO x3) (s1 (sR<|mh<|xL (jX ⟨nR⟩ xV<|xO<|jX ⟨zu⟩ (xO x3)<|xO x3)<|xL x2 xL0) s0) s0)<|s1 (sR<|mh<|xL (jX ⟨ui⟩ xV<|xO x3)<|xL x2 xL0) s0)
noncomputable abbrev vK:Stmt:=top 38
abbrev mQ(Z:ZZ)(k:Nat):Prop:=Oz Z k "_law_take" ["_law_state_here","_law_many"] jI
def Fx(a:Fz Z.K Z.mg "_law_take" vK)(T:Tx Z.mg):mQ Z (k+1):=by have S:FnScope ["_law_state_here","_law_many","_law_found","_law_mixed"] ["_law_state_here","_law_many"] (iG vK):=scM;refine ozD a S λf e A c s U E L d g i j l m b=>?_;exact(s1 (sI (wz<|xIx xV<|xO x3) (s1 (sS b<|jX ⟨ui⟩ (xO<|xIx xV<|xO x3) xV)<|s1 (sIx xV (jX ⟨JM⟩ (xO<|xIx xV<|xO x3) xV)<|xO x3)<|s1 (sRV λh=>absurd (d _ h)<|by decide) s0) s0)<|s1 (sIx xV (jX ⟨ui⟩ (xO<|jX ⟨jz⟩ (xO<|jX ⟨nS⟩ (xO<|xIx xV<|xO x3)<|xO x3)<|xO x3)<|xO x3)<|xO x3)<|s1 (sS b<|jX ⟨ui⟩ (xO<|jX ⟨jz⟩ (xO<|jX ⟨jz⟩ (xO<|jX ⟨nS⟩ (xO<|xIx xV<|xO x3)<|xO<|xIx xV<|xO x3)<|xO<|jX ⟨nS⟩ (xO x3)<|xO<|xIx xV<|xO x3)<|xO x3)<|xO x3)<|s1 (sS b<|jX ⟨ui⟩ (xO<|jX ⟨jz⟩ (xO<|jX ⟨nS⟩ xV xV)<|xO<|jX ⟨nS⟩ (xO x3) xV)<|xO x3)<|s1 (sR<|jX ⟨ui⟩ (xO<|jX ⟨JM⟩ xV<|xO x3) xV) s0)
noncomputable abbrev pY:Stmt:=top 39
abbrev uV(Z:ZZ)(k:Nat):Prop:=Oz Z k "_law_turning" ["_law_state_here","_law_names"] pA
def AJ(a:Fz Z.K Z.mg "_law_turning" pY)(T:Tx Z.mg)(d:mQ Z k):uV Z (k+1):=by have S:FnScope ["_law_state_here","_law_names","_law_rest","_law_found","_law_turn"] ["_law_state_here","_law_names"] (iG pY):=scM;refine ozD a S λf g A c s U E L h e i j l m b=>?_;exact(s1 (sS b<|ZC T H<|xA (xO x3)<|xA (xO<|jX ⟨jz⟩ xV<|xO x3) xA0)<|s1 (sS b<|mh xL0)<|s1 (sF (iR1 T<|xA xV xA0) (gN b)<|s1 (sE<|HA xV<|jX ⟨nS⟩ (xO<|ZE xV<|xO<|xU d e<|xA xV<|xA (xO<|xB T H ⟨mq⟩<|xA xV xA0) xA0)<|xO<|xIx (xO<|mh<|xL x3<|xL (pK<|xO x3) xL0)<|xO<|xU d e<|xA xV<|xA (xO x3) xA0) s0)<|s1 (sR<|xT T H ⟨lF⟩<|xA xV xA0) s0)
noncomputable abbrev oX:Stmt:=top 40
abbrev tf(Z:ZZ)(k:Nat):Prop:=Oz Z k "_law_led_sign" ["_law_turning_here","_law_sign"] lr
def zi(a:Fz Z.K Z.mg "_law_led_sign" oX)(T:Tx Z.mg):tf Z (k+1):=by have S:FnScope ["_law_turning_here","_law_sign"] ["_law_turning_here","_law_sign"] (iG oX):=scM;refine ozD a S λf d A b s U E L e g c h i j l=>?_;exact(s1 (sR<|jX ⟨nS⟩ (xO<|xIx xV<|xO<|jX ⟨nR⟩ (xO<|xB T H ⟨lM⟩<|xA xV xA0)<|xO x3)<|xO<|xIx (xO<|mh<|xL x3<|xL (pK<|xO x3) xL0)<|xO<|xT T H ⟨uz⟩<|xA (xO<|BM ⟨qV (.inl H) c⟩ xV<|xO x3) xA0) s0)
noncomputable abbrev qU:Stmt:=top 41
abbrev qX(Z:ZZ)(k:Nat):Prop:=Oz Z k "_law_clause" ["_law_state_here","_law_names"] lR
def BR(a:Fz Z.K Z.mg "_law_clause" qU)(T:Tx Z.mg)(b:mQ Z k):qX Z (k+1):=by have S:FnScope ["_law_state_here","_law_names","_law_signs"] ["_law_state_here","_law_names"] (iG qU):=scM;refine ozD a S λf h A e s U E L i c g j l m d=>?_;exact(s1 (sC (N':=["_law_state_here","_law_name"]) d (cOk S) (by decide+kernel) (iR2 T<|xA (xO x3)<|xA (xO<|jX ⟨jz⟩ xV<|xO x3) xA0) λ_ _ _ _ _ _ d=>⟨gN d,f1<|tCmp ⟨qW g⟩ (xO<|xU b c<|xA xV<|xA (xO x3) xA0)<|xO x3,λ_=>bE<|jX ⟨nS⟩ xV<|xO<|xIx (xO<|mh<|xL x3<|xL (pK<|xO x3) xL0)<|xO<|xU b c<|xA xV<|xA (xO x3) xA0⟩)<|s1 (sI (tCmp ⟨qW g⟩ xV<|xO<|mh xL0) (s1 (sS d<|mh<|xL (jX ⟨nS⟩ (xO<|jX ⟨jz⟩ (xO x3)<|xO<|xU b c<|xA xV<|xA xV xA0)<|xO<|xIx (xO<|mh<|xL x3<|xL (pK<|xO x3) xL0)<|xO<|xU b c<|xA xV<|xA (xO x3) xA0) xL0) s0) s0)<|s1 (sR<|xT T H ⟨lF⟩<|xA xV xA0) s0)
noncomputable abbrev nI:Stmt:=top 42
abbrev qv(Z:ZZ)(k:Nat):Prop:=Oz Z k "_law_led_clause" ["_law_clause_here","_law_turning_here"] lg
def wH(a:Fz Z.K Z.mg "_law_led_clause" nI)(T:Tx Z.mg)(b:tf Z k):qv Z (k+1):=by have S:FnScope ["_law_clause_here","_law_turning_here","_law_row"] ["_law_clause_here","_law_turning_here"] (iG nI):=scM;refine ozD a S λf h A d s U E L i e j l g m c=>?_;exact(s1 (sC (N':=["_law_turning_here","_law_sign"]) c (cOk S) (by decide+kernel) (iS xW) λ_ _ _ _ _ _ c=>⟨gN c,f0,λ_=>bE<|lW<|xL (xB T H ⟨lM⟩<|xA (xO<|xU b e<|xA xV<|xA xV xA0) xA0)<|xL (xU b e<|xA xV<|xA xV xA0) xL0⟩)<|s1 (sR<|xT T H ⟨lF⟩<|xA (xO<|by exact xC (N':=["_law_name","_law_sign"]) (cOk S) (by decide+kernel) (iS<|xB T H ⟨EL g⟩<|xA xV xA0) λ_ _ _ _ _ _ c=>⟨gT (gN c)<|gN c,f0,λ_=>bE xW⟩) xA0) s0)
abbrev oj:Stmt:=top 44
abbrev rK(Z:ZZ)(k:Nat):Prop:=Oz Z k "_law_riddle_of" ["_law_state_here","_law_names"] nK
def yu(a:Fz Z.K Z.mg "_law_riddle_of" oj)(T:Tx Z.mg)(g:mQ Z k)(m:qX Z k)(c:uV Z k)(b:qv Z k):rK Z (k+1):=by have S:FnScope ["_law_state_here","_law_names","_law_most","_law_some_here","_law_turn","_law_turning_here","_law_fresh","_law_clause_here"] ["_law_state_here","_law_names"] (iG oj):=scM;refine ozD a S λf n A h s U E L o d i j l p e=>?_;exact(s1 (sI (tCmp ⟨qW i⟩ xV<|xO x3) (s1 (sR<|lW<|xL x3<|xL (lW xL0) xL0) s0) s0)<|s1 (sS e<|xIx (xO<|mh<|xL x3<|xL x3<|xL x3 xL0)<|xO<|xU g d<|xA xV<|xA (xO x3) xA0)<|s1 (sS e x7)<|s1 (sF (iR1 T<|xA (xO<|xU g d<|xA xV<|xA (xO<|jX ⟨jz⟩ xV<|xO x3) xA0) xA0) (gN e)<|s1 (sDP j xV x2<|xO<|xU m d<|xA xV<|xA xV xA0) s0)<|s1 (sS e<|xU c d<|xA xV<|xA xV xA0)<|s1 (sS e<|jX ⟨Oj⟩ (xO<|xT T H ⟨IQ H⟩<|xA xV xA0)<|xO<|xIx (xO<|mh<|xL x3<|xL x3 xL0)<|xO<|xU g d<|xA xV<|xA (xO x3) xA0)<|s1 (sW (tCmp ⟨vS i⟩ xV<|xO<|mh xL0)<|s1 (sS e<|xU b d<|xA (xO<|XG xV)<|xA xV xA0)<|s1 (sI (tCmp ⟨Ia l⟩ xV xV) (s1 (sDP j xV x2 xV)<|s1 (sE<|HA xV xW) s0) s0) s0)<|s1 (sR<|lW<|xL xW<|xL (xT T H ⟨lF⟩<|xA (xO<|QM (xO (xB T H ⟨EM H l⟩ (xA xV xA0))) (xO x3)) xA0) xL0) s0)
abbrev vM:Stmt:=top 45
abbrev AS(Z:ZZ)(k:Nat):Prop:=Oz Z k "_law_bits" ["_law_names"] tJ
def FA(a:Fz Z.K Z.mg "_law_bits" vM)(T:Tx Z.mg):AS Z (k+1):=by have S:FnScope ["_law_names"] ["_law_names"] (iG vM):=scM;refine ozD a S λf d A c s U E L e g h i j l b=>?_;exact(s1 (sR<|by exact xC (N':=["_law_names","_law_number"]) (cOk S) (by decide+kernel) (iR1 T<|xA (xO<|jX ⟨RL⟩ (xO x3) xV) xA0) λ_ _ _ _ _ _ b=>⟨gN b,f0,λ_=>bE<|xT T H ⟨lF⟩<|xA (xO<|by exact xC (N':=["_law_number","_law_names","_law_k"]) (P4 H H<|by with_unfolding_all rfl) (by decide+kernel) (iR1 T<|xA xV xA0) λ_ _ _ _ _ _ b=>⟨gN b,f0,λ_=>bE<|jX ⟨RN⟩ (xO<|jX ⟨RK⟩ xV<|xO<|jX ⟨nR⟩ (xO<|jX ⟨nR⟩ xV<|xO x3) xV)<|xO x3⟩) xA0⟩) s0)
noncomputable abbrev Ax:Stmt:=top 46
abbrev AR(Z:ZZ)(k:Nat):Prop:=Oz Z k "_law_so" ["_law_answer","_law_clause_here"] lL
def Lb(a:Fz Z.K Z.mg "_law_so" Ax)(T:Tx Z.mg):AR Z (k+1):=by have S:FnScope ["_law_answer","_law_clause_here"] ["_law_answer","_law_clause_here"] (iG Ax):=scM;refine ozD a S λf e A b s U E L g h c i j l d=>?_;exact(s1 (sR<|xB T H ⟨C6 H⟩<|xA (xO<|by exact xC (N':=["_law_answer","_law_sign"]) (cOk S) (by decide+kernel) (iS xW) λ_ _ _ _ _ _ d=>⟨gN d,f0,λ_=>bE<|BM ⟨qW c⟩ (xO<|xIx xV<|xO<|jX ⟨nR⟩ (xO<|xB T H ⟨lM⟩<|xA xV xA0)<|xO x3)<|xO<|xT T H ⟨uz⟩<|xA (xO<|BM ⟨qV (.inr<|.inr<|.inl H) c⟩ xV<|xO x3) xA0⟩) xA0) s0)
noncomputable abbrev qa:Stmt:=top 47
abbrev uX(Z:ZZ)(k:Nat):Prop:=Oz Z k "_law_answers" ["_law_riddle"] mR
def AM(a:Fz Z.K Z.mg "_law_answers" qa)(T:Tx Z.mg)(b:AS Z k)(i:AR Z k):uX Z (k+1):=by have S:FnScope ["_law_riddle","_law_found","_law_answer"] ["_law_riddle"] (iG qa):=scM;refine ozD a S λf j A d s U E L g e l m n o c=>?_;exact(s1 (sS c<|mh xL0)<|s1 (sF (iS<|xU b e<|xA (xO<|xIx xV<|xO x3) xA0) (gN c)<|s1 (sI (wz<|xB T H ⟨mv H⟩<|xA (xO<|by exact xC (N':=["_law_answer","_law_clause_here"]) (cOk S) (by decide+kernel) (iS<|xIx xV<|xO x3) λ_ _ _ _ _ _ c=>⟨gN c,f0,λ_=>bE<|xU i e<|xA xV<|xA xV xA0⟩) xA0) (s1 (sE<|HA xV xW) s0) s0) s0)<|s1 (sRV λh=>absurd (g _ h)<|by decide) s0)
noncomputable abbrev sJ:Stmt:=top 48
abbrev yQ(Z:ZZ)(k:Nat):Prop:=Oz Z k "_law_whole" ["_law_thing"] ml
def Eb(a:Fz Z.K Z.mg "_law_whole" sJ)(T:Tx Z.mg):yQ Z (k+1):=by have S:FnScope ["_law_thing"] ["_law_thing"] (iG sJ):=scM;refine ozD a S λf c A b s U E L d e g h i j l=>?_;exact(s1 (sR<|E6 (xI T H xV)<|xBo<|Uv<|xI T H xV) s0)
abbrev yj:Stmt:=top 49
abbrev Cv(Z:ZZ)(k:Nat):Prop:=Oz Z k "_law_odd" ["_law_state_here"] ma
def Ic(a:Fz Z.K Z.mg "_law_odd" yj)(T:Tx Z.mg)(c:mQ Z k):Cv Z (k+1):=by have S:FnScope ["_law_state_here","_law_some_here"] ["_law_state_here"] (iG yj):=scM;refine ozD a S λf g A b s U E L h d i j l m e=>?_;exact(s1 (sS e<|mh<|xL x1<|xL x2<|xL x2<|xL (pK<|xO x3)<|xL x3<|xL x3<|xL x4<|xL x4<|xL (lW xL0)<|xL (mh xL0)<|xL (lW (xL x2 xL0)) (xL (mh (xL x3 xL0)) (xL x8 (xL (lW (xL x1 xL0)) (xL (lW (xL (lW (xL x3 xL0)) xL0)) (xL (jX ⟨zu⟩ (xO x3) (xO x3)) xL0))))))<|s1 (sR<|xIx (xO<|jX ⟨jz⟩ xV<|xO<|mh<|xL (lW<|xL x3 xL0)<|xL (lW<|xL x3<|xL x3 xL0) xL0)<|xO<|xU c d<|xA xV<|xA (xO x3) xA0) s0)
noncomputable abbrev om:Stmt:=top 50
abbrev rL(Z:ZZ)(k:Nat):Prop:=Oz Z k "_law_is_clause" ["_law_names","_law_thing"] kQ
def yv(a:Fz Z.K Z.mg "_law_is_clause" om)(T:Tx Z.mg)(b:yQ Z k):rL Z (k+1):=by have S:FnScope ["_law_names","_law_thing"] ["_law_names","_law_thing"] (iG om):=scM;refine ozD a S λf h A d s U E L i e g j l m c=>?_;exact(s1 (sI (tW<|wOr (tNot<|wz<|xI T H xV)<|QY<|tNot<|wz<|xB T H ⟨mv H⟩<|xA (xO<|by exact xC (N':=["_law_names","_law_sign"]) (cOk S) (by decide+kernel) (iS xW) λ_ _ _ _ _ _ c=>⟨gN c,f0,λ_=>bE<|E6 (xU b e<|xA xV xA0)<|xBo<|xCh (xO x3) (xO<|xB T H ⟨lM⟩<|xA xV xA0) xV⟩) xA0) (s1 (sR x2) s0) s0)<|s1 (sR<|xB T H ⟨mv H⟩<|xA (xO<|by exact xC (N':=["_law_one","_law_other"]) (cOk S) (by decide+kernel) (iZ T xW<|MS xV<|xO x3) λ_ _ _ _ _ _ c=>⟨gT (gN c)<|gN c,f0,λ_=>bE<|BM ⟨qV (.inl H) g⟩ (xO<|xB T H ⟨lM⟩<|xA xV xA0)<|xO<|xB T H ⟨lM⟩<|xA xV xA0⟩) xA0) s0)
abbrev lK:Stmt:=top 51
def Bz:BdA "_law_refused" lK ["_law_call"]:=λ_ _ _ _ _ _=>us1 λ_=>us0 H
abbrev uT(Z:ZZ)(k:Nat):Prop:=Rf Z lK ["_law_call","_law_error","e","_law_sorts","_law_words"] "_law_refused" "_law_call" "RiddleError" "_law_error" "e" 1 2 k [1,2,3,4] (jt CT qJ) (λz=>qJ.lookup z)
def AK{CR:Nat}(a:Fz Z.K Z.mg "_law_refused" lK)(T:Tx Z.mg)(b:ClsK Z.K Z.mg CT qJ CR):uT Z k:=by
 have S:FnScope ["_law_call","_law_error","e","_law_sorts","_law_words"] ["_law_call"] (iG lK):=scM;obtain⟨f,g,m,F⟩:=a;refine⟨f,g,CR,F,F.binds Bz,m,λX i=>?_,b.ci⟩;subst i;refine⟨S,by decide,rfl,rfl,by decide,by decide,rfl,rfl,rfl,rfl,b.re,by decide,_,_,_,_,_,_,_,_,_,_,_,rfl,λe A d s U L n j=>?_⟩;have c:=S.nd;have o:=j.un;have l:un (A.deeper<|aV "_law_refused" (iG lK) s.heap.objs.size f e) 60:=by unfold un;omega
 refine⟨rfl,rfl,QS.h (show QS _ _ _ _ _ _ from(sS c x1)),QQ.h (show QQ _ _ _ _ _ (jt CT qJ) from(s1 (sI (tCmp ⟨Vy⟩ xV<|xO x1) (s1 (sR x1) s0) s0)<|s1 (sS c<|mh<|xL (xE T (b.t "NoName") xV)<|xL (xE T (b.t "NoBit") xV)<|xL (xE T (b.t "NoTurning") xV) xL0)<|s1 (sS c<|jX ⟨jz⟩ xV<|xO<|mh<|xL (xE T (b.t "NoAnswer") xV)<|xL (xE T (b.t "NoNumber") xV)<|xL (xE T (b.t "NoClause") xV) xL0)<|s1 (sS c<|jX ⟨jz⟩ xV<|xO<|mh<|xL (xE T (b.t "NoPutting") xV)<|xL (xE T (b.t "TooMany") xV)<|xL (xE T (b.t "NoRiddle") xV) xL0)<|s1 (sE<|HA xV<|xE T (b.t "BadNote") xV)<|s1 (sI (tW<|wOr (tNot<|wz<|xEV T b.vm b.v xV)<|QY<|tCmp ⟨vS l⟩ (xO<|Zy b.su<|xA (xO<|by exact xC (N':=["_law_kind"]) (cOk S) (by decide+kernel) (iSV xV) λ_ _ _ _ _ _ c=>⟨gN c,f0,λ_=>bE<|xT T H ⟨uz⟩ (xA xV xA0)⟩) xA0)<|xO x3) (s1 (sR x4) s0) s0)<|s1 (sS c<|mh<|xL x4<|xL x4<|xL x4<|xL x4<|xL x4 (xL x4 (xL x4 (xL x4 (xL x4 (xL x4 xL0))))))<|s1 (sR<|xIx xV<|xO<|ZF xV) s0))⟩
abbrev vL:Stmt:=top 52
abbrev AQ(Z:ZZ)(k:Nat):Prop:=Oz Z k "_law_some" ["_law_state_here","_law_names"] ox
def Fy(a:Fz Z.K Z.mg "_law_some" vL)(T:Tx Z.mg)(g:qX Z k):AQ Z (k+1):=by have S:FnScope ["_law_state_here","_law_names","_law_found","_law_one","_law_other"] ["_law_state_here","_law_names"] (iG vL):=scM;refine ozD a S λf h A c s U E L i d e j l m b=>?_;exact(s1 (sI (tCmp ⟨qW e⟩ xV<|xO x3) (s1 (sR<|mh<|xL (lW xL0) xL0) s0) s0)<|s1 (sS b<|mh<|xL (lW xL0) xL0)<|s1 (sF (iR2 T<|xA (xO x3)<|xA (xO<|jX ⟨jz⟩ xV<|xO x3) xA0) (gN b)<|s1 (sS b<|jX ⟨jz⟩ xV<|xO<|mh<|xL (lW<|xL xW xL0)<|xL (lW<|xL (pK xV) xL0) xL0)<|s1 (sF (iR2 T<|xA (xO<|jX ⟨jz⟩ xV<|xO x3)<|xA (xO<|jX ⟨jz⟩ xV<|xO x3) xA0) (gN b)<|s1 (sS b<|jX ⟨jz⟩ xV<|xO<|mh<|xL (lW<|xL xW<|xL xW xL0)<|xL (lW<|xL xW<|xL (pK xV) xL0)<|xL (lW<|xL (pK xV) (xL xW xL0))<|xL (lW (xL (pK xV) (xL (pK xV) xL0))) xL0) s0) s0)<|s1 (sR<|jX ⟨jz⟩ xV<|xO<|by exact xC (N':=["_law_state_here","_law_names","_law_turn"]) (cOk S) (by decide+kernel) (iR1 T<|xA (xO x3) xA0) λ_ _ _ _ _ _ b=>⟨gN b,f0,λ_=>bE<|xU g d<|xA xV<|xA xV xA0⟩) s0)
abbrev vN:Stmt:=top 53
abbrev AU(Z:ZZ)(k:Nat):Prop:=Oz Z k "_law_bent" ["_law_state_here","_law_names","_law_clause_here"] mO
def FC(a:Fz Z.K Z.mg "_law_bent" vN)(T:Tx Z.mg)(c:mQ Z k):AU Z (k+1):=by have S:FnScope ["_law_state_here","_law_names","_law_clause_here","_law_at","_law_odd_here","_law_some_here"] ["_law_state_here","_law_names","_law_clause_here"] (iG vN):=scM;refine ozD a S λf g A e s U E L h d i j l m b=>?_;exact(s1 (sS b<|xU c d<|xA xV<|xA (xO<|jX ⟨jz⟩ (xO<|xB T H ⟨mq⟩<|xA xV xA0)<|xO x3) xA0)<|s1 (sS b<|xIx (xO<|mh<|xL x3<|xL (jX ⟨jz⟩ xV<|xO x3)<|xL (jX ⟨nR⟩ (xO<|pK xV)<|xO x3)<|xL x2<|xL x1<|xL x4<|xL (lW<|xL x3 xL0)<|xL x3<|xL (pK (xO x3)) (xL xW (xL (pK xV) (xL (jX ⟨zu⟩ (xO x3) (xO x3)) xL0))))<|xO<|xU c d<|xA xV<|xA (xO x3) xA0)<|s1 (sS b<|mh<|xL (jX ⟨jz⟩ (xO<|jX ⟨jz⟩ (xO<|QM xV xV)<|xO<|lW<|xL xW xL0)<|xO<|MS xV xV)<|xL (jX ⟨jz⟩ (xO<|jX ⟨jz⟩ (xO<|QM xV xV)<|xO<|lW<|xL xW xL0)<|xO<|MS xV<|xO<|jX ⟨jz⟩ xV<|xO x3)<|xL (xT T H ⟨Bw⟩<|xA xV xA0)<|xL (ZD xV<|xO<|pK<|xO x3) xL0)<|s1 (sS b<|jX ⟨jz⟩ xV<|xO<|mh<|xL (lW<|xL xW xL0)<|xL (jX ⟨jz⟩ xV<|xO<|QM xV<|xO x3)<|xL (jX ⟨jz⟩ xV<|xO<|MS xV<|xO (pK (xO x3)))<|xL x1 xL0)<|s1 (sR<|xIx xV<|xO<|xIx (xO<|mh<|xL x3<|xL x3<|xL x3<|xL x3 (xL x3 (xL x3 (xL x3 (xL x3 (xL x3 (xL x3 xL0)))))))<|xO<|xU c d<|xA xV<|xA (xO x3) xA0) s0)
noncomputable abbrev Ju:Stmt:=top 54
def Wu:BdA "law" Ju ["_law_script"]:=λ_ _ _ _ _ _=>us1 λ_=>us0 H
def VO{f c:iB}{Q:mD}(F:Fun Z.K "law" "law" Ju f Q)(hc:Q.code= .ref c)(Y:PySem.W.CodeHd Z.base c 373)(U:Z.base.BuiltinsAt Z.mg 373)(T:Tx Z.mg)(o:yR Z k)(x:mQ Z k)(g:rK Z k)(m:uX Z k)(v:AQ Z k)(l:uk Z k)(C:AR Z k)(u:AU Z k)(B:Cv Z k)(e:rL Z k)(a:uT Z k)(h:AO Z k)(n6:ye Z k)(y:Ak Z k):FnOk Z.P Z.w Z.K Z.mg Z.base CX0 (k+3) f Q ["_law_script"] (spT TB62<|spF Z.K vb):=by have S:FnScope ["_law_script","_law_k","_law_state_here","_law_riddle","_law_there","_law_some_here","_law_clause_here","_law_found","_law_thing","_law_due"] ["_law_script"] (iG Ju):=scM;have n:=o.up (j:=k+2) (by omega);have N:=x.up (j:=k+2) (by omega);have d:=g.up (j:=k+2) (by omega);have i:=m.up (j:=k+2) (by omega);have t:=v.up (j:=k+2) (by omega);have D:=l.up (j:=k+2) (by omega);have R:=C.up (j:=k+2) (by omega);have r:=u.up (j:=k+2) (by omega);have z:=B.up (j:=k+2) (by omega);have b:=e.up (j:=k+2) (by omega);have O:=h.up (j:=k+2) (by omega);refine aaI (q:="law.<locals>.<lambda>") (asg:=[1,2,3,4,5,6,7,8,9]) (fs:=Be) F hc Y U (by decide) (by decide) S λf V A J s _ E L X p G j9 k6 l6 I M=>?_;exact(s1 (sF (iR1 T<|xA (xO<|xB T O9 ⟨IM O9⟩<|xA (xO x3)<|xA (xO<|xB T O9 ⟨IL O9⟩<|xA (xO<|xB T O9 ⟨mq⟩<|xA xV xA0)<|xA (xO x3) xA0) xA0) xA0) (gN I)<|s1 (sS I<|xU n p<|xA xV<|xA xV xA0)<|s1 (sS I<|xU d p<|xA xV<|xA (xO<|xU N p<|xA xV<|xA (xO x3) xA0) xA0)<|s1 (sS I<|xU i p<|xA xV xA0)<|s1 (sS I<|xU t p<|xA xV<|xA (xO<|xIx xV<|xO x3) xA0)<|s1 (sF (iS xW) (gN I)<|s1 (sS I<|xU D p<|xA xV<|xA xV xA0)<|s1 (sI (tW<|wOr (tNot<|wz<|xI T O9 xV)<|QY<|tCmp ⟨vS G⟩ xV<|xO<|xB T O9 ⟨mv O9⟩ (xA (xO (by exact xC (N':=["_law_clause_here","_law_answer"]) (cOk S) (by decide+kernel) (iS xW) λ_ _ _ _ _ _ I=>⟨gN I,f0,λ_=>bE (xU R p (xA xV (xA xV xA0)))⟩)) xA0)) (s1 (sR x2) s0) s0) s0)<|s1 (sF (iS<|jX ⟨jz⟩ (xO<|by exact xC (N':=["_law_state_here","_law_riddle","_law_some_here","_law_turn"]) (cOk S) (by decide+kernel) (iR1 T<|xA (xO x3) xA0) λ_ _ _ _ _ _ I=>⟨gN I,f0,λ_=>bE<|xU r p<|xA xV<|xA (xO<|xIx xV (xO x3))<|xA (xO (xIx xV (xO (pK (xO x3))))) xA0⟩)<|xO<|mh<|xL (xU z p<|xA xV xA0) xL0) (gN I)<|s1 (sS I<|xIx (xO<|mh<|xL x1<|xL x4 xL0)<|xO<|xT T O9 ⟨uz⟩<|xA (xO<|Uv (xU b p (xA (xO (xIx xV (xO x3))) (xA xV xA0)))) xA0)<|s1 (sI (tCmp ⟨vS G⟩ (xO<|xRf (N':=["_law_riddle","_law_thing"]) a M p (cOk S) (by decide+kernel) λ_ _ _ _ _ _ _ _ p=>⟨xU l p<|xA xV<|xA xV xA0,zC E5 n6 p<|xA xV<|xA xV xA0⟩) xV) (s1 (sR x2) s0) s0)<|s1 (sI (tCmp ⟨vS G⟩ (xO<|xRf (N':=["_law_riddle","_law_thing"]) a M p (cOk S) (by decide+kernel) λ_ _ _ _ _ _ _ _ p=>⟨xU h p<|xA xV<|xA xV xA0,zC E5 y p<|xA xV<|xA xV xA0⟩) xV) (s1 (sR x2) s0) s0) s0) s0)<|s1 (sR x2) s0)
end
def all_mk{l:PySem.W.OpenLaw}{w:iW}{K:jb}{a:lp}{fa:iB}(du:a "law"=N2 (.ref fa))(T:Tx a)
  (a0:Fz K a "is_whole" vO)
  (a1:Fz K a "is_number" sN)
  (a2:Fz K a "is_bit" Ay)
  (a3:Fz K a "is_name" ym)
  (a4:Fz K a "is_sign" yk)
  (a5:Fz K a "is_rising" sM)
  (a6:Fz K a "is_clause" sO)
  (a7:Fz K a "is_answer" sP)
  (a8:Fz K a "is_so" D6)
  (a9:Fz K a "keeps_clause" oY)
  (a10:Fz K a "keeps" D5)
  (a11:Fz K a "all_answers" qb)
  (a12:Fz K a "answers" yn)
  (a13:Fz K a "answers_against" ng)
  (a14:Fz K a "may_be_shown" oW)
  (a15:Fz K a "met" Nq)
  (j:Fz K a "follows" qp)
  (a17:Fz K a "first_against" oo)
  (a18:Fz K a "add_steps" nW)
  (m:Fz K a "paper_of" oV)
  (a20:Fz K a "_law_cell_at" pZ)
  (a21:Fz K a "_law_state" sL)
  (a22:Fz K a "_law_take" vK)
  (a23:Fz K a "_law_turning" pY)
  (a24:Fz K a "_law_led_sign" oX)
  (a25:Fz K a "_law_clause" qU)
  (a26:Fz K a "_law_led_clause" nI)
  (a27:Fz K a "_law_riddle_of" oj)
  (a28:Fz K a "_law_bits" vM)
  (a29:Fz K a "_law_so" Ax)
  (a30:Fz K a "_law_answers" qa)
  (a31:Fz K a "_law_whole" sJ)
  (a32:Fz K a "_law_odd" yj)
  (a33:Fz K a "_law_is_clause" om)
  (a34:Fz K a "_law_refused" lK)
  (a35:Fz K a "_law_some" vL)
  (a36:Fz K a "_law_bent" vN)
  (n:FzT K a "law" Ju 373)
  (q:ClsK K a CT qJ 24)
  (l3: ∃t,a "MOST_SIGNS"=N2 (.int 5 t))
  : ∃o:mD,(∀(s:iI) (v:iO),fM s o ⟨[v],[]⟩ [("_law_script",v)])/\(∀p∈TB62,∃c,PySem.W.codeHdIn K c p.1=O0)/\ ∀base:ja,K.In base->base.Ns am a->(∀p∈TB62,base.BuiltinsAt a p.1)->FnOk l.prog w K a base CX0 13 fa o ["_law_script"] (spT TB62<|spF K vb):=by
 obtain⟨o,c,F,hc,hC,hb⟩:=aaF n du Wu;refine⟨o,hb,aC n.cd<|aN,λbase KB _ BB=>?_⟩
 let z:ZZ:=⟨l.prog,w,K,a,base⟩
 have S:=FD (Z:=z) (k:=0) a0 T;have V:=Ef (Z:=z) (k:=1) a1 T S.up;have O2:=Lc (Z:=z) (k:=2) a2 T V.up;have O3:=Ig (Z:=z) (k:=2) a3 T V.up;have O4:=Ie (Z:=z) (k:=3) a4 T S.up O3.up;have O5:=Ee (Z:=z) (k:=0) a5 T;have O6:=Eg (Z:=z) (k:=4) a6 T l3 O4.up O5.up;have O7:=Eh (Z:=z) (k:=3) a7 T O2.up;have O8:=Ot (Z:=z) (k:=0) a8 T;have X:=zj (Z:=z) (k:=1) a9 T O8.up;have r:=Oq (Z:=z) (k:=4) a10 T O7.up X.up;have u:=AN (Z:=z) (k:=0) a11 T;have x:=Ii (Z:=z) (k:=5) a12 T u.up r.up;have d:=vT (Z:=z) (k:=6) a13 T x.up X.up;have e:=zh (Z:=z) (k:=5) a14 T O6.up;have y:=VN (Z:=z) (k:=0) a15 T;have R:=Ih (Z:=z) (k:=7) j T e.up d.up;have i:=Hz (Z:=z) (k:=7) j T q e.up d.up;have A:=yw (Z:=z) (k:=0) a17 T;have f:=wI (Z:=z) (k:=1) a18 T A.up y.up RD;have B:=Fw (Z:=z) (k:=9) m T R.up f.up;have P:=EZ (Z:=z) (k:=9) m T q R.up f.up i.up;have C:=AL (Z:=z) (k:=0) a20 T;have E:=Ed (Z:=z) (k:=1) a21 T C.up;have b:=Fx (Z:=z) (k:=0) a22 T;have H:=AJ (Z:=z) (k:=1) a23 T b.up;have I:=zi (Z:=z) (k:=0) a24 T;have g:=BR (Z:=z) (k:=1) a25 T b.up;have L:=wH (Z:=z) (k:=1) a26 T I.up;have O:=yu (Z:=z) (k:=2) a27 T b.up g.up H.up L.up;have Q:=FA (Z:=z) (k:=0) a28 T;have h:=Lb (Z:=z) (k:=0) a29 T;have G:=AM (Z:=z) (k:=1) a30 T Q.up h.up;have J:=Eb (Z:=z) (k:=0) a31 T;have M:=Ic (Z:=z) (k:=1) a32 T b.up;have N:=yv (Z:=z) (k:=1) a33 T J.up;have U:=AK (Z:=z) (k:=10) a34 T q;have Y:=Fy (Z:=z) (k:=2) a35 T g.up;have D:=FC (Z:=z) (k:=1) a36 T b.up;exact VO (Z:=z) (k:=10) F hc (PySem.W.codeHd_of_K KB hC) (BB _ kg) T E.up b.up O.up G.up Y.up R.up h.up D.up M.up N.up U B.up i.up P.up
end K62
namespace PV
open L2 PX
@[simp] theorem aal(d:D)(δ:Dn):fC d δ=C ((d,Y),δ):=rfl
@[simp] theorem UX(f:F)(δ:Dn):iJ f δ=(f δ).bind λp=>C (.val p.1,p.2):=rfl
@[simp] theorem Zq(x:D×Bool)(a:Dn):iC 0 (C x::a)=C (.slot 0,C x::a):=rfl
@[simp] theorem Zp(a:Sl)(x:D×Bool)(b:Dn):iC 1 (a::C x::b)=C (.slot 1,a::C x::b):=rfl
@[simp] theorem Zo(a b:Sl)(x:D×Bool)(c:Dn):iC 2 (a::b::C x::c)=C (.slot 2,a::b::C x::c):=rfl
@[simp] theorem Zn(a b c:Sl)(x:D×Bool)(d:Dn):iC 3 (a::b::c::C x::d)=C (.slot 3,a::b::c::C x::d):=rfl
@[simp] theorem Zm(a b c d:Sl)(x:D×Bool)(e:Dn):iC 4 (a::b::c::d::C x::e)=C (.slot 4,a::b::c::d::C x::e):=rfl
@[simp] theorem Zl(a b c d e:Sl)(x:D×Bool)(f:Dn):iC 5 (a::b::c::d::e::C x::f)=C (.slot 5,a::b::c::d::e::C x::f):=rfl
@[simp] theorem Zk(a b c d e f:Sl)(x:D×Bool)(g:Dn):iC 6 (a::b::c::d::e::f::C x::g)=C (.slot 6,a::b::c::d::e::f::C x::g):=rfl
@[simp] theorem Zj(a b c d e f g:Sl)(x:D×Bool)(h:Dn):iC 7 (a::b::c::d::e::f::g::C x::h)=C (.slot 7,a::b::c::d::e::f::g::C x::h):=rfl
@[simp] theorem Zi(a b c d e f g h:Sl)(x:D×Bool)(i:Dn):iC 8 (a::b::c::d::e::f::g::h::C x::i)=C (.slot 8,a::b::c::d::e::f::g::h::C x::i):=rfl
@[simp] theorem UU(δ:Dn)(r:D×Bool):res δ (.val r)=C r.1:=rfl
@[simp] theorem aab(x:D×Bool)(a:Dn):res (C x::a) (.slot 0)=C x.1:=rfl
@[simp] theorem aaa(a:Sl)(x:D×Bool)(b:Dn):res (a::C x::b) (.slot 1)=C x.1:=rfl
@[simp] theorem Z9(a b:Sl)(x:D×Bool)(c:Dn):res (a::b::C x::c) (.slot 2)=C x.1:=rfl
@[simp] theorem Z8(a b c:Sl)(x:D×Bool)(d:Dn):res (a::b::c::C x::d) (.slot 3)=C x.1:=rfl
@[simp] theorem Z7(a b c d:Sl)(x:D×Bool)(e:Dn):res (a::b::c::d::C x::e) (.slot 4)=C x.1:=rfl
@[simp] theorem Z6(a b c d e:Sl)(x:D×Bool)(f:Dn):res (a::b::c::d::e::C x::f) (.slot 5)=C x.1:=rfl
@[simp] theorem Z5(a b c d e f:Sl)(x:D×Bool)(g:Dn):res (a::b::c::d::e::f::C x::g) (.slot 6)=C x.1:=rfl
@[simp] theorem Z4(a b c d e f g:Sl)(x:D×Bool)(h:Dn):res (a::b::c::d::e::f::g::C x::h) (.slot 7)=C x.1:=rfl
@[simp] theorem Z3(a b c d e f g h:Sl)(x:D×Bool)(i:Dn):res (a::b::c::d::e::f::g::h::C x::i) (.slot 8)=C x.1:=rfl
@[simp] theorem U1(g:D->Option (D×Bool))(a:FO)(b:Dn):lB g a b=(a b).bind λp=>(res p.2 p.1).bind λx=>(g x).bind λz=>C (z,p.2):=rfl
@[simp] theorem aak(g:D->D->Option (D×Bool))(a b:FO)(c:Dn):iU g a b c=(a c).bind λp=>(b p.2).bind λq=>(res q.2 p.1).bind λx=>(res q.2 q.1).bind λy=>(g x y).bind λz=>C (z,q.2):=rfl
@[simp] theorem Yi(a:Dn):kF [] a=C ([],a):=rfl
@[simp] theorem Zt(f:FO)(fs:List FO)(a:Dn):kF (f::fs) a=(f a).bind λp=>(kF fs p.2).bind λq=>C (p.1::q.1,q.2):=rfl
@[simp] theorem Ra(a:Dn):vP a []=C []:=rfl
@[simp] theorem UW(a:Dn)(o:Opd)(os:List Opd):vP a (o::os)=(res a o).bind λd=>(vP a os).bind λl=>C (d::l):=rfl
@[simp] theorem Zs(g:List D->Option (D×Bool))(fs:List FO)(a:Dn):jm g fs a=(kF fs a).bind λp=>(vP p.2 p.1).bind λb=>(g b).bind λz=>C (z,p.2):=rfl
@[simp] theorem Zg:pX []=C []:=rfl
@[simp] theorem ZU(r:D×Bool)(os:List Opd):pX (.val r::os)=(pX os).map (r.1:: ·):=rfl
@[simp] theorem U0(fs:List F)(b:Dn):ly fs b=(kF (fs.map iJ) b).bind λp=>(pX p.1).bind λa=>if (Ps a)<=sizeLine then C ((.tup a,Y),p.2) else I:=rfl
@[simp] theorem U3(fs:List F)(a:Dn):lS fs a=(kF (fs.map iJ) a).bind λp=>(pX p.1).bind λds=>if (Ps ds)<=sizeLine then C ((.lst ds,J),p.2) else I:=rfl
@[simp] theorem aa1(b o:Bool)(a:Dn):asB ((.bl b,o),a)=C (b,a):=rfl
@[simp] theorem aa6(f:F)(a:Dn):fT f a=(f a).bind asB:=rfl
@[simp] theorem Zu(f g:FT)(a:Dn):Gg f g a=(f a).bind λp=>if p.1=J then g p.2 else C (Y,p.2):=rfl
@[simp] theorem aaj(f g:FT)(a:Dn):B8 f g a=(f a).bind λp=>if p.1=J then C (J,p.2) else g p.2:=rfl
@[simp] theorem Zr(f:FT)(a:Dn):nY f a=(f a).bind λp=>C (!p.1,p.2):=rfl
@[simp] theorem NF(f g:F)(a:Dn):Bm f g a=(f a).bind λp=>(asB p).bind λq=>if q.1=J then g q.2 else C ((.bl Y,Y),q.2):=rfl
@[simp] theorem aaY(f g:F)(a:Dn):fOr f g a=(f a).bind λp=>(asB p).bind λq=>if q.1=J then C ((.bl J,Y),q.2) else g q.2:=rfl
@[simp] theorem U2(f:F)(δ:Dn):SA f δ=(f δ).bind λp=>(asB p).bind λq=>C ((.bl (!q.1),Y),q.2):=rfl
@[simp] theorem aaZ(t:FT)(f g:F)(a:Dn):fIf t f g a=(t a).bind λp=>if p.1=J then f p.2 else g p.2:=rfl
@[simp] theorem Z1(a:Dn):jn a=C (.nx a):=rfl
noncomputable def nxt(g:FS):Out->Option Out
 | .nx a=>g a
 |o=>C o
@[simp] theorem aad(g:FS)(a:Dn):nxt g (.nx a)=g a:=rfl
@[simp] theorem aac(g:FS)(r:D×Bool)(a:Dn):nxt g (.rt r a)=C (.rt r a):=rfl
@[simp] theorem NC(f g:FS)(a:Dn):iP f g a=(f a).bind (nxt g):=by
 unfold iP
 cases f a with
 |none=>rfl
 |some o=>cases o<;>rfl
@[simp] theorem Zh(f:F)(a:Dn):mG f a=(f a).bind λp=>C (.nx p.2):=rfl
@[simp] theorem Z0(f:F)(a:Dn):lh f a=(f a).bind λp=>C (.rt p.1 p.2):=rfl
@[simp] theorem Yg(t:FT)(f g:FS)(a:Dn):sIf t f g a=(t a).bind λp=>if p.1=J then f p.2 else g p.2:=rfl
@[simp] theorem ZY(i:Nat)(f:F)(a:Dn):kL i f a=(f a).bind λp=>if i<(Ps p.2) then C (.nx<|p.2.set i<|C p.1) else I:=rfl
@[simp] theorem ZX(b:Tg)(f:F)(c:Dn):Q8 b f c=(f c).bind λp=>(b p.1.1 p.2).bind λa=>C (.nx a):=rfl
@[simp] theorem aa5(g:D->Option (D×Bool))(d:D):g1 g [d]=g d:=rfl
@[simp] theorem aa4(g:D->D->Option (D×Bool))(d e:D):g2 g [d,e]=g d e:=rfl
@[simp] theorem Yk(i j:Int):lA (.int i) (.int j)=C (.int<|i+j,Y):=rfl
@[simp] theorem NB(i j:Int):PX.gSub (.int i) (.int j)=C (.int<|i-j,Y):=rfl
@[simp] theorem aaT(i:Int):uB (.int i)=C (.int (-i),Y):=rfl
@[simp] theorem Yl(i:Int):Ey (.int i)=C (.int (if i<0 then -i else i),Y):=rfl
@[simp] theorem aag(l:List D):F7 (.tup l)=C (.int<|Ps l,Y):=rfl
@[simp] theorem UZ(l:List D):F7 (.lst l)=C (.int<|Ps l,Y):=rfl
@[simp] theorem ZW(l:List D):pj (.lst l)=C (.tup l,Y):=rfl
@[simp] theorem ZV(l:List D):pj (.tup l)=C (.tup l,Y):=rfl
@[simp] theorem aae(l:List D):Ba (.tup l)=C (.lst l,J):=rfl
@[simp] theorem aaf(l:List D):Ba (.lst l)=C (.lst l,J):=rfl
@[simp] theorem ND(b:Bool):Iy (.bl b)=C (.int (if b then 1 else 0),Y):=rfl
@[simp] theorem aah(b:Int):Iy (.int b)=C (.int b,Y):=rfl
@[simp] theorem aaW(i j:Int):Pn (.int i) (.int j)=C (.int (if j>i then j else i),Y):=rfl
@[simp] theorem aaV(i j:Int):Pm (.int i) (.int j)=C (.int (if j<i then j else i),Y):=rfl
@[simp] theorem aaX(a:List Ty)(d:D):Ex a d=C (.bl<|a.any<|isT d,Y):=rfl
@[simp] theorem JA(i j:Int):gEq (.int i) (.int j)=C (.bl<|i==j,Y):=by unfold gEq;rw[iT<|by simp[D.dep]];simp[D.eqb]
@[simp] theorem aaU(i j:Int):gNe (.int i) (.int j)=C (.bl (!(i==j)),Y):=by unfold gNe;rw[iT<|by simp[D.dep]];simp[D.eqb]
@[simp] theorem aa0(i j:Bool):gEq (.bl i) (.bl j)=C (.bl<|i==j,Y):=by unfold gEq;rw[iT<|by simp[D.dep]];simp[D.eqb]
@[simp] theorem Yh(i j:Bool):gNe (.bl i) (.bl j)=C (.bl (!(i==j)),Y):=by unfold gNe;rw[iT<|by simp[D.dep]];simp[D.eqb]
@[simp] theorem UY(i j:Int):ot .Lt (.int i) (.int j)=C (.bl<|decide<|i<j,Y):=by simp[ot,nv,kP,D.dep]
@[simp] theorem aa2(i j:Int):ot .LtE (.int i) (.int j)=C (.bl<|decide<|i<=j,Y):=by simp[ot,nv,kP,D.dep]
@[simp] theorem aai(i j:Int):ot .Gt (.int i) (.int j)=C (.bl<|decide<|i>j,Y):=by simp[ot,nv,kP,D.dep]
@[simp] theorem aa3(i j:Int):ot .GtE (.int i) (.int j)=C (.bl<|decide<|i>=j,Y):=by simp[ot,nv,kP,D.dep]
@[simp] theorem Rb(f:F)(δ:Dn):kb f δ=(f δ).bind λp=>match p.1.1 with| .lst l=>C (l,p.2)| .tup l=>C (l,p.2)|_=>I:=rfl
@[simp] theorem Z2(b:FIt)(c:Tg)(a:FS)(d:Dn):qt b c a d=(b d).bind λp=>qD c a p.1 p.2:=rfl
@[simp] theorem wG(a:Dn):jH a=C (J,a):=rfl
@[simp] theorem uh(f:F)(a:List D)(b:Dn):jQ f a b=(f b).bind λp=>if (Ps a)<sizeLine then C (a++[p.1.1],p.2) else I:=rfl
def wD(h:n<=10000):n<=sizeLine:=by rw[kf];lia
def wC(h:n<=10000):n<sizeLine:=by rw[kf];lia
noncomputable abbrev enc(t:iQ):D×Bool:=(.tup<|t.map .int,Y)
noncomputable abbrev ii(n:Int):Sl:=C (.int n,Y)
noncomputable abbrev eN(t:iQ):Sl:=C<|enc t
noncomputable abbrev pI(n:Int):D×Bool:=(.int n,Y)
noncomputable abbrev pS(a:Int)(b:Bool):D×Bool:=(.lst [.int a,.bl b],J)
def nd1(i:Nat):([i]:List Nat).Nodup:=by simp
noncomputable abbrev stt(a:Int)(b:Bool):Sl:=C (.lst [.int a,.bl b],J)
noncomputable abbrev lsi(l:iQ):Sl:=C (.lst<|l.map .int,J)
@[simp] theorem Rc(b:EvF)(fs:List FO)(c:Dn):iX b fs c=(kF fs c).bind λp=>(jZ p.2 p.1).bind λa=>if(jh p.1 a).Nodup then(b a).bind λq=>C (q.1,wb p.1 a q.2 p.2) else I:=rfl
@[simp] theorem yp(δ:Dn):jZ δ []=C []:=rfl
@[simp] theorem Yj(b:Dn)(o:Opd)(os:List Opd):jZ b (o::os)=(zd b o).bind λa=>(jZ b os).bind λl=>C (a::l):=rfl
@[simp] theorem aam(a:Dn)(r:D×Bool):zd a (.val r)=C (r.1,Y):=rfl
@[simp] theorem aan(a:Dn)(i:Nat):zd a (.slot i)=(a[i]?).join:=rfl
def ud(a:Int)(b:Bool)(m:Int)(c:0<m)(d:m<1073741824):
  ∃v e,0<=v/\v<m/\jI [pS a b,pI m]=C ((.int v,Y),[C (.lst [.int e,.bl b],J),ii m]):=by
 cases b
 .have h1: ∀x:Int, -18446744073709551616<x%2147483647/\x%2147483647<18446744073709551616:=λx=>by lia
  have f: ∀x:Int, -18446744073709551616<x%2147483629/\x%2147483629<18446744073709551616:=λx=>by lia
  simp only[jI,tE];simp[evF,gIx,atI,ixN,BZ,gI,Pp,pk,Iv,Az,oI,jv,jh,wb,LQ,tP,CMul,c,d,h1,f];exact⟨GJ _ (by lia),GK _ c⟩
 .simp only[jI,tE];simp[evF,gIx,atI,ixN,BZ,gI,Pp,pk,Iv,Az,oI,jv,jh,wb,LQ,tP,CMul,c,d];exact⟨GJ _ (by lia),GK _ c⟩
theorem zF(x y:Int):(x==y)=decide (x=y):=rfl
def nk{g:List D->Option (D×Bool)}{fs:List FO}{δ a:Dn}{os:List Opd}{ds:List D}{z:D×Bool}(h1:kF fs δ=C (os,a))(b:vP a os=C ds)(c:g ds=C z):jm g fs δ=C (z,a):=by unfold jm;rw[h1];simp only[jU];rw[b];simp only[jU];rw[c];rfl
def jY(h1:(Ps args)=np/\np<=n/\(args.zipIdx.all λp=>!(p.1.2&&asg.contains p.2))=J)(a:f (args.map C++ac (n-np) I)=C (.rt r δ)):evF n np asg f args=C (r,jv args δ):=by unfold evF;rw[iT h1,a]
def iN(h:f δ=C (.nx δ1)):iP f g δ=g δ1:=by unfold iP;rw[h];rfl
def jo{r}(h:f δ=C (.rt r δ1)):iP f g δ=C (.rt r δ1):=by unfold iP;rw[h];rfl
def kn{r}(h:f δ=C (r,δ1)):lh f δ=C (.rt r δ1):=by unfold lh;rw[h];rfl
def kK{r}(h:f δ=C (r,δ1))(a:i<Ps δ1):kL i f δ=C (.nx<|δ1.set i<|C r):=by unfold kL;rw[h];simp only[jU];rw[iT a]
def kZ(h:f δ=C ((.bl b,o),δ1)):fT f δ=C (b,δ1):=by unfold fT;rw[h];rfl
def iY{r}(h:f δ=C (r,δ1)):iJ f δ=C (.val r,δ1):=by unfold iJ;rw[h];rfl
def kr(h1:a δ=C (o1,δ1))(c:b δ1=C (o2,δ2))(d:res δ2 o1=C x)(e:res δ2 o2=C y)(f:g x y=C z):iU g a b δ=C (z,δ2):=by unfold iU;rw[h1];simp only[jU];rw[c];simp only[jU];rw[d,e];simp only[jU];rw[f];rfl
def jP{b:EvF}{fs:List FO}{δ δ1:Dn}{os:List Opd}{args:List (D×Bool)}{r:D×Bool}{a:Dn}(h1:kF fs δ=C (os,δ1))(c:jZ δ1 os=C args)(d:(jh os args).Nodup)(e:b args=C (r,a)):iX b fs δ=C (r,wb os args a δ1):=by unfold iX;rw[h1];simp only[jU];rw[c];simp only[jU];rw[iT d,e];rfl
def pz(h:f δ=C (Y,δ1)):B8 f g δ=g δ1:=by unfold B8;rw[h];rfl
def mI(h:f δ=C (b,δ1)):nY f δ=C (!b,δ1):=by unfold nY;rw[h];rfl
def nh(h:t δ=C (Y,δ1)):sIf t f g δ=g δ1:=by unfold sIf;rw[h];rfl
def qr(h:t δ=C (J,δ1)):sIf t f g δ=f δ1:=by unfold sIf;rw[h];rfl
def nq{a b:FO}{δ δ1 δ2:Dn}{o1 o2:Opd}(h1:a δ=C (o1,δ1))(c:b δ1=C (o2,δ2)):kF [a,b] δ=C ([o1,o2],δ2):=by simp only[kF];rw[h1];simp only[jU];rw[c];rfl
def ou{a:FO}{δ δ1:Dn}{o1:Opd}(h1:a δ=C (o1,δ1)):kF [a] δ=C ([o1],δ1):=by simp only[kF];rw[h1];rfl
def pU(h:fi δ=C (ds,δ1)):qt fi tg fb δ=qD tg fb ds δ1:=by unfold qt;rw[h];rfl
def rm{os}(h1:b δ=C (d,δ1))(c:kF fs δ1=C (os,a)):kF (b::fs) δ=C (d::os,a):=by simp only[kF];rw[h1];simp only[jU];rw[c];rfl
def SD{fs:List F}{δ δ1:Dn}{os:List Opd}{a:List D}(h1:kF (fs.map iJ) δ=C (os,δ1))(b:pX os=C a)(c:(Ps a)<=sizeLine):lS fs δ=C ((.lst a,J),δ1):=by unfold lS;rw[h1];simp only[jU];rw[b];simp only[jU];rw[iT c]
def SU(a:iQ)(k:Nat): ∃c,md [(.lst<|a.map .int,Y),pI k]=C ((.int c,Y),[C (.lst<|a.map .int,Y),ii k]):=by
 by_cases hk:k<Ps a
 .refine⟨a[k],?_⟩;simp[md,pv,evF,gIx,atI,ixN,jv,hk]
 .refine⟨0,?_⟩;simp[md,pv,evF,jv,hk]
def TF:Iv (.int 10) (.int 18)=ii 1000000000000000000:=by
 have:tP 10 18:=by unfold tP;decide+kernel
 show((if tP 10 18 then C (D.int (10^(18:Int).toNat)) else I).map λz=>(z,Y))=_;rw[iT this];rfl
def TC:Iv (.int 10) (.int 29)=ii 100000000000000000000000000000:=by
 have:tP 10 29:=by unfold tP;decide+kernel
 show((if tP 10 29 then C (D.int (10^(29:Int).toNat)) else I).map λz=>(z,Y))=_;rw[iT this];rfl
def Nd(d:iQ)(k:Nat): ∃a b,nr [(.lst<|d.map .int,Y),pI k]=C ((.lst [.int a,.bl b],J),[C (.lst<|d.map .int,Y),ii k]):=by
 obtain⟨c,e⟩:=SU d k;by_cases h:c>=1000000000000000000
 .refine⟨c-1000000000000000000,J,?_⟩;simp[nr,rh,evF,e,jh,wb,TF,h,kf,jv]
 .refine⟨c%2147483647,Y,?_⟩;simp[nr,rh,evF,e,jh,wb,TF,h,kf,jv,BZ,gI]
noncomputable def st(n:Nat):List Int:=(aj n).map λ(k:Nat)=>(1+(k:Int))
def UG(n:Nat):(st n).map D.int=jB 1 n:=by simp[st,jB]
noncomputable def uU:Nat->List Int->List Int->List (List Int)
 |0,_,f=>[f]
 |k+1,r,f=>(aj<|Ps r).flatMap λv=>uU k (r.eraseIdx v) (f++[r.getD v 0*1])++uU k (r.eraseIdx v) (f++[r.getD v 0* -1])
theorem CV(f:Int->D): ∀(l:iQ) (k:Nat),(l.map f).eraseIdx k=(l.eraseIdx k).map f
 |[],k=>by simp
 |x::l,0=>by simp
 |x::l,k+1=>by simp[CV f l k]
def Ly{i:Nat}{f:FO}{a δ1:Dn}{o:Opd}{n l:List D}{k:Int}{j:Nat}{d:D}(b:a[i]?=C (C (.lst n,J)))(h1:f a=C (o,δ1))(c:res δ1 o=C (.int k))(e:δ1[i]?=C (C (.lst l,J)))(g: -(2^63)<=k/\k<2^63)(h:ixN (Ps l) k=C j)(m:l[j]?=C d):
  Bk i f a=C ((d,Y),δ1.set i<|C (.lst<|l.eraseIdx j,J)):=by
 unfold Bk;rw[b];simp only[];rw[h1];simp only[jU];rw[c,e];simp only[];rw[iT g,h];simp only[jU];rw[m];rfl
def vZ{i:Nat}{f:F}{δ a:Dn}{r:D×Bool}{l0 l:List D}(b:δ[i]?=C (C (.lst l0,J)))(h1:f δ=C (r,a))(c:a[i]?=C (C (.lst l,J)))(d:(Ps l)<sizeLine):
  lG i f δ=C ((.non,Y),a.set i<|C (.lst<|l++[r.1],J)):=by
 unfold lG;rw[b];simp only[];rw[h1];simp only[jU];rw[c];simp only[];rw[iT d]
def sQ{r}(h:f δ=C (r,δ1)):mG f δ=C (.nx δ1):=by unfold mG;rw[h];rfl
noncomputable abbrev fPop:F:=Xn
abbrev Y1:F:=Ut
abbrev fbT:FS:=iP (mG<|lG 3<|iU pk (iJ fPop)<|iJ Y1) jn
def Vk(a:Int)(b:Bool)(n:Sl)(r f:iQ)(x:Sl)(i:0<Ps r)(l:(Ps r)<=5): ∃v c,v<Ps r/\fPop [stt a b,n,lsi r,lsi f,x]=C ((.int<|r.getD v 0,Y),[stt c b,n,lsi<|r.eraseIdx v,lsi f,x]):=by
 obtain⟨v,c,h,hv,e⟩:=ud a b (Ps r) (by lia) (by lia);have d:v.toNat<(Ps r):=by lia
 refine⟨v.toNat,c,d,?_⟩;have g:(lsi (r.eraseIdx v.toNat):Sl)=C (.lst<|(r.map D.int).eraseIdx v.toNat,J):=by rw[CV]
 rw[g];refine Ly (k:=v) (δ1:=[stt c b,n,lsi r,lsi f,x]) H (iY (r:=(.int v,Y))<|jP (δ1:=[stt a b,n,lsi r,lsi f,x]) (os:=[.slot 0,.val (.int<|Ps r,Y)]) (args:=[pS a b,pI<|Ps r]) ?_ H (show([0]:List Nat).Nodup from by decide) e) H H ⟨by lia,by lia⟩ (j:=v.toNat) ?_ ?_
 .show C ([Opd.slot 0,Opd.val (D.int ((r.map D.int).length:Nat),Y)],_)=_;rw[jF]
 .unfold ixN;rw[iT h,iT<|by simpa using hv]
 .simp[d]
def UK(a:Int)(b:Bool)(n y z x:Sl): ∃s c,(s=1\/s= -1)/\Y1 [stt a b,n,y,z,x]=C ((.int s,Y),[stt c b,n,y,z,x]):=by obtain⟨v,c,f,hv,e⟩:=ud a b 2 (by lia) (by lia);have d: ∀δ:Dn,lS [fC<|.int 1,MQ] δ=C ((.lst [.int 1,.int (-1)],J),δ):=λδ=>rfl;refine⟨if v=0 then 1 else -1,c,by split<;>simp,?_⟩;refine kr (δ1:=[stt a b,n,y,z,x]) (iY<|d _) (iY (δ1:=[stt c b,n,y,z,x])<|jP (δ1:=[stt a b,n,y,z,x]) (os:=[.slot 0,.val (.int 2,Y)]) (args:=[pS a b,pI 2]) H H (show([0]:List Nat).Nodup from by decide) e) H H ?_;rcases(show v=0\/v=1 by lia) with rfl|rfl<;>rfl
def Wg(a:Int)(b:Bool)(n:Sl)(r f:iQ)(x:Sl)(j:0<Ps r)(k:(Ps r)<=5)(m:(Ps f)<=5): ∃v s c,v<Ps r/\(s=1\/s= -1)/\fbT [stt a b,n,lsi r,lsi f,x]=C (.nx [stt c b,n,lsi<|r.eraseIdx v,lsi<|f++[r.getD v 0*s],x]):=by
 obtain⟨v,a1,hv,e⟩:=Vk a b n r f x j k;obtain⟨s,d,q,g⟩:=UK a1 b n (lsi<|r.eraseIdx v) (lsi f) x;refine⟨v,s,d,hv,q,?_⟩
 have p:pk (.int<|r.getD v 0) (.int s)=ii (r.getD v 0*s):=by have:CMul (r.getD v 0) s:= .inr (by lia);show((if CMul (r.getD v 0) s then C (D.int<|r.getD v 0*s) else I).map λz=>(z,Y))=_;rw[iT this];rfl
 have o:(f.map D.int).length<sizeLine:=by rw[jF];exact GA m (by decide)
 have h:=vZ (i:=3) (δ:=[stt a b,n,lsi r,lsi f,x]) (l0:=f.map .int) H (kr (iY e) (iY g) H H p) (l:=f.map .int) H o;refine(iN<|sQ h).trans ?_;simp[jn,lsi]
def YY(b:Bool)(n:Sl): ∀(c:List D) (a:Int) (r f:iQ) (x:Sl),Ps c=Ps r->Ps f+Ps r<=5->
  ∃g t i j,t∈uU (Ps c) r f/\qD (iL 4) fbT c [stt a b,n,lsi r,lsi f,x]=C (.nx [stt g b,n,lsi i,lsi t,j]):=by
 intro p
 induction p with
 |nil=>intro a r f x _ _;exact⟨a,f,r,x,by simp[uU],rfl⟩
 |cons d c o=>
  intro a r f x h q;simp only[mw] at h;obtain⟨v,s,a1,hv,m,e⟩:=Wg a b n r f (C (d,Y)) (by lia) (by lia) (by lia);obtain⟨g,t,i,j,k,l⟩:=o a1 (r.eraseIdx v) (f++[r.getD v 0*s]) (C (d,Y)) (by rw[Dm,iT hv];lia) (by rw[Dm,iT hv,lP];simp only[mw,qL];lia);refine⟨g,t,i,j,?_,?_⟩
  .simp only[mw,uU,dr,pJ,yK];refine⟨v,hv,?_⟩;rcases m with rfl|rfl
   .exact .inl k
   .exact .inr k
  .unfold qD;rw[show iL 4 d [stt a b,n,lsi r,lsi f,x]=C [stt a b,n,lsi r,lsi f,C (d,Y)] from H];simp only[jU];rw[e];simp only[jU];exact l
def UQ(n:Nat)(b:n<=5):gRg .lst J [.int 1,.int<|(n:Int)+1]=C (.lst<|(st n).map .int,J):=by
 have:n=0\/n=1\/n=2\/n=3\/n=4\/n=5:=by lia
 have h1:RgOk 1 ((n:Int)+1):=by rcases this with rfl|rfl|rfl|rfl|rfl|rfl<;>decide+kernel
 have a:((n:Int)+1-1).toNat=n:=by lia
 show(if RgOk 1 ((n:Int)+1) then C (D.lst<|jB 1 ((n:Int)+1-1).toNat,J) else I)=_;rw[iT h1,a,<-UG]
def pV{f:FO}{δ δ1:Dn}{o:Opd}{n:Nat}(h1:f δ=C (o,δ1))(a:res δ1 o=C (.int n))(e:n<=63):BX f δ=C (jB 0 n,δ1):=by
 have d:(-(2^62)<=(n:Int)/\(n:Int)<2^62):=⟨by lia,by lia⟩
 have b:kF [f] δ=C ([o],δ1):=by simp[kF,h1]
 have c:vP δ1 [o]=C [.int n]:=by simp[vP,a]
 unfold BX;rw[b];simp only[jU];rw[c];simp only[];rw[iT d];rfl
def HD(a:Int)(b:Bool)(n:Nat)(f:n<=5): ∃d t,t∈uU n (st n) []/\pA [pS a b,pI n]=C (enc t,[stt d b,ii n]):=by
 have c:(jB 0 n).length=n:=by simp[jB]
 have h:(st n).length=n:=by simp[st]
 obtain⟨d,t,j,k,g,e⟩:=YY b (ii n) (jB 0 n) a (st n) [] I (by rw[c,h]) (by rw[h];simpa using f);rw[c] at g;refine⟨d,t,g,?_⟩;refine jY (δ:=[stt d b,ii n,lsi j,lsi t,k]) ⟨rfl,by decide,rfl⟩ ?_;refine(iN (δ1:=[stt a b,ii n,lsi<|st n,I,I])<|kK (i:=2) (δ1:=[stt a b,ii n,I,I,I]) (nk (os:=[.val (.int 1,Y),.val (.int<|(n:Int)+1,Y)]) H H<|UQ n f) (show 2<5 by decide)).trans ?_;refine(iN (δ1:=[stt a b,ii n,lsi<|st n,lsi [],I]) H).trans ?_;refine(iN<|(pU<|pV (o:= .slot 1) H H<|by lia).trans e).trans ?_;exact jo<|kn<|nk (os:=[.slot 3]) H H H
def qG: ∀t:List Int,D.depL (t.map .int)=0:=by
 intro b
 induction b with
 |nil=>simp[D.depL]
 |cons s t a=>simp[D.depL,D.dep,a]
theorem Bp: ∀a b:List Int,D.eqbL (a.map .int) (b.map .int)=decide (a=b)
 |[],[]=>by simp[D.eqbL]
 |[],_::_=>by simp[D.eqbL]
 |_::_,[]=>by simp[D.eqbL]
 |x::a,y::b=>by simp[D.eqbL,D.eqb,Bp a b,mA,zF]
@[simp] theorem Lu(a b:iQ):gEq (.lst<|a.map .int) (.lst<|b.map .int)=C (.bl<|decide<|a=b,Y):=by unfold gEq;rw[iT<|by simp[D.dep,qG]];simp[D.eqb,Bp]
def RZ: ∀(l m:iQ),l.Nodup->(∀x∈l,x∈m)->Ps m<=Ps l->l.Perm m:=by
 intro k
 induction k with
 |nil=>intro m _ _ h;have:m=[]:=Qu.mp (by simpa using h);subst this;exact vw _
 |cons x l j=>
  intro m a c h;rw[Ah] at a;have g:=c x kg;have b:=LZ g;refine((j (m.erase x) a.2 (λy d=>?_) ?_).cons x).trans b.symm
  .have f:=c y<|kj _ d;have i:y≠x:=λe=>a.1<|e▸d;exact(GI i).mpr f
  .have:=b.length_eq;simp only[mw] at this h
   lia
def LU:x∈st n↔1<=x/\x<=n:=by
 simp only[st,my,yK];constructor
 .rintro⟨k,h,rfl⟩;lia
 .rintro⟨h1,a⟩;exact⟨(x-1).toNat,by lia,by lia⟩
def X3(n:Nat):(st n).Pairwise (· < ·):=by simp only[st];rw[og];exact WQ.imp λh=>by lia
def X4(n:Nat):(st n).Nodup:=(X3 n).imp λh=>by lia
def Vo{n:Nat}{l:iQ}:l.Perm (st n)↔(Ps l)=n/\(∀x∈l,1<=x/\x<=n)/\l.Nodup:=by
 constructor
 .intro h;refine⟨by rw[h.length_eq];simp[st],λx a=>LU.mp<|h.mem_iff.mp a,h.symm.nodup<|X4 n⟩
 .rintro⟨h1,b,c⟩;exact RZ l (st n) c (λx a=>LU.mpr<|b x a) (by simp[st,h1])
def Ep{l:iQ}{m:List D}(h:m.Perm (l.map D.int)): ∃k:List Int,m=k.map .int:=by
 refine⟨m.map λd=>match d with|D.int i=>i|_=>0,?_⟩;rw[kH]
 symm
 rw[uE (g:=id),uD];intro d hd;obtain⟨i,_,rfl⟩:=my.mp<|h.mem_iff.mp hd;rfl
def Fh(l:iQ):nH (l.map .int)=J:=by
 unfold nH
 cases l with
 |nil=>rfl
 |cons x l=>rw[xG];right;simp only[km];simp[lu,D.pr,D.dep,nv]
def DX(pre:Dn)(x:Sl)(d:D):iL (Ps pre) d (pre++[x])=C (pre++[C (d,Y)]):=by unfold iL;rw[iT<|by simp];simp[ms]
def IT(f:F)(g:D->D)(pre:Dn): ∀(l a:List D) (x:Sl),(∀d∈l,∃o,f (pre++[C (d,Y)])=C ((g d,o),pre++[C (d,Y)]))->Ps a+Ps l<=sizeLine->
  ∃b,kJ (iL<|Ps pre) jH (jQ f) l a (pre++[x])=C (a++l.map g,pre++[b]):=by
 intro n
 induction n with
 |nil=>intro a x _ _;exact⟨x,by simp[kJ]⟩
 |cons d l m=>
  intro a x h c;obtain⟨o,hd⟩:=h d kg;obtain⟨b,e⟩:=m (a++[g d]) (C (d,Y)) (λi j=>h i<|kj _ j) (by simp at c ⊢;lia);refine⟨b,?_⟩;have k:(Ps a)<sizeLine:=by simp at c;lia
  rw[kJ,DX];simp only[jU,wG,ky,uh];rw[hd];simp only[jU];rw[iT k];simp only[jU];rw[e];simp
def C7(p:D->Bool): ∀l:List D,mP (l.map λd=> .bl (p d))=C (l.map p):=by
 intro b
 induction b with
 |nil=>exact H
 |cons d l a=>simp[mP,a]
def ze(p:D->Bool)(l:List D):tD (.lst<|l.map λd=> .bl (p d))=C (.bl<|l.all p,Y):=by simp[tD,C7,si,uI]
def Qg(p:D->Bool)(l:List D):Iz (.lst<|l.map λd=> .bl (p d))=C (.bl<|l.any p,Y):=by simp[Iz,C7,xR,uI]
noncomputable def ab(s:Int):Int:=if s<0 then -s else s
noncomputable def wh:D->Bool
 | .int _=>J
 |_=>Y
noncomputable def sg(n:Int):D->Bool
 | .int s=>decide (1<=ab s)&&decide (ab s<=n)
 |_=>Y
noncomputable def iOf:D->Int
 | .int s=>s
 |_=>0
def wu(d:D):nZ [(d,Y)]=C ((.bl<|wh d,Y),[C (d,Y)]):=by
 cases d<;>simp[nZ,yY,evF,jv,wh,isT]
def CD(d:D):ml [(d,Y)]=C ((.bl<|wh d,Y),[C (d,Y)]):=by
 cases d<;>simp[ml,qC,evF,jv,wh,isT]
def CB(d:D)(lo a:Int):mn [(d,Y),(.int lo,Y),(.int a,Y)]=C ((.bl (match d with| .int s=>decide (lo<=s)&&decide (s<=a)|_=>Y),Y),[C (d,Y),C (.int lo,Y),C (.int a,Y)]):=by
 cases d with
 |int s=>by_cases h:lo<=s<;>simp[mn,rl,evF,jv,wu,wh,jh,wb,nj,kP,h]
 |_=>simp[mn,rl,evF,jv,wu,wh,jh,wb]
def JS(d:D)(n:Int):rn [(.int n,Y),(d,Y)]=C ((.bl (match d with| .int s=>decide (1<=s)&&decide (s<=n)|_=>Y),Y),[C (.int n,Y),C (d,Y)]):=by simp[rn,Bf,evF,jv,CB,jh,wb]
def Jt(n:Int)(d:D):mS [pI n,(d,Y)]=C ((.bl<|sg n d,Y),[ii n,C (d,Y)]):=by
 cases d with
 |int s=>simp[mS,vW,evF,jv,wu,JS,wh,jh,wb,sg,ab];rfl
 |_=>simp[mS,vW,evF,jv,wu,JS,wh,jh,wb,sg,ab]
def Au(h:sg n d=J):d= .int (iOf d):=by cases d<;>simp_all [sg,iOf]
def OkD(d:D):Prop:= ∀l,d= .tup l->Ps l<=60
def ixl(a:0<=v)(h:v<L.length):gIx (.lst L) (.int v)=C (L.getD v.toNat .non,Y):=by
 have h1:v.toNat<L.length:=by lia
 simp[gIx,atI,ixN,a,h,h1]
def ixt(a:0<=v)(h:v<L.length):gIx (.tup L) (.int v)=C (L.getD v.toNat .non,Y):=by
 have h1:v.toNat<L.length:=by lia
 simp[gIx,atI,ixN,a,h,h1]
def ixi{t:iQ}{v:Int}(a:0<=v)(h:v<Ps t):gIx (.tup<|t.map .int) (.int v)=ii (t.getD v.toNat 0):=by
 have h1:v.toNat<(Ps t):=by lia
 simp[gIx,atI,ixN,a,h,h1]
def YN{t:iQ}{v:Int}(a:0<=v)(h:v<Ps t):gIx (.lst<|t.map .int) (.int v)=ii (t.getD v.toNat 0):=by
 have h1:v.toNat<(Ps t):=by lia
 simp[gIx,atI,ixN,a,h,h1]
def BE{P:D->Prop}{L:List D}(a:P .non)(h: ∀d∈L,P d)(k:Nat):P (L.getD k .non):=by
 rw[qP]
 cases e:L[k]? with
 |none=>exact a
 |some d=>exact h d<|nB e
def RU:OkD .non:=λl h=>by cases h
def Qj(h1:(Ps l)<=1000)(a:(Ps m)<=1000):lA (.tup l) (.tup m)=C (.tup<|l++m,Y):=by simp only[lA];rw[iT<|by rw[kf];lia]
def Ta(h1:(Ps l)<=1000)(a:(Ps m)<=1000):lA (.lst l) (.lst m)=C (.lst<|l++m,J):=by simp only[lA];rw[iT<|by rw[kf];lia]
def Ei:List D:=[.non,.bl J,.bl Y,.int (-1),.int 0,.int 1,.str "",.str "1",.tup [],.lst [],.tup [.bl J],.lst [.int 1],.oth .dct [.int 0] [.int 1],.tup [.non],.tup [.tup [.int 1]],.int 100000000000000000000000000000,.tup [.int 0],.tup [.int 1,.int 2]]
def La: ∀d∈Ei,OkD d:=by intro d hd;simp only[Ei,lz,lD,mE] at hd;rcases hd with rfl|rfl|rfl|rfl|rfl|rfl|rfl|rfl|rfl|rfl|rfl|rfl|rfl|rfl|rfl|rfl|rfl|rfl<;>intro l h<;>cases h<;>decide
def nO(a:Int)(b:Bool)(m:Int)(j:0<m)(f:m<1073741824): ∃v c,0<=v/\v<m/\ ∀(d:FO) (δ:Dn) (o:Opd),d (stt a b::δ)=C (o,stt a b::δ)->zd (stt a b::δ) o=ii m->iX jI [iC 0,d] (stt a b::δ)=C ((.int v,Y),stt c b::δ):=by
 obtain⟨v,c,g,h1,e⟩:=ud a b m j f;refine⟨v,c,g,h1,λd δ o h i=>?_⟩;refine(jP (os:=[.slot 0,o]) (args:=[pS a b,pI m]) (nq H h) ?_ ?_ e).trans ?_
 .simp[i]
 .cases o<;>simp[jh]
 .cases o<;>simp[wb]
def EF(l:List D)(lo a:Option Int):(oO l lo a).length<=(Ps l):=by unfold PX.oO;rw[rG,Ad];lia
noncomputable def led(u:iQ)(s:Int):Int:=if 0<s then u.getD (s-1).toNat 0 else -(u.getD (-s-1).toNat 0)
def YE(x:Int):pk (.int x) (.int 1)=ii x:=by have:CMul x 1:= .inr (by lia);show((if CMul x 1 then C (D.int<|x*1) else I).map λz=>(z,Y))=_;rw[iT this,Af];rfl
def YD(x:Int):pk (.int x) (.int (-1))=ii (-x):=by have:CMul x (-1):= .inr (by lia);show((if CMul x (-1) then C (D.int<|x*(-1)) else I).map λz=>(z,Y))=_;rw[iT this,v8,Af];rfl
theorem pm0:gIx (.lst [.int 1,.int (-1)]) (.int 0)=ii 1:=rfl
theorem pm1:gIx (.lst [.int 1,.int (-1)]) (.int 1)=ii (-1):=rfl
def R7(u:iQ)(s:Int)(b:s≠0)(h1: -((Ps u):Int)<=s)(c:s<=Ps u):
  lr [enc u,pI s]=C ((.int<|led u s,Y),[eN u,ii s]):=by
 simp only[lr,oH];by_cases h:0<s
 .have:=ixi (t:=u) (v:=s-1) (by lia) (by lia);have a: ¬s<0:=by lia
  simp only[evF];simp[h,a,led,this,jv,kf,pm0,YE]
 .have:=ixi (t:=u) (v:= -s-1) (by lia) (by lia);have a:s<0:=by lia
  simp only[evF];simp[h,a,led,this,jv,kf,pm1,YD]
def M9(a:Int)(b:Bool)(m:Int)(n:0<m)(i:m<1073741824): ∃v g,0<=v/\v<m/\ ∀(h:FO) (c d:Sl) (f:Dn) (o:Opd),h (c::d::stt a b::f)=C (o,c::d::stt a b::f)->zd (c::d::stt a b::f) o=ii m->iX jI [iC 2,h] (c::d::stt a b::f)=C ((.int v,Y),c::d::stt g b::f):=by
 obtain⟨v,g,j,h1,e⟩:=ud a b m n i;refine⟨v,g,j,h1,λh c d f o k l=>?_⟩;refine(jP (os:=[.slot 2,o]) (args:=[pS a b,pI m]) (nq H k) ?_ ?_ e).trans ?_
 .simp[l]
 .cases o<;>simp[jh]
 .cases o<;>simp[wb]
def ClOk(n:Nat)(c:iQ):Prop:=c≠[]/\(c.map ab).Pairwise (· < ·)/\ ∀s∈c,1<=ab s/\ab s<=n
def CA(j:Int)(c:iQ):Prop:=(c.map ab).Pairwise (· < ·)/\ ∀s∈c,1<=ab s/\ab s<j
def Ja(h:0<=i):ab i=i:=by unfold ab;rw[je<|by lia]
def Jb(h:0<=i):ab (-i)=i:=by unfold ab;split<;>lia
def CA.snoc{j s:Int}{c:iQ}(h:CA j c)(h1:ab s=j)(e:1<=j):CA (j+1) (c++[s]):=by
 refine⟨?_,λx a=>?_⟩
 .rw[nU,vh];refine⟨h.1,by simp,λx a y b=>?_⟩;obtain⟨z,d,rfl⟩:=my.mp a;simp at b;subst b;have:=h.2 z d;lia
 .rcases pJ.mp a with a|a
  .have:=h.2 x a;lia
  .simp at a;subst a;lia
def CA.up(h:CA j c):CA (j+1) c:=⟨h.1,λx a=>by have:=h.2 x a;lia⟩
def Bl{i:Nat}{f:F}{δ δ1:Dn}{r:D×Bool}{l0 l:List D}(a:δ[i]?=C (C (.lst l0,J)))(h1:f δ=C (r,δ1))(b:δ1[i]?=C (C (.lst l,J)))(c:(Ps l)<=10000):
  iP (mG<|lG i f) jn δ=C (.nx<|δ1.set i<|C (.lst<|l++[r.1],J)):=
 (iN<|sQ<|vZ a h1 b<|wC c).trans rfl
def J8(h1:f δ=C (o1,δ1))(a:g δ1=C (o2,δ2))(b:res δ2 o1=C (.int i))(c:res δ2 o2=C (.int j))(d:0<=i/\i<=1000)(e:0<=j/\j<=1000):A6 f g δ=C (jB i (j-i).toNat,δ2):=by unfold A6;rw[nq h1 a];simp only[jU,UW,Ra,b,c];rw[iT ⟨by lia,by lia,by lia,by lia⟩]
def yz(h:f δ=C ((.lst l,o),δ1)):kb f δ=C (l,δ1):=by unfold kb;rw[h];rfl
def Ij{b:Type}[BEq b][LawfulBEq b]: ∀(l m:List b),l.Nodup->(∀x∈l,x∈m)->Ps l<=(Ps m):=by
 intro n
 induction n with
 |nil=>intro m _ _;exact lN _
 |cons x l k=>
  intro m a c;rw[Ah] at a;have i:=c x kg;have h:=LZ i
  have:=k (m.erase x) a.2 (λy d=>by have f:=c y<|kj _ d;have j:y≠x:=λe=>a.1<|e▸d;exact(GI j).mpr f)
  have g:=h.length_eq;simp only[mw] at g ⊢
  lia
def JD{l:iQ}(h:l.Pairwise (· < ·)):l.Nodup:=h.imp λh=>by lia
def ClOk.len{n:Nat}{c:iQ}(h:ClOk n c):(Ps c)<=n:=by
 have:=Ij (c.map ab) (st n) (JD h.2.1) (λx b=>by obtain⟨s,a,rfl⟩:=my.mp b;exact LU.mpr<|h.2.2 s a)
 simpa[st] using this
def TOk(n:Nat)(t:iQ):Prop:=Ps t=n/\ ∀x∈t,1<=ab x/\ab x<=n
def mX(i:Int):ab (-i)=ab i:=by unfold ab;split<;>split<;>lia
def uu{l:iQ}{k:Nat}(h:k<Ps l):l.getD k 0∈l:=by rw[qP,jA h];exact GB h
def VU{n:Nat}{t:iQ}(b:TOk n t){s:Int}(h1:1<=ab s)(a:ab s<=n):1<=ab (led t s)/\ab (led t s)<=n:=by
 unfold led;unfold ab at h1 a;have c:=b.1;split
 .rename_i h;rw[je<|by omega] at h1 a;exact b.2 _ (uu<|by omega)
 .rename_i h;rw[mX];split at h1
  .rw[iT<|by assumption] at a;exact b.2 _ (uu<|by omega)
  .omega
noncomputable abbrev cD(c:iQ):D:= .tup (c.map .int)
def yE(c:iQ):D.dep (cD c)=1:=by simp[D.dep,qG]
def SM: ∀a:List (List Int),D.depL (a.map cD)<=1:=by
 intro d
 induction d with
 |nil=>simp[D.depL]
 |cons c a b=>have:=b;simp only[km,D.depL,yE];lia
def ED(a b:iQ):D.eqb (cD a) (cD b)=decide (a=b):=by simp[D.eqb,Bp]
def Ww(c:iQ): ∀a:List (List Int),(a.map cD).any (λd=>D.eqb d<|cD c)=decide (c∈a):=by
 intro f
 induction f with
 |nil=>simp
 |cons x a b=>
  simp only[km,dc,b,ED,lz];by_cases h:x=c
  .simp[h]
  .have: ¬c=x:=λe=>h e.symm;simp[h,this]
noncomputable def BG:Nat->List (List Int)
 |0=>[[]]
 |k+1=>BG k++((BG k).map λc=>c++[(k:Int)+1])++((BG k).map λc=>c++[-((k:Int)+1)])
def Qh: ∀(k:Nat) (c:iQ),(c.map ab).Pairwise (· < ·)->(∀s∈c,1<=ab s/\ab s<=k)->c∈BG k:=by
 intro j
 induction j with
 |zero=>
  intro c _ h
  cases c with
  |nil=>simp[BG]
  |cons s c=>have:=h s kg;lia
 |succ k f=>
  intro c b h;simp only[BG,pJ,my];by_cases d:c=[]
  .subst d;exact .inl<|.inl<|f [] (by simp) (by simp)
  .have hd:=Dh d;generalize c.dropLast=i at hd;generalize c.getLast d=s at hd;subst hd;rw[nU,vh] at b;have l:=h s (by simp);have g: ∀x∈i,1<=ab x/\ab x<ab s:=λx a=>⟨(h x<|by simp[a]).1,b.2.2 (ab x) (vn a) (ab s)<|by simp⟩
   by_cases q:ab s<=k
   .refine .inl (.inl<|f _ ?_ λx a=>?_)
    .rw[nU,vh];exact b
    .rcases pJ.mp a with a|a
     .have:=g x a;lia
     .simp at a;subst a;lia
   .have e:ab s=(k:Int)+1:=by lia
    have hk:=f i b.1 λx a=>by have:=g x a;lia
    unfold ab at e;split at e
    .exact .inr ⟨i,hk,by rw[show s= -((k:Int)+1) by lia]⟩
    .exact .inl (.inr ⟨i,hk,by rw[show s=((k:Int)+1) by lia]⟩)
def LP: ∀(k:Nat) (n:Nat),n<=k->(BG n).length<=(BG k).length:=by
 intro b
 induction b with
 |zero=>intro n h;rw[show n=0 by lia];exact jW _
 |succ k a=>
  intro n h;by_cases e:n=k+1
  .subst e;exact jW _
  .have:=a n (by lia);simp only[BG,lP,jF];lia
def CsOk(n:Nat)(cs:kd):Prop:=cs.Nodup/\ ∀c∈cs,ClOk n c
def CsOk.len(b:n<=5)(h:CsOk n cs):(Ps cs)<=243:=by
 have h1:=Ij cs (BG n) h.1 λc a=>Qh n c (h.2 c a).2.1 (h.2 c a).2.2;have d:=LP 5 n b;have e:(BG 5).length=243:=by decide
 lia
def CsOk.snoc{n:Nat}{b:kd}{c:iQ}(h:CsOk n b)(f:ClOk n c)(g:c∉b):CsOk n (b++[c]):=by
 refine⟨?_,λx a=>?_⟩
 .rw[jp];exact⟨h.1,by simp,λx a y d e=>by simp at d;subst d;subst e;exact g a⟩
 .rcases pJ.mp a with a|a
  .exact h.2 x a
  .simp at a;subst a;exact f
noncomputable abbrev lsC(cs:kd):Sl:=C (.lst<|cs.map cD,J)
noncomputable def xu(a:kd)(c:iQ):List (List Int):=if c∈a then a else a++[c]
noncomputable def dd(a:kd):List (List Int):=a.foldl xu []
def NX: ∀l:List Int,D.prL (l.map .int)=J:=by
 intro b
 induction b with
 |nil=>simp[D.prL]
 |cons x l a=>simp[D.prL,D.pr,a]
theorem CZ(c:cH): ∀a b:List Int,(rq c (a.map .int)<|b.map .int).isSome=J
 |[],b=>by simp[rq]
 |x::a,[]=>by simp[rq]
 |x::a,y::b=>by
  simp only[km,rq];split
  .exact CZ c a b
  .simp[nv]
def Co(cs:kd)(h: ∀c∈cs,c≠[]):nH (cs.map cD)=J:=by
 have hk: ∀c:List Int,c≠[]->lu (cD c)=C 1:=λc g=>by
  cases c with
  |nil=>exact absurd H g
  |cons=>rfl
 unfold nH
 cases cs with
 |nil=>rfl
 |cons c cs=>
  rw[xG];right;simp only[km];rw[lE,lE,hk c<|h c kg];refine⟨⟨rfl,?_⟩,?_⟩
  .rw[lU];intro d hd;rw[<-km (f:=cD)] at hd;obtain⟨x,b,rfl⟩:=my.mp hd;rw[hk x<|h x b,yE];simp[D.pr,NX]
  .rw[lU];intro d hd;rw[lU];intro e a;rw[<-km (f:=cD)] at hd a;obtain⟨x,b,rfl⟩:=my.mp hd;obtain⟨y,i,rfl⟩:=my.mp a;simp only[nv];exact CZ _ _ _
noncomputable def unC:D->List Int
 | .tup l=>l.map iOf
 |_=>[]
def sH(c:iQ):unC (cD c)=c:=by simp only[unC,kH];rw[uE (g:=id),uD];intro x _;rfl
def IJ(h:m.Perm (cs.map cD)): ∃a:List (List Int),m=a.map cD/\a.Perm cs:=by
 refine⟨m.map unC,?_,?_⟩
 .rw[kH]
  symm
  rw[uE (g:=id),uD];intro d hd;obtain⟨c,_,rfl⟩:=my.mp<|h.mem_iff.mp hd;simp only[bS,sH];rfl
 .have:=h.map unC;rw[kH] at this;rw[show eW (unC∘cD) cs=eW id cs from uE λc _=>sH c,uD] at this;exact this
def SrtC(c:kd):Prop:=c.Pairwise λa b=>ltT (cD b) (cD a)=Y
def SrtC.take(h:SrtC a)(m:Nat):SrtC (a.take m):=tc (ya m a) h
def CsOk.take(h:CsOk n a)(m:Nat):CsOk n (a.take m):=⟨List.Nodup.sublist (ya m a) h.1,λc b=>h.2 c<|xK b⟩
def Y7{f:F}{fi:FIt}{δ δ1:Dn}{ds a:List D}{c:Sl}(h1:fi δ=C (ds,δ1))(b:kJ (iL 0) jH (jQ f) ds [] [I]=C (a,[c])):jy [] 1 fi (iL 0) jH (jQ f) δ=C ((.lst a,J),δ1):=by unfold jy;rw[h1];simp only[jU,rF,yp,jh,lT,ky,qK,uM,c3];rw[b];rfl
def BI(n:Nat)(ks:kd):Prop:=n<=5/\CsOk n ks/\SrtC ks/\(Ps ks)<=30
noncomputable abbrev rD'(n:Nat)(ks:kd):D:= .tup [.int n,.tup<|ks.map cD]
noncomputable abbrev rS(n:Nat)(ks:kd):Sl:=C (rD' n ks,Y)
noncomputable abbrev frz(a:List D):Dn:=a.map λd=>C (d,Y)
theorem qx: ∀(os:List Opd) (a:List D),jh os (a.map λd=>(d,Y))=[]
 |[],_=>by simp[jh]
 |_::_,[]=>by simp[jh]
 |o::os,d::a=>by cases o<;>simp[jh,qx os a]
theorem Cg: ∀(os:List Opd) (b:List D) (a c:Dn),wb os (b.map λd=>(d,Y)) a c=c
 |[],_,_,_=>by simp[wb]
 |_::_,[],_,_=>by simp[wb]
 |_::_,_::_,[],_=>by simp[wb]
 |o::os,d::b,x::xs,c=>by cases o<;>simp[wb,Cg os b xs]
def aaL{f:F}{ti:FT}{g:D->D}{p:D->Bool}{pre:Dn}: ∀(l a:List D) (x:Sl),(∀d∈l,ti (pre++[C (d,Y)])=C (p d,pre++[C (d,Y)])/\(p d=J-> ∃o,f (pre++[C (d,Y)])=C ((g d,o),pre++[C (d,Y)])))->Ps a+Ps l<=sizeLine->
  ∃b,kJ (iL<|Ps pre) ti (jQ f) l a (pre++[x])=C (a++(l.filter p).map g,pre++[b]):=by
 intro r
 induction r with
 |nil=>intro a x _ _;exact⟨x,by simp[kJ]⟩
 |cons d l m=>
  intro a x h j;obtain⟨h1,n⟩:=h d kg;have q:(Ps a)<sizeLine:=by simp at j;lia
  rw[kJ,DX];simp only[jU];rw[h1]
  cases k:p d with
  |false=>obtain⟨b,e⟩:=m a (C (d,Y)) (λc i=>h c<|kj _ i) (by simp at j ⊢;lia);exact⟨b,by simp[e,k]⟩
  |true=>obtain⟨o,hd⟩:=n k;obtain⟨b,e⟩:=m (a++[g d]) (C (d,Y)) (λc i=>h c<|kj _ i) (by simp at j ⊢;lia);refine⟨b,?_⟩;simp only[jU,ky,uh];rw[hd];simp only[jU];rw[iT q];simp only[jU];rw[e];simp[k]
def EG{caps:jL}{fi:FIt}{f:F}{ti:FT}{δ a:Dn}{l args:List D}(g:D->D)(p:D->Bool)(h1:fi δ=C (l,a))(b:jZ a (caps.map .slot)=C (args.map λd=>(d,Y)))(c:(Ps args)=Ps caps)
  (h: ∀d∈l,ti (frz args++[C (d,Y)])=C (p d,frz args++[C (d,Y)])/\(p d=J-> ∃o,f (frz args++[C (d,Y)])=C ((g d,o),frz args++[C (d,Y)])))(i:(Ps l)<=10000):
  jy caps 1 fi (iL<|Ps caps) ti (jQ f) δ=C ((.lst<|(l.filter p).map g,J),a):=by
 obtain⟨j,e⟩:=aaL (f:=f) (ti:=ti) (g:=g) (p:=p) (pre:=frz args) l [] I h (by rw[kf];simp;lia);unfold jy;rw[h1];simp only[jU];rw[b];simp only[jU,qx,lT,ky,kH,Cg];rw[show iL (Ps caps)=iL (frz args).length from by rw[jF,c]];rw[show((args.map<|C∘λd=>(d,Y))++ac 1 I:Dn)=frz args++[I] from H,e];simp
def wc{caps:jL}{fi:FIt}{f:F}{δ δ1:Dn}{l args:List D}(g:D->D)(h1:fi δ=C (l,δ1))(a:jZ δ1 (caps.map .slot)=C (args.map λd=>(d,Y)))(b:(Ps args)=Ps caps)
  (h: ∀d∈l,∃o,f (frz args++[C (d,Y)])=C ((g d,o),frz args++[C (d,Y)]))(c:(Ps l)<=10000):
  jy caps 1 fi (iL<|Ps caps) jH (jQ f) δ=C ((.lst<|l.map g,J),δ1):=by
 rw[EG g (λ_=>J) h1 a b (λd hd=>⟨rfl,λ_=>h d hd⟩) c,List.filter_eq_self.mpr λ_ _=>rfl]
def pF{caps:jL}{fi:FIt}{f:F}{δ δ1:Dn}{l args:List D}(p:D->Bool)(h1:fi δ=C (l,δ1))(a:jZ δ1 (caps.map .slot)=C (args.map λd=>(d,Y)))(b:(Ps args)=Ps caps)
  (h: ∀d∈l,∃o,f (frz args++[C (d,Y)])=C ((.bl<|p d,o),frz args++[C (d,Y)]))(c:(Ps l)<=10000):
  jm (g1 tD) [iJ<|jy caps 1 fi (iL<|Ps caps) jH<|jQ f] δ=C ((.bl<|l.all p,Y),δ1):=
 nk (ou<|iY<|wc (λd=> .bl (p d)) h1 a b h c) rfl (ze p l)
def Gn{caps:jL}{fi:FIt}{f:F}{δ a:Dn}{l args:List D}(p:D->Bool)(h1:fi δ=C (l,a))(b:jZ a (caps.map .slot)=C (args.map λd=>(d,Y)))(c:(Ps args)=Ps caps)
  (h: ∀d∈l,∃o,f (frz args++[C (d,Y)])=C ((.bl<|p d,o),frz args++[C (d,Y)]))(e:(Ps l)<=10000):
  jm (g1 Iz) [iJ<|jy caps 1 fi (iL<|Ps caps) jH<|jQ f] δ=C ((.bl<|l.any p,Y),a):=
 nk (ou<|iY<|wc (λd=> .bl (p d)) h1 b c h e) rfl (Qg p l)
def aaM{f:F}{c:FIt}{g:D->D->D}{m:List D}(r: ∀d y,c [C (d,Y),y]=C (m,[C (d,Y),y])): ∀(l a:List D) (x y:Sl),(∀d∈l,∀e∈m,∃o,f [C (d,Y),C (e,Y)]=C ((g d e,o),[C (d,Y),C (e,Y)]))->Ps a+(Ps l)*(Ps m)<=sizeLine->
  ∃v b,kJ (iL 0) jH (LN c (iL 1) jH<|jQ f) l a [x,y]=C (a++l.flatMap λd=>m.map<|g d,[v,b]):=by
 intro u
 induction u with
 |nil=>intro a x y _ _;exact⟨x,y,by simp[kJ]⟩
 |cons d l t=>
  intro a x y h s;have A:(Ps a)+Ps m+(Ps l)*(Ps m)<=sizeLine:=by simp[fy] at s;omega
  obtain⟨b,j⟩:=IT f (g d) [C (d,Y)] m a y (λe q=>h d kg e q) (by omega);obtain⟨x2,w,k⟩:=t (a++m.map (g d)) (C (d,Y)) b (λi n=>h i<|kj _ n) (by simp;omega);refine⟨x2,w,?_⟩;rw[kJ];rw[show iL 0 d [x,y]=C [C (d,Y),y] from H];simp only[jU,wG,ky];unfold LN;rw[r];simp only[jU];rw[show kJ (iL 1) jH (jQ f) m a [C (d,Y),y]=_ from j];simp only[jU];rw[show kJ (iL 0) jH (λa z=>(c z).bind λp=>kJ (iL 1) jH (jQ f) p.1 a p.2) l (a++m.map (g d)) ([C (d,Y)]++[b])=_ from k];simp
def Wo{fi fi2:FIt}{f:F}{δ δ1:Dn}{l m:List D}(g:D->D->D)(h1:fi δ=C (l,δ1))(a: ∀d y,fi2 [C (d,Y),y]=C (m,[C (d,Y),y]))(h: ∀d∈l,∀e∈m,∃o,f [C (d,Y),C (e,Y)]=C ((g d e,o),[C (d,Y),C (e,Y)]))(b:(Ps l)*(Ps m)<=10000):
  jy [] 2 fi (iL 0) jH (LN fi2 (iL 1) jH<|jQ f) δ=C ((.lst<|l.flatMap λd=>m.map<|g d,J),δ1):=by
 obtain⟨c,i,e⟩:=aaM (f:=f) (g:=g) a l [] I I h (by rw[kf];simp;lia);unfold jy;rw[h1];simp only[jU,rF,yp,jh,lT,ky,qK,uM,c3];rw[e];simp[wb]
def uv{tg:Tg}{fb:FS}(U:List D->Dn->Prop)(step: ∀d ds δ,U (d::ds) δ-> ∃δ1 b,tg d δ=C δ1/\fb δ1=C (.nx b)/\U ds b): ∀(ds:List D) (δ:Dn),U ds δ-> ∃a,U [] a/\qD tg fb ds δ=C (.nx a):=by
 intro j
 induction j with
 |nil=>intro δ h;exact⟨δ,h,rfl⟩
 |cons d ds i=>intro δ h;obtain⟨δ1,b,h1,c,e⟩:=step d ds δ h;obtain⟨a,f,g⟩:=i b e;refine⟨a,f,?_⟩;unfold qD;rw[h1];simp only[jU];rw[c];exact g
theorem By{tg:Tg}{f:F}(U:List D->List D->Dn->Prop)(step: ∀d e a δ,U (d::e) a δ-> ∃δ1 r o c,tg d δ=C δ1/\f δ1=C ((r,o),c)/\(Ps a)<=10000/\U e (a++[r]) c): ∀(e a:List D) (δ:Dn),U e a δ-> ∃g b,U [] g b/\kJ tg jH (jQ f) e a δ=C (g,b)
 |[],a,δ,h=>⟨a,δ,h,rfl⟩
 |d::e,a,δ,h=>by obtain⟨δ1,r,o,c,h1,i,m,j⟩:=step d e a δ h;obtain⟨g,b,k,l⟩:=By U step e _ c j;refine⟨g,b,k,?_⟩;unfold kJ;rw[h1];simp only[jU,wG,ky,uh];rw[i];simp only[jU];rw[iT<|wC m];exact l
def qE{caps:jL}{k:Nat}{fi:FIt}{tg:Tg}{d:FT}{c:FB}{δ δ1 b:Dn}{l a:List D}{args:List (D×Bool)}(h1:fi δ=C (l,δ1))(e:jZ δ1 (caps.map .slot)=C args)(f:(jh (caps.map .slot) args).Nodup)(g:kJ tg d c l [] (args.map C++ac k I)=C (a,b)):
  jy caps k fi tg d c δ=C ((.lst a,J),wb (caps.map .slot) args (jv args b) δ1):=by
 unfold jy;rw[h1];simp only[jU];rw[e];simp only[jU];rw[iT f,g];rfl
def ddI(l:iQ):List Int:=l.foldl (λa k=>if k∈a then a else a++[k]) []
def sZ(l:iQ):(l.map D.int).all okI=J:=by rw[lU];intro x a;obtain⟨k,_,rfl⟩:=my.mp a;rfl
def Qk(a:iQ)(k:Int):Gu (a.map D.int) (.int k)=(if k∈a then a else a++[k]).map D.int:=by
 unfold Gu
 have:(a.map D.int).any (D.eqb · (.int k))=J↔k∈a:=by
  rw[any_int (sZ a) k,my];constructor
  .rintro⟨j,b,e⟩;cases e;exact b
  .exact λh=>⟨k,h,rfl⟩
 by_cases h:k∈a
 .rw[iT<|this.mpr h,iT h]
 .rw[je λz=>h<|this.mp z,je h,nU];rfl
def II: ∀(l c:iQ),c.Nodup->(l.foldl (λc k=>if k∈c then c else c++[k]) c).Nodup/\(∀x,x∈l.foldl (λc k=>if k∈c then c else c++[k]) c↔x∈c\/x∈l)/\(l.foldl (λc k=>if k∈c then c else c++[k]) c).length<=Ps c+(Ps l):=by
 intro l
 induction l with
 |nil=>intro c h;exact⟨h,λx=>by simp,by simp⟩
 |cons k l i=>
  intro c h;rw[sj];by_cases hk:k∈c
  .rw[iT hk];obtain⟨h1,d,f⟩:=i c h;refine⟨h1,λx=>?_,by simp at f ⊢;lia⟩;rw[d x,lz];constructor
   .rintro(z|z)
    .exact .inl z
    .exact .inr (.inr z)
   .rintro(z|rfl|z)
    .exact .inl z
    .exact .inl hk
    .exact .inr z
  .rw[je hk];obtain⟨h1,d,f⟩:=i (c++[k])<|jp.mpr ⟨h,by simp,λa j b g e=>hk<|by simp at g;subst g;subst e;exact j⟩;refine⟨h1,λx=>?_,by simp at f ⊢;lia⟩;rw[d x,pJ,zf,lz];constructor
   .rintro((z|z)|z)
    .exact .inl z
    .exact .inr (.inl z)
    .exact .inr (.inr z)
   .rintro(z|z|z)
    .exact .inl (.inl z)
    .exact .inl (.inr z)
    .exact .inr z
def Wk(l:iQ):(ddI l).Nodup:=(II l [] lT).1
def R3{l:iQ}{x:Int}:x∈ddI l↔x∈l:=by have:=(II l [] lT).2.1 x;unfold ddI;simpa using this
def SN(l:iQ):(ddI l).length<=(Ps l):=by unfold ddI;simpa using(II l [] lT).2.2
def aaK{ti:FT}{p:Int->Bool}{pre:Dn}: ∀(l a:iQ) (x:Sl),(∀k∈l,ti (pre++[C (.int k,Y)])=C (p k,pre++[C (.int k,Y)]))->Ps a+Ps l<500->
  ∃c,kJ (iL<|Ps pre) ti (yH<|jS<|Ps pre) (l.map .int) (a.map .int) (pre++[x])=C (((l.filter p).foldl (λa k=>if k∈a then a else a++[k]) a).map .int,pre++[c]):=by
 intro l
 induction l with
 |nil=>intro a x _ _;exact⟨x,by simp[kJ]⟩
 |cons k l j=>
  intro a x h g;have h1:=h k kg;rw[km,kJ,DX];simp only[jU];rw[h1]
  cases i:p k with
  |false=>obtain⟨c,e⟩:=j a (C (.int k,Y)) (λd f=>h d<|kj _ f) (by simp at g ⊢;lia);exact⟨c,by simp[e,i]⟩
  |true=>
   have b:(if k∈a then a else a++[k]).length+Ps l<500:=by
    rw[mw] at g;split
    .lia
    .rw[lP,uL];lia
   obtain⟨c,e⟩:=j (if k∈a then a else a++[k]) (C (.int k,Y)) (λd f=>h d<|kj _ f) b;refine⟨c,?_⟩;simp only[jU,ky,yH]
   have hv:jS (Ps pre) (pre++[C (.int k,Y)])=C ((.int k,Y),pre++[C (.int k,Y)]):=by unfold jS;simp
   rw[hv];simp only[jU];rw[iT ⟨sZ a,rfl,by simp at g ⊢;lia⟩];simp only[jU];rw[Qk,e,List.filter_cons_of_pos i,sj]
def Wn{a:jL}{c:FIt}{ti:FT}{δ b:Dn}{l:iQ}{args:List D}(p:Int->Bool)(h1:c δ=C (l.map .int,b))(f:jZ b (a.map .slot)=C (args.map λd=>(d,Y)))(g:(Ps args)=Ps a)
  (h: ∀k∈l,ti (frz args++[C (.int k,Y)])=C (p k,frz args++[C (.int k,Y)]))(i:(Ps l)<500):
  PH a 1 c (iL<|Ps a) ti (yH<|jS<|Ps a) δ=C ((.oth .set []<|(ddI<|l.filter p).map .int,J),b):=by
 obtain⟨j,e⟩:=aaK (ti:=ti) (p:=p) (pre:=frz args) l [] I h (by simpa using i);unfold PH IE;rw[h1];simp only[jU];rw[f];simp only[jU,qx,lT,ky,kH,Cg];rw[show (Ps a)=(frz args).length from by rw[jF,g]];rw[show((args.map<|C∘λd=>(d,Y))++ac 1 I:Dn)=frz args++[I] from H];rw[rF] at e;rw[e];rfl
noncomputable def Qc:D->Bool
 | .int i=>decide (0<=i)&&decide (i<=1)
 |_=>Y
def Ws(d:D):qF [(d,Y)]=C ((.bl<|Qc d,Y),[C (d,Y)]):=by
 cases d<;>simp[qF,CS,evF,jv,CB,jh,wb,Qc]
noncomputable def isA(n:Nat):D->Bool
 | .tup l=>decide (Ps l=n)&&l.all Qc
 |_=>Y
def EC(h:f δ=C ((.bl J,o),δ1)):Bm f g δ=g δ1:=by rw[NF,h];rfl
def IF(h:f δ=C ((.bl Y,o),δ1)):Bm f g δ=C ((.bl Y,Y),δ1):=by rw[NF,h];rfl
def LO(n:Nat)(d:D)(hd:OkD d):nu [pI n,(d,Y)]=C ((.bl<|isA n d,Y),[ii n,C (d,Y)]):=by
 cases d with
 |tup l=>
  have c:=pF (caps:=[]) (fi:=kb<|jS 1) (f:=iX qF [iC 0]) (δ:=[ii n,C (.tup l,Y)]) (l:=l) (args:=[]) Qc H H H (λd _=>⟨Y,by simp[Ws,jh,wb]⟩) (by have:=hd l H;lia)
  have e:iU gEq Uc (iC 0) [ii n,C (.tup l,Y)]=C ((.bl<|decide<|Ps l=n,Y),[ii n,C (.tup l,Y)]):=by simp[zF,Int.natCast_inj]
  refine jY (δ:=[ii n,C (.tup l,Y)]) ⟨rfl,by decide,rfl⟩<|jo<|kn<|(EC H).trans ?_;rw[isA];by_cases h:(Ps l)=n
  .rw[pN h] at e ⊢;exact(EC e).trans c
  .rw[mZ h] at e ⊢;exact IF e
 |_=>simp[nu,xa,evF,jv,isT,isA]
noncomputable def D4:D->List D
 | .tup l=>l
 | .lst l=>l
 |_=>[]
noncomputable def soB(t:iQ)(s:Int):Bool:=t.getD ((ab s).toNat-1) 0==(if s>0 then 1 else 0)
def YO(t:iQ)(s:Int)(h:1<=ab s/\ab s<=Ps t):gIx (.tup<|t.map .int) (.int<|ab s-1)=ii (t.getD ((ab s).toNat-1) 0):=by
 have h1:0<=ab s-1:=by lia
 have b:ab s-1<((t.map D.int).length:Int):=by simp;lia
 have c:(ab s-1).toNat=(ab s).toNat-1:=by lia
 have d:(ab s).toNat-1<(Ps t):=by lia
 have a:ixN (t.map D.int).length (ab s-1)=C ((ab s).toNat-1):=by unfold ixN;rw[iT h1,iT b,c]
 rw[jF] at a;simp[gIx,atI,a,d]
def X5(t:iQ)(s:Int)(h:1<=ab s/\ab s<=Ps t):xh [enc t,pI s]=C ((.bl<|soB t s,Y),[eN t,ii s]):=by have:=YO t s h;unfold ab at this;by_cases a:s>0<;>simp[xh,F9,evF,jv,this,a,soB,ab]
noncomputable def kC(t c:iQ):Bool:=c.any<|soB t
def any_int(p:Int->Bool)(c:iQ):(c.map D.int).any (λd=>p<|iOf d)=c.any p:=by simp[xR,uI,iOf]
def YL(n:Nat)(i:n<=5)(t c:iQ)(j:(Ps t)=n)(e:ClOk n c)(a:EvF)(g: ∀s,1<=ab s/\ab s<=Ps t->a [enc t,pI s]=C ((.bl<|soB t s,Y),[eN t,ii s])):
  evF 2 2 [] (iP (lh<|jm (g1 Iz) [iJ<|jy [0] 1 Aj (iL 1) jH<|jQ<|iX a [iC 0,iC 1]]) jn) [enc t,enc c]=C ((.bl<|kC t c,Y),[eN t,eN c]):=by
 have b:=Gn (caps:=[0]) (fi:=kb<|jS 1) (f:=iX a [iC 0,iC 1]) (δ:=[eN t,eN c]) (l:=c.map .int) (args:=[cD t]) (λd=>soB t<|iOf d) H H H (λd hd=>⟨Y,by obtain⟨s,h,rfl⟩:=my.mp hd;have:=e.2.2 s h;simp[g s<|by lia,jh,wb,iOf]⟩) (by have:=ClOk.len e;simp;lia)
 rw[any_int] at b;exact jY ⟨rfl,by decide,rfl⟩<|jo<|kn b
def Pa{n:Nat}(b:n<=5){t c:iQ}(d:(Ps t)=n)(a:ClOk n c):lJ [enc t,enc c]=C ((.bl<|kC t c,Y),[eN t,eN c]):=YL n b t c d a _ λs h=>X5 t s h
noncomputable def kB(n:Nat)(a:kd)(d:D):Bool:=isA n d&&a.all (kC<|(D4 d).map iOf)
def Sg(h:isA n d=J): ∃t:List Int,d=cD t/\(Ps t)=n:=by
 cases d with
 |tup l=>
  rw[isA,lE,rC,lU] at h;refine⟨l.map iOf,?_,by simp[h.1]⟩;rw[cD,kH]
  congr 1
  rw[uE (g:=id),uD];intro x a;have:=h.2 x a;cases x<;>simp[Qc,iOf] at this ⊢
 |_=>cases h
def S8{n:Nat}(k:n<=5){a:kd}(hk: ∀c∈a,ClOk n c)(j:(Ps a)<=30){t:iQ}(m:(Ps t)=n){b:EvF}(e: ∀c,ClOk n c->b [enc t,enc c]=C ((.bl<|kC t c,Y),[eN t,eN c])){fi:FIt}{δ:Dn}{i:Nat}(h:δ[i]?=C (eN t))(h1:fi δ=C (a.map cD,δ)):
  jm (g1 tD) [iJ<|jy [i] 1 fi (iL 1) jH<|jQ<|iX b [iC 0,iC 1]] δ=C ((.bl<|a.all<|kC t,Y),δ):=by
 have:=pF (caps:=[i]) (fi:=fi) (f:=iX b [iC 0,iC 1]) (δ:=δ) (l:=a.map cD) (args:=[cD t]) (λd=>kC t<|(D4 d).map iOf) h1 (by simp[h]) H (λd hd=>⟨Y,by obtain⟨c,g,rfl⟩:=my.mp hd;simp[e c<|hk c g,jh,wb,D4,uI,iOf]⟩) (by simp;lia)
 refine this.trans ?_;simp[si,uI,D4,iOf]
def OZ{n:Nat}{a:kd}(h:BI n a)(d:D)(hd:OkD d):xg [(rD' n a,Y),(d,Y)]=C ((.bl<|kB n a d,Y),[rS n a,C (d,Y)]):=by
 let δ:Dn:=[rS n a,C (d,Y),ii n,C (.tup<|a.map cD,Y)]
 have e:iX nu [iC 2,iC 1] δ=C ((.bl<|isA n d,Y),δ):=jP (os:=[.slot 2,.slot 1]) (args:=[pI n,(d,Y)]) H H lT<|LO n d hd;refine jY (δ:=δ) ⟨rfl,by decide,rfl⟩<|(iN (δ1:=δ) H).trans<|jo<|kn ?_;rw[kB]
 cases b:isA n d with
 |false=>rw[b] at e;exact IF e
 |true=>rw[b] at e;refine(EC e).trans ?_;obtain⟨t,rfl,f⟩:=Sg b;refine(S8 h.1 h.2.1.2 h.2.2.2 f (λc g=>Pa h.1 f g) (i:=1) H H).trans ?_;simp[D4,uI,iOf]
noncomputable def mf:Nat->List (List Int)
 |0=>[[]]
 |n+1=>(mf n).flatMap λt=>[t++[0],t++[1]]
theorem yI: ∀n:Nat,(mf n).length=2^n
 |0=>rfl
 |n+1=>by
  rw[mf,List.length_flatMap,qN,<-yI n];generalize mf n=L
  induction L with
  |nil=>rfl
  |cons t L a=>simp at a ⊢;lia
def qI: ∀{n:Nat} {t:iQ},t∈mf n->Ps t=n/\ ∀x∈t,x=0\/x=1:=by
  intro e
  induction e with
  |zero=>intro t h;simp[mf] at h;simp[h]
  |succ n d=>
    intro t h;rw[mf,dr] at h;obtain⟨u,c,h⟩:=h;obtain⟨h1,b⟩:=d c;simp only[lz,lD,mE] at h
    rcases h with rfl|rfl<;>
      (refine⟨by simp[h1],λx a=>?_⟩
       rcases pJ.mp a with a|a
       · exact b x a
       · simp at a;simp[a])
def EO{n:Nat}(a:n<=5):(mf n).length<=32:=by rw[yI];exact zO (n:=2) (by decide) a
noncomputable abbrev S6:List D:=[.int 0,.int 1]
noncomputable def Qm(d e:D):D:= .tup (D4 d++[e])
def Ql(L:kd):(L.map cD).flatMap (λd=>S6.map<|Qm d)=(L.flatMap λt=>[t++[0],t++[1]]).map cD:=by simp[List.flatMap_map,List.map_flatMap,Qm,D4,cD]
def Tb(t:iQ)(a:(Ps t)<=100)(e:D):iU lA (iC 0) T9 [C (cD t,Y),C (e,Y)]=C ((Qm (cD t) e,Y),[C (cD t,Y),C (e,Y)]):=by
 have:=kf;have h:(Ps t)<=16777215:=by lia
 simp[jS,this,lA,Qm,D4,h]
def LB(δ:Dn):kb Ud δ=C (S6,δ):=by simp[kf]
def KZ{n:Nat}(a:n<=5):2^n<=32:=zO (n:=2) (by decide) a
abbrev fbA:FS:=zC4
def BF{n:Nat}(k:n<=5):pE [pI n]=C ((.lst<|(mf n).map cD,J),[ii n]):=by
 let z:Sl:=ii n
 obtain⟨i,⟨j,x,a,rfl⟩,e⟩:=uv (tg:=iL 2) (fb:=fbA) (λb δ=> ∃j x,j+Ps b=n/\δ=[z,C (.lst<|(mf j).map cD,J),x]) (λd b δ g=>by
  obtain⟨j,x,a,e⟩:=g;subst e
  have c:=Wo (fi:=kb<|jS 1) (fi2:=kb Ud) (f:=iU lA (iC 0) T9) (δ:=[z,C (.lst<|(mf j).map cD,J),C (d,Y)]) (δ1:=[z,C (.lst<|(mf j).map cD,Y),C (d,Y)]) (l:=(mf j).map cD) (m:=S6) Qm H (λd y=>LB _) (λd hd e _=>by obtain⟨t,h,rfl⟩:=my.mp hd;exact⟨Y,Tb t (by have:=(qI h).1;simp at a;lia) e⟩) (by have:=EO (n:=j) (by lia);simp;lia)
  rw[Ql] at c;exact⟨_,_,rfl,(iN<|kK c (show 1<3 by decide)).trans H,j+1,_,by simp at a;lia,rfl⟩) (jB 0 n) [z,C (.lst<|(mf 0).map cD,J),I] ⟨0,I,by simp[jB],rfl⟩
 have:j=n:=by simpa using a
 subst this;exact jY (δ:=[z,I,x]) ⟨rfl,by decide,rfl⟩<|(iN (δ1:=[z,C (.lst<|(mf 0).map cD,J),I]) H).trans<|(iN<|(pU<|pV (o:= .slot 0) H H<|by lia).trans e).trans<|jo H
noncomputable def mW(n:Nat)(a:kd):List (List Int):=(mf n).filter λt=>a.all<|kC t
def Si{n:Nat}{t:iQ}(h:t∈mf n):isA n (cD t)=J:=by obtain⟨h1,a⟩:=qI h;simp only[isA,jF,h1,decide_true,xw,si,lU,bS];intro x b;rcases a x b with rfl|rfl<;>rfl
def VY{n:Nat}{a:kd}{t:iQ}(h:t∈mf n):kB n a (cD t)=a.all (kC t):=by rw[kB,Si h];simp[D4,uI,iOf]
def YC{t:iQ}(h:(Ps t)<=60):OkD (cD t):=λl e=>by cases e;simpa using h
def Lx(p:D->Bool)(L:kd):((L.map cD).filter p).map (λd=>d)=(L.filter λt=>p<|cD t).map cD:=by rw[Gz,Gy];rfl
def IV{n:Nat}{a:kd}(h:BI n a):pD [(rD' n a,Y)]=C ((.lst<|(mW n a).map cD,J),[rS n a]):=by
 have h1:kb Ur [rS n a]=C ((mf n).map cD,[rS n a]):=
  yz (jP (os:=[.val (.int n,Y)]) (args:=[pI n]) H H lT<|BF h.1)
 have c:=EG (caps:=[0]) (fi:=kb Ur) (f:=jS 1) (ti:=fT<|iX xg [iC 0,iC 1]) (δ:=[rS n a]) (l:=(mf n).map cD) (args:=[rD' n a]) (λd=>d) (kB n a) h1 H H (λd hd=>by obtain⟨t,b,rfl⟩:=my.mp hd;have:=(qI b).1;have e:=h.1;exact⟨kZ<|jP (os:=[.slot 0,.slot 1]) (args:=[(rD' n a,Y),(cD t,Y)]) H H lT<|OZ h _ (YC<|by lia),λ_=>⟨Y,rfl⟩⟩) (by have:=EO h.1;simp;lia)
 rw[Lx,List.filter_congr λt b=>VY b] at c;exact jY ⟨rfl,by decide,rfl⟩<|jo<|kn c
def Zc(x:Int)(c:iQ):(c.map D.int).any (λd=>D.eqb d<|.int x)=c.contains x:=by
 induction c with
 |nil=>rfl
 |cons y c a=>rw[km,dc,a,List.contains_cons];simp[D.eqb,zF,eq_comm]
def Ej(x:Int)(c:iQ):rg (.int x) (cD c)=C (.bl (!c.contains x),Y):=by
 have:inD (.int x) (cD c)=C (c.contains x):=by show(if D.depL (c.map .int)<=50/\(D.int x).dep<=50 then C ((c.map D.int).any λd=>D.eqb d<|.int x) else I)=_;rw[iT ⟨by rw[qG];lia,by simp[D.dep]⟩,Zc]
 unfold rg;rw[this];rfl
theorem EW{a:Type}{R:a->a->Prop}: ∀{l:List a},l.Pairwise R-> ∀p∈l.zip l.tail,R p.1 p.2
 |[],_,p,h=>by simp at h
 |[_],_,p,h=>by simp at h
 |x::y::l,c,p,h=>by
  simp only[fU,qO] at h;obtain⟨h1,b⟩:=BL.mp c;rcases lz.mp h with rfl|h
  .exact h1 y kg
  .exact EW b p h
def P0(l:List D):PX.oO l (C 1) I=l.tail:=by
 unfold PX.oO;rw[show(C (1:Int))=C ((1:Nat):Int) from H,HT.UM,HT.Tq]
 cases l with
 |nil=>rfl
 |cons x l=>rw[show min 1 (x::l).length=1 from by simp];simp
def Q9(l:List D)(d:D)(hd:d= .lst l\/d= .tup l)(h: ∀p∈l.zip l.tail,ot .Lt p.1 p.2=C (.bl J,Y))(x:(Ps l)<=1000):oM [(d,Y)]=C ((.bl J,Y),[C (d,Y)]):=by
 have t:qB (jS 0) Hx [C (d,Y)]=C ((l.zip l.tail).map λp=> .tup [p.1,p.2],[C (d,Y)]):=by
  rcases hd with rfl|rfl
  .have:Hx [C (.lst l,Y)]=C ((.lst l.tail,J),[C (.lst l,Y)]):=by rw[<-P0 l];rfl
   simp[qB,jS,this,pT]
  .have:Hx [C (.tup l,Y)]=C ((.tup l.tail,Y),[C (.tup l,Y)]):=by rw[<-P0 l];rfl
   simp[qB,jS,this,pT]
 have j:(l.zip l.tail).length<=1000:=by rw[mu];lia
 obtain⟨a,w,⟨b,c,u,v,h1,g,i,n,rfl⟩,e⟩:=By (tg:=wy [iL 0,iL 1]) (f:=iU (ot .Lt) (iC 0)<|iC 1) (λm a δ=> ∃(b:List (D×D)) (c:List D) (u v:Sl),m=b.map (λp=> .tup [p.1,p.2])/\(∀p∈b,ot .Lt p.1 p.2=C (.bl J,Y))/\a=c.map (λ_=> .bl J)/\(Ps a)+Ps b<=1000/\δ=[u,v]) (λd m a δ r=>by
  obtain⟨b,c,u,v,h1,g,i,n,o⟩:=r;subst o
  cases b with
  |nil=>cases h1
  |cons p b=>obtain⟨rfl,rfl⟩:=uF h1;exact⟨[C (p.1,Y),C (p.2,Y)],.bl J,Y,[C (p.1,Y),C (p.2,Y)],rfl,kr (o1:= .slot 0) (o2:= .slot 1) H H H H<|g p kg,by lia,b,c++[.non],_,_,rfl,λq s=>g q<|kj _ s,by simp[i],by simp at n ⊢;lia,rfl⟩) ((l.zip l.tail).map λp=> .tup [p.1,p.2]) [] [I,I] ⟨l.zip l.tail,[],I,I,rfl,h,rfl,by simpa using j,rfl⟩
 refine jY (δ:=[C (d,Y)]) ⟨rfl,by decide,rfl⟩<|jo<|kn<|nk (ou<|iY<|qE (caps:=[]) (k:=2) (args:=[]) t H lT e) H ?_;subst i;refine(ze (λ_=>J) c).trans ?_;simp
def V2{n:Nat}(u:n<=5){c:iQ}(h:ClOk n c):ku [pI n,enc c]=C ((.bl J,Y),[ii n,eN c]):=by
 have t:=ClOk.len h;have h1:1<=(Ps c):=MP.mpr h.1;have o:(1:Int)<=(Ps c):=by lia
 have q:((Ps c):Int)<=5:=by lia
 have j:zC8 [ii n,eN c]=C (Y,[ii n,eN c]):=by simp[isT,nj,kP,o,q]
 have e:=pF (caps:=[0]) (fi:=kb<|jS 1) (f:=iX mS [iC 0,iC 1]) (δ:=[ii n,eN c]) (δ1:=[ii n,eN c]) (l:=c.map .int) (args:=[.int n]) (λ_=>J) H H H (λd hd=>⟨Y,by obtain⟨s,i,rfl⟩:=my.mp hd;have:=h.2.2 s i;refine(jP (δ1:=[ii n,ii s]) (os:=[.slot 0,.slot 1]) (args:=[pI n,pI s]) H H lT<|Jt n<|.int s).trans ?_;rw[sg,pN this.1,pN this.2];rfl⟩) (by simp;lia)
 rw[show(c.map D.int).all (λ_=>J)=J by simp] at e
 have g:=wc (caps:=[]) (fi:=kb<|jS 1) (f:=jm (g1 Ey) [iC 0]) (δ:=[ii n,eN c]) (δ1:=[ii n,eN c]) (l:=c.map .int) (args:=[]) (λd=> .int (ab<|iOf d)) H H H (λd hd=>⟨Y,by obtain⟨s,i,rfl⟩:=my.mp hd;rfl⟩) (by simp;lia)
 rw[show(c.map D.int).map (λd=>D.int<|ab<|iOf d)=(c.map ab).map D.int by rw[kH,kH];rfl] at g
 have r:=Q9 ((c.map ab).map .int) (.lst<|(c.map ab).map .int) (.inl H) (λp m=>by have:=EW (R:=λa b:D=>ot .Lt a b=C (.bl J,Y)) (l:=(c.map ab).map .int) (og.mpr<|h.2.1.imp λ{a b} k=>by rw[UY,pN k]) p m;exact this) (by simp;lia)
 refine jY (δ:=[ii n,eN c]) ⟨rfl,by decide,rfl⟩<|(iN<|(nh j).trans H).trans<|(iN<|(nh<|mI<|kZ e).trans H).trans ?_;exact jo<|kn<|jP (δ1:=[ii n,eN c]) (args:=[(.lst<|(c.map ab).map .int,Y)]) (ou<|iY g) H lT r
def F4{d:D}(h:d.dep<=50):gNe d d=C (.bl Y,Y):=by unfold gNe;rw[iT ⟨h,h⟩,D.eqb_refl];rfl
def Kg(L:kd):(D.lst<|L.map cD).dep<=50:=by have:=SM L;rw[D.dep];lia
def Wl(l:List D)(v:Nat):PX.oO l I (C (v:Int))=l.take v:=by
 unfold PX.oO;rw[HT.Tq,HT.UM,List.drop_zero,Nat.sub_zero];by_cases h:v<=Ps l
 .rw[zQ h]
 .rw[Nat.min_eq_right<|by omega,zU<|jW _,zU<|by omega]
def TT(n:Nat)(t:iQ):Prop:=(t.map ab).Perm<|st n
def SG(n:Nat)(s:Int):Prop:=1<=ab s/\ab s<=n
def TT.len{n:Nat}{t:iQ}(h:TT n t):(Ps t)=n:=by simpa using(Vo.mp h).1
def TT.sg{n:Nat}{t:iQ}(h:TT n t){x:Int}(a:x∈t):SG n x:=(Vo.mp h).2.1 _ (vn a)
def TT.tok{n:Nat}{t:iQ}(h:TT n t):TOk n t:=⟨h.len,λx a=>h.sg a⟩
def X7{n:Nat}{s:Int}(h:SG n s):s≠0:=by rintro rfl;have:=h.1;simp[ab] at this
def UL{n:Nat}{s:Int}(h:SG n s):SG n (-s):=by unfold SG;rw[mX];exact h
def wF{n:Nat}{s:Int}(h:SG n s): ∃k:Nat,k<n/\(s=(k:Int)+1\/s= -((k:Int)+1)):=by
 have:=h;unfold SG ab at this;split at this
 .exact⟨(-s-1).toNat,by omega,.inr<|by omega⟩
 .exact⟨(s-1).toNat,by omega,.inl<|by omega⟩
def uo(t:iQ)(k:Nat):led t ((k:Int)+1)=t.getD k 0:=by unfold led;rw[iT<|by lia,show((k:Int)+1-1).toNat=k by lia]
def qy(t:iQ)(k:Nat):led t (-((k:Int)+1))= -t.getD k 0:=by unfold led;rw[je<|by lia,show(- -((k:Int)+1)-1).toNat=k by lia]
def R9{n:Nat}(t:iQ){s:Int}(h:SG n s):led t (-s)= -led t s:=by
 obtain⟨k,_,rfl|rfl⟩:=wF h
 .rw[uo,qy]
 .rw[sd,uo,qy,sd]
def TT.led{n:Nat}{t:iQ}(h:TT n t){s:Int}(a:SG n s):SG n (led t s):=VU h.tok a.1 a.2
def J1{n:Nat}{t:iQ}(h:TT n t){s r:Int}(g:SG n s)(f:SG n r)(e:PV.led t s=PV.led t r):s=r:=by
 have k:=(Vo.mp h).2.2
 have c: ∀{i j:Nat},i<n->j<n->ab (t.getD i 0)=ab (t.getD j 0)->i=j:=λ{i j} a b e=>by
  have l:=h.len
  have:=(kv (xs:=t.map ab) (i:=i) (j:=j) (h₀:=by simpa[l] using a) (h₁:=by simpa[l] using b) k).mp (by simp only[dt];simpa[qP,l,a,b] using e)
  exact this
 have d: ∀{i:Nat},i<n->t.getD i 0≠0:=λ{i} a=>X7<|h.sg<|uu (by rw[h.len];exact a);obtain⟨i,a,rfl|rfl⟩:=wF g<;>obtain⟨j,b,rfl|rfl⟩:=wF f
 .rw[uo,uo] at e;rw[c a b<|by rw[e]]
 .rw[uo,qy] at e;have:=c a b (by rw[e,mX]);subst this;exact absurd (show t.getD i 0=0 by lia)<|d a
 .rw[uo,qy] at e;have:=c a b (by rw[<-e,mX]);subst this;exact absurd (show t.getD i 0=0 by lia)<|d a
 .rw[qy,qy] at e;rw[c a b<|by rw[show t.getD i 0=t.getD j 0 by lia]]
def DY(n:Nat):(st n).length=n:=by simp[st]
def HZ: ∀(k:Nat) (r f t:iQ),Ps r=k->(∀x∈r,0<=x)->t∈uU k r f->(t.map ab).Perm (f.map ab++r):=by
 intro m
 induction m with
 |zero=>intro r f t d _ h;simp[uU] at h;subst h;rw[Qu.mp d];simp
 |succ k i=>
  intro r f t d b h;simp only[uU,dr,pJ,yK] at h;obtain⟨v,hv,h⟩:=h;have c:(r.eraseIdx v).length=k:=by rw[Dm,iT hv];lia
  have g: ∀x∈r.eraseIdx v,0<=x:=λx a=>b x<|List.mem_of_mem_eraseIdx a;have a:=b _ (uu hv)
  have fin: ∀y:Int,ab y=r.getD v 0->(eW ab (f++[y])++r.eraseIdx v).Perm (f.map ab++r):=λy l=>by
   rw[nU,ny];refine Ml _ ?_;simp only[km,rF,zJ,qK,l];have e:r.getD v 0=r[v]:=by simp[qP,hv]
   rw[e];rw[List.eraseIdx_eq_take_drop_succ];have j:r=r.take v++r[v]::r.drop (v+1):=by rw[<-xQ hv,vA]
   conv=>rhs;rw[j]
   exact Qp.symm
  rcases h with h|h
  .exact(i _ _ t c g h).trans (fin _ (by rw[Af];exact Ja a))
  .exact(i _ _ t c g h).trans (fin _ (by rw[v8,Af];exact Jb a))
def Q0{n:Nat}{t:iQ}(h:t∈uU n (st n) []):TT n t:=by have:=HZ n (st n) [] t (DY n) (λx a=>by have:=LU.mp a;lia) h;unfold TT;simpa using this
noncomputable def lc(t c:iQ):List Int:=(mF ltA<|(c.map<|led t).map D.int).map iOf
def LCs(t c d:iQ):Prop:=d.Perm (c.map<|led t)/\(d.map ab).Pairwise (· < ·)
def A9{m:List D}{l:iQ}(h:m.Perm (l.map D.int)):m=(m.map iOf).map D.int/\(m.map iOf).Perm l:=by
 obtain⟨k,rfl⟩:=Ep h;have e:(k.map D.int).map iOf=k:=by rw[kH];exact uD k
 rw[e];refine⟨rfl,?_⟩;have:=h.map iOf
 rwa [e,kH,show eW (iOf∘D.int) l=l from uD l] at this
def Dg{n:Nat}{t c:iQ}(g:TT n t)(h1:(c.map ab).Nodup)(f: ∀s∈c,SG n s):((c.map<|led t).map ab).Nodup:=by
 rw[kH,dM,og];rw[dM,og] at h1;refine h1.imp_of_mem λ{a b} j k i e=>i ?_;have e:ab (led t a)=ab (led t b):=e;have h:=f a j;have d:=f b k;by_cases q:led t a=led t b
 .rw[J1 g h d q]
 .have:led t a=led t (-b):=by rw[R9 t d];unfold ab at e;split at e<;>split at e<;>lia
  rw[J1 g h (UL d) this,mX]
def J2{n:Nat}{t c:iQ}(j:TT n t)(g:ClOk n c):LCs t c (lc t c)/\(mF ltA<|(c.map<|led t).map D.int)=(lc t c).map D.int:=by
 obtain⟨e,i⟩:=A9<|la ltA<|(c.map<|led t).map D.int;refine⟨⟨i,?_⟩,e⟩;have k:=Dg j (JD g.2.1) λs d=>g.2.2 s d;have f:((lc t c).map ab).Nodup:=(i.map ab).symm.nodup k;have d:=yg<|(c.map<|led t).map D.int;rw[e,og] at d;rw[og];rw[dM,og] at f;refine(d.and f).imp λ{a b} h=>?_;have h1:ab a<=ab b:=h.1;have l:ab a≠ab b:=h.2
 lia
def LCs.uniq{n:Nat}{t c d e:iQ}(h1:LCs t c d)(f:LCs t c e):d=e:=by have g:=h1.2;have h:=f.2;rw[og] at g h;refine(h1.1.trans f.1.symm).eq_of_pairwise (le:=λa b=>ab a<ab b) (λa b _ _ x y=>absurd x<|by lia) g h
def LCs.cl{n:Nat}{t c d:iQ}(h:LCs t c d)(f:TT n t)(a:ClOk n c):ClOk n d:=by
 refine⟨λe=>a.1 ?_,h.2,λs b=>?_⟩
 .have:=h.1.length_eq;rw[e] at this;simp at this;exact Qu.mp this.symm
 .obtain⟨x,g,rfl⟩:=my.mp<|h.1.mem_iff.mp b;exact f.led<|a.2.2 x g
def YJ{n:Nat}{t c:iQ}(b:TT n t)(a:ClOk n c):ClOk n (lc t c):=(J2 b a).1.cl b a
def Zf(n:Nat)(a:iQ):Prop:=Ps a=n/\ ∀x∈a,x=0\/x=1
def WK: ∀{n:Nat} {a:iQ},a∈mf n↔Zf n a:=λ{n a}=>by
 constructor
 .exact λh=>qI h
 .intro h
  induction n generalizing a with
  |zero=>rw[Qu.mp h.1];simp[mf]
  |succ n f=>
   have b:a≠[]:=λe=>by have:=h.1;rw[e] at this;simp at this
   have e:=Dh b;have c:=h.2 _ (kl b);have:=f (a:=a.dropLast) ⟨by rw[Ha,h.1];rfl,λx d=>h.2 x<|LY _ d⟩;simp only[mf,dr];refine⟨a.dropLast,this,?_⟩;rcases c with z|z
   .rw[z] at e;rw[e];simp
   .rw[z] at e;rw[e];simp
def RJ(b:FO)(a:Dn)(d:D):Prop:= ∃o,b a=C (o,a)/\res a o=C d
def FJ(b:FO)(a:Dn)(d:D):Prop:= ∃o,b a=C (o,a)/\res a o=C d/\zd a o=C (d,Y)
def FJ.r{c:FO}{δ:Dn}{d:D}(h:FJ c δ d):RJ c δ d:=let⟨o,a,b,_⟩:=h;⟨o,a,b⟩
def jV{i:Nat}{δ:Dn}{d:D}(h:δ[i]?=C (C (d,Y))):FJ (iC i) δ d:=⟨.slot i,by unfold iC;rw[h],by unfold res;simp[h],by simp[h]⟩
def jR{i:Nat}{δ:Dn}{d:D}{b:Bool}(h:δ[i]?=C (C (d,b))):RJ (iC i) δ d:=⟨.slot i,by unfold iC;rw[h],by unfold res;simp[h]⟩
def jE{f:F}{δ:Dn}{d:D}{b:Bool}(h:f δ=C ((d,b),δ)):FJ (iJ f) δ d:=⟨.val (d,b),iY h,rfl,rfl⟩
def jU1{c:EvF}{e:FO}{δ:Dn}{a:D}{r:D×Bool}{b:Dn}(h:c [(a,Y)]=C (r,b))(g:FJ e δ a):iX c [e] δ=C (r,δ):=by obtain⟨o,h1,_,f⟩:=g;refine(jP (ou h1) (args:=[a].map λd=>(d,Y)) (by simp[f]) (by rw[qx];exact lT) h).trans ?_;rw[Cg]
def jU2{c:EvF}{e fb:FO}{δ:Dn}{a b:D}{r:D×Bool}{outs:Dn}(h:c [(a,Y),(b,Y)]=C (r,outs))(g:FJ e δ a)(i:FJ fb δ b):iX c [e,fb] δ=C (r,δ):=by obtain⟨o,h1,_,f⟩:=g;obtain⟨l,j,_,k⟩:=i;refine(jP (nq h1 j) (args:=[a,b].map λd=>(d,Y)) (by simp[f,k]) (by rw[qx];exact lT) h).trans ?_;rw[Cg]
def jO{g:D->D->Option (D×Bool)}{fa fb:FO}{δ:Dn}{a b:D}{r:D×Bool}(h:g a b=C r)(d:RJ fa δ a)(e:RJ fb δ b):iU g fa fb δ=C (r,δ):=by obtain⟨o,h1,c⟩:=d;obtain⟨j,f,i⟩:=e;exact kr h1 f c i h
def jN{g:D->Option (D×Bool)}{b:FO}{δ:Dn}{a:D}{r:D×Bool}(h:g a=C r)(d:RJ b δ a):lB g b δ=C (r,δ):=by obtain⟨o,h1,c⟩:=d;rw[U1,h1];simp only[jU];rw[c];simp only[jU];rw[h];rfl
def jC{g:D->Option (D×Bool)}{fa:FO}{δ:Dn}{a:D}{r:D×Bool}(h:g a=C r)(c:RJ fa δ a):jm (g1 g) [fa] δ=C (r,δ):=by obtain⟨o,h1,b⟩:=c;exact nk (ds:=[a]) (ou h1) (by simp[b]) h
def HQ{f:F}{np:Nat}{args:List (D×Bool)}{r:D×Bool}{δ:Dn}(h1:(Ps args)=np/\np<=np/\(args.zipIdx.all λp=>!(p.1.2&&([]:List Nat).contains p.2))=J)(a:f (args.map C++ac (np-np) I)=C (r,δ)):evF np np [] (iP (lh f) jn) args=C (r,jv args δ):=
 jY h1 (jo<|kn a)
def X8{n:Nat}{s:Int}(h:SG n s):s≠0/\ -(n:Int)<=s/\s<=n:=by obtain⟨k,hk,rfl|rfl⟩:=wF h<;>lia
def OI(f:Int->Int)(l:iQ):(l.map D.int).map (λd=>D.int<|f<|iOf d)=(l.map f).map D.int:=by rw[kH,kH];rfl
def LD{caps:jL}{a:FIt}{f:F}{δ δ1:Dn}{l:iQ}{args:List D}(g:Int->Int)(h1:a δ=C (l.map D.int,δ1))(b:jZ δ1 (caps.map .slot)=C (args.map λd=>(d,Y)))(c:(Ps args)=Ps caps)
  (h: ∀x∈l,∃o,f (frz args++[ii x])=C ((.int<|g x,o),frz args++[ii x]))(e:(Ps l)<=10000):
  jy caps 1 a (iL<|Ps caps) jH (jQ f) δ=C ((.lst<|(l.map g).map D.int,J),δ1):=by
 rw[wc (λd=> .int (g<|iOf d)) h1 b c (λd hd=>by obtain⟨x,i,rfl⟩:=my.mp hd;exact h x i)<|by simpa using e,OI]
def V6(a b:iQ):gNe (cD a) (cD b)=C (.bl (!decide (a=b)),Y):=by unfold gNe;rw[iT<|by rw[yE,yE];decide,ED]
def V8(a b:iQ):gEq (cD a) (cD b)=C (.bl<|decide<|a=b,Y):=by unfold gEq;rw[iT<|by rw[yE,yE];decide,ED]
def QU{c:FT}{b:FS}{k:Nat}{d a δ2:Dn}(h:c d=C (J,a))(e:b a=C (.nx δ2)):nJ c b (k+1) d=nJ c b k δ2:=by rw[nJ,h];simp only[jU,ky];rw[e];rfl
def QV{b:FT}{d:FS}{k:Nat}{c a:Dn}(h:b c=C (Y,a)):nJ b d (k+1) c=C (.nx a):=by rw[nJ,h];rfl
def Jq{cs:kd}(h:nH (cs.map cD)=J)(b:(Ps cs)<=10000): ∃a:List (List Int),a.Perm cs/\SrtC a/\kW (cs.map cD)=C (.lst<|a.map cD,J):=by
 obtain⟨a,e,c⟩:=IJ<|la ltT<|cs.map cD;refine⟨a,c,?_,?_⟩
 .have:=uf<|cs.map cD;rw[e,og] at this;exact this
 .unfold kW;rw[iT ⟨h,by rw[jF];exact wD b⟩,e]
def yZ{f g:F}{δ:Dn}{a b:D×Bool}(h1:f δ=C (a,δ))(c:g δ=C (b,δ)):ly [f,g] δ=C ((.tup [a.1,b.1],Y),δ):=by rw[U0,show[f,g].map iJ=[iJ f,iJ g] from H,nq (iY h1)<|iY c];simp[kf]
theorem Qa: ∀(l:kd) (a:List D) (x y:Sl),(∀p∈l,∃i j,p=[i,j])->Ps a+Ps l<=1000-> ∃b c,kJ DS jH EX (l.map cD) a [x,y]=C (a++l.map λp=>D.int<|p.getD 1 0,[b,c])
 |[],a,x,y,_,_=>⟨x,y,by simp[kJ]⟩
 |p::l,a,x,y,h,d=>by obtain⟨i,j,rfl⟩:=h p kg;obtain⟨b,c,e⟩:=Qa l (a++[.int j]) (ii i) (ii j) (λq f=>h q<|kj _ f) (by simp at d ⊢;lia);refine⟨b,c,?_⟩;rw[km,kJ];rw[show DS (cD [i,j]) [x,y]=C [ii i,ii j] from H];simp only[jU,wG,ky,uh];rw[show jS 1 [ii i,ii j]=C ((.int j,Y),[ii i,ii j]) from H];simp only[jU];rw[iT<|wC<|by simp at d;lia];simp only[jU];rw[e];simp
def SV{a s b r:Int}(h:ltT (cD [b,r]) (cD [a,s])=Y):a<=b:=by
 rw[CF] at h;by_cases q:b<a
 .exact absurd (by simp[cT,cL,q]) h
 .lia
def VT{n:Nat}(M:n<=5){t c:iQ}(o:TT n t)(k:ClOk n c): ∃O,lg [enc c,enc t]=C (enc<|lc t c,[eN c,O])/\O=eN t:=by
 have J:=k.len
 let pr:Int->List Int:=λs=>[ab<|led t s,led t s]
 obtain⟨f,m,E,e⟩:=Jq (cs:=c.map pr) (Co _ λx H=>by obtain⟨y,_,rfl⟩:=my.mp H;simp[pr]) (by simp;lia)
 have z:jy [1] 1 (kb<|jS 0) (iL 1) jH XD [eN c,eN t,I]=C ((.lst<|(c.map pr).map cD,O0),[eN c,eN t,I]):=by
  refine(wc (caps:=[1]) (args:=[cD t]) (l:=c.map D.int) (δ1:=[eN c,eN t,I]) (λd=>cD<|pr<|iOf d) O9 O9 O9 (λd hd=>?_)<|by simp;lia).trans ?_
  rotate_left
  .rw[kH,kH];rfl
  .obtain⟨x,H,rfl⟩:=my.mp hd;obtain⟨a1,b1,z⟩:=X8<|k.2.2 x H;have j:Ul (frz [cD t]++[ii x])=C ((.int<|led t x,Y),frz [cD t]++[ii x]):=jU2 (R7 t x a1 (by rw[o.len];exact b1)<|by rw[o.len];exact z) (jV O9)<|jV O9;exact⟨Y,yZ (jC (Yl _) (jE j).r) j⟩
 have A: ∀v:Sl,∃u w,kJ DS jH EX (f.map cD) [] [I,I]=C (f.map λp=>D.int<|p.getD 1 0,[u,w]):=λv=>by
  obtain⟨u,w,e⟩:=Qa f [] I I (λp U=>by obtain⟨y,_,rfl⟩:=my.mp<|m.mem_iff.mp U;exact⟨_,_,rfl⟩) (by rw[m.length_eq];simp;lia)
  exact⟨u,w,by simpa using e⟩
 obtain⟨u,w,A⟩:=A I
 have B:(f.map λp=>p.getD 1 0)=lc t c:=by
  have j:(f.map λp=>p.getD 1 0).Perm (c.map<|led t):=by
   have:=m.map λp=>p.getD 1 0
   rwa [kH] at this
  have g: ∀p∈f,p=[ab<|p.getD 1 0,p.getD 1 0]:=λp U=>by obtain⟨y,_,rfl⟩:=my.mp<|m.mem_iff.mp U;rfl
  refine LCs.uniq (n:=n) (t:=t) (c:=c) ⟨j,?_⟩ (J2 o k).1;have L:((f.map λp=>p.getD 1 0).map ab).Nodup:=(j.map ab).symm.nodup<|Dg o (JD k.2.1) λs E=>k.2.2 s E;rw[kH,og];rw[kH,dM,og] at L;refine(th E L).imp_of_mem λ{p q} h1 T h=>?_;have N:=h.1;rw[g p h1,g q T] at N;have:=SV N;have G:=h.2;simp only[bS] at G ⊢
  lia
 refine⟨_,?_,rfl⟩;refine jY (δ:=[eN c,eN t,C (.lst<|(c.map pr).map cD,O0)]) ⟨rfl,by decide,rfl⟩ ?_;refine(iN<|kK (i:=2) z (show 2<3 by decide)).trans (jo<|kn<|jC (a:= .lst ((lc t c).map D.int)) O9 (jE (b:=O0) ?_).r);rw[qE (l:=f.map cD) (δ1:=[eN c,eN t,C (.lst<|(c.map pr).map cD,O0)]) (args:=[]) (fi:=kb<|jm (g1 zA) [iC 2]) ?_ O9 (by simp[jh]) A]
 .have Q:(f.map λp=>D.int<|p.getD 1 0)=(lc t c).map D.int:=by rw[<-B,kH];rfl
  rw[Q];rfl
 .rw[Rb,jC (show zA (.lst<|(c.map pr).map cD)=C (.lst<|f.map cD,O0) from e)<|jR O9];rfl
def wK(one a:iQ)(j:Int):List Int:=ddI<|(one++a).filter λk=>!(ab k==j)
def wJ(one a:iQ)(j:Int):List Int:=(mF ltT<|(wK one a j).map D.int).map iOf
def rO(one a:iQ)(j:Int):List Int:=(mF ltA<|(wJ one a j).map D.int).map iOf
def oN(one a:iQ)(j:Int):mF ltT ((wK one a j).map D.int)=(wJ one a j).map D.int/\(wJ one a j).Perm (wK one a j):=A9<|la ltT _
def qw(one a:iQ)(j:Int):mF ltA ((wJ one a j).map D.int)=(rO one a j).map D.int/\(rO one a j).Perm (wJ one a j):=A9<|la ltA _
def Qq{one a:iQ}{j x:Int}:x∈rO one a j↔(x∈one\/x∈a)/\ab x≠j:=by rw[(qw one a j).2.mem_iff,(oN one a j).2.mem_iff];unfold wK;rw[R3,Gv,pJ];simp
def OF(one a:iQ)(j:Int):(wK one a j).length<=Ps one+(Ps a):=by
 unfold wK;have h1:=SN<|(one++a).filter λk=>!(ab k==j);have b:=zH (λk=>!(ab k==j))<|one++a;rw[lP] at b
 lia
def Pk(i j:Int):gNe (.int i) (.int j)=C (.bl (!decide (i=j)),Y):=by unfold gNe;rw[iT<|by simp[D.dep]];simp[D.eqb];rfl
abbrev Xa:=iU gNe (iJ<|jm (g1 Ey) [iC 1])<|iC 0
def VR{one c:iQ}{j:Int}(h1:(Ps one)<=5)(p:(Ps c)<=5)(f:((wK one c j).map ab).Nodup):Bn [enc one,enc c,(.int j,Y)]=C (enc<|rO one c j,[eN one,eN c,ii j]):=by
 have g:=OF one c j
 have a1:tx (.oth .set []<|(wK one c j).map D.int)=C (.lst<|(wJ one c j).map D.int,J):=by show(if((wK one c j).map D.int).all okI=J then kW ((wK one c j).map D.int) else I)=_;rw[iT<|sZ _];unfold kW;rw[iT ⟨Fh _,by rw[kf,jF];lia⟩,(oN one c j).1]
 have h:yA (.lst<|(wJ one c j).map D.int)=C (.lst<|(rO one c j).map D.int,J):=by
  show(if((wJ one c j).map D.int).all isI=J/\(((wJ one c j).map D.int).map aD).Nodup/\((wJ one c j).map D.int).length<64 then C (D.lst<|mF ltA<|(wJ one c j).map D.int,J) else I)=_
  have i:((wJ one c j).map D.int).all isI=J:=by rw[lU];intro d hd;obtain⟨x,_,rfl⟩:=my.mp hd;rfl
  have n:(((wJ one c j).map D.int).map aD).Nodup:=by rw[kH];exact((oN one c j).2.map ab).nodup_iff.mpr f
  rw[iT ⟨i,n,by have:=(oN one c j).2.length_eq;simp;lia⟩,(qw one c j).1]
 refine HQ ⟨rfl,by decide,rfl⟩<|jC (a:= .lst ((rO one c j).map D.int)) H (jE (b:=J)<|jC h (jE (b:=J)<|jC a1 (jE (b:=J)<|Wn (l:=one++c) (args:=[.int j]) (λk=>!(ab k==j)) ?_ H H (λk hk=>?_)<|by simp;lia).r).r).r
 .have e:=jO (fa:=iC 0) (fb:=iC 1) (δ:=[eN one,eN c,ii j]) (Qj (l:=one.map D.int) (m:=c.map D.int) (by rw[jF];lia)<|by rw[jF];lia) (jV H).r (jV H).r;show kb (iU lA (iC 0)<|iC 1) [eN one,eN c,ii j]=_;unfold kb;rw[e,nU];rfl
 .have e:fT Xa [ii j,ii k]=C (!decide (ab k=j),[ii j,ii k]):=kZ (o:=Y)<|jO (Pk (ab k) j) (jE (b:=Y)<|jC (a:= .int k) H (jV H).r).r (jV H).r;show fT Xa [ii j,ii k]=C (!(ab k==j),[ii j,ii k]);rw[e];rfl
def TM(x:Int)(c:iQ):gIn (.int x) (cD c)=C (.bl<|c.contains x,Y):=by
 have h:(c.map D.int).any (λd=>D.eqb d<|.int x)=c.contains x:=by
  rw[xv,PX.any_int (sZ c) x,List.contains_iff_mem,my];constructor
  .rintro⟨j,a,e⟩;cases e;exact a
  .exact λh=>⟨x,h,rfl⟩
 have:inD (.int x) (cD c)=C (c.contains x):=by show(if D.depL (c.map .int)<=50/\(D.int x).dep<=50 then C ((c.map D.int).any λd=>D.eqb d<|.int x) else I)=_;rw[iT ⟨by rw[qG];lia,by simp[D.dep]⟩,h]
 unfold gIn;rw[this];rfl
def agn(so c:iQ):Bool:=c.all λs=>so.contains (-s)
abbrev fAg:F:=XC
def Wx{so c:iQ}{a x:Sl}(g:(Ps c)<=5):fT fAg [a,eN so,x,eN c]=C (agn so c,[a,eN so,x,eN c]):=by
 have e:=pF (caps:=[1]) (fi:=kb<|jS 3) (f:=iU gIn QD<|iC 0) (δ:=[a,eN so,x,eN c]) (l:=c.map D.int) (args:=[cD so]) (λd=>so.contains (-(iOf d))) H H H (λd hd=>by obtain⟨s,_,rfl⟩:=my.mp hd;exact⟨Y,jO (TM (-s) so) (jE (b:=Y)<|jN (a:= .int s) H (jV H).r).r (jV H).r⟩) (by simp;lia)
 refine(kZ (o:=Y) e).trans ?_;unfold agn;rw[si];rfl
abbrev B7:FS:=iP (sIf (fT fAg) (iP (oI 2) jn) jn) jn
abbrev eN2(i:Nat)(l:kd):List D:=((l.map cD).zipIdx i).map λq=> .tup [.int (0+(q.2:Int)),q.1]
abbrev DR:=wy [iL 2,iL 3]
def aaH{so:iQ}{a:Sl}: ∀(l:kd) (i:Nat) (x y:Sl),(∀c∈l,Ps c<=5)->
  match l.findIdx? (agn so) with
  |some m=> ∃d,qD DR B7 (eN2 i l) [a,eN so,x,y]=C (.rt (.int ((i+m:Nat):Int),Y) [a,eN so,ii ((i+m:Nat):Int),d])
  |none=> ∃k d,qD DR B7 (eN2 i l) [a,eN so,x,y]=C (.nx [a,eN so,k,d]):=by
 intro l
 induction l with
 |nil=>intro i x y _;exact⟨x,y,rfl⟩
 |cons c l u=>
  intro i x y h;have t:(0+(i:Int))=i:=by lia
  have v:DR (.tup [.int (0+(i:Int)),cD c]) [a,eN so,x,y]=C [a,eN so,ii (i:Int),eN c]:=by rw[t];rfl
  have e:=Wx (so:=so) (c:=c) (a:=a) (x:=ii (i:Int))<|h c kg
  have f:qD DR B7 (eN2 i (c::l)) [a,eN so,x,y]=(B7 [a,eN so,ii (i:Int),eN c]).bind λo=>match o with
    | .nx b=>qD DR B7 (eN2 (i+1) l) b
    | .ct b=>qD DR B7 (eN2 (i+1) l) b
    | .bk b=>C<|.nx b
    | .rt r b=>C (.rt r b):=by
   show(DR (.tup [.int (0+(i:Int)),cD c]) [a,eN so,x,y]).bind _=_;rw[v];rfl
  rw[List.findIdx?_cons]
  cases n:agn so c with
  |true=>rw[n] at e;have j:B7 [a,eN so,ii (i:Int),eN c]=C (.rt (.int (i:Int),Y) [a,eN so,ii (i:Int),eN c]):=jo<|(qr e).trans H;rw[j] at f;exact⟨eN c,f⟩
  |false=>
   rw[n] at e;have j:B7 [a,eN so,ii (i:Int),eN c]=C (.nx [a,eN so,ii (i:Int),eN c]):=(iN<|(nh e).trans H).trans H;rw[j] at f;have g:=u (i+1) (ii (i:Int)) (eN c) λs q=>h s<|kj _ q
   cases p:l.findIdx? (agn so) with
   |none=>rw[p] at g;obtain⟨k,d,g⟩:=g;exact⟨k,d,f.trans g⟩
   |some m=>rw[p] at g;obtain⟨d,g⟩:=g;refine⟨d,f.trans ?_⟩;rw[show i+(m+1)=i+1+m by lia];exact g
def IA(so:iQ)(a:kd):D:=match a.findIdx? (agn so) with
 |some m=> .int m
 |none=> .non
def Py{b:kd}{so:iQ}(h: ∀c∈b,Ps c<=5):nL [(.tup<|b.map cD,Y),enc so]=C ((IA so b,Y),[C (.tup<|b.map cD,Y),eN so]):=by
 have g:=aaH (so:=so) (a:=C (.tup<|b.map cD,Y)) b 0 I I h;have f0:qt (Eo 0<|jS 0) DR B7 [C (.tup<|b.map cD,Y),eN so,I,I]=qD DR B7 (eN2 0 b) [C (.tup<|b.map cD,Y),eN so,I,I]:=pU H;unfold IA
 cases e:b.findIdx? (agn so) with
 |some m=>rw[e] at g;obtain⟨d,g⟩:=g;rw[vB] at g;exact jY (δ:=[C (.tup<|b.map cD,Y),eN so,ii (m:Int),d]) ⟨rfl,by decide,rfl⟩<|jo<|f0.trans g
 |none=>rw[e] at g;obtain⟨f,d,g⟩:=g;exact jY (δ:=[C (.tup<|b.map cD,Y),eN so,f,d]) ⟨rfl,by decide,rfl⟩<|(iN<|f0.trans g).trans<|jo H
def VX{n:Nat}(b:n<=5){t c:iQ}(d:(Ps t)=n)(a:c=[]\/ClOk n c):lJ [enc t,enc c]=C ((.bl<|kC t c,Y),[eN t,eN c]):=by
 rcases a with rfl|a
 .rfl
 .exact Pa b d a
def agL(n:Nat)(a:kd)(c:iQ):List (List Int):=(mW n a).filter λt=>!kC t c
def CN{n:Nat}{a:kd}{t:iQ}(h:t∈mW n a):(Ps t)=n:=(qI (Gv.mp (show t∈(mf n).filter _ from h)).1).1
def IW{n:Nat}{a:kd}{c:iQ}(h:BI n a)(b:c=[]\/ClOk n c)(g:(mW n a).length<=10000):mT [(rD' n a,Y),enc c]=C ((.lst<|(agL n a c).map cD,J),[rS n a,eN c]):=by
 have h1:kb (iX pD [iC 0]) [rS n a,eN c]=C ((mW n a).map cD,[rS n a,eN c]):=by unfold kb;rw[jU1 (IV h)<|jV H];rfl
 have e:=EG (caps:=[1]) (fi:=kb<|iX pD [iC 0]) (f:=jS 1) (ti:=nY W4) (δ:=[rS n a,eN c]) (l:=(mW n a).map cD) (args:=[cD c]) (λd=>d) (λd=>!kC (unC d) c) h1 H H (λd hd=>by obtain⟨t,i,rfl⟩:=my.mp hd;refine⟨?_,λ_=>⟨Y,rfl⟩⟩;rw[sH];exact mI<|kZ<|jU2 (VX h.1 (CN i) b) (jV H)<|jV H) (by simpa using g)
 have r:(((mW n a).map cD).filter λd=>!kC (unC d) c).map (λd=>d)=(agL n a c).map cD:=by rw[Gz,Gy];unfold agL;rw[show((λd=>!kC (unC d) c)∘cD)=λt=>!kC t c from funext λt=>by simp[sH]]
 rw[r] at e;exact HQ ⟨rfl,by decide,rfl⟩ e
def Nl{n:Nat}(g:n<=5){c:iQ}(a:c=[]\/ClOk n c):mM [pI n,enc c]=C ((.bl J,Y),[ii n,eN c]):=by
 rcases a with rfl|a
 .refine HQ (δ:=[ii n,eN []]) ⟨rfl,by decide,rfl⟩ ?_;rfl
 .refine HQ (δ:=[ii n,eN c]) ⟨rfl,by decide,rfl⟩ ?_
  have e:MR [ii n,eN c]=C ((.bl Y,Y),[ii n,eN c]):=by refine jO ?_ (jV H).r (jE (b:=Y) (d:=cD []) H).r;exact(V8 c []).trans (by rw[mZ a.1])
  have f:iX ku [iC 0,iC 1] [ii n,eN c]=C ((.bl J,Y),[ii n,eN c]):=jU2 (V2 g a) (jV H)<|jV H;show fOr MR (iX ku [iC 0,iC 1]) [ii n,eN c]=_;unfold fOr;rw[e];exact f
def So(fs:kd):gEq (.lst<|fs.map cD) (.lst [])=C (.bl<|decide<|fs=[],Y):=by unfold gEq;rw[iT ⟨Kg fs,by decide⟩];cases fs<;>simp[D.eqb,D.eqbL]
def vY{n:Nat}{a:kd}{c:iQ}(h:BI n a)(d:c=[]\/ClOk n c)(g:(mW n a).length<=10000):pB [(rD' n a,Y),enc c]=C ((.bl<|decide<|agL n a c=[],Y),[rS n a,eN c]):=by have e:QK [rS n a,eN c]=C (Y,[rS n a,eN c]):=mI<|kZ<|jU2 (Nl h.1 d) (jE (b:=Y) H)<|jV H;have f:iU gEq Xd Kv [rS n a,eN c]=C ((.bl<|decide<|agL n a c=[],Y),[rS n a,eN c]):=jO (So _) (jE (b:=J)<|jU2 (IW h d g) (jV H)<|jV H).r (jE (b:=J) H).r;exact jY (δ:=[rS n a,eN c]) ⟨rfl,by decide,rfl⟩<|(iN (δ1:=[rS n a,eN c])<|(nh e).trans H).trans<|jo<|kn f
inductive Wy where
 |gv(m:Nat)
 |mt(i j:Nat)(v:Int)
 |wd(i:Nat)
 |ld(i:Nat)(t:iQ)
def wyD:Wy->D
 | .gv m=> .tup [.str "given",.int m]
 | .mt i j v=> .tup [.str "met",.int i,.int j,.int v]
 | .wd i=> .tup [.str "wide",.int i]
 | .ld i t=> .tup [.str "led",.int i,cD t]
abbrev Stp:=List Int×Wy
abbrev sD(s:Stp):D:= .tup [cD s.1,wyD s.2]
abbrev lsS(S:List Stp):Sl:=C (.lst<|S.map sD,J)
def Cl0(n:Nat)(c:iQ):Prop:=(c.map ab).Pairwise (· < ·)/\ ∀s∈c,1<=ab s/\ab s<=n
def Zd(G:Prop)(n:Nat)(d A:kd)(c:iQ):Wy->Prop
 | .gv m=>d[m]?=C c
 | .mt i j v=> ∃a b,A[i]?=C a/\A[j]?=C b/\v∈a/\ -v∈b/\1<=v/\v<=n/\Cl0 n a/\Cl0 n b/\c=rO a b v
 | .wd i=> ∃a,A[i]?=C a/\ ∀s∈a,s∈c
 | .ld i t=>G/\ ∃a,A[i]?=C a/\Cl0 n a/\TT n t/\(∀k∈d,lc t k∈d)/\c=lc t a
def Gd(G:Prop)(n:Nat)(ks:kd)(S:List Stp):Prop:= ∀P s R,S=P++s::R->Cl0 n s.1/\Zd G n ks (P.map (·.1)) s.1 s.2
def Gd.snoc{G:Prop}{n:Nat}{ks:kd}{S:List Stp}{s:Stp}(h:Gd G n ks S)(h1:Cl0 n s.1)(b:Zd G n ks (S.map (·.1)) s.1 s.2):Gd G n ks (S++[s]):=by
 intro P c R e;rcases GV R with rfl|⟨R',x,rfl⟩
 .obtain⟨rfl,a⟩:=kw e H;cases a;exact⟨h1,b⟩
 .rw[GU,<-zJ,<-ny] at e;obtain⟨rfl,_⟩:=kw e H;exact h P c R' H
def Gd.last{G:Prop}{n:Nat}{ks:kd}{S:List Stp}{s:Stp}(h:Gd G n ks (S++[s])):Cl0 n s.1:=(h S s [] H).1
def Cl0.len{n:Nat}{c:iQ}(h:Cl0 n c):(Ps c)<=n:=by
 by_cases e:c=[]
 .rw[e];exact lN _
 .exact ClOk.len (n:=n) ⟨e,h⟩
def SoOk(n:Nat)(so:iQ):Prop:= ∀s∈so,(1<=ab s/\ab s<=n)/\ -s∉so
def frL(n:Nat)(so:iQ):List Int:=(st n).filter λv=>!so.contains v&&!so.contains (-v)
def Wd{n:Nat}{so:iQ}{v:Int}:v∈frL n so↔(1<=v/\v<=n)/\v∉so/\ -v∉so:=by unfold frL;rw[Gv,LU];simp
def SoOk.add{n:Nat}{so:iQ}(h:SoOk n so){v w:Int}(hv:v∈frL n so)(a:w=v\/w= -v):SoOk n (so++[w]):=by
 obtain⟨h1,f,c⟩:=Wd.mp hv
 have e:ab w=v:=by unfold ab;rcases a with rfl|rfl<;>split<;>lia
 have a1:w∉so:=by rcases a with rfl|rfl<;>assumption
 have b: -w∉so:=by
  rcases a with rfl|rfl
  .exact c
  .rwa [sd]
 intro s d;rcases pJ.mp d with z|z
 .refine⟨(h s z).1,λq=>?_⟩;rcases pJ.mp q with q|q
  .exact(h s z).2 q
  .have:=zf.mp q;rw[<-this,sd] at b;exact b z
 .cases zf.mp z;refine⟨by lia,λq=>?_⟩;rcases pJ.mp q with q|q
  .exact b q
  .have:=zf.mp q;rcases a with rfl|rfl<;>lia
def TR{n:Nat}{so:iQ}{v w:Int}(hv:v∈frL n so)(a:w=v\/w= -v):(frL n<|so++[w]).length<(frL n so).length:=by
 have e:frL n (so++[w])=(frL n so).filter λx=>!([w].contains x)&&!([w].contains (-x)):=by
  unfold frL;rw[List.filter_filter];refine nD (λp=>(st n).filter p)<|funext λx=>?_
  have c: ∀y:Int,(so++[w]).contains y=(so.contains y||[w].contains y):=λy=>by rw[xv];simp
  rw[c,c];cases so.contains x<;>cases so.contains (-x)<;>cases[w].contains x<;>cases[w].contains (-x)<;>rfl
 rw[e];refine List.length_filter_lt_length_iff_exists.mpr ⟨v,hv,?_⟩;rcases a with rfl|rfl<;>simp
def YX{n:Nat}{ks:kd}{so:iQ}(hk: ∀c∈ks,ClOk n c)(r:SoOk n so)(j: ∀t∈mf n,so.all (soB t)=J->ks.all (kC t)=Y)(l: ∀c∈ks,agn so c=Y):frL n so≠[]:=by
 intro e
 let t:List Int:=(st n).map λv=>if so.contains v=J then 1 else 0
 have u:t∈mf n:=by
  refine WK.mpr ⟨by rw[jF,DY],λx w=>?_⟩;obtain⟨v,_,rfl⟩:=my.mp w;split
  .exact .inr H
  .exact .inl H
 have a: ∀s,1<=ab s/\ab s<=n->s∈so\/ -s∈so:=λs h=>by
  by_cases h1:s∈so
  .exact .inl h1
  by_cases b: -s∈so
  .exact .inr b
  have:ab s∈frL n so:=Wd.mpr ⟨h,by unfold ab;split<;>assumption,by
   unfold ab;split
   .rwa [sd]
   .assumption⟩
  rw[e] at this;cases this
 have i: ∀s,s∈so->soB t s=J:=λs h=>by
  obtain⟨h1,b⟩:=r s h;have o:(ab s).toNat-1<n:=by lia
  have g:t.getD ((ab s).toNat-1) 0=if so.contains (ab s)=J then 1 else 0:=by
   have:t[(ab s).toNat-1]?=C (if so.contains (ab s)=J then 1 else 0):=by show(eW _ (eW _ (aj n)))[_]?=_;rw[ki,ki,My o];simp only[fm];rw[show(1+(((ab s).toNat-1:Nat):Int))=ab s by lia]
   rw[qP,this];rfl
  unfold soB;rw[g];unfold ab at*;by_cases q:s<0
  .rw[iT q] at*;have:so.contains (-s)=Y:=by simpa using b
   rw[this,je (show ¬s>0 by lia)];rfl
  .rw[je q] at*;have:so.contains s=J:=by simpa using h
   rw[this,iT (show s>0 by lia)];rfl
 have h1:=j t u<|lU.mpr λs h=>i s h;obtain⟨c,f,m⟩:=j1.mp h1;obtain⟨s,d,p⟩:=j1.mp<|l c f;have k: -s∉so:=by simpa using p
 have:=(a s<|(hk c f).2.2 s d).resolve_right k;exact m<|kA.mpr ⟨s,d,i s this⟩
def R0{n:Nat}{a b:iQ}{v:Int}(e:Cl0 n a)(f:Cl0 n b)(g:((wK a b v).map ab).Nodup):Cl0 n (rO a b v):=by
 have i:=(qw a b v).2.trans (oN a b v).2;refine⟨?_,λs h=>?_⟩
 .have c:((rO a b v).map ab).Nodup:=(i.map ab).symm.nodup g;have d:=yg<|(wJ a b v).map D.int;rw[(qw a b v).1,og] at d;rw[og];rw[dM,og] at c;refine(d.and c).imp λ{a b} h=>?_;have h1:ab a<=ab b:=h.1;have j:ab a≠ab b:=h.2
  lia
 .rcases(Qq.mp h).1 with z|z
  .exact e.2 s z
  .exact f.2 s z
def VS{n:Nat}{so a b:iQ}{v:Int}(o:SoOk n so)(l:Cl0 n a)(m:Cl0 n b)(h1: ∀s∈a,s=v\/ -s∈so)(k: ∀s∈b,s= -v\/ -s∈so)(hv:1<=v):((wK a b v).map ab).Nodup/\Cl0 n (rO a b v)/\ ∀s∈rO a b v, -s∈so:=by
 have f: ∀s,(s∈a\/s∈b)->ab s≠v-> -s∈so:=λs h q=>by
  have t:ab v=v:=by unfold ab;split<;>lia
  have u:ab (-v)=v:=by unfold ab;split<;>lia
  rcases h with h|h
  .rcases h1 s h with rfl|z
   .exact absurd t q
   .exact z
  .rcases k s h with rfl|z
   .exact absurd u q
   .exact z
 have i:=(qw a b v).2.trans (oN a b v).2
 have g:((wK a b v).map ab).Nodup:=by
  have j:(wK a b v).Nodup:=Wk _;rw[dM,og];refine te (λ{x y} c d p e=>p ?_) j;have c:=Qq.mp<|i.mem_iff.mpr c;have d:=Qq.mp<|i.mem_iff.mpr d;have s1:=f x c.1 c.2;have r:=f y d.1 d.2;by_cases q:x=y
  .exact q
  .have: -x=y:=by unfold ab at e;split at e<;>split at e<;>lia
   exact absurd s1 (by rw[this];have:=(o _ r).2;rwa [sd] at this)
 exact⟨g,R0 l m g,λs h=>f s (Qq.mp h).1 (Qq.mp h).2⟩
def PL{n np:Nat}{b:jL}{f:FS}{a:List (D×Bool)}{δ:Dn}(h1:(Ps a)=np/\np<=n/\(a.zipIdx.all λp=>!(p.1.2&&b.contains p.2))=J)(c:f (a.map C++ac (n-np) I)=C (.nx δ)):evF n np b f a=C ((.non,Y),jv a δ):=by unfold evF;rw[iT h1,c]
def ixT{l:List D}{m:Nat}{d:D}(h:l[m]?=C d):gIx (.tup l) (.int m)=C (d,Y):=by have:=(rQ.mp h).1;rw[ixt (by lia)<|by lia,qP,qh,h];rfl
def ixL{l:List D}{m:Nat}{d:D}(h:l[m]?=C d):gIx (.lst l) (.int m)=C (d,Y):=by have:=(rQ.mp h).1;rw[ixl (by lia)<|by lia,qP,qh,h];rfl
def aay{f:EvF}{g i j:FO}{δ:Dn}{a b c:D}{r:D×Bool}{e:Dn}(h:f [(a,Y),(b,Y),(c,Y)]=C (r,e))(l:FJ g δ a)(m:FJ i δ b)(n:FJ j δ c):iX f [g,i,j] δ=C (r,δ):=by obtain⟨o,h1,_,k⟩:=l;obtain⟨u,p,_,q⟩:=m;obtain⟨v,s,_,t⟩:=n;refine(jP (rm h1<|nq p s) (args:=[a,b,c].map λd=>(d,Y)) (by simp[k,q,t]) (by rw[qx];exact lT) h).trans ?_;rw[Cg]
abbrev dA(n:Nat)(ks:kd)(so:iQ)(S:List Stp)(a r4 r5 r6 r7 r8:Sl):Dn:=[rS n ks,eN so,lsS S,a,r4,r5,r6,r7,r8]
abbrev fAt(i:Nat):F:=iU gIx (iJ<|iU gIx (iC 2)<|iC i) sx
abbrev fLn:F:=iU PX.gSub QE lV
section
variable {n:Nat}{ks:kd}{so:iQ}{S:List Stp}{c r4 r5 r6 r7 r8:Sl}{δ:Dn}
def OP{s:Stp}(h:δ[2]?=C (lsS<|S++[s])):fLn δ=C ((.int S.length,Y),δ):=by have e:=jO (δ:=δ) (NB _ 1) (jE (b:=Y)<|jC (UZ<|(S++[s]).map sD)<|jR h).r (jE (b:=Y) (f:=fC<|.int 1) H).r;rw[jF,lP,uL,show(((S.length+1:Nat):Int)-1)=S.length by lia] at e;exact e
def Wv{i k:Nat}{s:Stp}(h:δ[2]?=C (lsS S))(a:δ[i]?=C (ii k))(hk:S[k]?=C s):fAt i δ=C (enc s.1,δ):=
 jO rfl (jE (b:=Y) (d:=sD s)<|jO (ixL<|by rw[ki,hk];rfl) (jR h) (jV a).r).r (jE H).r
def P9{d:EvF}{b:List Stp}{a:iQ}{e:FO}(h:d [(rD' n ks,Y),enc a,(.lst<|S.map sD,J)]=C ((.non,Y),[rS n ks,eN a,lsS b]))(f:iU lA (iC 1) e (dA n ks so S c r4 r5 r6 r7 r8)=C (enc a,dA n ks so S c r4 r5 r6 r7 r8)):
  mG (iX d [iC 0,iJ<|iU lA (iC 1) e,iC 2]) (dA n ks so S c r4 r5 r6 r7 r8)=C (.nx<|dA n ks so b c r4 r5 r6 r7 r8):=
 sQ ((jP (os:=[.slot 0,.val<|enc a,.slot 2]) (args:=[(rD' n ks,Y),enc a,(.lst<|S.map sD,J)]) (rm H<|nq (iY f) H) H (by simp[jh]) h).trans H)
def Qf{f:F}{s:Stp}(a:δ[2]?=C (lsS S))(h:f δ=C ((sD s,Y),δ))(b:S.length<=10000):mG (lG 2 f) δ=C (.nx<|δ.set 2<|lsS<|S++[s]):=by refine sQ (r:=(.non,Y))<|(vZ a h a<|by rw[jF];exact wC b).trans ?_;rw[show S.map sD++[(sD s,Y).1]=(S++[s]).map sD by rw[nU];rfl]
abbrev tiF:FT:=Xv
def Yc{a:FO}(b:n<=5)(h:a δ=C (.val (.int<|(n:Int)+1,Y),δ)):A6 lV a δ=C ((st n).map D.int,δ):=by rw[J8 (o1:= .val (.int 1,Y)) (o2:= .val (.int<|(n:Int)+1,Y)) (i:=1) (j:=(n:Int)+1) (δ2:=δ) H h H H (by lia)<|by lia,show((n:Int)+1-1).toNat=n by lia];unfold jB st;rw[kH];rfl
def Su{k:Nat}{g:FIt}(j:n<=5)(i:g δ=C ((st n).map D.int,δ))(hk:δ[k]?=C (eN so)):jy [k] 1 g (iL 1) tiF EX δ=C ((.lst<|(frL n so).map D.int,J),δ):=by
 have e:=EG (caps:=[k]) (f:=jS 1) (ti:=tiF) (args:=[cD so]) (λd=>d) (λd=>!so.contains (iOf d)&&!so.contains (-(iOf d))) i (by simp[hk]) H (λd hd=>by
  obtain⟨s,_,rfl⟩:=my.mp hd;refine⟨?_,λ_=>⟨Y,rfl⟩⟩;have h1:fT (iU rg (iC 1)<|iC 0) [eN so,ii s]=C (!so.contains s,[eN so,ii s]):=kZ<|jO (Ej s so) (jV H).r (jV H).r;have h:fT W7 [eN so,ii s]=C (!so.contains (-s),[eN so,ii s]):=kZ<|jO (Ej (-s) so) (jE (b:=Y)<|jN (a:= .int s) H (jV H).r).r (jV H).r;show Gg _ _ [eN so,ii s]=C (!so.contains s&&!so.contains (-s),[eN so,ii s]);unfold Gg;rw[h1];simp only[jU];cases so.contains s
  .exact h
  .rfl) (by rw[jF,DY];lia)
 refine e.trans ?_;rw[Gz,Gy];rfl
abbrev fMn:F:=jm (g1 Pl) [iJ<|jy [1] 1 Xl (iL 1) tiF EX]
def YG(a:n<=5)(h:frL n so≠[]):fMn (dA n ks so S (ii n) r4 r5 r6 r7 r8)=C ((.int<|qc<|frL n so,Y),dA n ks so S (ii n) r4 r5 r6 r7 r8):=by refine jC ?_ (jE<|Su (so:=so) a (Yc a H) H).r;show(if((frL n so).map D.int).all okI=J/\(frL n so).map D.int≠[] then C (D.int<|qc<|((frL n so).map D.int).map Ln,Y) else I)=_;rw[iT ⟨sZ _,by simpa using h⟩,kH,show(Ln∘D.int)=id from H,uD]
end
abbrev W9:=iU gIn (iJ<|lB uB<|iC 6)<|iJ<|fAt 8
def Wz{G:Prop}{n:Nat}{ks:kd}(h:BI n ks): ∀(m:Nat) (so:iQ) (S:List Stp),SoOk n so->(∀t∈mf n,so.all (soB t)=O0->ks.all (kC t)=O1)->(frL n so).length<m->Gd G n ks S->S.length+2^m<=10000->Ps so+m<=100->
  ∃N c w,Gd G n ks (S++N++[(c,w)])/\(∀s∈c, -s∈so)/\(Ps N)+2<=2^m/\lj m [(rD' n ks,O1),enc so,(.lst<|S.map sD,O0)]=N2 ((.non,O1),[rS n ks,eN so,lsS<|S++N++[(c,w)]]):=by
 have Y:=h.1;have h5: ∀c∈ks,Ps c<=5:=λc W=>lI (h.2.1.2 c W).len Y;intro m
 induction m with
 |zero=>intro so S _ _ hf;lia
 |succ m ih=>
  intro so S A ae hf hg hl hso;have r2:2^(m+1)=2*2^m:=Nat.pow_succ';have p1:1<=2^m:=Nat.one_le_two_pow
  let T:Sl:=N2 (.tup<|ks.map cD,O1)
  have Q: ∀g,iP W2 (iP Xc g) (dA n ks so S Op Op Op Op Op Op)=g (dA n ks so S (ii n) T (N2 (IA so ks,O1)) Op Op Op):=λg=>(iN (δ1:=dA n ks so S (ii n) T Op Op Op Op) O9).trans<|iN<|kK (i:=5) (δ1:=dA n ks so S (ii n) T Op Op Op Op) (jU2 (Py h5) (jV O9)<|jV O9) (show 5<9 by decide)
  have I:([(rD' n ks,O1),enc so,(.lst<|S.map sD,O0)]:List (D×Bool)).length=3/\3<=9/\(([(rD' n ks,O1),enc so,(.lst<|S.map sD,O0)]:List (D×Bool)).zipIdx.all λp=>!(p.1.2&&([3,4,5,6,7,8]:List Nat).contains p.2))=O0:=⟨rfl,by decide,rfl⟩
  cases hk:ks.findIdx? (agn so) with
  |some k=>
   obtain⟨X,ha,_⟩:=WD.mp hk;have K:IA so ks= .int k:=by unfold IA;rw[hk]
   rw[K] at Q;have W:=h.2.1.2 ks[k]<|GB X;refine⟨[],ks[k],.gv k,?_,λs A=>?_,by simp;lia,?_⟩
   .rw[uP];exact hg.snoc W.2<|jA X
   .simpa using lU.mp ha s A
   .rw[uP];have ix:iU gIx (iC 4) (iC 5) (dA n ks so S (ii n) T (ii k) Op Op Op)=N2 (enc ks[k],dA n ks so S (ii n) T (ii k) Op Op Op):=jO (ixT<|by rw[ki,jA X];rfl) (jV O9).r (jV O9).r;exact jY (δ:=dA n ks so (S++[(ks[k],.gv k)]) (ii n) T (ii k) Op Op Op) I<|(Q _).trans<|jo<|(qr (t:=fT<|iU Iw (iC 5)<|iJ<|fC .non) (δ1:=dA n ks so S (ii n) T (ii k) Op Op Op) O9).trans<|(iN<|Qf (S:=S) (s:=(ks[k],.gv k)) O9 (yZ ix<|yZ (f:=fC<|.str "given") (g:=jS 5) (a:=(.str "given",O1)) (b:=pI k) O9 O9)<|by lia).trans<|jo (f:=Jv) (r:=(.non,O1)) O9
  |none=>
   have gS: ∀c∈ks,agn so c=O1:=WN.mp hk;have K:IA so ks= .non:=by unfold IA;rw[hk]
   rw[K] at Q;have cq:=YX h.2.1.2 A ae gS;obtain⟨hv,_⟩:=yW cq;generalize hV:qc (frL n so)=v at hv;obtain⟨Z,v2,v3⟩:=Wd.mp hv;have sub: ∀w,∀t∈mf n,(so++[w]).all (soB t)=O0->ks.all (kC t)=O1:=λw t ht q=>ae t ht (by rw[List.all_append,lE] at q;exact q.1);obtain⟨C,e,E,g1,J,l1,P⟩:=ih (so++[-v]) S (A.add hv<|.inr O9) (sub _) (by have:=TR hv<|.inr O9;lia) hg (by lia) (by rw[lP,uL];lia)
   let u:=S++C++[(e,E)]
   have hS1:(Ps u)=S.length+Ps C+1:=by simp[u];lia
   let o:=(S++C).length
   let x:Sl:=N2 (.non,O1)
   have z1: ∀g,iP (mG<|iX (lj m) [iC 0,Xh,iC 2]) (iP (kL 7 fLn) g) (dA n ks so S (ii n) T x (ii v) Op Op)=g (dA n ks so u (ii n) T x (ii v) (ii o) Op):=λg=>by refine(iN<|P9 P ?_).trans (iN<|kK (i:=7) (OP (S:=S++C) (s:=(e,E)) O9) (show 7<9 by decide));rw[jO (Qj (l:=so.map D.int) (m:=[.int (-v)]) (by rw[jF];lia)<|by simp) (jV O9).r (jE (b:=O1) O9).r];rw[show so.map D.int++[.int (-v)]=(so++[-v]).map D.int by rw[nU];rfl]
   have O:fT (iU rg (iC 6)<|iJ<|fAt 7) (dA n ks so u (ii n) T x (ii v) (ii o) Op)=N2 (!e.contains v,dA n ks so u (ii n) T x (ii v) (ii o) Op):=kZ<|jO (Ej v e) (jV O9).r (jE<|Wv (S:=u) (k:=o) (s:=(e,E)) O9 O9 LX).r
   have e2: ∀g,iP zC6 (iP (kL 6 fMn) g) (dA n ks so S (ii n) T x Op Op Op)=g (dA n ks so S (ii n) T x (ii v) Op Op):=λg=>(iN<|(nh (δ1:=dA n ks so S (ii n) T x Op Op Op) O9).trans O9).trans<|iN<|kK (i:=6) (δ1:=dA n ks so S (ii n) T x Op Op Op) (by have:=YG (so:=so) (S:=S) (ks:=ks) (r4:=T) (r5:=x) (r6:=Op) (r7:=Op) (r8:=Op) Y cq;rw[hV] at this;exact this) (show 6<9 by decide)
   have cc: ∀{c:iQ} {w:Int},(∀s∈c, -s∈so++[w])-> ∀s∈c,s= -w\/ -s∈so:=λhq s A=>by
    rcases pJ.mp (hq s A) with z|z
    .exact .inr z
    .have:=zf.mp z;exact .inl (by lia)
   have J:=cc J;rw[sd] at J;by_cases U:v∈e
   .have O:=O.trans (by rw[show e.contains v=O0 by simpa using U];rfl:_=N2 (O1,dA n ks so u (ii n) T x (ii v) (ii o) Op));obtain⟨H,j,L,g2,F,l2,R⟩:=ih (so++[v]) u (A.add hv<|.inl O9) (sub _) (by have:=TR hv<|.inl O9;lia) g1 (by lia) (by rw[lP,uL];lia);have F:=cc F
    let y:=u++H++[(j,L)]
    have hS2:(Ps y)=Ps u+Ps H+1:=by simp[y];lia
    let B:=(u++H).length
    have z2: ∀g,iP (mG<|iX (lj m) [iC 0,W8,iC 2]) (iP (kL 8 fLn) g) (dA n ks so u (ii n) T x (ii v) (ii o) Op)=g (dA n ks so y (ii n) T x (ii v) (ii o)<|ii B):=λg=>by refine(iN<|P9 R ?_).trans (iN<|kK (i:=8) (OP (S:=u++H) (s:=(j,L)) O9) (show 8<9 by decide));rw[jO (Qj (l:=so.map D.int) (m:=[.int v]) (by rw[jF];lia)<|by simp) (jV O9).r (jE (b:=O1) O9).r];rw[show so.map D.int++[.int v]=(so++[v]).map D.int by rw[nU];rfl]
    let d:Dn:=dA n ks so y (ii n) T x (ii v) (ii o)<|ii B
    have ei:y[o]?=N2 (e,E):=by show(S++C++[(e,E)]++H++[(j,L)])[o]?=_;rw[ny,ny,pO<|jW _];simp[o]
    have ba:y[B]?=N2 (j,L):=LX;have a1:fAt 7 d=N2 (enc e,d):=Wv (S:=y) O9 O9 ei;have a2:fAt 8 d=N2 (enc j,d):=Wv (S:=y) O9 O9 ba;have t2:fT W9 d=N2 (j.contains (-v),d):=kZ<|jO (TM (-v) j) (jE (b:=O1)<|jN (a:= .int v) O9 (jV O9).r).r (jE a2).r
    have run:oK (lj m) (dA n ks so S Op Op Op Op Op Op)=iP (sIf (fT W9) (iP (mG<|lG 2<|ly [iX Bn [iJ<|fAt 7,iJ<|fAt 8,iC 6],Um]) jn) jn) jn d:=
     (Q _).trans ((e2 _).trans<|(z1 _).trans<|(iN<|(nh O).trans O9).trans<|z2 _)
    by_cases M: -v∈j
    .have V:=g1.last;have v7:=g2.last;obtain⟨m1,m2,m3⟩:=VS A V v7 J F Z.1;refine⟨C++[(e,E)]++H++[(j,L)],rO e j v,Wy.mt o B v,?_,m3,by simp;lia,?_⟩
     .have:=g2.snoc (s:=(rO e j v,Wy.mt o B v)) m2 ⟨e,j,by rw[ki];exact nD (fx (·.1)) ei,by rw[ki];exact nD (fx (·.1)) ba,U,M,Z.1,Z.2,V,v7,rfl⟩;simpa[y,u] using this
     .have em:iX Bn [iJ<|fAt 7,iJ<|fAt 8,iC 6] d=N2 (enc<|rO e j v,d):=aay (VR (lI V.len Y) (lI v7.len Y) m1) (jE a1) (jE a2) (jV O9)
      have et:Um d=N2 ((wyD<|Wy.mt o B v,O1),d):=by show(if 4<=sizeLine then N2 ((wyD<|Wy.mt o B v,O1),d) else Op)=_;rw[iT<|wD<|by decide]
      refine(PL (δ:=dA n ks so (y++[(rO e j v,Wy.mt o B v)]) (ii n) T x (ii v) (ii o)<|ii B) I<|run.trans<|(iN<|(qr<|t2.trans<|by rw[show j.contains (-v)=O0 by simpa using M]).trans<|(iN<|Qf (S:=y) (s:=(rO e j v,Wy.mt o B v)) O9 (yZ em et)<|by lia).trans O9).trans O9).trans ?_;rw[show S++(C++[(e,E)]++H++[(j,L)])++[(rO e j v,Wy.mt o B v)]=y++[(rO e j v,Wy.mt o B v)] by simp[y,u]];rfl
    .refine⟨C++[(e,E)]++H,j,L,?_,λs A=>(F s A).resolve_left λz=>M<|z▸A,by simp;lia,?_⟩
     .have:=g2;simpa[u] using this
     .refine(PL (δ:=d) I<|run.trans<|(iN<|(nh<|t2.trans<|by rw[show j.contains (-v)=O1 by simpa using M]).trans O9).trans O9).trans ?_;rw[show S++(C++[(e,E)]++H)++[(j,L)]=y by simp[y,u]];rfl
   .have O:=O.trans (by rw[show e.contains v=O1 by simpa using U];rfl:_=N2 (O0,dA n ks so u (ii n) T x (ii v) (ii o) Op));refine⟨C,e,E,g1,λs A=>(J s A).resolve_left λz=>U<|z▸A,by lia,?_⟩;exact jY (δ:=dA n ks so u (ii n) T x (ii v) (ii o) Op) I<|(Q _).trans<|(e2 _).trans<|(z1 _).trans<|jo<|(qr O).trans<|jo O9
def ixM{l:List D}{d:D}:gIx (.lst<|l++[d]) (.int (-1))=C (d,Y):=by
 have e:ixN (l++[d]).length (-1)=C (Ps l):=by
  unfold ixN;rw[lP,uL,je<|by decide,iT<|by lia]
  congr 1;lia
 show(atI (l++[d]) (-1)).map _=_;unfold atI;rw[e];simp
def UH{t:iQ}{s:Int}(h:1<=ab s)(a:soB t (-s)=J):soB t s=Y:=by
 have e:ab (-s)=ab s:=mX s;unfold soB at*;rw[e] at a;have:=rY a;rw[this];unfold ab at h;by_cases q:s>0
 .rw[iT q,je (show ¬ -s>0 by lia)];rfl
 .rw[je q,iT (show -s>0 by split at h<;>lia)];rfl
def WA{c:iQ}(h:(c.map ab).Pairwise (· < ·)){x y:Int}(b:x∈c)(g:y∈c)(e:ab x=ab y):x=y:=by
 rw[og] at h
 induction h with
 |nil=>cases b
 |cons a _ i=>
  rcases lz.mp b with rfl|d<;>rcases lz.mp g with rfl|f
  .rfl
  .have:=a _ f;lia
  .have:=a _ d;lia
  .exact i d f
def VP{n:Nat}{c:iQ}(h:Cl0 n c):SoOk n (c.map (- ·)):=by intro s b;obtain⟨x,a,rfl⟩:=my.mp b;have h1:=h.2 x a;refine⟨by rw[mX];exact h1,λq=>?_⟩;obtain⟨y,d,e⟩:=my.mp q;have f:=WA h.1 d a (by rw[show y= -x by lia,mX]);unfold ab at h1;split at h1<;>lia
abbrev cl0(n:Nat)(c:iQ)(h:Cl0 n c):c=[]\/ClOk n c:=by
 by_cases e:c=[]
 .exact .inl e
 .exact .inr ⟨e,h⟩
section
variable {n:Nat}{j:kd}{c:iQ}(h:BI n j)(k:Cl0 n c)
include h k
theorem TU:nY WV [rS n j,eN c,I]=C (!decide (agL n j c=[]),[rS n j,eN c,I]):=
 mI (kZ (jU2 (vY h (cl0 n c k) (by
  have h1:(mW n j).length<=(mf n).length:=zH _ _;have a:=yI n;have b:2^n<=2^5:=zO (by decide) h.1
  lia)) (jV H)<|jV H))
theorem Oe(a:agL n j c≠[]):pW [(rD' n j,Y),enc c]=C ((.non,Y),[rS n j,eN c]):=
 jY (δ:=[rS n j,eN c,I]) ⟨rfl,by decide,rfl⟩ (jo<|(qr<|(TU h k).trans<|by rw[mZ a];rfl).trans<|jo H)
theorem Of{G:Prop}(v:agL n j c=[]): ∃S w,Gd G n j (S++[(c,w)])/\S.length<=64/\pW [(rD' n j,Y),enc c]=C ((.tup<|(S++[(c,w)]).map sD,Y),[rS n j,eN c]):=by
 have Q:=h.1;have E:=k.len
 obtain⟨N,d,w,g,q,y,u⟩:=Wz (G:=G) h RD (c.map (- ·)) [] (VP k) (λt B o=>by
  refine WG.mpr λhk=>?_;have:t∉agL n j c:=by rw[v];simp
  refine this<|Gv.mpr ⟨Gv.mpr ⟨B,hk⟩,?_⟩;rw[eZ];refine List.any_eq_false.mpr λs p=>?_;rw[UH (k.2 s p).1<|lU.mp o (-s)<|vn p]
  decide) (by
   have:(frL n (c.map (- ·))).length<=(st n).length:=zH _ _;rw[DY] at this;show _<6
   lia) (λP s R e=>by simp at e) (by decide) (by rw[jF];show _+6<=100;lia)
 rw[qK] at g u;have y:(Ps N)+2<=64:=y
 have sub: ∀s∈d,s∈c:=λs o=>by
  obtain⟨x,T,e⟩:=my.mp<|q s o
  rwa [show s=x by lia]
 let m:=N++[(d,w)]
 have A:jy [] 1 Aj (iL 0) jH (jQ<|lB uB<|iC 0) [rS n j,eN c,lsS []]=C ((.lst ((c.map (- ·)).map D.int),J),[rS n j,eN c,lsS []]):=LD (caps:=[]) (args:=[]) (l:=c) (- ·) H H H (λx _=>⟨Y,jN (a:= .int x) H (jV H).r⟩) (by lia)
 have U:zC7 [rS n j,eN c,lsS []]=C (.nx [rS n j,eN c,lsS m]):=
  sQ ((jP (os:=[.slot 0,.val (enc (c.map (- ·))),.slot 2]) (args:=[(rD' n j,Y),enc (c.map (- ·)),(.lst [],J)]) (rm H (nq (iY (jC (a:= .lst ((c.map (- ·)).map D.int)) H (jE A).r)) H)) H (by simp[jh]) u).trans H)
 have z:fT XA [rS n j,eN c,lsS m]=C (!decide (d=c),[rS n j,eN c,lsS m]):=by refine kZ<|jO (V6 d c) (jE (b:=Y)<|jO (a:=sD (d,w)) H (jE (b:=Y)<|jO ?_ (jR H) (jE (b:=Y)<|jN (a:= .int 1) H (jE H).r).r).r (jE H).r).r (jV H).r;show gIx (.lst<|(N++[(d,w)]).map sD) (.int (-1))=_;rw[nU];exact ixM
 have pre: ∀g,iP Xq (iP (kL 2<|lS [])<|iP zC7 g) [rS n j,eN c,I]=g [rS n j,eN c,lsS m]:=λg=>(iN<|(nh<|(TU h k).trans<|by rw[pN v];rfl).trans H).trans<|(iN (δ1:=[rS n j,eN c,lsS []]) H).trans<|iN U
 by_cases hd:d=c
 .subst hd;exact⟨N,w,g,by lia,jY (δ:=[rS n j,eN d,lsS m]) ⟨rfl,by decide,rfl⟩<|(pre _).trans<|(iN<|(nh<|z.trans<|by rw[pN H];rfl).trans H).trans<|jo<|kn<|jC H<|jR (i:=2) H⟩
 .refine⟨m,.wd<|Ps N,g.snoc k ⟨d,by rw[ki];simp,sub⟩,by simp[m];lia,jY (δ:=[rS n j,eN c,lsS<|m++[(c,.wd<|Ps N)]]) ⟨rfl,by decide,rfl⟩<|(pre _).trans<|(iN<|(qr<|z.trans<|by rw[mZ hd];rfl).trans<|(iN<|Qf (S:=m) (s:=(c,.wd<|Ps N)) H (yZ (f:=jS 1) (a:=enc c) H<|yZ (f:=fC<|.str "wide") (a:=(.str "wide",Y)) H<|OP (S:=N) (s:=(d,w)) H)<|by simp[m];lia).trans H).trans<|jo<|kn<|jC H<|jR (i:=2) H⟩
end
section
variable {n:Nat}{d A:kd}{c:iQ}
abbrev dW(n:Nat)(d A:kd)(c:iQ)(w:Wy)(a b e f:Sl):Dn:=[rS n d,lsC A,eN c,C (wyD w,Y),a,b,e,f,I]
abbrev fW0:F:=iU gIx (iC 3) sx
abbrev fB1:FT:=B8 (nY<|fT<|lB (Ex [.tuple])<|iC 3)<|B8 (fT<|iU (ot .Lt) (iJ<|jm (g1 F7) [iC 3])<|iJ<|fC<|.int 2)<|fT<|iU rg (iJ fW0)<|iJ<|ly [fC<|.str "given",fC<|.str "met",fC<|.str "led",fC<|.str "wide"]
def Q2{a:Dn}:ly [fC<|.str "given",fC<|.str "met",fC<|.str "led",fC<|.str "wide"] a=C ((.tup [.str "given",.str "met",.str "led",.str "wide"],Y),a):=by show(if 4<=sizeLine then C ((D.tup [.str "given",.str "met",.str "led",.str "wide"],Y),a) else I)=_;rw[iT<|wD<|by decide]
def b1(w:Wy)(e f g h:Sl):fB1 (dW n d A c w e f g h)=C (Y,dW n d A c w e f g h):=by
 cases w with
 |gv m=>exact(pz (δ1:=dW n d A c _ e f g h) H).trans<|(pz (δ1:=dW n d A c _ e f g h) H).trans<|kZ (o:=Y)<|jO (a:= .str "given") H (jE (b:=Y)<|jO H (jV H).r (jE H).r).r (jE Q2).r
 |mt i j v=>exact(pz (δ1:=dW n d A c _ e f g h) H).trans<|(pz (δ1:=dW n d A c _ e f g h) H).trans<|kZ (o:=Y)<|jO (a:= .str "met") H (jE (b:=Y)<|jO H (jV H).r (jE H).r).r (jE Q2).r
 |wd m=>exact(pz (δ1:=dW n d A c _ e f g h) H).trans<|(pz (δ1:=dW n d A c _ e f g h) H).trans<|kZ (o:=Y)<|jO (a:= .str "wide") H (jE (b:=Y)<|jO H (jV H).r (jE H).r).r (jE Q2).r
 |ld m t=>exact(pz (δ1:=dW n d A c _ e f g h) H).trans<|(pz (δ1:=dW n d A c _ e f g h) H).trans<|kZ (o:=Y)<|jO (a:= .str "led") H (jE (b:=Y)<|jO H (jV H).r (jE H).r).r (jE Q2).r
end
section
variable {n:Nat}{a A:kd}
end
abbrev fsg:F:=Ut
def Nm(a:Int)(b:Bool): ∃(s c:Int),(s=1\/s= -1)/\ ∀δ:Dn,fsg (stt a b::δ)=C ((.int s,Y),stt c b::δ):=by obtain⟨v,c,d,f,e⟩:=nO a b 2 (by lia) (by lia);refine⟨if v=0 then 1 else -1,c,by split<;>simp,λδ=>?_⟩;refine kr (o1:= .val (.lst [.int 1,.int (-1)],J)) (δ1:=stt a b::δ) H (iY<|e _ δ _ rfl rfl) H H ?_;rcases(show v=0\/v=1 by lia) with rfl|rfl<;>rfl
def TK{x s:Int}(h:s=1\/s= -1): ∃y,(y=x\/y= -x)/\pk (.int x) (.int s)=ii y:=by
 rcases h with rfl|rfl
 .exact⟨x,.inl H,YE x⟩
 .exact⟨-x,.inr H,YD x⟩
abbrev tiC:FT:=Xu
theorem T4(b:Bool): ∀(m j:Nat) (a:Int) (c:iQ) (x:Sl),1<=j->CA j c->Ps c+m<=10-> ∃f d i,CA (j+m:Nat) d/\(Ps d)<=10/\kJ (iL 1) tiC (jQ<|iU pk (iC 1)<|iJ fsg) ((c9 j m).map λ(k:Nat)=>D.int (k:Int)) (c.map .int) [stt a b,x]=C (d.map .int,[stt f b,i])
 |0,j,a,c,x,_,l,t=>⟨a,c,x,by simpa using l,by lia,rfl⟩
 |m+1,j,a,c,x,E,l,t=>by
  obtain⟨v,a1,Q,T,n⟩:=nO a b 2 (by lia) (by lia)
  have U:tiC [stt a b,ii j]=C (v==0,[stt a1 b,ii j]):=
   kZ (o:=Y) (kr (o1:= .val (.int v,Y)) (δ1:=[stt a1 b,ii j]) (o2:= .val (.int 0,Y)) (iY<|n _ [ii j] _ rfl rfl) H H H<|JA _ _)
  rw[j8,km]
  have st: ∀(g:Int) (h:iQ),CA (j+1:Nat) h->Ps h+m<=10->(if(v==0)=J then jQ (iU pk (iC 1)<|iJ fsg) (c.map .int) [stt a1 b,ii j] else C (c.map .int,[stt a1 b,ii j]))=C (h.map .int,[stt g b,ii j])->
    ∃f d i,CA (j+(m+1):Nat) d/\(Ps d)<=10/\kJ (iL 1) tiC (jQ<|iU pk (iC 1)<|iJ fsg) (D.int j::(c9 (j+1) m).map λ(k:Nat)=>D.int (k:Int)) (c.map .int) [stt a b,x]=C (d.map .int,[stt f b,i]):=λg h h1 r e=>by
   obtain⟨f,d,i,z,A,B⟩:=T4 b m (j+1) g h (ii j) (by lia) h1 r;refine⟨f,d,i,by rw[show j+(m+1)=j+1+m by lia];exact z,A,?_⟩;rw[kJ,show iL 1 (.int j) [stt a b,x]=C [stt a b,ii j] from H];simp only[jU];rw[U];simp only[jU];rw[e];exact B
  by_cases hv:v=0
  .obtain⟨s,g,u,p⟩:=Nm a1 b;obtain⟨y,w,q⟩:=TK (x:=j) u;refine st g (c++[y]) (by have:=l.snoc (s:=y) (by rcases w with rfl|rfl;exact Ja (by lia);exact Jb<|by lia) (by lia);simpa using this) (by simp;lia) ?_;rw[hv,iT (show((0:Int)==0)=J from H),uh,kr (o1:= .slot 1) (δ1:=[stt a1 b,ii j]) H (iY<|p [ii j]) H H q];simp only[jU];rw[iT<|wC<|by simp;lia];simp
  .refine st a1 c (by simpa using l.up) (by lia) ?_;rw[je<|by simpa using hv]
def KU(n:Nat):jB 1 n=(c9 1 n).map λ(k:Nat)=>D.int (k:Int):=by unfold jB;rw[List.range'_eq_map_range,kH];exact uE λk _=>by simp
def Bt(a:Int)(b:Bool)(n:Nat)(h1:1<=n)(E:n<=5): ∃t c,ClOk n c/\lR [pS a b,pI n]=C (enc c,[stt t b,ii n]):=by
 obtain⟨a1,c,x,p,Q,u⟩:=T4 b n 1 a [] I (by lia) ⟨by simp,by simp⟩ (by simp;lia)
 have U:A6 lV Hy [stt a b,ii n,I]=C ((c9 1 n).map λ(k:Nat)=>D.int (k:Int),[stt a b,ii n,I]):=by rw[J8 (o1:= .val (.int 1,Y)) (o2:= .val (.int<|(n:Int)+1,Y)) (i:=1) (j:=(n:Int)+1) H H H H (by lia)<|by lia,show((n:Int)+1-1).toNat=n by lia,KU]
 have pre: ∀g,iP (kL 2<|jy [0] 1 (A6 lV Hy) (iL 1) tiC<|jQ<|iU pk (iC 1)<|iJ fsg) g [stt a b,ii n,I]=g [stt a1 b,ii n,lsi c]:=λg=>iN<|kK (i:=2) (δ1:=[stt a1 b,ii n,I]) ((qE (caps:=[0]) (args:=[pS a b]) U H (nd1 0) u).trans H) (show 2<3 by decide)
 have f:fT (iU gEq (iC 2) Kv) [stt a1 b,ii n,lsi c]=C (decide<|c=[],[stt a1 b,ii n,lsi c]):=
  kZ (o:=Y) (kr (o1:= .slot 2) (o2:= .val (.lst [],J)) (δ2:=[stt a1 b,ii n,lsi c]) H (iY<|by simp[kf]) H H<|Lu c [])
 by_cases e:c=[]
 .obtain⟨i,m,T,L,v⟩:=nO a1 b n (by lia) (by lia);obtain⟨s,d,l,w⟩:=Nm m b;obtain⟨y,B,A⟩:=TK (x:=1+i) l;have h:ab y=1+i:=by rcases B with rfl|rfl;exact Ja (by lia);exact Jb (by lia)
  refine⟨d,[y],⟨by simp,by simp,λz q=>by simp at q;subst q;rw[h];lia⟩,?_⟩;refine jY (δ:=[stt d b,ii n,lsi [y]]) ⟨rfl,by decide,rfl⟩<|(pre _).trans ?_;rw[e] at f;rw[e];refine(iN<|(qr f).trans<|(iN (δ1:=[stt d b,ii n,lsi [y]])<|kK (i:=2) (δ1:=[stt d b,ii n,lsi []]) (r:=(.lst [.int y],J)) ?_ (show 2<3 by decide)).trans H).trans (jo<|kn<|jC (a:= .lst [.int y]) H<|jR H);refine SD (os:=[.val (.int y,Y)]) (ou<|iY<|kr (o1:= .val (.int (1+i),Y)) (δ1:=[stt m b,ii n,lsi []]) (iY<|kr (o1:= .val (.int 1,Y)) (δ1:=[stt a1 b,ii n,lsi []]) H (iY<|v _ [ii n,lsi []] (.slot 1) rfl rfl) H H<|Yk _ _) (iY<|w [ii n,lsi []]) H H A) H<|wD (by simp)
 .refine⟨a1,c,⟨e,p.1,λs l=>by have:=p.2 s l;lia⟩,?_⟩;refine jY (δ:=[stt a1 b,ii n,lsi c]) ⟨rfl,by decide,rfl⟩<|(pre _).trans ?_;rw[mZ e] at f;exact(iN<|(nh f).trans H).trans (jo<|kn<|jC (a:= .lst (c.map D.int)) H<|jR H)
noncomputable def dC(cs:kd):D:= .oth .dct (cs.map cD) (cs.map λ_=> .bl J)
theorem CM: ∀l:List Int,(FY<|l.map .int).isSome=J
 |[]=>rfl
 |x::l=>by
  have:=CM l;simp only[km,FY,BW]
  cases h:FY (l.map D.int) with
  |none=>rw[h] at this;cases this
  |some k=>rfl
def J5(c:iQ):(Em<|cD c).isSome=J:=CM c
def Se(a:kd):((a.map cD).all λk=>(Em k).isSome)=J:=by rw[lU];intro d hd;obtain⟨c,_,rfl⟩:=my.mp hd;exact J5 c
def FX(a:kd)(c:iQ):wU (a.map cD) (cD c)=J:=by unfold wU;rw[J5,Se];simp
theorem Nu(c:iQ): ∀a:List (List Int),uS (a.map cD) (a.map λ_=> .bl J) (cD c) (.bl J)=a.map λ_=> .bl J
 |[]=>rfl
 |x::a=>by simp[uS,Nu c a]
def Vg(a:kd)(c:iQ):D.oth .dct (uA (a.map cD) (a.map λ_=> .bl J) (cD c)<|.bl J).1 (uA (a.map cD) (a.map λ_=> .bl J) (cD c)<|.bl J).2=dC (xu a c):=by
 unfold uA xu dC;rw[Ww];by_cases h:c∈a
 .rw[iT<|by simpa using h,iT h,Nu]
 .rw[je<|by simpa using h,je h];simp
theorem JX(c:iQ): ∀a:List (List Int),(mV (a.map cD) (a.map λ_=> .bl J)<|cD c).isSome=decide (c∈a)
 |[]=>rfl
 |x::a=>by
  simp only[km,mV,ED];by_cases h:x=c
  .simp[h]
  .have: ¬c=x:=λe=>h e.symm;simp[h,this,JX c a]
def Le(c:iQ)(cs:kd):wY (cD c) (dC cs)=C (.bl (!decide (c∈cs)),Y):=by show(if wU (cs.map cD) (cD c)=J then C (D.bl (!(mV (cs.map cD) (cs.map λ_=>D.bl J)<|cD c).isSome),Y) else I)=_;rw[iT<|FX cs c,JX]
def CsOk.add{n:Nat}{a:kd}{c:iQ}(h:CsOk n a)(b:ClOk n c):CsOk n (xu a c):=by
 unfold xu;split
 .exact h
 .exact h.snoc b (by assumption)
def Ke{i:Nat}{f:F}{g:FO}{a δ1 δ2:Dn}{o:Opd}{x:D×Bool}{b:Bool}{cs:kd}{c:iQ}(h1:f a=C ((.bl J,b),δ1))(d:δ1[i]?=C (C x))(e:g δ1=C (o,δ2))(h:res δ2 o=C (cD c))(j:δ2[i]?=C (C (dC cs,J)))(k:(Ps cs)<10000):Fl i f g a=C (.nx<|δ2.set i<|C (dC<|xu cs c,J)):=by unfold Fl;rw[h1];simp only[jU];rw[d];simp only[];rw[e];simp only[jU];rw[h,j];unfold dC;simp only[];rw[iT ⟨FX cs c,by simpa using k⟩,Vg];rfl
abbrev fbD:FS:=Xo
def Wi(a:Int)(b:Bool){n:Nat}(h1:1<=n)(k:n<=5){d:kd}(l:CsOk n d)(f g:Sl): ∃h j,CsOk n j/\fbD [stt a b,ii n,f,C (dC d,J),g,I,I,I]=C (.nx [stt h b,ii n,f,C (dC j,J),g,I,I,I]):=by
 obtain⟨h,c,o,e⟩:=Bt a b n h1 k;refine⟨h,xu d c,l.add o,(iN (δ1:=[stt h b,ii n,f,C (dC<|xu d c,J),g,I,I,I]) ?_).trans H⟩
 have m:iJ Ui [stt a b,ii n,f,C (dC d,J),g,I,I,I]=C (.val<|enc c,[stt h b,ii n,f,C (dC d,J),g,I,I,I]):=
  iY (jP (δ1:=[stt a b,ii n,f,C (dC d,J),g,I,I,I]) (os:=[.slot 0,.slot 1]) (args:=[pS a b,pI n]) H H (nd1 0) e)
 exact Ke (i:=3) (b:=Y) H H m H H (by have:=l.len k;lia)
def aaG(b:Bool){n:Nat}(h1:1<=n)(q:n<=5)(g:Sl)(l:List D)(a:Int)(cs:kd)(c:Sl)(m:CsOk n cs): ∃i f o,CsOk n f/\qD (iL 4) fbD l [stt a b,ii n,g,C (dC cs,J),c,I,I,I]=C (.nx [stt i b,ii n,g,C (dC f,J),o,I,I,I]):=by
 obtain⟨s,⟨i,f,o,k,rfl⟩,e⟩:=uv (fb:=fbD) (tg:=iL 4) (λ_ δ=> ∃a cs c,CsOk n cs/\δ=[stt a b,ii n,g,C (dC cs,J),c,I,I,I]) (λd l δ h=>by obtain⟨a,cs,c,m,rfl⟩:=h;obtain⟨a1,j,r,p⟩:=Wi a b h1 q m g<|C (d,Y);exact⟨_,_,rfl,p,a1,j,_,r,rfl⟩) l _ ⟨a,cs,c,m,rfl⟩
 exact⟨i,f,o,k,e⟩
abbrev ftF:FT:=fT<|iU gNe (iC 6) Kv
abbrev fbF:FS:=iP (kL 7<|iX lg [iJ<|PX.fPop 6,iC 5]) XE
def Sn(fs:kd):gNe (.lst<|fs.map cD) (.lst [])=C (.bl (!decide (fs=[])),Y):=by unfold gNe;rw[iT ⟨Kg fs,by decide⟩];cases fs<;>simp[D.eqb,D.eqbL]
def Wh{n:Nat}(m:n<=5){t:iQ}(q:TT n t){cs fs:kd}{c:iQ}(p:CsOk n cs)(v:(Ps fs)<=1000)(s:ClOk n c)(a d f g j:Sl):
  fbF [a,d,f,C (dC cs,J),g,eN t,lsC<|fs++[c],j]=C (.nx [a,d,f,C (dC<|xu cs<|lc t c,J),g,eN t,lsC (if lc t c∈cs then fs else fs++[lc t c]),eN<|lc t c]):=by
 obtain⟨_,e,rfl⟩:=VT m q s
 have u:iJ (PX.fPop 6) [a,d,f,C (dC cs,J),g,eN t,lsC<|fs++[c],j]=C (.val<|enc c,[a,d,f,C (dC cs,J),g,eN t,lsC fs,j]):=by refine iY ?_;unfold PX.fPop;simp[lsC]
 refine(iN (δ1:=[a,d,f,C (dC cs,J),g,eN t,lsC fs,eN<|lc t c])<|kK (i:=7) (δ1:=[a,d,f,C (dC cs,J),g,eN t,lsC fs,j]) (jP (δ1:=[a,d,f,C (dC cs,J),g,eN t,lsC fs,j]) (os:=[.val<|enc c,.slot 5]) (args:=[enc c,enc t]) (nq u H) H (by simp[jh]) e) (show 7<8 by decide)).trans ?_
 have k:fT (iU wY (iC 7)<|iC 3) [a,d,f,C (dC cs,J),g,eN t,lsC fs,eN<|lc t c]=C (!decide (lc t c∈cs),[a,d,f,C (dC cs,J),g,eN t,lsC fs,eN<|lc t c]):=
  kZ (jO (Le _ _) (jV H).r<|jR H)
 by_cases h:lc t c∈cs
 .rw[pN h] at k;refine(iN<|(nh k).trans H).trans ?_;rw[iT h,show xu cs (lc t c)=cs from iT h];rfl
 .rw[mZ h] at k;refine(iN (δ1:=[a,d,f,C (dC<|xu cs<|lc t c,J),g,eN t,lsC<|fs++[lc t c],eN<|lc t c])<|(qr k).trans<|(iN (δ1:=[a,d,f,C (dC<|xu cs<|lc t c,J),g,eN t,lsC fs,eN<|lc t c]) ?_).trans<|(Bl (i:=6) (l0:=fs.map cD) (l:=fs.map cD) (r:=enc<|lc t c) (δ1:=[a,d,f,C (dC<|xu cs<|lc t c,J),g,eN t,lsC fs,eN<|lc t c]) H H H<|by simp;lia).trans ?_).trans ?_
  .exact Ke (i:=3) (b:=Y) (o:= .slot 7) (cs:=cs) (δ1:=[a,d,f,C (dC cs,J),g,eN t,lsC fs,eN<|lc t c]) (δ2:=[a,d,f,C (dC cs,J),g,eN t,lsC fs,eN<|lc t c]) H H H H H (by have:=p.len m;lia)
  .simp[lsC]
  .rw[je h];rfl
theorem MY{n:Nat}(s:n<=5){t:iQ}(u:TT n t)(d f g i:Sl): ∀(a:Nat) (cs fs:kd) (j:Sl),CsOk n cs->(∀c∈fs,ClOk n c)->Ps fs<=500->2*(243-Ps cs)+Ps fs<a-> ∃m w v,CsOk n m/\nJ ftF fbF a [d,f,g,C (dC cs,J),i,eN t,lsC fs,j]=C (.nx [d,f,g,C (dC m,J),i,eN t,w,v])
 |0,_,_,_,_,_,_,h=>by lia
 |a+1,cs,fs,j,r,hf,T,h=>by
  have p:ftF [d,f,g,C (dC cs,J),i,eN t,lsC fs,j]=C (!decide (fs=[]),[d,f,g,C (dC cs,J),i,eN t,lsC fs,j]):=
   kZ (o:=Y) (kr (o1:= .slot 6) (o2:= .val (.lst [],J)) (δ2:=[d,f,g,C (dC cs,J),i,eN t,lsC fs,j]) H (iY<|by simp[kf]) H H<|Sn fs)
  by_cases b:fs=[]
  .rw[pN b] at p;exact⟨cs,_,j,r,QV p⟩
  .rw[mZ b] at p;have e:=Dh b;have y:(Ps fs.dropLast)+1=(Ps fs):=by rw[Ha];have:=MP.mpr b;lia
   have A:=hf _ (kl b);have b1:=Wh s u r (fs:=fs.dropLast) (by lia) A d f g i j;rw[e] at b1;have x:=YJ u A;have B:=r.add x;have l:=B.len s
   obtain⟨m,w,v,U,E⟩:=MY s u d f g i a _ (if lc t (fs.getLast b)∈cs then fs.dropLast else fs.dropLast++[lc t<|fs.getLast b]) (eN<|lc t<|fs.getLast b) B (λc k=>by
    have dl: ∀c∈fs.dropLast,ClOk n c:=λc k=>hf c<|LY _ k;split at k
    .exact dl c k
    .rcases pJ.mp k with z|z
     .exact dl c z
     .cases zf.mp z;exact x) (by split<;>simp<;>lia) (by
    unfold xu at l ⊢;split
    .rename_i q;simp only[q,ky] at l ⊢;lia
    .rename_i q;simp only[q,kI] at l ⊢;simp at l ⊢;lia)
   exact⟨m,w,v,U,(QU p b1).trans E⟩
def aav(cs:kd)(a:(Ps cs)<=243){k:Int}(h:k=0\/k=1): ∃fs:List (List Int),(∀c∈fs,c∈cs)/\(Ps fs)<=243/\F6 (.lst<|cs.map cD) (.int k)=C (.lst<|fs.map cD,J):=by
 have b:=wD (n:=243) (by decide);rcases h with rfl|rfl
 .refine⟨[],by simp,by simp,?_⟩;show(if(0:Int)<=0/\(0:Int)<1000/\(cs.map cD).length*0<=sizeLine then C (D.lst (ac 0<|cs.map cD).flatten,J) else I)=_;rw[iT ⟨by decide,by decide,by simp⟩];rfl
 .refine⟨cs,λ_ h=>h,a,?_⟩;show(if(0:Int)<=1/\(1:Int)<1000/\(cs.map cD).length*1<=sizeLine then C (D.lst (ac 1<|cs.map cD).flatten,J) else I)=_;rw[iT ⟨by decide,by decide,by simp;exact lI a b⟩];simp
def HP(a:Int)(b:Bool)(n:Nat)(f:n<=5): ∃I' d,BI n d/\nK [pS a b,pI n]=N2 ((rD' n d,O1),[stt I' b,ii n]):=by
 have E: ∀δ:Dn,Uh (stt a b::ii n::δ)=N2 (decide<|(n:Int)=0,stt a b::ii n::δ):=λδ=>kZ (o:=O1)<|jO ((JA _ _).trans<|by rw[zF]) (jV O9).r (jE O9).r
 by_cases V:n=0
 .subst V;refine⟨a,[],⟨by lia,⟨by simp,by simp⟩,ce,by simp⟩,?_⟩;refine jY (δ:=[stt a b,ii (0:Nat),I,I,I,I,I,I]) ⟨rfl,by decide,rfl⟩<|jo<|(qr<|E _).trans<|jo<|kn ?_;exact yZ (a:=(.int 0,O1)) (b:=(.tup [],O1)) O9 (by simp)
 .have W:1<=n:=by lia
  obtain⟨u,a1,X,Z,T⟩:=nO a b 3 (by lia) (by lia)
  let p:List Int:=[3,5,12]
  let m:=p.getD u.toNat 0
  have hm:0<m/\m<=12:=by rcases(show u=0\/u=1\/u=2 by lia) with rfl|rfl|rfl<;>decide
  obtain⟨q,B,q0,q1,G⟩:=nO a1 b (m+1) (by lia) (by lia);obtain⟨s,rfl⟩: ∃s:Nat,q=s:=⟨q.toNat,by lia⟩
  obtain⟨w,cs,e,x,J⟩:=aaG b W f (ii m) (jB 0 s) B [] I ⟨by simp,by simp⟩;obtain⟨g,t,A,M⟩:=HD w b n f;have A:=Q0 A;obtain⟨v,j,v0,v1,N⟩:=nO g b 2 (by lia) (by lia);have L:=x.len f;obtain⟨fs,K,R,U⟩:=aav cs L (k:=if v=0 then 1 else 0) (by split<;>simp);obtain⟨z,O,Q,l,Y⟩:=MY f A (stt j b) (ii n) (ii m) e Ze cs fs I x (λc h=>x.2 c<|K c h) (by lia) (by show _<100000;lia);have y:=l.len f;obtain⟨d,C,S,D⟩:=Jq (cs:=z) (Co _ λc P=>(l.2 c P).1) (by lia);have hk:CsOk n d:=⟨C.symm.nodup l.1,λc h=>l.2 c<|C.mem_iff.mp h⟩
  refine⟨j,d.take 30,⟨f,hk.take 30,S.take 30,by rw[rG];lia⟩,?_⟩;refine jY (δ:=[stt j b,ii n,ii m,N2 (dC z,O0),e,eN t,O,Q]) ⟨rfl,by decide,rfl⟩ ?_;have H:=E [I,I,I,I,I,I];rw[mZ (show ¬(n:Int)=0 by lia)] at H;refine(iN<|(nh H).trans O9).trans ?_;refine(iN<|kK (i:=2) (δ1:=[stt a1 b,ii n,I,I,I,I,I,I]) (kr (o1:= .val (.lst<|p.map .int,O0)) (o2:= .val (.int u,O1)) (iY (δ1:=[stt a b,ii n,I,I,I,I,I,I])<|by simp[p,kf]) (iY<|T _ [ii n,I,I,I,I,I,I] _ rfl rfl) O9 O9<|YN X<|by simpa[p] using Z) (show 2<8 by decide)).trans ?_;refine(iN (δ1:=[stt a1 b,ii n,ii m,N2 (dC [],O0),I,I,I,I]) O9).trans ?_;refine(iN<|(pU<|pV (o:= .val (.int s,O1)) (δ1:=[stt B b,ii n,ii m,N2 (dC [],O0),I,I,I,I]) (iY<|G _ [ii n,ii m,N2 (dC [],O0),I,I,I,I] (.val (.int<|m+1,O1)) rfl rfl) O9<|by lia).trans J).trans ?_;refine(iN<|kK (i:=5) (δ1:=[stt g b,ii n,ii m,N2 (dC cs,O0),e,I,I,I]) (jP (δ1:=[stt w b,ii n,ii m,N2 (dC cs,O0),e,I,I,I]) (os:=[.slot 0,.slot 1]) (args:=[pS w b,pI n]) O9 O9 (nd1 0) M) (show 5<8 by decide)).trans ?_;refine(iN<|kK (i:=6) (δ1:=[stt j b,ii n,ii m,N2 (dC cs,O0),e,eN t,I,I]) (kr (o1:= .val (.lst<|cs.map cD,O0)) (o2:= .val (.int (if v=0 then 1 else 0),O1)) (δ1:=[stt g b,ii n,ii m,N2 (dC cs,O0),e,eN t,I,I]) O9 (iY<|kr (o1:= .val (.lst [.int 1,.int 0],O0)) (δ1:=[stt g b,ii n,ii m,N2 (dC cs,O0),e,eN t,I,I]) O9 (iY<|N _ [ii n,ii m,N2 (dC cs,O0),e,eN t,I,I] _ rfl rfl) O9 O9 ?_) O9 O9 U) (show 6<8 by decide)).trans ?_
  .rcases(show v=0\/v=1 by lia) with rfl|rfl<;>rfl
  refine(iN Y).trans (jo<|kn<|yZ (a:=(.int n,O1)) (b:=(.tup<|(d.take 30).map cD,O1)) O9<|jC (a:= .lst ((d.take 30).map cD)) O9 (jE (b:=O0) ?_).r);have F:wX (dC z)=N2 (.lst<|d.map cD,O0):=D;unfold za;rw[iY<|jC F<|jR O9];simp only[jU,UX,aal,UU];rw[show gSl I (N2 30) (.lst<|d.map cD)=N2 (.lst<|PX.oO (d.map cD) I<|N2 ((30:Nat):Int),O0) from O9,Wl,o4];rfl
noncomputable def T5(n:Nat):List (List Int):=(aj (2^n)).map λ(k:Nat)=>(aj n).map λ(j:Nat)=>bV ((k:Int) / 2^(n-1-j)) 1
def LL: ∀n:Nat,n<6->T5 n=mf n:=by decide+kernel
def S0{n:Nat}(f:n<=5):tJ [pI n]=C ((.lst<|(mf n).map cD,J),[ii n]):=by
 have p: ∀k:Nat,k<=5->V5 (.int 1) (.int k)=ii (2^k:Nat):=by
  intro k hk;have:k=0\/k=1\/k=2\/k=3\/k=4\/k=5:=by lia
  have i:tP 1 (k:Int):=by rcases this with rfl|rfl|rfl|rfl|rfl|rfl<;>(unfold tP;decide+kernel)
  show((if tP 1 (k:Int) then C (D.int (1*2^(k:Int).toNat)) else I).map λz=>(z,Y))=_;rw[iT i];simp
 have h:=KZ f;have g: ∀(m:Nat),jB 0 m=(aj m).map λ(k:Nat)=>D.int (k:Int):=λm=>by unfold jB;simp
 have c: ∀k:Nat,jm (g1 pj) [zC3] (frz [.int n]++[ii k])=C ((cD<|(aj n).map λ(j:Nat)=>bV ((k:Int) / 2^(n-1-j)) 1,Y),frz [.int n]++[ii k]):=λk=>by
  refine jC (a:= .lst (((aj n).map λ(j:Nat)=>bV ((k:Int) / 2^(n-1-j)) 1).map D.int)) H (jE (b:=J) ?_).r;refine(wc (caps:=[1,0]) (args:=[.int k,.int n]) (l:=(aj n).map λ(j:Nat)=>D.int (j:Int)) (δ1:=frz [.int n]++[ii k]) (λd=> .int (bV ((k:Int) / 2^(n-1-(iOf d).toNat)) 1)) ?_ H H (λd hd=>?_)<|by simp;lia).trans ?_
  .rw[pV (n:=n) (o:= .slot 0) H H<|by lia,g]
  .obtain⟨j,e,rfl⟩:=my.mp hd;have e:=yK.mp e;refine⟨Y,jO (a:= .int ((k:Int) / 2^(n-1-j))) H (jE (b:=Y)<|jO ?_ (jV (d:= .int k) H).r (jE (b:=Y)<|jO (NB _ _) (jE (b:=Y)<|jO (NB _ _) (jV (d:= .int n) H).r (jE H).r).r (jV (d:= .int j) H).r).r).r (jE H).r⟩;show((if(0:Int)<=(n:Int)-1-j then C (D.int<|(k:Int) / 2^((n:Int)-1-j).toNat) else I).map λz=>(z,Y))=_;rw[iT<|by lia,show((n:Int)-1-j).toNat=n-1-j by lia];rfl
  .rw[kH,kH];rfl
 refine HQ (δ:=[ii n]) ⟨rfl,by decide,rfl⟩<|(wc (caps:=[0]) (args:=[.int n]) (l:=(aj (2^n)).map λ(k:Nat)=>D.int (k:Int)) (δ1:=[ii n]) (λd=>cD<|(aj n).map λ(j:Nat)=>bV (iOf d / 2^(n-1-j)) 1) ?_ H H (λd hd=>?_)<|by simp;lia).trans ?_
 .refine(pV (n:=2^n) (o:= .val (.int (2^n:Nat),Y)) (iY<|jO (p n f) (jE H).r (jV H).r) H<|by lia).trans ?_;rw[g];rfl
 .obtain⟨k,_,rfl⟩:=my.mp hd;exact⟨Y,c k⟩
 .rw[<-LL n (by lia),T5,kH,kH];rfl
def no{t:FT}{f:FS}{δ:Dn}(g:FS)(h:t δ=C (Y,δ)):iP (sIf t f jn) g δ=g δ:=iN<|(nh h).trans H
section
variable {n:Nat}{g:kd}{c:iQ}
def FK{t:iQ}(j:(Ps t)=n)(m:n<=5)(h:Cl0 n c):lL [enc t,enc c]=C ((.bl<|kC t c,Y),[eN t,eN c]):=by
 have e:=Gn (caps:=[0]) (fi:=kb<|jS 1) (f:=iU gEq (iJ<|iU gIx (iC 0)<|iJ<|iU PX.gSub Hw lV) Xm) (δ:=[eN t,eN c]) (l:=c.map D.int) (args:=[cD t]) (λd=>soB t<|iOf d) H H H (λd hd=>by
  obtain⟨s,i,rfl⟩:=my.mp hd;have k:=h.2 s i;refine⟨Y,?_⟩;refine(jO (JA _ _) (jE (b:=Y)<|jO (YO t s<|by rw[j];exact k) (jV H).r (jE (b:=Y)<|jO (a:= .int (ab s)) H (jE (b:=Y)<|jC (a:= .int s) H (jV H).r).r (jE H).r).r).r (jE (b:=Y)<|jC (ND _) (jE<|jO (aai s 0) (jV H).r (jE H).r).r).r).trans ?_;unfold soB iOf;by_cases q:s>0
  .rw[pN q,iT q];rfl
  .rw[mZ q,je q];rfl) (by have:=h.len;simp;lia)
 rw[any_int] at e;exact HQ ⟨rfl,by decide,rfl⟩ e
abbrev Y0:FS:=zC1
def Li(h:BI n g):mR [(rD' n g,Y)]=C ((.lst<|(mW n g).map cD,J),[rS n g]):=by
 have m:=h.1
 let p:List Int->Bool:=λt=>g.all<|kC t
 have q:(mf n).length<=32:=EO m
 obtain⟨_,⟨P,R,x,a,j,rfl⟩,u⟩:=uv (tg:=iL 2) (fb:=Y0) (λl δ=> ∃P R x,P++R=mf n/\l=R.map cD/\δ=[rS n g,lsC<|P.filter p,x]) (λd l δ U=>by
  obtain⟨P,R,x,a,j,s⟩:=U
  subst s
  cases R with
  |nil=>cases j
  |cons t R=>
   obtain⟨rfl,rfl⟩:=uF j;have y:=(qI (n:=n) (t:=t)<|by rw[<-a];simp).1
   let δ:Dn:=[rS n g,lsC<|P.filter p,eN t]
   have e:=pF (caps:=[2]) (fi:=kb Ug) (f:=iX lL [iC 0,iC 1]) (δ:=δ) (δ1:=δ) (l:=g.map cD) (args:=[cD t]) (λd=>kC t<|unC d) H H H (λd hd=>by obtain⟨c,w,rfl⟩:=my.mp hd;rw[sH];exact⟨Y,jU2 (FK y m (h.2.1.2 c w).2) (jV H)<|jV H⟩) (by have:=h.2.2.2;simp;lia)
   rw[show(g.map cD).all (λd=>kC t<|unC d)=p t by rw[si];congr 1;funext c;simp only[bS,sH]] at e;refine⟨_,[rS n g,lsC<|(P++[t]).filter p,eN t],rfl,?_,P++[t],R,eN t,by simp[<-a],rfl,rfl⟩
   cases k:p t with
   |false=>rw[k] at e;rw[hX,show[t].filter p=[] by simp[k],uP];exact(no (δ:=δ) _ (kZ e)).trans H
   |true=>
    rw[k] at e
    refine(iN ((qr<|kZ e).trans (Bl (i:=1) (l0:=(P.filter p).map cD) (l:=(P.filter p).map cD) (r:=enc t) (δ1:=δ) H H H (by
     rw[jF];have:=zH p P;rw[<-a,lP] at q
     lia)))).trans ?_
    rw[hX,show[t].filter p=[t] by simp[k]];show C (Out.nx [rS n g,C (.lst<|(P.filter p).map cD++[cD t],J),eN t])=_;rw[show(P.filter p).map cD++[cD t]=(P.filter p++[t]).map cD by rw[nU];rfl]) ((mf n).map cD) [rS n g,lsC [],I] ⟨[],mf n,I,rfl,rfl,rfl⟩
 have v:R=[]:=by simpa using j.symm
 subst v;rw[uP] at a;subst a;refine jY (δ:=[rS n g,I,x]) ⟨rfl,by decide,rfl⟩<|(iN (δ1:=[rS n g,lsC [],I]) H).trans<|(iN<|(pU (δ1:=[rS n g,lsC [],I])<|yz (o:=J)<|jU1 (S0 m)<|jE (b:=Y)<|jO H (jV H).r (jE H).r).trans u).trans<|jo H
end
section
variable {n:Nat}{a:kd}(h:BI n a){c b f e d:Sl}
include h
end
noncomputable def adj(lt:D->D->Bool):List D->Bool
 |x::y::l=>lt x y&&adj lt (y::l)
 |_=>J
theorem Qb(lt:D->D->Bool): ∀(l c:List D) (u v:Sl),(∀x∈l,∀y∈l,ot .Lt x y=C (.bl<|lt x y,Y))->Ps c+Ps l<=10000-> ∃f g i,(mP f=C (f.map λd=>match d with| .bl b=>b|_=>Y))/\((f.map λd=>match d with| .bl b=>b|_=>Y).all id=adj lt l)/\kJ DS jH WU ((l.zip l.tail).map λp=> .tup [p.1,p.2]) c [u,v]=C (c++f,[g,i])
 |[],c,u,v,_,_=>⟨[],u,v,rfl,rfl,by simp[kJ]⟩
 |[x],c,u,v,_,_=>⟨[],u,v,rfl,rfl,by simp[kJ]⟩
 |x::y::l,c,u,v,h,j=>by
  obtain⟨f,g,i,h1,m,e⟩:=Qb lt (y::l) (c++[.bl<|lt x y]) (C (x,Y)) (C (y,Y)) (λa n b o=>h a (kj _ n) b<|kj _ o) (by simp at j ⊢;lia);refine⟨.bl (lt x y)::f,g,i,?_,?_,?_⟩
  .simp[mP,h1]
  .simp only[km,eJ,id,adj,m]
  .have q:(Ps c)<sizeLine:=by rw[kf];simp at j;lia
   have k:iU (ot .Lt) (iC 0) (iC 1) [C (x,Y),C (y,Y)]=C ((.bl<|lt x y,Y),[C (x,Y),C (y,Y)]):=
    kr (o1:= .slot 0) (o2:= .slot 1) rfl rfl rfl rfl (h x (by simp) y<|by simp)
   simp only[fU,qO,km,kJ];rw[show DS (.tup [x,y]) [u,v]=C [C (x,Y),C (y,Y)] from H];simp only[jU,wG,ky,uh];rw[k];simp only[jU];rw[iT q];simp only[jU];rw[fU] at e;rw[e];simp
def Y6(l:List D):PX.oO l (C 1) I=l.tail:=by
 unfold PX.oO;rw[show(C (1:Int))=C ((1:Nat):Int) from H,HT.UM,HT.Tq]
 cases l with
 |nil=>rfl
 |cons x l=>rw[show min 1 (x::l).length=1 from by simp];simp
def KP(lt:D->D->Bool)(l:List D)(d:D)(hd:d= .lst l\/d= .tup l)(h: ∀x∈l,∀y∈l,ot .Lt x y=C (.bl<|lt x y,Y))(f:(Ps l)<=1000):oM [(d,Y)]=C ((.bl<|adj lt l,Y),[C (d,Y)]):=by
 obtain⟨a,g,i,h1,b,e⟩:=Qb lt l [] I I h (by simp;lia)
 have c:qB (jS 0) Hx [C (d,Y)]=C ((l.zip l.tail).map λp=> .tup [p.1,p.2],[C (d,Y)]):=by
  rcases hd with rfl|rfl
  .have:Hx [C (.lst l,Y)]=C ((.lst l.tail,J),[C (.lst l,Y)]):=by rw[<-Y6 l];rfl
   simp[qB,jS,this,pT]
  .have:Hx [C (.tup l,Y)]=C ((.tup l.tail,Y),[C (.tup l,Y)]):=by rw[<-Y6 l];rfl
   simp[qB,jS,this,pT]
 refine jY (δ:=[C (d,Y)]) ⟨rfl,by decide,rfl⟩<|jo<|kn<|nk (os:=[.val (.lst a,J)]) (ou<|iY ?_) H ?_
 .show jy [] 2 _ _ _ _ [C (d,Y)]=_;unfold jy;rw[c];simp only[jU,rF,yp,jh,lT,ky,qK,uM,c3];rw[e];rfl
 .show(mP a).map _=_;rw[h1];simp only[fm];rw[b]
noncomputable def ltI:D->D->Bool
 | .int i,.int j=>decide<|i<j
 |_,_=>Y
theorem I9: ∀l:List Int,adj ltI (l.map .int)=J↔l.Pairwise (· < ·)
 |[]=>by simp[adj]
 |[x]=>by simp[adj]
 |x::y::l=>by
  simp only[km,adj,lE];rw[<-km (f:=D.int),I9 (y::l)];simp only[ltI,rC];constructor
  .rintro⟨h1,b⟩;refine BL.mpr ⟨λz a=>?_,b⟩;have c:=(BL.mp b).1;rcases lz.mp a with rfl|a
   .exact h1
   .have:=c z a;lia
  .intro h;have h:=BL.mp h;exact⟨h.1 y kg,h.2⟩
noncomputable def aI(l:List D):List Int:=l.map λd=>ab<|iOf d
noncomputable def pC(n:Int):D->Bool
 | .tup l=>decide (1<=Ps l/\(Ps l)<=5)&&(l.all (sg n)&&decide ((aI l).Pairwise (· < ·)))
 |_=>Y
noncomputable def lC(n:Int):D->Bool
 | .tup l=>decide (l≠[])&&(l.all (sg n)&&decide ((aI l).Pairwise (· < ·)))
 |_=>Y
def Yx(n:Nat)(h:n<=5)(d:D):pC n d=lC n d:=by
 cases d with
 |tup l=>
  rw[pC,lC,xv];simp only[lE,rC,lU];constructor
  .rintro⟨h1,a,b⟩;exact⟨λe=>by subst e;simp at h1,a,b⟩
  .rintro⟨h1,a,b⟩
   have c:=Ij (aI l) (st n) (JD b) (λx g=>by obtain⟨d,hd,rfl⟩:=my.mp g;have:=a d hd;rw[Au this] at this;exact LU.mpr<|by simpa[sg] using this)
   have f:0<(Ps l):=MP.mpr h1;simp only[aI,st,jF,eY] at c;exact⟨⟨f,by lia⟩,a,b⟩
 |_=>rfl
def Cb(n:Int)(d:D)(hd: ∀l,d= .tup l->Ps l<=100):ku [pI n,(d,Y)]=C ((.bl<|pC n d,Y),[ii n,C (d,Y)]):=by
 cases d with
 |tup l=>
  have w:=hd l H;by_cases h1:1<=Ps l/\(Ps l)<=5
  .have e:(1:Int)<=(Ps l):=by lia
   have f:((Ps l):Int)<=5:=by lia
   have h:zC8 [ii n,C (.tup l,Y)]=C (Y,[ii n,C (.tup l,Y)]):=by simp[isT,nj,kP,e,f]
   obtain⟨x1,m⟩:=IT (iX mS [iC 0,iC 1]) (λd=> .bl (sg n d)) [ii n] l [] I (λd _=>⟨Y,by simp[Jt,jh,wb]⟩) (by rw[kf];simp;lia);simp only[zJ,qK,mw,qL,vB] at m
   have q:jy [0] 1 Aj (iL 1) jH W0 [ii n,C (.tup l,Y)]=C ((.lst<|l.map λd=> .bl (sg n d),J),[ii n,C (.tup l,Y)]):=by simp[jy,jS,m,jh,wb,jv]
   have c:jm (g1 tD) [Xw] [ii n,C (.tup l,Y)]=C ((.bl<|l.all<|sg n,Y),[ii n,C (.tup l,Y)]):=
    nk (ou<|iY q) rfl (ze (sg n) l)
   by_cases a:l.all (sg n)=J
   .have t: ∀d∈l,∃o,jm (g1 Ey) [iC 0] ([]++[C (d,Y)])=C ((.int<|ab<|iOf d,o),([]++[C (d,Y)]:Dn)):=λd hd=>⟨Y,by rw[lU] at a;rw[Au<|a d hd];rfl⟩
    obtain⟨x2,p⟩:=IT (jm (g1 Ey) [iC 0]) (λd=> .int (ab<|iOf d)) [] l [] I t (by rw[kf];simp;lia);simp only[zJ,qK,mw,qL] at p;have k:=Y7 (fi:=kb<|jS 1) (δ:=[ii n,C (.tup l,Y)]) (δ1:=[ii n,C (.tup l,Y)]) (ds:=l) H p;have s:(l.map λd=>D.int<|ab<|iOf d)=(aI l).map .int:=by rw[aI,kH];rfl
    rw[s] at k
    have r:=KP ltI ((aI l).map .int) (.lst<|(aI l).map .int) (.inl H) (by intro x u y v;obtain⟨i,_,rfl⟩:=my.mp u;obtain⟨j,_,rfl⟩:=my.mp v;rw[UY];rfl) (by simp[aI];lia)
    have b:pC n (.tup l)=adj ltI ((aI l).map .int):=by rw[pC,a,pN h1,xw,xw,xv,rC];exact(I9 _).symm
    rw[b];rw[a] at c;refine jY (δ:=[ii n,C (.tup l,Y)]) ⟨rfl,by decide,rfl⟩ ?_;refine(iN<|(nh h).trans H).trans ?_;refine(iN<|(nh<|mI<|kZ c).trans H).trans ?_;exact jo<|kn<|jP (δ1:=[ii n,C (.tup l,Y)]) (os:=[.val (.lst<|(aI l).map .int,J)]) (args:=[(.lst<|(aI l).map .int,Y)]) (ou<|iY k) H lT r
   .have g:l.all (sg n)=Y:=by simpa using a
    have b:pC n (.tup l)=Y:=by rw[pC,g,DP,nn]
    rw[b];rw[g] at c;refine jY (δ:=[ii n,C (.tup l,Y)]) ⟨rfl,by decide,rfl⟩ ?_;refine(iN<|(nh h).trans H).trans ?_;exact jo<|(qr<|mI<|kZ c).trans<|jo<|kn H
  .have b:pC n (.tup l)=Y:=by rw[pC,mZ h1,DP]
   rw[b];by_cases e:(1:Int)<=Ps l
   .have f: ¬((Ps l):Int)<=5:=by lia
    simp[ku,oJ,evF,isT,nj,kP,e,f,jv]
   .simp[ku,oJ,evF,isT,nj,kP,e,jv]
 |_=>simp[ku,oJ,evF,isT,jv,pC]
def WT{t:FT}{x y:XS}{a:Dn}(h:t a=C (J,a))(b:Sr a=J):zIf t x y a=x a:=by unfold zIf;rw[h];simp only[jU];rw[iT b];rfl
def Gh{n np:Nat}{b:jL}{f:FS}{a:List (D×Bool)}(h:f (a.map C++ac (n-np) I)=I):evF n np b f a=I:=by
 unfold evF;split
 .rw[h]
 .rfl
def Sz{b:jL}{f:F}{x:XS}{n i:Nat}{fs:FS}{g:aB->Option Nat}{e:Dn}{args:List (D×Bool)}{c:aB}{U:Nat}{d:D}(h1:jZ e (b.map .slot)=C args)(h:(args.all λa=>!a.2)=J)(j:f (args.map C)=I)(k:x (args.map C)=C c)(l:g c=C U)(m:yM n i fs (.oth (.exc U) [] [])=C d):yD b f x n i fs g e=C ((d,Y),e):=by unfold yD;rw[h1];simp only[jU];rw[iT h,j];simp only[];rw[k];simp only[jU];rw[l];simp only[jU];rw[m];rfl
def PJ{b:jL}{f:F}{x:XS}{n i:Nat}{fs:FS}{e:aB->Option Nat}{c:Dn}{args:List (D×Bool)}{r}{d:D}(h1:jZ c (b.map .slot)=C args)(g:(args.all λa=>!a.2)=J)(h:f (args.map C)=C r)(j:yM n i fs .non=C d):yD b f x n i fs e c=C ((d,Y),c):=by unfold yD;rw[h1];simp only[jU];rw[iT g,h];simp only[];rw[j];rfl
def ID{b:EvF}{fs:List FO}{c a:Dn}{os:List Opd}{args:List (D×Bool)}(h1:kF fs c=C (os,a))(d:jZ a os=C args)(e:b args=I):iX b fs c=I:=by rw[Rc,h1];simp only[jU];rw[d];simp only[jU];rw[e];split<;>rfl
noncomputable def sC(n:Int):D->Bool
 | .tup l=>l.all (sg n)&&decide ((aI l).Pairwise (· < ·))
 |_=>Y
def OkS(d:D):Prop:=OkD d/\(d.dep<=50\/ ∃a b,d= .oth .dct a b)
noncomputable def isN:D->Bool
 | .tup []=>J
 |_=>Y
def YQ{d:D}:isN d=J↔d= .tup []:=by
 cases d with
 |tup l=>cases l<;>simp[isN]
 |_=>simp[isN]
def SH(d:D):D.eqb d (.tup [])=isN d:=by
 cases d with
 |tup l=>cases l<;>simp[D.eqb,D.eqbL,isN]
 |_=>simp[D.eqb,isN]
def SI{d:D}(h:OkS d):Po d (.tup [])=C (.bl<|isN d,Y):=by
 rcases h.2 with h|⟨a,b,rfl⟩
 .unfold Po;split
  .rfl
  .unfold gEq;rw[iT ⟨h,by decide⟩,SH]
 .rfl
def Ya{n:Int}{d:D}(h:isN d=Y):lC n d=sC n d:=by
 cases d with
 |tup l=>
  cases l with
  |nil=>cases h
  |cons x l=>rw[lC,sC,pN (show x::l≠[] from List.cons_ne_nil x l),xw]
 |_=>rfl
def KI{n:Nat}(c:n<=5){d:D}(hd:OkS d):mM [pI n,(d,Y)]=C ((.bl<|sC n d,Y),[ii n,C (d,Y)]):=by
 refine HQ (δ:=[ii n,C (d,Y)]) ⟨rfl,by decide,rfl⟩ ?_;have a:MR [ii n,C (d,Y)]=C ((.bl<|isN d,Y),[ii n,C (d,Y)]):=jO (SI hd) (jV H).r (jE (b:=Y) (d:= .tup []) H).r;show fOr MR (iX ku [iC 0,iC 1]) [ii n,C (d,Y)]=_;unfold fOr;rw[a]
 cases h:isN d with
 |true=>rw[YQ.mp h];rfl
 |false=>show iX ku [iC 0,iC 1] [ii n,C (d,Y)]=_;refine(jU2 (Cb n d λl e=>lI (hd.1 l e)<|by decide) (jV H)<|jV H).trans ?_;rw[Yx n c,Ya h]
theorem Kr: ∀l:List D,((l.zip l.tail).all λq=>decide<|ab (iOf q.1)<ab (iOf q.2))=adj ltI ((aI l).map .int)
 |[]=>rfl
 |[x]=>rfl
 |x::y::l=>by
  have h:=Kr (y::l);show(decide (ab (iOf x)<ab (iOf y))&&(((y::l).zip (y::l).tail).all λq=>decide<|ab (iOf q.1)<ab (iOf q.2)))=(ltI (.int<|ab<|iOf x) (.int<|ab<|iOf y)&&adj ltI ((aI (y::l)).map .int))
  rw[h];rfl
noncomputable def bo:D->Bool
 | .bl b=>b
 |_=>Y
def WR{f:F}{fi:FIt}{δ:Dn}{c:List (D×D)}(p:D×D->Bool)(s:fi δ=C (c.map λp=> .tup [p.1,p.2],δ))(h: ∀q∈c,f [C (q.1,Y),C (q.2,Y)]=C ((.bl<|p q,Y),[C (q.1,Y),C (q.2,Y)]))(m:(Ps c)<=1000):
  jm (g1 tD) [iJ<|jy [] 2 fi DS jH<|jQ f] δ=C ((.bl<|c.all p,Y),δ):=by
 obtain⟨b,t,⟨g,a,u,v,h1,i,j,rfl⟩,e⟩:=By (tg:=wy [iL 0,iL 1]) (f:=f) (λl b δ=> ∃(g a:List (D×D)) (u v:Sl),g++a=c/\l=a.map (λp=> .tup [p.1,p.2])/\b=g.map (λq=> .bl (p q))/\δ=[u,v]) (λd l b δ o=>by
  obtain⟨g,a,u,v,h1,i,j,n⟩:=o;subst n
  cases a with
  |nil=>cases i
  |cons q a=>obtain⟨rfl,rfl⟩:=uF i;refine⟨[C (q.1,Y),C (q.2,Y)],.bl<|p q,Y,[C (q.1,Y),C (q.2,Y)],rfl,h q<|by rw[<-h1];simp,?_,g++[q],a,_,_,by simp[<-h1],rfl,by simp[j],rfl⟩;rw[<-h1] at m;rw[j];simp at m ⊢;lia) (c.map λp=> .tup [p.1,p.2]) [] [I,I] ⟨[],c,I,I,rfl,rfl,rfl,rfl⟩
 refine nk (ou<|iY<|qE (caps:=[]) (k:=2) (args:=[]) s H lT e) H ?_;have r:a=[]:=by simpa using i.symm
 subst r;rw[uP] at h1;subst h1;subst j;have:=ze bo<|g.map λq=> .bl (p q);rw[kH,si] at this;exact this
def Lg{n:Nat}{d:D}(hd:OkD d):kQ [pI n,(d,Y)]=C ((.bl<|sC n d,Y),[ii n,C (d,Y)]):=by
 cases d with
 |tup l=>
  have u:=hd l H
  let δ:Dn:=[ii n,C (.tup l,Y)]
  have g:=pF (caps:=[0]) (fi:=kb<|jS 1) (f:=XB) (δ:=δ) (δ1:=δ) (l:=l) (args:=[.int n]) (sg n) H H H (λd hd=>⟨Y,by
   cases d with
   |int s=>
    refine(EC<|jU1 (CD<|.int s)<|jV H).trans ?_;have e:ab s=if s<0 then -s else s:=rfl
    rw[sg,e];by_cases h:1<=if s<0 then -s else s
    .simp[nj,kP,h]
    .simp[nj,kP,h]
   |_=>exact IF<|jU1 (CD _)<|jV H⟩) (by lia)
  cases c:l.all (sg n) with
  |false=>rw[c] at g;rw[show sC n (.tup l)=Y by rw[sC,c,DP]];exact jY (δ:=δ) ⟨rfl,by decide,rfl⟩<|jo<|(qr<|(pz (δ1:=δ) H).trans<|mI<|kZ g).trans<|jo H
  |true=>
   rw[c] at g
   have t:qB (jS 1) (tH (iC 1) lV) δ=C ((l.zip l.tail).map λp=> .tup [p.1,p.2],δ):=by
    have:tH (iC 1) lV δ=C ((.tup l.tail,Y),δ):=by rw[<-P0 l];rfl
    unfold qB;rw[show jS 1 δ=C ((.tup l,Y),δ) from H];simp[this,pT]
   have j: ∀x∈l,x= .int (iOf x):=λx o=>Au<|lU.mp c x o
   have i:=WR (f:=iU (ot .Lt) (iJ Ub) Hw) (λq=>decide<|ab (iOf q.1)<ab (iOf q.2)) t (λq k=>by obtain⟨x,y⟩:=q;have h1:=j x (yb k).1;have m:=j y<|List.mem_of_mem_tail (yb k).2;show iU _ _ _ [C (x,Y),C (y,Y)]=_;rw[h1,m];exact jO (UY (ab<|iOf x)<|ab<|iOf y) (jE (b:=Y)<|jC (a:= .int (iOf x)) H (jV H).r).r (jE (b:=Y)<|jC (a:= .int (iOf y)) H (jV H).r).r) (by rw[mu];lia)
   rw[Kr] at i
   rw[show sC n (.tup l)=adj ltI ((aI l).map .int) by rw[sC,c,xw,xv,rC];exact(I9 _).symm]
   exact jY (δ:=δ) ⟨rfl,by decide,rfl⟩<|(iN<|(nh<|(pz (δ1:=δ) H).trans<|mI<|kZ g).trans H).trans<|jo<|kn i
 |_=>simp[kQ,nX,evF,isT,jv,sC]
def Tr{n:Nat}{d:D}(h:sC n d=J): ∃c,d=cD c/\Cl0 n c:=by
 cases d with
 |tup l=>
  rw[sC,lE,rC,lU] at h
  have e:l=(l.map iOf).map .int:=by
   rw[kH]
   conv=>lhs;rw[<-uD l]
   exact uE λd hd=>Au<|h.1 d hd
  refine⟨l.map iOf,nD D.tup e,by rw[kH];exact h.2,λs a=>?_⟩;obtain⟨d,hd,rfl⟩:=my.mp a;have k:=h.1 d hd;rw[Au k] at k;simpa[sg] using k
 |_=>cases h
def UB:yM 5 1 (jt CT qJ) .non=C .non:=by kernel_rfl
def UA:yM 5 1 (jt CT qJ) (.oth (.exc 97) [] [])=C (.str "clause"):=by kernel_rfl
def UP:(λz=>qJ.lookup z) ("NoClause":aB)=C 97:=by kernel_rfl
def zU2{d:List D->Option aB}{fa fb:FO}{c:Dn}{a b:D}(f:FJ fa c a)(g:FJ fb c b):rH d [fa,fb] c=d [a,b]:=by obtain⟨o,h1,_,e⟩:=f;obtain⟨j,h,_,i⟩:=g;unfold rH;rw[nq h1 h];simp[e,i]
def uN2{d:EvF}{fa fb:FO}{c:Dn}{a b:D}(h:d [(a,Y),(b,Y)]=I)(f:FJ fa c a)(g:FJ fb c b):iX d [fa,fb] c=I:=by obtain⟨o,h1,_,e⟩:=f;obtain⟨k,i,_,j⟩:=g;exact ID (nq h1 i) (args:=[(a,Y),(b,Y)]) (by simp[e,j]) h
noncomputable def vf(n:Nat)(d:D):D:=if sC n d=J then .non else .str "clause"
section
variable {n:Nat}{f:kd}{d:D}(h:BI n f)(hd:OkS d)
theorem Tt{a:EvF}{g:List D->Option aB}{b:Dn}(h1:jZ b [.slot 3,.slot 8]=C [(rD' n f,Y),(d,Y)])(l:sC n d=J-> ∃r,a [(rD' n f,Y),(d,Y)]=C r)(i:sC n d=Y->a [(rD' n f,Y),(d,Y)]=I/\g [rD' n f,d]=C "NoClause"):
  yD [3,8] (iX a [iC 0,iC 1]) (rH g [iC 0,iC 1]) 5 1 (jt CT qJ) (λz=>qJ.lookup z) b=C ((vf n d,Y),b):=by
 unfold vf
 cases c:sC n d with
 |true=>obtain⟨r,e⟩:=l c;rw[iT H];exact PJ (args:=[(rD' n f,Y),(d,Y)]) h1 H (jU2 (r:=r.1) (outs:=r.2) e (jV H)<|jV H) UB
 |false=>obtain⟨j,k⟩:=i c;rw[je kU];exact Sz (args:=[(rD' n f,Y),(d,Y)]) h1 H (uN2 j (jV H)<|jV H) ((zU2 (jV H)<|jV H).trans k) UP UA
include h
theorem A0:(mW n f).length<=10000:=lI (zH _ _)<|lI (EO h.1) (by decide)
include hd
theorem Pw(a:sC n d=Y):pB [(rD' n f,Y),(d,Y)]=I/\nG [rD' n f,d]=C "NoClause":=by
 have t:QK [rS n f,C (d,Y)]=C (J,[rS n f,C (d,Y)]):=(mI<|kZ<|jU2 (KI h.1 hd) (jE (b:=Y) H)<|jV H).trans (by rw[a];rfl);constructor
 .refine Gh ?_;show iP _ _ [rS n f,C (d,Y)]=I;rw[NC,qr t];rfl
 .show qT [rS n f,C (d,Y)]=C "NoClause";unfold qT;rw[WT t H];rfl
theorem Yf{δ:Dn}(h1:jZ δ [.slot 3,.slot 8]=C [(rD' n f,Y),(d,Y)]):yD [3,8] QJ (rH nG [iC 0,iC 1]) 5 1 (jt CT qJ) (λz=>qJ.lookup z) δ=C ((vf n d,Y),δ):=
 Tt h1 (λb=>by obtain⟨c,rfl,a⟩:=Tr b;exact⟨_,vY h (cl0 n c a)<|A0 h⟩) (Pw h hd)
theorem Ye{δ:Dn}(h1:jZ δ [.slot 3,.slot 8]=C [(rD' n f,Y),(d,Y)]):yD [3,8] Ue (rH pP [iC 0,iC 1]) 5 1 (jt CT qJ) (λz=>qJ.lookup z) δ=C ((vf n d,Y),δ):=
 Tt h1 (λa=>by
  obtain⟨c,rfl,b⟩:=Tr a;by_cases g:agL n f c=[]
  .obtain⟨S,w,_,_,e⟩:=Of (G:=True) h b g;exact⟨_,e⟩
  .exact⟨_,Oe h b g⟩) (λa=>by
  obtain⟨i,j⟩:=Pw h hd a;constructor
  .refine Gh ?_;show iP _ _ [rS n f,C (d,Y),I]=I;rw[NC];unfold Xq;rw[Yg];unfold WV nY fT QJ;rw[uN2 (fa:=iC 0) (fb:=iC 1) i (jV H)<|jV H];rfl
  .show sy [rS n f,C (d,Y),I]=_;exact(zU2 (jV H)<|jV H).trans j)
abbrev Y2:F:=zC5
abbrev Kb:FS:=iP (kL 9 Y2)<|iP (sIf (fT<|iU gNe (iJ<|yD [3,8] QJ (rH nG [iC 0,iC 1]) 5 1 (jt CT qJ) λz=>qJ.lookup z)<|iC 9) EY jn)<|iP (sIf (fT<|iU gNe (iJ<|yD [3,8] Ue (rH pP [iC 0,iC 1]) 5 1 (jt CT qJ) λz=>qJ.lookup z)<|iC 9) EY jn) jn
theorem PC(g j k l m p q c:Sl):Kb [g,j,k,rS n f,l,m,p,q,C (d,Y),c]=C (.nx [g,j,k,rS n f,l,m,p,q,C (d,Y),C (vf n d,Y)]):=by
 let δ:Sl->Dn:=λx=>[g,j,k,rS n f,l,m,p,q,C (d,Y),x]
 let e:Sl:=C (vf n d,Y)
 have dd:(vf n d).dep<=50:=by unfold vf;split<;>simp[D.dep]
 have t:Y2 (δ c)=C ((vf n d,Y),δ c):=by have s:iX kQ [Uj,iC 8] (δ c)=C ((.bl<|sC n d,Y),δ c):=jU2 (Lg hd.1) (jE (b:=Y)<|jO H (jV H).r (jE H).r)<|jV H;refine jO (a:= .lst [.non,.str "clause"]) ?_ (jE (b:=J)<|by simp[kf]).r (jE<|jC (ND (!sC n d)) (jE (b:=Y)<|by rw[U2,s];rfl).r).r;unfold vf;cases sC n d<;>rfl
 refine(iN (δ1:=δ e)<|kK (i:=9) t (show 9<10 by decide)).trans ?_;refine(no (δ:=δ e) _ (kZ (o:=Y)<|jO (F4 dd) (jE<|Yf h hd H).r (jV H).r)).trans ?_;exact(no (δ:=δ e) _ (kZ (o:=Y)<|jO (F4 dd) (jE<|Ye h hd H).r (jV H).r)).trans H
end
noncomputable def smL(n:Nat):List (List Int):=[]::(aj n).flatMap λ(i:Nat)=>[[(i:Int)+1],[-((i:Int)+1)]]++((aj n).filter λj=>decide<|i<j).flatMap λ(j:Nat)=>[[(i:Int)+1,(j:Int)+1],[(i:Int)+1, -((j:Int)+1)],[-((i:Int)+1),(j:Int)+1],[-((i:Int)+1), -((j:Int)+1)]]
abbrev aaJ:FS:=zC2
abbrev fS3:FS:=qt (A6 lV Hy) (iL 3)<|iP Xt<|iP (qt Xx (iL 4) aaJ) jn
def UI: ∀n∈[1,2,3,4,5],((smL n).all λc=>decide ((c.map ab).Pairwise (· < ·))&&c.all λs=>decide (1<=ab s)&&decide (ab s<=n))=J:=by decide+kernel
def Q3: ∀n∈[1,2,3,4,5],(smL n).length<=60:=by decide+kernel
def Yb(a:Int)(b:Bool): ∀n∈[1,2,3,4,5],∃x3 x4,fS3 [stt a b,ii (n:Nat),lsC [[]],I,I]=C (.nx [stt a b,ii (n:Nat),lsC<|smL n,x3,x4]):=by
 intro n c;simp only[lz,lD,mE] at c;rcases c with rfl|rfl|rfl|rfl|rfl
 .exact⟨ii 1,I,by kernel_rfl⟩
 .exact⟨ii 2,ii 2,by kernel_rfl⟩
 .exact⟨ii 3,ii 3,by kernel_rfl⟩
 .exact⟨ii 4,ii 4,by kernel_rfl⟩
 .exact⟨ii 5,ii 5,by kernel_rfl⟩
def KG(a:Int)(b:Bool){n:Nat}(U:n<=5): ∃(g:Int) (L:kd) (c:iQ),(∀e∈L++[c],Cl0 n e)/\(Ps L)<=90/\ox [pS a b,pI n]=C ((.lst<|(L++[c]).map cD,J),[stt g b,ii n]):=by
 by_cases y:n=0
 .subst y;refine⟨a,[],[],λc i=>by cases zf.mp i;exact⟨ce,by simp⟩,by simp,?_⟩;exact jY (δ:=[stt a b,ii 0,I,I,I]) ⟨rfl,by decide,rfl⟩<|jo H
 .have m:n∈[1,2,3,4,5]:=by simp;lia
  obtain⟨x3,x4,w⟩:=Yb a b n m;have Q:=UI n m;have O:=Q3 n m
  let δ:Int->Dn:=λa=>[stt a b,ii n,lsC<|smL n,x3,x4]
  obtain⟨h,T,⟨g,M,x,h1,l,j,rfl⟩,e⟩:=By (tg:=iL 2) (f:=iX lR [iC 0,iC 1]) (λds h δ=> ∃(g:Int) (L:kd) (x:Sl),h=L.map cD/\(∀c∈L,Cl0 n c)/\(Ps L)+Ps ds=4/\δ=[stt g b,ii n,x]) (λd ds h δ N=>by
   obtain⟨g,L,x,h1,l,j,A⟩:=N
   subst A;subst h1;obtain⟨p,c,i,e⟩:=Bt g b n (by lia) U;refine⟨[stt g b,ii n,C (d,Y)],cD c,Y,[stt p b,ii n,C (d,Y)],rfl,(jP (δ1:=[stt g b,ii n,C (d,Y)]) (os:=[.slot 0,.slot 1]) (args:=[pS g b,pI n]) H H (nd1 0) e).trans H,by simp at j ⊢;lia,p,L++[c],C (d,Y),by rw[nU];rfl,λq E=>?_,by simp at j ⊢;lia,rfl⟩;rcases pJ.mp E with z|z
   .exact l q z
   .cases zf.mp z;exact i.2) (jB 0 4) [] [stt a b,ii n,I] ⟨a,[],I,rfl,by simp,by simp[jB],rfl⟩
  subst h1;have t:(Ps M)=4:=by simpa using j
  have v:jy [0,1] 1 Qz (iL 2) jH Xb (δ a)=C ((.lst<|M.map cD,J),δ g):=(qE (caps:=[0,1]) (k:=1) (args:=[pS a b,pI n]) (δ1:=δ a) (pV (n:=4) (o:= .val (.int 4,Y)) H H<|by decide) H (nd1 0) e).trans H;have u:M≠[]:=λe=>by rw[e] at t;cases t
  have B: ∀c∈smL n++M,Cl0 n c:=λc i=>by
   rcases pJ.mp i with z|z
   .have:=lU.mp Q c z;simpa[Cl0] using this
   .exact l c z
  have s:smL n++M=(smL n++M.dropLast)++[M.getLast u]:=by rw[ny,Dh]
  refine⟨g,smL n++M.dropLast,M.getLast u,by rw[<-s];exact B,by simp;lia,?_⟩;rw[<-s];refine jY (δ:=δ g) ⟨rfl,by decide,rfl⟩<|(iN<|(nh (δ1:=[stt a b,ii n,I,I,I])<|kZ (o:=Y)<|jO ((JA (n:Int) 0).trans<|by rw[BK.mpr (show(n:Int)≠0 by lia)]) (jV H).r (jE H).r).trans H).trans ?_;refine(iN (δ1:=[stt a b,ii n,lsC [[]],I,I]) H).trans ((iN w).trans<|jo<|kn ?_);rw[nU];exact kr (o1:= .slot 2) (o2:= .val (.lst<|M.map cD,J)) (δ1:=δ a) H (iY v) H H<|Ta (by simp;lia) (by simp;lia)
theorem Kh{k:Nat}: ∀{l:List D},(∀x∈l,x.dep<=k)->D.depL l<=k
 |[],_=>by simp[D.depL]
 |x::l,h=>by have h1:=h x kg;have b:=Kh (l:=l) λy a=>h y<|kj _ a;simp only[D.depL];lia
def Wm{l:List D}{lo a:Option Int}{x:D}(h:x∈oO l lo a):x∈l:=by unfold PX.oO at h;exact zS<|xK h
def Cu{l:List D}(h1:(Ps l)<=60)(a: ∀x∈l,x.dep<=2):OkS (.tup l):=⟨λm e=>by cases e;exact h1,.inl (by have:=Kh a;rw[D.dep];lia)⟩
def Ea:OkS .non:=⟨RU,.inl<|by decide⟩
noncomputable def odL(n:Int):List D:=[.int 0,.int<|n+1,.int (-n-1),.bl J,.non,.str "1",.tup [.int 1],.int 1,.int (-1),.int n,.int (-n),.int 100000000000000000000000000000]
def RX(n:Int): ∀d∈odL n,d.dep<=2:=by intro d hd;simp only[odL,lz,lD,mE] at hd;rcases hd with rfl|rfl|rfl|rfl|rfl|rfl|rfl|rfl|rfl|rfl|rfl|rfl<;>simp[D.dep,D.depL]
noncomputable def bnL(t:iQ)(i:Int)(x:D):List D:=
  [.tup<|oO (t.map .int) I (C i)++[x]++oO (t.map .int) (C i) I,.tup<|oO (t.map .int) I (C i)++[x]++oO (t.map .int) (C<|i+1) I,.lst<|t.map .int,.tup (t.map D.int).reverse,
   .tup [.tup<|t.map .int],.tup<|t.map .int++oO (t.map .int) I (C 1),.tup<|t.map .int++oO (t.map .int) (C (-1)) I,.non]
def VM{t:iQ}(k:(Ps t)<=5)(i:Int){x:D}(n:x.dep<=2): ∀d∈bnL t i x,OkS d:=by
 intro d hd;have f: ∀lo g,(oO (t.map D.int) lo g).length<=5:=λlo g=>lI (EF _ _ _) (by simpa using k)
 have c: ∀lo g,∀y∈oO (t.map D.int) lo g,y.dep<=2:=λlo g y b=>by obtain⟨s,_,rfl⟩:=my.mp<|Wm b;simp[D.dep]
 have h: ∀y∈t.map D.int,y.dep<=2:=λy b=>by obtain⟨s,_,rfl⟩:=my.mp b;simp[D.dep]
 have a: ∀{l m:List D},(∀y∈l,y.dep<=2)->(∀y∈m,y.dep<=2)-> ∀y∈l++m,y.dep<=2:=λh1 j y b=>(pJ.mp b).elim (h1 y)<|j y;have one: ∀y∈[x],y.dep<=2:=λy b=>by cases zf.mp b;exact n
 have o:=f I<|C i;have p:=f (C<|i+1) I;have q:=f (C i) I;have r:=f I<|C 1;have u:=f (C (-1)) I;simp only[bnL,lz,lD,mE] at hd;rcases hd with rfl|rfl|rfl|rfl|rfl|rfl|rfl|rfl
 .exact Cu (by simp;lia) (a (a (c _ _) one)<|c _ _)
 .exact Cu (by simp;lia) (a (a (c _ _) one)<|c _ _)
 .exact⟨(λl e=>(by cases e)),.inl<|by rw[D.dep,qG];decide⟩
 .exact Cu (by simp;lia) (λy b=>h y<|WH.mp b)
 .exact Cu (by simp) (λy b=>by cases zf.mp b;rw[D.dep,qG];decide)
 .exact Cu (by simp;lia) (a h<|c _ _)
 .exact Cu (by simp;lia) (a h<|c _ _)
 .exact Ea
def LM(a:Int)(b:Bool)(n:Nat)(t:iQ)(u:(Ps t)<=5): ∃o d,OkS d/\mO [pS a b,pI n,enc t]=C ((d,Y),[stt o b,ii n,eN t]):=by
 obtain⟨i,a1,Q,T,p⟩:=nO a b (Ps t+1) (by lia) (by lia);obtain⟨w,c,U,E,r⟩:=nO a1 b 12 (by lia) (by lia);obtain⟨v,g,A,B,s⟩:=nO c b 10 (by lia) (by lia)
 let x:=(odL n).getD w.toNat .non
 let f:List Int:=[0,0,1,1,2,3,4,5,6,7]
 let q:=f.getD v.toNat 0
 have l:0<=q/\q<8:=by
  have:v.toNat=0\/v.toNat=1\/v.toNat=2\/v.toNat=3\/v.toNat=4\/v.toNat=5\/v.toNat=6\/v.toNat=7\/v.toNat=8\/v.toNat=9:=by lia
  rcases this with h|h|h|h|h|h|h|h|h|h<;>simp[q,f,h]
 have z:x.dep<=2:=BE (P:=λd=>d.dep<=2) (by decide) (RX n) _;have k: ∀lo e,(oO (t.map D.int) lo e).length<=1000:=λlo e=>lI (EF _ _ _) (by simp;lia);have m: ∀lo e,(oO (t.map D.int) lo e).length<=999:=λlo e=>lI (EF _ _ _) (by simp;lia);have j:(Ps t)<=1000:=by lia
 refine⟨g,(bnL t i x).getD q.toNat .non,BE Ea (VM u i z) _,?_⟩;refine jY (δ:=[stt g b,ii n,eN t,ii i,C (x,Y),C (.lst<|bnL t i x,J)]) ⟨rfl,by decide,rfl⟩ ?_;refine(iN (δ1:=[stt a1 b,ii n,eN t,ii i,I,I])<|kK (i:=3) (δ1:=[stt a1 b,ii n,eN t,I,I,I]) (p _ [ii n,eN t,I,I,I] (.val (.int<|Ps t+1,Y)) (iY<|by simp) rfl) (show 3<6 by decide)).trans ?_;refine(iN (δ1:=[stt c b,ii n,eN t,ii i,C (x,Y),I])<|kK (i:=4) (δ1:=[stt c b,ii n,eN t,ii i,I,I]) (kr (o1:= .val (.lst<|odL n,J)) (o2:= .val (.int w,Y)) (δ1:=[stt a1 b,ii n,eN t,ii i,I,I]) (iY<|by simp[TC,kf,odL,jS]) (iY<|r _ [ii n,eN t,ii i,I,I] (.val (.int 12,Y)) rfl rfl) H H<|ixl (L:=odL n) U<|by simpa[odL] using E) (show 4<6 by decide)).trans ?_;refine(iN (δ1:=[stt c b,ii n,eN t,ii i,C (x,Y),C (.lst<|(bnL t i x).take 4,J)]) ?_).trans ?_
 .generalize x=y;simp[za,tH,gSl,Qj,k,m,j,kf,bnL,jS,Sy,YV]
 refine(iN (δ1:=[stt c b,ii n,eN t,ii i,C (x,Y),C (.lst<|bnL t i x,J)]) ?_).trans ?_
 .generalize x=y;simp[za,tH,gSl,Qj,Ta,k,m,j,kf,bnL,jS]
 refine jo<|kn<|kr (o1:= .slot 5) (o2:= .val (.int q,Y)) H (iY<|kr (o1:= .val (.lst<|f.map .int,J)) (o2:= .val (.int v,Y)) (iY (δ1:=[stt c b,ii n,eN t,ii i,C (x,Y),C (.lst<|bnL t i x,J)]) ?_) (iY<|s _ _ _ rfl rfl) H H ?_) H H<|ixl l.1 (by simpa[bnL] using l.2)
 .simp[kf,f]
 .exact YN A (by simpa[f] using B)
def RT: ∀d∈Ei,OkS d:=by intro d hd;refine⟨La d hd,?_⟩;simp only[Ei,lz,lD,mE] at hd;rcases hd with rfl|rfl|rfl|rfl|rfl|rfl|rfl|rfl|rfl|rfl|rfl|rfl|rfl|rfl|rfl|rfl|rfl|rfl<;>first|exact .inr ⟨_,_,rfl⟩|exact .inl (by simp[D.dep,D.depL])
def Ov(a:Int)(b:Bool): ∃c d,OkS d/\ma [pS a b]=C ((d,Y),[stt c b]):=by obtain⟨v,c,f,h1,e⟩:=nO a b 18 (by lia) (by lia);refine⟨c,Ei.getD v.toNat .non,BE Ea RT _,?_⟩;refine jY (δ:=[stt c b,C (.lst<|Ei.take 16,J)]) ⟨rfl,by decide,rfl⟩ ?_;refine(iN (δ1:=[stt a b,C (.lst<|Ei.take 16,J)])<|by simp[TC,kf,PK,Ei]).trans ?_;exact jo<|kn<|kr (o1:= .val (.lst Ei,J)) (o2:= .val (.int v,Y)) (iY (δ1:=[stt a b,C (.lst<|Ei.take 16,J)])<|kr (o1:= .slot 1) (o2:= .val (.lst [.tup [.int 0],.tup [.int 1,.int 2]],J)) H (iY<|by simp[kf]) H H<|Ta (by decide)<|by decide) (iY<|e _ _ _ rfl rfl) H H<|ixl f (by simpa[Ei] using h1)
abbrev Kc:FS:=zC0
abbrev fBn:F:=jy [2,3,5] 1 Qz (iL 3) jH XF
abbrev TX:FS:=iP W6<|iP Xz<|iP WX<|iP Xp<|iP (qt (kb<|jS 5) (iL 6) Kc)<|iP (qt (kb<|iU lA (iJ fBn) W3) (iL 8) Kb) jn
section
variable {n:Nat}{g:kd}(h:BI n g){z0 z1:Sl}
abbrev wa(z0 z1:Sl)(a:Int)(b:Bool)(n:Nat)(g:kd)(o:Bool)(r5 r6 r7 r8 r9:Sl):Dn:=[z0,z1,stt a b,rS n g,C (.lst<|(mW n g).map cD,o),r5,r6,r7,r8,r9]
include h
theorem PF{c:iQ}(m:Cl0 n c){a:Int}{b o:Bool}{e p j k:Sl}:Kc (wa z0 z1 a b n g o e (eN c) p j k)=C (.nx<|wa z0 z1 a b n g Y e (eN c) (C (.bl<|decide<|agL n g c=[],Y)) j k):=by
 let y:Sl:=C (.bl<|decide<|agL n g c=[],Y)
 let δ:Bool->Dn:=λo=>wa z0 z1 a b n g o e (eN c) y j k
 have q:jm (g1 tD) [Xy] (δ o)=C ((.bl<|decide<|agL n g c=[],Y),δ Y):=by
  refine(pF (caps:=[6]) (fi:=kb<|jS 4) (f:=iX lL [iC 1,iC 0]) (δ:=δ o) (δ1:=δ Y) (l:=(mW n g).map cD) (args:=[cD c]) (λd=>kC (unC d) c) H H H (λd hd=>by obtain⟨t,r,rfl⟩:=my.mp hd;rw[sH];exact⟨Y,jU2 (FK (CN r) h.1 m) (jV H)<|jV H⟩)<|by rw[jF];exact A0 h).trans ?_
  congr 4
  rw[xv,si,decide_eq_true_iff];unfold agL;rw[List.filter_eq_nil_iff,lU];simp[sH]
 refine(iN (δ1:=δ o)<|kK (i:=7) (δ1:=wa z0 z1 a b n g o e (eN c) p j k) (jU2 (vY h (cl0 n c m)<|A0 h) (jV H)<|jV H) (show 7<10 by decide)).trans ?_;refine(iN<|(nh (δ1:=δ Y)<|(pz (δ1:=δ o)<|mI (b:=J) H).trans<|kZ (o:=Y)<|kr (o1:= .slot 7) (o2:= .val (.bl<|decide<|agL n g c=[],Y)) (δ1:=δ o) H (iY q) H H ?_).trans H).trans H;rw[Yh];simp
theorem R6{a:Int}{b:Bool}{r5 r8 r9:Sl}(L:kd)(p: ∀e∈L,Cl0 n e)(o:Bool)(r6 r7:Sl): ∃j f i,qD (iL 6) Kc (L.map cD) (wa z0 z1 a b n g o r5 r6 r7 r8 r9)=C (.nx<|wa z0 z1 a b n g j r5 f i r8 r9):=by
 obtain⟨_,⟨_,j,f,i,_,_,rfl⟩,e⟩:=uv (tg:=iL 6) (fb:=Kc) (λds l=> ∃(L:kd) (o:Bool) (f i:Sl),ds=L.map cD/\(∀e∈L,Cl0 n e)/\l=wa z0 z1 a b n g o r5 f i r8 r9) (λd ds l U=>by
  obtain⟨L,o,f,i,h1,k,m⟩:=U
  subst m
  cases L with
  |nil=>cases h1
  |cons c L=>obtain⟨rfl,rfl⟩:=uF h1;exact⟨_,_,rfl,PF h<|k c kg,L,Y,_,_,rfl,λe q=>k e<|kj _ q,rfl⟩) (L.map cD) _ ⟨L,o,r6,r7,rfl,p,rfl⟩
 exact⟨j,f,i,e⟩
theorem YI{a:Int}{b o:Bool}{r5 r6 r7:Sl}(M:List D)(l: ∀d∈M,OkS d)(r8 r9:Sl): ∃c f,qD (iL 8) Kb M (wa z0 z1 a b n g o r5 r6 r7 r8 r9)=C (.nx<|wa z0 z1 a b n g o r5 r6 r7 c f):=by
 obtain⟨_,⟨c,f,_,rfl⟩,e⟩:=uv (tg:=iL 8) (fb:=Kb) (λds j=> ∃(c f:Sl),(∀d∈ds,OkS d)/\j=wa z0 z1 a b n g o r5 r6 r7 c f) (λd ds j U=>by
  obtain⟨c,f,i,k⟩:=U
  subst k;exact⟨_,_,rfl,PC h (i d kg) _ _ _ _ _ _ _ _,_,_,λe m=>i e<|kj _ m,rfl⟩) M _ ⟨r8,r9,l,rfl⟩
 exact⟨c,f,e⟩
theorem Y9{a:Int}{b o:Bool}{r6 r7 r8 r9:Sl}{L:kd}{c:iQ}(v:Cl0 n c): ∃(i:Int) (M:List D),(∀d∈M,OkS d)/\(Ps M)=4/\fBn (wa z0 z1 a b n g o (C (.lst<|(L++[c]).map cD,Y)) r6 r7 r8 r9)=C ((.lst M,J),wa z0 z1 i b n g o (C (.lst<|(L++[c]).map cD,Y)) r6 r7 r8 r9):=by
 let S:D:= .lst ((L++[c]).map cD)
 let j:Int->Sl->Dn:=λa x=>[stt a b,rS n g,C (S,Y),x]
 obtain⟨M,A,⟨i,x,h1,p,rfl⟩,e⟩:=By (tg:=iL 3) (f:=iX mO [iC 0,WY,Up]) (λds l t=> ∃(i:Int) (x:Sl),(∀d∈l,OkS d)/\(Ps l)+Ps ds=4/\t=j i x) (λd ds l t U=>by
  obtain⟨i,x,h1,p,u⟩:=U
  subst u;obtain⟨s,m,w,e⟩:=LM i b n c<|lI v.len h.1;have g1:iU gIx (iC 1) sx (j i<|C (d,Y))=C (pI n,j i<|C (d,Y)):=jO H (jV H).r (jE H).r
  have g2:iU gIx (iC 2) QH (j i<|C (d,Y))=C (enc c,j i<|C (d,Y)):=by refine jO (a:=S) ?_ (jV H).r (jE (b:=Y)<|jN (a:= .int 1) H (jE H).r).r;show gIx (.lst<|(L++[c]).map cD) (.int (-1))=_;rw[nU];exact ixM
  refine⟨j i<|C (d,Y),m,Y,j s<|C (d,Y),rfl,(jP (δ1:=j i<|C (d,Y)) (os:=[.slot 0,.val<|pI n,.val<|enc c]) (args:=[pS i b,pI n,enc c]) (rm H<|nq (iY g1)<|iY g2) H (nd1 0) e).trans H,by simp at p;lia,s,C (d,Y),λq y=>?_,by simp at p ⊢;lia,rfl⟩;rcases pJ.mp y with z|z
  .exact h1 q z
  .cases zf.mp z;exact w) (jB 0 4) [] (j a I) ⟨a,I,by simp,by simp[jB],rfl⟩
 exact⟨i,M,h1,by simpa using p,(qE (caps:=[2,3,5]) (k:=1) (args:=[pS a b,(rD' n g,Y),(S,Y)]) (pV (n:=4) (o:= .val (.int 4,Y)) H H<|by decide) H (nd1 2) e).trans H⟩
end
def PD(E:iQ)(k:Nat)(Q q m g s t h j:Sl): ∃N U Y' d5 d6 d7 d8 d9,TX [N2 (.lst<|E.map .int,Y),ii k,Q,q,m,g,s,t,h,j]=N2 (.nx [N2 (.lst<|E.map .int,Y),ii k,N,U,Y',d5,d6,d7,d8,d9]):=by
 let z0:Sl:=N2 (.lst<|E.map .int,Y)
 obtain⟨a,b,D⟩:=Nd E k;obtain⟨v,a1,v0,v1,F⟩:=M9 a b 6 (by lia) (by lia);obtain⟨n,rfl⟩: ∃n:Nat,v=n:=⟨v.toNat,by lia⟩
 have G:n<=5:=by lia
 obtain⟨l,e,C,K⟩:=HP a1 b n G;obtain⟨u,L,c,T,hl,P⟩:=KG l b G
 let p:Bool->Sl:=λf=>N2 (.lst<|(L++[c]).map cD,f)
 obtain⟨w,A,B,R⟩:=R6 C (z0:=z0) (z1:=ii k) (a:=u) (b:=b) (r5:=p Y) (r8:=h) (r9:=j) (L++[c]) T O0 s t;obtain⟨H,M,Z,hm,S⟩:=Y9 C (z0:=z0) (z1:=ii k) (a:=u) (b:=b) (o:=w) (r6:=A) (r7:=B) (r8:=h) (r9:=j) (L:=L)<|T c (by simp);obtain⟨I,O,J,V⟩:=Ov H b;obtain⟨y8,y9,W⟩:=YI C (z0:=z0) (z1:=ii k) (a:=I) (b:=b) (o:=w) (r5:=p Y) (r6:=A) (r7:=B) (M++[O]) (λd hd=>(pJ.mp hd).elim (Z d) λz=>by cases zf.mp z;exact J) h j
 let δ:Int->Sl->Sl->Sl->Dn:=λa x y z=>[z0,ii k,stt a b,x,y,z,s,t,h,j]
 refine⟨stt I b,rS n e,N2 (.lst<|(mW n e).map cD,w),p Y,A,B,y8,y9,?_⟩;refine(iN (δ1:=δ a q m g)<|kK (i:=2) (δ1:=[z0,ii k,Q,q,m,g,s,t,h,j]) (jU2 D (jV O9)<|jV O9) (show 2<10 by decide)).trans ?_;refine(iN (δ1:=δ l (rS n e) m g)<|kK (i:=3) (δ1:=δ l q m g) ((jP (δ1:=δ a1 q m g) (os:=[.slot 2,.val (.int n,Y)]) (args:=[pS a1 b,pI n]) (nq O9<|iY<|F _ z0 (ii k) [q,m,g,s,t,h,j] (.val (.int 6,Y)) rfl rfl) O9 (nd1 2) K).trans O9) (show 3<10 by decide)).trans ?_;refine(iN (δ1:=δ l (rS n e) (lsC<|mW n e) g)<|kK (i:=4) (δ1:=δ l (rS n e) m g) (jU1 (Li C)<|jV O9) (show 4<10 by decide)).trans ?_;have X:iU gIx (iC 3) sx (δ l (rS n e) (lsC<|mW n e) g)=N2 (pI n,δ l (rS n e) (lsC<|mW n e) g):=jO O9 (jV O9).r (jE O9).r;refine(iN (δ1:=δ u (rS n e) (lsC<|mW n e)<|p O0)<|kK (i:=5) (δ1:=δ u (rS n e) (lsC<|mW n e) g) ((jP (δ1:=δ l (rS n e) (lsC<|mW n e) g) (os:=[.slot 2,.val<|pI n]) (args:=[pS l b,pI n]) (nq O9<|iY X) O9 (nd1 2) P).trans O9) (show 5<10 by decide)).trans ?_;refine(iN<|(pU (δ1:=wa z0 (ii k) u b n e O0 (p Y) s t h j) O9).trans R).trans ?_;refine(iN<|(pU (ds:=M++[O])<|yz (o:=O0)<|kr (o1:= .val (.lst M,O0)) (o2:= .val (.lst [O],O0)) (iY S) (iY (δ1:=wa z0 (ii k) I b n e w (p Y) A B h j) ?_) O9 O9<|Ta (by lia)<|by simp).trans W).trans O9;rw[U3,show[iX ma [iC 2]].map iJ=[iJ<|iX ma [iC 2]] from O9,ou<|iY<|(jP (δ1:=wa z0 (ii k) H b n e w (p Y) A B h j) (os:=[.slot 2]) (args:=[pS H b]) O9 O9 (nd1 2) V).trans O9];simp[kf];rfl
def WJ(a:iQ)(B:(Ps a)<=63): ∃o n,vb [(.lst<|a.map .int,Y)]=C ((.bl J,o),n):=by
 let q:Sl:=C (.lst<|a.map .int,Y)
 let N:Nat:=if 1<min (Ps a) 6 then min (Ps a) 6 else 1
 let r:Dn:=[q,I,I,I,I,I,I,I,I,I]
 obtain⟨_,⟨p,b,c,f,g,i,j,l,m,_,rfl⟩,e⟩:=uv (tg:=iL 1) (fb:=TX) (λds δ=> ∃p b c f g i j l m,(∀d∈ds,∃k:Nat,d= .int k)/\δ=[q,p,b,c,f,g,i,j,l,m]) (λd ds δ U=>by
  obtain⟨p,b,c,f,g,i,j,l,m,h1,h⟩:=U
  subst h;obtain⟨k,rfl⟩:=h1 d kg;obtain⟨g2,g3,u,v,w,y,z,A,e⟩:=PD a k b c f g i j l m
  exact⟨_,_,rfl,e,_,_,_,_,_,_,_,_,_,λx t=>h1 x<|kj _ t,rfl⟩) (jB 0 N) r ⟨I,I,I,I,I,I,I,I,I,λd hd=>by obtain⟨k,_,rfl⟩:=my.mp hd;exact⟨k,by simp⟩,rfl⟩
 refine⟨Y,_,jY (δ:=[q,p,b,c,f,g,i,j,l,m]) ⟨rfl,by decide,rfl⟩ ?_⟩;refine(iN<|(pU (ds:=jB 0 N) (δ1:=r) ?_).trans e).trans (jo H);refine pV (o:= .val (.int N,Y)) (iY ?_) H (by simp only[N];split<;>lia)
 have s:(N:Int)=if(if(6:Int)<(Ps a) then 6 else((Ps a):Int))>1 then(if(6:Int)<(Ps a) then 6 else((Ps a):Int)) else 1:=by simp only[N];split<;>split<;>split<;>lia
 rw[s];simp[q,r]
end PV
def K62.main(b:iQ)(c:(Ps b)<=63): ∃o a,PV.vb [(.lst<|b.map .int,Y)]=C ((.bl J,o),a):=PV.WJ b c
structure PySem.W.Fast:Prop where(tw16732037549474997529 tw15523001643406444369 tw715409782587826450 tw17790519840457515141 tw5447099474044106412 tw17727252141217518549 tw9331243124717258357 tw371666106266749664 tw11165710131611143163 tw2685482046990378371 tw15522635131935831922 tw2440038145189863627 tw10433870868969521418 tw921928236601407739 tw2131626467837026504 tw6182330715787313859 tw12590743073077672839 tw17170208003389797939 tw9331790882890822445 tw294802093763055673 tw6037322457232264446 tw13416197606199445463 tw5336141003764450987 tw1031714248912772805 tw7712278134231456941 tw8662781581714689890 tw11369391350638149666 tw17295714764107521426 tw17303445449003151225 tw957663181552086281 tw12158124053686644079 tw17186636980956479966 tw16407308116580676015 tw9965975762337856814 tw11767186444829990844 tw274662364557534028 tw3637367207701995155 tw12361193095760631015 tw10212051565918105602 tw12669656675379187933 tw956225242089536056 tw3344452093947071420 tw2098863812759424808 tw10348333321434708203 tw12512719726751305076 tw10861406200538147983 tw7355004170547538664 tw13965328536669787406 tw624332586261348104 tw4572597046693280133 tw16375925819759608914 tw2492131141803870908 tw17722125300204209555 tw2106439851156114600 tw358372727550747694 tw8528690358458325811 tw3673693052418956092 tw16961425939535492037 tw1142936856498650749 tw3701262265704937173 tw5583963752780054372 tw9040525194523656681 tw18377266028512424766 tw11646458051163424936 tw11777309527244457371 tw10409244346951338001 tw10117111001698814606 tw11175314830470753896 tw8862611389621935941 tw7925956373364423720 tw11014980730186469286 tw396909789614781844 tw13600892521280183979 tw2620876592810161088 tw12727298097771779906 tw7911319761316962207 tw10321897755883966780 tw11206209277033416284 tw6641582353312328866 tw16022439697461189194 tw12943721666032367619 tw1421527535218862428 tw313735275354507042 tw4450023437442963814 tw16031248775786362471 tw4203719591701685621 tw13575551922485582108 tw13871255683841948858 tw13509004899083163341 tw9528335671770657653 tw3658326279205517480 tw17865998326456146439 tw12445164730457603260 tw17556162655528557207 tw15142433047179265892 tw10094730459237409654 tw10219432117084321109 tw1030503589194313550 tw8713229960594420748 tw10201505305829050002 tw2100980434375153205 tw3594593484226095163 tw1279220807650243487 tw11316992627894584987 tw12269950549035368742 tw6915445208326950341 tw3847269357555915478 tw18140895037303675116 tw17002950122035428113 tw13557987173271557917 tw8258175821459459992 tw3722157869701466753 tw4078836378546405855 tw11627676783737783892 tw3352866080769330244 tw18015362378766109565 tw1161370697244430593 tw2096920343881593628 tw12391967124702103926 tw5423791046148040370 tw12737455577161619181 tw15865101839567833326 tw12548248644482296894 tw3151067570825505895 tw6769108811901398505 tw13725286837412881039 tw14295959651012312676 tw5250374844717430203 tw9864698324311797313 tw9605223358177715618 tw2923612518693392491 tw2635761103496396118 tw2377189921028665493 tw17137503152373771221 tw17052156129553105524 tw16751418902779757586 tw11330276630050975330 tw18271478492158958876 tw16941818764853138435 tw18137235163276285188 tw16642633890775254838 tw14527258232195914556 tw1793526645908066978 tw1257720472699697735 tw15760730513114858560 tw9366950419686498256 tw6009718018757476844 tw16905434042576226060 tw13334367566475676961 tw7420004537712879196 tw18289262312424823468 tw7453541680945383218 tw4961055125053871132 tw14244680230693769810 tw4054668391081850353 tw1169313775254164799 tw8276214326615420344 tw10892475641904321173 tw7918545605988165837 tw4742044881973366293 tw289327826725037672 tw11048814056662917581 tw4978866160300947623 tw2846795265039036968 tw10200892056612662604 tw5438918176404851290 tw3795708827220719437 tw5427518026737561041 tw4078516051731008819 tw16364591349673670930 tw3258245726392194589 tw12853469657811751790 tw9356656783294812132 tw2154546090319821069 tw13626465865003919569 tw16896489135284795176 tw16252972925184230206 tw1253454525024725590 tw9446462303630786115 tw4337558467880026345 tw9157270984516146993 tw7494122092843200651 tw6023995902963913219 tw15990240129240607939 tw1454384853420533776 tw12957636943428225182 tw9352528562301637 tw5019043519774093282 tw3822302581357654857 tw2452415872824351094 tw10773574641433634622 tw2737874324202546141 tw12197367692208787536 tw7883476779074594673 tw14661491531241332218 tw3913657733064321837 tw16346186826833876915 tw8638916270074080607 tw6002329434062683654 tw17524883699536995758 tw6810987262174133365 tw5939072625473446433 tw12593418015594644018 tw8225915096980029977 tw7432755430596954529 tw2373532530973944238 tw10185557812720283239 tw3763188148528056135 tw11667697139964241997 tw2468895363118495425 tw5893254210044778782 tw7109136976609539284 tw6898581033666317188 tw1843505678269628727 tw5347872818260633035 tw2526565766583994466 tw2242146433419975972 tw16454597675779473744 tw11752596106495471330 tw695439150264725058 tw16093667202983287163 tw8460120108632113289 tw4017711840581568697 tw16755970654587379242 tw8380295793408045697 tw7079841683893548973 tw5826239548646705380 tw9485089956605265182 tw9290220131693906300 tw6106205592899896937 tw5050649774476993445 tw3393767548663135359 tw2029441189407472954 tw15016768985049547210 tw13701661095387882148 tw13392362639164242602 tw10668878299669105555 tw6340757656043714906 tw11133916437089973943 tw8191502741547620346 tw7047955945911730872 tw4210082773401161131 tw17830326377213755677 tw2316040185957203787 tw11302790065200676497 tw18420416962776716132 tw677344300682166609 tw12964287124019509595 tw18146004316531394635 tw5619257731825750209 tw15473651438822720699 tw9296223204903390348 tw9103564709248647413 tw7035023022278324479 tw634226610860981574 tw5030074025963485949 tw17290356991063972666 tw1601080356551561779 tw15859309047463076183 tw15076943799732552695 tw14409503094896917279 tw13134883478879857501 tw11994701832550204694:True)
open PySem PySem.W PyProof.Rows PX
set_option maxRecDepth 100000 in
set_option maxHeartbeats 0 in
theorem PySem.Challenge.cw_twinriddles_k62_what_follows_holds : PySem.Challenge.rw_twinriddles_k62_what_follows.Holds := by
  w_on; o_law; k_head; (case hw => w_witness2)
  k_fill
  refine walkT (TB := K62.TB62) (l := PySem.Challenge.rw_twinriddles_k62_what_follows) (LV := 13) (x := "_law_script") ⟨rfl, by decide, by decide, rfl⟩ rfl rfl (fun w h Y => PySem.W.km_in_of Y) (fun w h Y => aC (PySem.W.km_tabs_of Y _ List.mem_cons_self) aN) (fun w => aC ?K aN) (by decide) ?F K62.main
  case K => show List.lookup 373 _ = none; kernel_rfl
  case F =>
   intro w mg fa h KX G hmg
   refine' K62.all_mk hmg (txK KX G ?_ ?_ ?_ ?_ ?_ ?_ ?_ ?_ ?_ ?_ ?_ ?_ ?_ ?_ ?_ ?_) ?_ ?_ ?_ ?_ ?_ ?_ ?_ ?_ ?_ ?_ ?_ ?_ ?_ ?_ ?_ ?_ ?_ ?_ ?_ ?_ ?_ ?_ ?_ ?_ ?_ ?_ ?_ ?_ ?_ ?_ ?_ ?_ ?_ ?_ ?_ ?_ ?_ (fzT KX G ?_ ?_ ?_ ?_ ?_) ⟨(aC (PySem.W.mg_of KX G ?_) (aC (PySem.W.mg_of KX G ?_) (aC (PySem.W.mg_of KX G ?_) (aC (PySem.W.mg_of KX G ?_) (aC (PySem.W.mg_of KX G ?_) (aC (PySem.W.mg_of KX G ?_) (aC (PySem.W.mg_of KX G ?_) (aC (PySem.W.mg_of KX G ?_) (aC (PySem.W.mg_of KX G ?_) (aC (PySem.W.mg_of KX G ?_) aN)))))))))), (aC (PySem.W.mg_of KX G ?_) aN), (aC (aC (show PySem.W.kitOne _ (.ref 97) (.ref 37) = some false from ?_) (aC (show PySem.W.kitOne _ (.ref 97) (.ref 49) = some false from ?_) (aC (show PySem.W.kitOne _ (.ref 97) (.ref 61) = some false from ?_) (aC (show PySem.W.kitOne _ (.ref 97) (.ref 73) = some false from ?_) (aC (show PySem.W.kitOne _ (.ref 97) (.ref 85) = some false from ?_) (aC (show PySem.W.kitOne _ (.ref 97) (.ref 97) = some true from ?_) (aC (show PySem.W.kitOne _ (.ref 97) (.ref 109) = some false from ?_) (aC (show PySem.W.kitOne _ (.ref 97) (.ref 121) = some false from ?_) (aC (show PySem.W.kitOne _ (.ref 97) (.ref 133) = some false from ?_) (aC (show PySem.W.kitOne _ (.ref 97) (.ref 145) = some false from ?_) aN)))))))))) aN), (aC (show PySem.W.kitOne _ (.ref 97) (.type "ValueError") = some true from ?_) aN), (aC (show ClK _ 97 24 from ⟨⟨?_, ?_, ?_, ?_, ?_, ?_, ?_, ?_⟩, (aC ?_ (aC ?_ (aC ?_ (aC ?_ (aC ?_ (aC ?_ aN)))))), ?_⟩) aN), (aC (show PySem.W.excIn _ 97 _ _ = true from ?_) aN), PySem.W.mg_none_of KX G ?_, PySem.W.mg_none_of KX G ?_, PySem.W.mg_of KX G ?_⟩ (mgI KX G ?_) <;>try first|refine' fz KX G ?_ ?_ ?_ ?_<;>try k_is|k_is|kernel_rfl
