import PyProof.Rows.All
import Wide.All
import OpenK.AllK
import Wide.FinOn
import PyProof.EqAt
import PyProof.EqKinds
import PyProof.TupleCall
import Lean
import PySem.Challenge.RW_twinriddles_k74_whole_clauses_put_in
set_option Elab.async false
set_option linter.all false
set_option maxRecDepth 100000
set_option maxHeartbeats 8000000
set_option compiler.extract_closed false
set_option backward.eqns.nonrecursive false
noncomputable section
open List renaming length->IX
namespace RfL
theorem r{a:α}:a=a:=rfl
end RfL
open RfL renaming r->C,r->IR
open Option renaming some->Y,some->Go,none->I,none->Ix
open Bool renaming true->J,true->IN,false->U,false->IP
open And renaming intro->du
open Array renaming length_toList->lS,getElem?_toList->nM,getElem?_eq_getElem->qL,getElem?_eq_some_iff->Me,getD_eq_getD_getElem?->vK,getElem?_setIfInBounds->Dc,forIn_toList->C8,append_assoc->Hx,getElem?_eq_none->GK,getElem?_replicate->MD,mem_toList_iff->X6,getElem?_eq_none_iff->X5,toList_eq_nil_iff->X4,toList_append->Mn,toList_push->eF,replicate->fe,size_zip->mA,size_map->mL,toList->o9,ext->vu
open Bool renaming false_ne_true->kY,false_eq_true->kW,and_eq_true->lR,not_true->sZ,eq_iff_iff->tH,or_eq_true->vM,false_and->yv,true_and->de,and_false->fO,and_assoc->fP,not_eq_true'->j2,eq_false_iff->j3,noConfusion->k6,not_false->nw
open Classical renaming byContradiction->Mi,skolem->ads,not_imp->adt,not_forall->adu
open False renaming elim->aR
open ForIn renaming forIn->fI
open ForInStep renaming yield->bG
open Function renaming comp_def->rL,comp->cy
open Int renaming toNat_natCast->yq,mul_one->DF,emod_lt_of_pos->GN,emod_nonneg->GL,neg_neg->gy,natCast_inj->nt,ediv_one->tv,add_comm->tz
open LawfulBEq renaming eq_of_beq->pK
open LawfulMonad renaming bind_assoc->tV,pure_bind->tp
open Lean renaming Syntax->b5,Name->eZ,mkIdent->rd
open List renaming map_cons->ku,mem_cons_self->ky,mem_cons_of_mem->kO,all_eq_true->kT,length_map->jU,map_map->jY,getElem?_eq_getElem->jZ,mem_cons->oq,size_toArray->kR,mem_append->pk,getElem?_map->kX,mem_filter->sL,nodup_nil->lu,getElem?_eq_some_iff->wJ,mem_of_getElem?->mY,length_cons->mX,getElem?_set_ne->nu,pairwise_map->oP,map_congr_left->nL,mem_map->rJ,pairwise_cons->zP,length_append->oG,pairwise_append->sP,mem_append_right->pd,map_nil->oZ,lookup_cons->oY,mem_range->vc,getElem?_append_right->pL,map_append->pJ,getElem?_append_left->qk,append_assoc->qO,mem_singleton->EU,mem_map_of_mem->qJ,getElem?_of_mem->sJ,not_mem_nil->sD,getD_eq_getElem?_getD->sA,map_id->sy,getElem?_set_self->tx,nodup_cons->zC,length_set->vA,filterMap_cons->wO,append_nil->wN,nil_append->rK,mem_flatMap->vd,length_take->uc,all_cons->tQ,exists_cons_of_length_pos->tN,length_pos_iff->M1,zip_cons_cons->tM,length_eq_zero_iff->M0,any_cons->tJ,length_filter_le->tE,take_append_drop->vS,mem_of_mem_take->vR,foldl_cons->vQ,length_nil->vI,take_sublist->yt,getElem?_set->yn,getElem?_zip_eq_some->EO,ext_getElem?->ym,pairwise_reverse->Hz,getElem?_cons_succ->yc,getElem_mem->yb,find?_cons->ya,replicate_zero->xY,filter_cons_of_pos->xX,filter_cons_of_neg->xS,reverse_cons->Ai,length_singleton->Ag,forIn_cons->Af,ext_getElem->Ad,drop_eq_getElem_cons->Ac,drop_eq_nil_of_le->Ab,range'_succ->zZ,reverse_perm->zY,mem_reverse->Jo,eq_nil_of_length_eq_zero->zW,eq_nil_or_concat->zV,getElem?_cons_zero->zT,isEmpty_nil->zS,nodup_append->zQ,mem_append_left->DI,getElem_inj->DH,getElem?_replicate->Dz,length_reverse->Di,concat_eq_append->Dh,mem_of_mem_drop->Dg,mem_erase_of_ne->Dd,length_eraseIdx->C7,any_eq_true->KC,filter_eq_self->Vh,nodup_iff_pairwise_ne->KA,of_mem_zip->Hs,getElem?_take_of_lt->Hq,length_replicate->Ho,getElem?_zipIdx->G7,foldl_append->G6,perm_middle->Rq,pairwise_iff_getElem->Ro,getElem_of_mem->GY,drop_sublist->GX,take_succ->GW,pairwise_lt_range->Rm,perm_cons_erase->GC,filter_map->GB,filter_congr->GA,flatMap_cons->Gx,mem_of_find?_eq_some->MQ,pairwise_singleton->MK,length_eq_one_iff->X7,perm_append_comm->Ur,filterMap_cons_some->MI,length_erase_of_mem->MH,filterMap_append->MF,perm_append_singleton->ME,range'_eq_map_range->Ml,dropLast_concat_getLast->Mk,perm_ext_iff_of_nodup->Mj,filter_eq_nil_iff->X3,replicate->ao,range->au,range'->bM,map->cF,replicate_succ->cY,mem_filterMap->c7,getElem?_drop->c8,filter_append->c9,take_of_length_le->dE,range_succ_eq_map->dL,any_map->dQ,all_map->dS,length->ef,length_range->eL,cons_append->eY,take_take->fK,tail_cons->fL,Nodup->fM,getElem?_eq_none->gi,zip_nil_right->gY,getElem_range->gZ,filterMap_map->g7,any_eq_false->j1,zipIdx_cons->kl,map_fst_zip->kv,length_drop->kA,getElem_map->kS,cons_ne_nil->k5,find?_some->mu,forIn_nil->nb,map_take->o8,map_id'->rc,foldl->vr
open List.Pairwise renaming imp_of_mem->Mh,nil->cb,sublist->s8,of_map->te,and->tf
open List.Perm renaming refl->vN,of_eq->Gz,trans->gm,swap->gn,cons->gx,eq_of_pairwise->ac8,append_left->adT
open List.cons renaming inj->vP,injEq->ac7
open Nat renaming le_refl->jT,ne_of_lt->kz,le_trans->mq,zero_le->mD,lt_of_lt_of_le->oH,lt_irrefl->qo,ne_of_gt->qm,lt_succ_of_lt->vq,pow_succ->vn,le_of_lt->wQ,mul_assoc->rM,le_succ->tX,not_lt->M3,mul_add->vL,add_assoc->yj,mul_comm->yg,mul_one->yf,mod_lt->ye,pow_le_pow_right->yd,lt_trans->Ae,lt_succ_self->Aa,lt_of_le_of_lt->zR,add_sub_cancel_left->Dj,mul_left_comm->De,lt_asymm->G8,one_mul->GQ,mul_zero->GO,zero_add->d1,min_eq_left->d6,add_mul->fg,sub_add_cancel->jl,lt_or_eq_of_le->jp,add_sub_cancel->j0,le_succ_of_le->kb,le_of_not_lt->ms,two_pow_pos->m7,mul_add_mod->m9,div_add_mod->na,lt_or_ge->sx,le_of_eq->sB,add_zero->sK,add_mod->vl
open Ne renaming symm->tD
open Option renaming bind_some->jH,isSome_iff_exists->Mb,isSome_map->GG,map_eq_some_iff->dr,bind->fY,isSome_some->gl,getD_none->gX,map_some->i7,map->q7
open Option.some renaming inj->kZ
open Or renaming inl->bg,inr->bv
open Prod.mk renaming inj->tu
open PyProof.Rows renaming SortSt->sV,slot_tuple_getitem->zO,listUpdate_at->vO,get?_update_seq->yh,seqEpoch_at->zU,boot_range->DE,callWith_type1->DD,slicePart_none->Dx,entry_tuple_getitem->He,args_tuple_getitem->Hd,tupleItemsOf_->Hc,listItems_at->GU,subscriptTail_builtinR->MX,envOfC->bc,seqObj->br,IntsAre->ei,AllBare->ej,Keyed->et,subscriptTail->eV,arrOf->eW,failedOf->fH,IsTup->gg,SortKind->mo,Subscript_->o7,wpAny_notIn_heap->ss,lt_int->u3,le_int->u4,gt_int->u5,ge_int->u6,entry_list_sort->u7,callWith_type0->u8,callWith_builtin1->u9,slot_list_sort->wE,oneType'->wL,keyLt'->wP,slicePart_int->x0,reverseSlice'->x4,tuples'->z9,plain_sorted->At,entry_sorted->AC,call_abs_int->AT,kind_sorted->Gc
open PyProof.Rows.F renaming plain_set_update_loop->GH,entry_set_update_loop->My
open PySem renaming Shared->iB,Program->jh,Around->iU,World->iY,SetTable->mW,Value->iI,Comprehension->oT,FuncData->nK,Heap->jb,Addr->iw,wpAny_bind->iz,wpAny_pure->iJ,sizeLine_eq->kD,wpAny_holding->mF,wpAny_newObj_type->nq,wpAny_mono->nQ,wpAny_field->oo,wpAny_call_entry->oF,codeAny_mono->ql,mem_of_lookup->qR,codeAny_builtin->sH,wpAny_truthy_bool->tw,wpAny_setState_of->tj,wpAny_Call_Name_kw->vB,wpAny_rule->vz,wpAny_of_eq->vw,wpAny_setField_rec->vo,wpAny_callSpecial?_slot->wM,wpAny_standAt->ud,wpAny_typeOf->tZ,wpAny_askSetting->tU,codeAny_of_tree->tR,wpAny_seqItems->tP,wpAny_passesOwn->vW,plainId_quiet->vV,wpAny_setField->vU,wpAny_attempt->vT,wpAny_specialOf->vJ,wpAny_call->yu,wpAny_alloc->yp,wpAny_isInstance->yk,wpAny_forIn_list->yi,tupleKind_room_in1->xZ,wpAny_pyIter_list->Aj,call_meets->Ah,wpAny_load->DG,concat_meets->Dy,pushCells_keeps->Dv,wpAny_newTuple->Dr,wpAny_letGo->Dq,isSubtype_stop->Dm,codeAny_call_builtin->Dl,wpAny_onRaise->Dk,wpAny_newList->Df,wpAny_isSame_ref_self->C9,wpAny_pyHash_int->Hy,wpAny_execs_nil->Hw,wpAny_execs_cons->Hv,wpAny_pyIter_tuple->Hu,codeAny_call_function->Hn,codeAny_func->Hm,noFill_tuple_add->Hl,seq_tuple_add->Hk,wpAny_sequenceKey->Hf,evalPart_none->Hb,seqIndex_of->Ha,seqIndex_neg->G9,wpAny_runValue->G5,wpAny_handled->G4,wpAny_throw->G3,weight_type_call_type->G0,wpAny_collect_seq->GR,isSubtype_type->GJ,wpAny_pyIter_slot->GI,wpAny_typeNameOfWhole_keyiter->GF,wpAny_storeName_cell->MZ,wpAny_Call_method_late->MW,wpAny_comprehension_free->MR,wpAny_updateSeq_pair->ML,richCompare_meets_room->MJ,builtinLookup_eq_fast->MC,wpAny_setEntries_of->MA,wpAny_isOneOf_keyiter->Mt,wpAny->af,starEach->aj,model->am,mainGlobals->ap,compareOp->aA,foldedSetIterable->aB,Str->aE,bootBuiltins->aF,backTo->aO,cLine->aT,Builtin->bb,assignEach->bf,eval->bh,Stmt->bi,cellsFrom->bn,Arguments->bo,Pos->bA,binaryOp->bK,clausesOf->bS,sysModules->b3,codeAny->b4,CmpOp->cc,IsPair->cf,wpAny_loadPart'->ci,holding->cn,assign->cu,standAt->cA,rawInt->cE,swapsWith->cH,pyNext->cJ,checkBuiltinCall->cM,getItem->cZ,behindInMarks->c3,sliceBounds->c4,keywordEach->c5,pyIter->db,newFunctionEnv->dg,bindArgs->dh,Env->dk,Sem->dq,ofAClassStatement->dw,IsPart->d0,codeAmong->d7,IsEnum->eh,letOwnedTupleGo->ek,Obj->el,IsZip->en,backToKw->eE,tupleKind->eG,PassesOwn->eI,swapsWithSole->eQ,swappedStores->eR,valueAt->fj,collect->fx,callerA->fy,GenState->fB,BindsTo->fD,pickOrder->fS,hashByValue->fU,Model->fW,setsByText->fZ,firstArgMember->f3,builtinsNs->f4,atKey->f5,argsOk->f8,scanBound->gz,list_append->gA,lastMarks->gB,field->gC,compStart->gD,bindL->gE,bindC->gM,TriplesOk->gQ,IsEnumOut->gV,DictEntry->gW,spliced->g8,setItem->g9,setAdd->hC,relabel->hD,newExc->hH,intKind->hU,Result->io,ItemsOf->i6,wants->k9,unsupported->lf,subscripted->lm,setField->lw,entryFor->lA,compTurn->l3,ZipApart->l7,Meets->l8,wpAny_Name->n3,typeLookup->n5,closureFor->n7,Tok->oC,wpAny_storeSet_of->pc,wpAny_pyIter_enum->pp,wpAny_dictEntries->pw,wpAny_Return_some->px,slot_list_getitem->p4,searchCouldBeSeen->p5,newList->p8,Keyword->qs,wpAny_pyIter_zip->re,seqIndex?->ro,noteFrame->rs,eqIsQuiet->r0,call->r6,beq_builtin_none->r8,wpAny_updateSeq->t0,wpAny_dictEpoch->t5,typeLookup_type->t8,theWindowsPlace->ul,Fin->ut,wpAny_notIn_of->vv,wpAny_layCells->v6,typeOf->v8,table->v9,slotArgs->wf,raiseNew->wl,newSet->wn,entryFor_alias->wr,contains->wv,cellOf->ww,wpAny_notedAt->wS,wpAny_in_heap->wT,setSearchFrom->w4,rangeSize_one->xc,intBits_le_64->xf,evalPart_some->xl,comprehension->xn,checkTypeCall->xt,call_list_seq->xx,unaryOp->x6,sub_set_self->x8,setAddHashed->x9,release->y4,name_of_addr->zn,cellsFrom_ok->zx,call_range_2->z0,callAny->z7,IsRange->z8,wpAny_in_of->B4,wpAny_Slice->Ch,setContains->CL,interactive->Db,Walks->Do,Moved->F0,IsRangeIter->F2
open PySem.Around renaming under_plainId->rN,frames_deeper->Hr,under_plain->G1
open PySem.Builtin.Frozenset renaming addrOf->bW,oneOther->cg,newClass->d8,withSetAsKey->l9,updateFrom->mi,slot0->mj,sizeOf->mm
open PySem.Builtin.List renaming listExtendWith->eA,listSameRef->eK,listLengthHint->uu
open PySem.Builtin.Range renaming rangeSize->eJ,small->sn
open PySem.Builtin.Slice renaming slicePlaces->ba,sliceAdjust->bq,sliceApplied->bR,sliceFields->eC,slicePartIndex->sm
open PySem.Builtin.SmallTypes renaming nextOf->aW,fitsIndex->bu,ownedTupleHandOut->bw,ownedTupleIsFree->bx
open PySem.Builtin.Tuple renaming tupleExact->aH,tupleHashOf->bp,tupleItemsOf->bO,tupleIsExact->ez,tupleCompareSizes->sa
open PySem.Calls renaming spliced_cons->DC,spliced_nil->Ht,Name_function_global->MY,callWith_builtin->MV,evalArgs_plain->MU
open PySem.Code renaming quiet_builtin->G2
open PySem.Data renaming cell->eU,fields->gj,seq->xz
open PySem.Expr renaming Name->eT
open PySem.F renaming called_set->EN,slot_tuple_hash->Jn,slot_enumerate_next->Dp,plain_set_new->C6,slot_tuple_add->Hj,entry_tuple_add->Hh,args_tuple_add_2->Hg,called_tuple->Rr,slot_set_contains->Md,slot_dict_keyiterator_next->Mc,slot_set_add->GD,entry_list_append->MT,args_list_append_2->MS,entry_object_init->MP,slot_tuple_iterator_next->MO,entry_enumerate_next->MN,args_enumerate_next_1->MM,slot_set_iter->MB,plain_list_iadd->Mz,entry_set_new->Mx,entry_type_call->Mw,entry_set_init->Mv,slot_dict_iter->Mu,plainAttrs_list->Mr,entry_set_add->Mq,args_set_add_2->Mp,slot_tuple_eq_refl->Mm
open PySem.Heap renaming get?_push_of_some->jX,lt_size->kH,get?_push_size->kF,size_push->oX,get?_update_self->tY,get?_update_other->Dw,get?_update_ne->GS,SameBut->aL,ExtBut->ee
open PySem.Heap.SameBut renaming update->sG,refl->Du
open PySem.NameKind renaming cell->aK,free->aQ
open PySem.Obj renaming data_mapFields->vp,isFreed_of_fields->Dt,cls_mapFields->Ds,mapSeq->aV,mapFields->fX,putSet->iq
open PySem.Paired renaming length->Ak
open PySem.SetTable renaming below->ax,runEnd->aG,insertAt->aP,bits->aU,turns->bX,leap->cx,Probe->cG,sizeAbove->d9,grown->eS,layClean->gf,fresh->gR,slot->hZ,laid->ia,fits->ib,fill->ij,put->ka,tooFull->ad1,sameMemory->Ev,relaid->EQ,has->Fa,gaveWay->Fk,advance->FM
open PySem.SetTable.layClean renaming free->bJ
open PySem.SetTable.probe renaming go->dy
open PySem.Str renaming ofString->bz
open PySem.Value renaming none->ay,ref->ca,type->c6,bool->ey,notImplemented->gc,str->hV,int->hX,isStrOf->m4,builtin->m5,isInt->p9
open PySem.W renaming Frag->jd,mg_none_of->oV,kia_one->rO,cellsFrom_some->DA,nsIn->aX,fnOf->bI,keepIn->ce,codeIn->cR,kitOne->dZ,methodObj->ew,callWith_K->ga,mg_of->j4
open StateT renaming run_pure->GZ
open Sum renaming inr->eO,inl->eP
open True renaming intro->bD
open PySem PySem.Spec PyProof.Rows
section
abbrev jr:=iI->iB->Prop
abbrev jw:=List<|iw×el
abbrev ja:=List<|List Int
abbrev iF:=List Int
abbrev jS:=List iI
abbrev mE:=aE->Option iI
abbrev jP:=List Nat
abbrev sU:=Array<|Int×iI
abbrev nE:=Array iI
abbrev ji:=List aE
abbrev kI:=List Expr
abbrev sY:=Bool->iB->Prop
abbrev ET:=Option iI->iB->Prop
abbrev yX:=iI->iI->dq iI
abbrev wK:=Array<|Option Nat
abbrev zN:=Array<|Option iI
abbrev kj:=List<|aE×iw
abbrev oU:=List oT
abbrev Cc:=Array et
abbrev ki:=Nat->Prop
abbrev la:=List iw
abbrev ju:=Scope
abbrev iM:=Expr
end
section
open PySem.SeqAt
theorem iQ:type_of% @if_pos:=@if_pos
theorem je:type_of% @if_neg:=@if_neg
theorem lb:type_of% @decide_eq_false:=@decide_eq_false
theorem lO:type_of% @decide_eq_true:=@decide_eq_true
theorem mn:type_of% @if_false:=@if_false
def mG:=@congrArg
theorem nr:type_of% @if_true:=@if_true
theorem oW:type_of% @decide_eq_true_eq:=@decide_eq_true_eq
def tL:=@of_decide_eq_true
theorem Bw:type_of% @beq_eq_false_iff_ne:=@beq_eq_false_iff_ne
theorem yo:type_of% @bne_self_eq_false:=@bne_self_eq_false
def Gy:=@forall_congr'
end
namespace TT
noncomputable def Io(mask:Nat)(p:cG):SetTable.Probe:=
 if p.more>0 then {p with j:=p.j+1,more:=p.more-1}else
 {p with j:=(cx mask p.i p.perturb).1,more:=aG mask (cx mask p.i p.perturb).1-(cx mask p.i p.perturb).1,i:=(cx mask p.i p.perturb).1,perturb:=(cx mask p.i p.perturb).2}
noncomputable def V0(mask:Nat)(h:Int):SetTable.Probe:={j:=aU h%(mask+1),more:=aG mask (aU h%(mask+1))-aU h%(mask+1),i:=aU h%(mask+1),perturb:=aU h,dummy:=I}
def pr(mask:Nat)(h:Int):Nat->cG
 |0=>V0 mask h
 |n+1=>Io mask<|pr mask h n
structure J4(hs:iF)(t:mW):Prop where
 pow:∃k,3<=k/\k<=11/\t.mask+1=2^k
 dum:t.dummies= #[]
 len:t.place.size=IX hs
 room:5*(IX hs)<3*t.mask
 ris:t.place.toList.Pairwise (· < ·)
 bd:∀j∈t.place.toList,j<=t.mask
 road:∀(i:Nat)(h:Int)(j:Nat),hs[i]?=Go h->t.place[i]?=Go j->∃n,(pr t.mask h n).j=j/\∀m,m<n->(pr t.mask h m).j∈t.place.toList
end TT
namespace L2
abbrev Key:=Sum Int aE
noncomputable def AR:Key->iI->Bool
 |.inl k,v=>p9 k v
 |.inr x,v=>m4 x v
noncomputable def acs(w:iY):Key->Int
 |.inl k=>hashInt k
 |.inr x=>hashStr w x
def lq:∀{k:Key}{v:iI},AR k v=J->(∃i t,k=eP i/\v=hX i t)\/(∃x t,k=eO x/\v=hV x t)
 |.inl i,v,h=>by obtain⟨t,e⟩:=Value.isInt_shape (k:=i) (v:=v) h;exact .inl ⟨i,t,rfl,e⟩
 |.inr x,v,h=>by obtain⟨t,e⟩:=Value.isStrOf_shape (x:=x) (v:=v) h;exact .inr ⟨x,t,rfl,e⟩
def agx(i:Int)(t:oC):AR (.inl i) (.int i t)=J:=by simp[AR,p9]
def agw(x:aE)(t:oC):AR (.inr x) (.str x t)=J:=by simp[AR,m4]
def Pu(a b:Int):decide ((eP a:Key)=eP b)=(a==b):=by
 by_cases e:a=b
 .subst e;simp
 have h: ¬(eP a:Key)=eP b:=λq=>e<|Sum.inl.inj q;rw[lb h];exact(Bw.mpr e).symm
def WY(a b:aE):decide ((eO a:Key)=eO b)=decide (a=b):=by
 by_cases e:a=b
 .subst e;simp
 have h: ¬(eO a:Key)=eO b:=λq=>e<|Sum.inr.inj q;rw[lb h,lb e]
def Pr(a:Int)(b:aE):decide ((eP a:Key)=eO b)=U:=lb (λq=>nomatch q)
def Pq(a:aE)(b:Int):decide ((eO a:Key)=eP b)=U:=lb (λq=>nomatch q)
def mf(d:jh)(w:iY):PySem.KeyKind d w Key where
 is:=AR
 hash:=acs w
 inj:=λv a b g f=>by
  rcases lq g with⟨i,t,rfl,rfl⟩|⟨x,t,rfl,rfl⟩
  .rcases lq f with⟨j,u,rfl,e⟩|⟨y,u,rfl,e⟩
   .injection e with c _;rw[c]
   exact nomatch e
  rcases lq f with⟨j,u,rfl,e⟩|⟨y,u,rfl,e⟩
  .exact nomatch e
  injection e with c _;rw[c]
 byValue:=λk v h=>by rcases lq h with⟨i,t,rfl,rfl⟩|⟨x,t,rfl,rfl⟩<;>rfl
 pyHash:=λhv h=>by
  rcases lq hv with⟨i,t,rfl,rfl⟩|⟨x,t,rfl,rfl⟩
  .exact Hy h
  exact wpAny_pyHash_str h
 eqBool:=λl hv h=>by
  rcases lq l with⟨i,t,rfl,rfl⟩|⟨x,t,rfl,rfl⟩
  .rcases lq hv with⟨j,u,rfl,rfl⟩|⟨y,u,rfl,rfl⟩
   .rw[Pu]at h;exact wpAny_eqBool_int h
   rw[Pr]at h;exact SeqAt.EqAt.int_str i t y u _ _ _ _ h
  rcases lq hv with⟨j,u,rfl,rfl⟩|⟨y,u,rfl,rfl⟩
  .rw[Pq]at h;exact SeqAt.EqAt.str_int x t j u _ _ _ _ h
  rw[WY]at h;exact wpAny_eqBool_str h
 «strs»:=λk x t v h=>by
  rcases lq h with⟨i,u,rfl,e⟩|⟨y,u,rfl,e⟩
  .exact nomatch e
  injection e with c _
  subst c;cases v<;>rfl
def aez(a:jh)(w:iY)(i:Int)(t:oC):(mf a w).is (.inl i) (.int i t)=J:=agx i t
def aey(a:jh)(w:iY)(x:aE)(t:oC):(mf a w).is (.inr x) (.str x t)=J:=agw x t
inductive V where
 |VP|bl(b:Bool)|int(i:Int)|str(x:aE)|byt(b:Array UInt8)|flt(b:UInt64)|ref(a:iw)|ty(n:String)
 deriving DecidableEq
def RelV:V->iI->Prop
 |.VP,u=>u=ay
 |.bl b,u=>u=ey b
 |.int i,u=>∃t,u=hX i t
 |.str x,u=>∃t,u=hV x t
 |.byt b,u=>∃t,u=Value.bytes b t
 |.flt b,u=>∃t,u=Value.float b t
 |.ref a,u=>u=ca a
 |.ty n,u=>u=c6 n
abbrev Vals:List V->List iI->Prop:=Paired RelV
def Vals.length{xs:List V}{a:jS}(r:Vals xs a):(IX xs)=(IX a):=Ak r
def Vals.get{b:List V}{a:jS}{i:Nat}{x:V}(h:Vals b a)(e:b[i]?=Y x):∃u,a[i]?=Y u/\RelV x u:=by
 induction h generalizing i with
 |nil=>simp at e
 |cons r t c=>
  cases i with
  |zero=>simp at e;subst e;exact⟨_,rfl,r⟩
  |succ i=>simpa using c (by simpa using e)
theorem Vals.set{x:V}{u:iI}(r:RelV x u):∀{xs:List V}{a:jS}(i:Nat),Vals xs a->Vals (xs.set i x) (a.set i u)
 |_,_,_,.nil=>.nil
 |_,_,0,.cons _ t=>.cons r t
 |_,_,i+1,.cons q t=>.cons q (Vals.set r i t)
def Vals.append{c d:List V}{a b:jS}(h:Vals c a)(s:Vals d b):Vals (c++d) (a++b):=by
 induction h with
 |nil=>exact s
 |cons r t e=>exact .cons r e
theorem Vals.take:∀{b:List V}{a:jS}(n:Nat),Vals b a->Vals (b.take n) (a.take n)
 |_,_,0,_=>.nil
 |_,_,_+1,.nil=>.nil
 |_,_,n+1,.cons r t=>.cons r (Vals.take n t)
theorem Vals.drop:∀{b:List V}{a:jS}(n:Nat),Vals b a->Vals (b.drop n) (a.drop n)
 |_,_,0,r=>r
 |_,_,_+1,.nil=>.nil
 |_,_,n+1,.cons _ t=>Vals.drop n t
def En:Option V->Option iI->Prop
 |some v,Y u=>RelV v u
 |none,I=>True
 |_,_=>False
def KV{a:Type}:List (a×V)->List (a×iI)->Prop:=Paired λ(p:a×V) (q:a×iI)=>p.1=q.1/\RelV p.2 q.2
noncomputable def kV:Key->V
 |.inl i=>.int i
 |.inr x=>.str x
inductive HO where
 |lst(xs:List V)
 |tup(xs:List V)
 |dK(kvs:List (Key×V))|dT(kvs:List (List Key×V))
 |set (S:Int->Bool) (n:Nat)
 |V0 (zs:List (Int×V))
 |ins (C dx:iw) (fs:List (aE×V))
 |own (x:iw)
 |xd (fs:List (aE×V))
 |met (f x:iw)
 |rng (lo hi:Int)
 |AL (o:el) (u:HO)
 |tbl (ps:nE)
 |ext (φ:jb->Prop)
abbrev Hp:=iw->Option HO
noncomputable def upd(T:Hp)(a:iw)(o:HO):Hp:=λb=>if b=a then Y o else T b
def jk{T:Hp}{a:iw}{o:HO}:upd T a o a=Y o:=by unfold upd;rw[iQ C]
def jq{T:Hp}{a b:iw}{o:HO}(h:b≠a):upd T a o b=T b:=by unfold upd;rw[je h]
def Jy{T:Hp}{a:iw}{o u:HO}:upd (upd T a o) a u=upd T a u:=by funext b;unfold upd;split<;>rfl
def US{T:Hp}{a b:iw}{o u:HO}(h:T a=Y o)(c:T b=Y u)(d:o≠u):a≠b:=by intro e;subst e;rw[h]at c;exact d<|kZ c
def mK{T:Hp}{a b:iw}{o:HO}(h:T a=Y o)(c:T b=I):a≠b:=by intro e;subst e;rw[h]at c;cases c
section
variable(P:jh)(w:iY)
def DQ(h:jb)(a:iw)(items:nE):Prop:= ∃o,h.get? a=Y o/\o.cls=.type "tuple"/\(∃n,o.data=.seq items n)/\o.dict=I
theorem DQ.tup{h:jb}{a:iw}{items:nE}(x:DQ h a items):gg h a items:=let⟨o,e,c,d,_⟩:=x;⟨o,e,c,d⟩
theorem DQ.new(h:jb)(items:nE):DQ (h.push {cls:=.type "tuple",data:=.seq items}) h.objs.size items:=⟨_,kF _ rfl,rfl,⟨_,rfl⟩,rfl⟩
def T2(Q:Hp)(h:jb)(a:iw):HO->Prop
 |.lst g=>IX g<=sizeLine/\∃(b:jS)(n:Nat),Vals g b/\h.get? a=Y {cls:=.type "list",data:=.seq b.toArray n}
 |.tup g=>IX g<=sizeLine/\∃b:List iI,Vals g b/\DQ h a b.toArray
 |.dK d=>IX d<=sizeLine/\(a==b3)=U/\∃k,KV d k/\h.DictOf (mf P w) a k
 |.dT d=>IX d<=sizeLine/\(a==b3)=U/\∃g:List (List Key×iw×iI),
   Paired (λ(p:List Key×V) (q:List Key×iw×iI)=>p.1=q.1/\Q q.2.1=Y (.tup<|p.1.map kV)/\RelV p.2 q.2.2) d g/\
   ∃o j T,h.get? a=Y o/\o.ExactDict/\o.data=.dict j T/\j.toList=g.map (entryOfKey<|eG<|mf P w)/\(g.map (·.1)).Nodup
 |.set S n=>h.SetOf (hU P w) a S n
 |.V0 E=>∃(j:sU)(n:Nat)(t:mW),h.get? a=Y {cls:=.type "set",data:=.set j n t}/\Paired (λ(z:Int×V) (e:Int×iI)=>z.1=e.1/\RelV z.2 e.2) E j.toList/\
   TT.J4 (E.map (·.1)) t/\t.plain=J/\t.led=!w.params.followText "set-order"
 |.ins N l fs=>Q l=Y (.own a)/\(IX fs)<=1000/\l≠a/\h.get? a=Y (PySem.W.instObj N l)/\
   ∃i,h.Ns1 l i/\(∀f,En (fs.lookup f)<|i f)/\PySem.Within i (fs.map (·.1))
 |.own _=>∃o,h.get? a=Y o
 |.xd fs=>∃i,h.Ns1 a i/\∀f,En (fs.lookup f)<|i f
 |.rng lo L=>∃t u v,h.get? a=Y {cls:=.type "range",data:=.fields #[.int lo t,.int L u,.int 1 v]}
 |.AL o u=>h.get? a=Y o/\T2 Q h a u
 |.tbl O=>∃q t r,O[0]?=Y (.str q t)/\h.get? a=Y {cls:=.none,data:=.fields r}/\gQ r.toList/\∀m y,d7 m r.toList=Y y->∃c B u k t,y=.ref c/\Q c=Y (.AL B u)/\B.data=.fields k/\k[1]?=Y (.str q t)
 |.met f x=>h.get? a=Y (ew (.ref f)<|.ref x)
 |.ext s=>s h/\(∃o,h.get? a=Y o)/\∀h1 A:jb,s h1->(∀o,h1.get? a=Y o->A.get? a=Y o)->s A
def BW(T:Hp)(h:jb):Prop:= ∀a o,T a=Y o->T2 P w T h a o
end
section
variable {P:jh}{w:iY}{H g:Hp}{h h':jb}{a:iw}{o:HO}
def T2.lt(x:T2 P w H h a o):a<h.objs.size:=by
 cases o with
 |lst c=>obtain⟨_,_,_,_,e⟩:=x;exact kH e
 |tup c=>obtain⟨_,_,_,p⟩:=x;exact p.tup.lt
 |dK b=>obtain⟨_,_,_,_,o,_,_,e,_⟩:=x;exact kH e
 |dT b=>obtain⟨_,_,_,_,o,_,_,e,_⟩:=x;exact kH e
 |set S n=>obtain⟨o,_,_,_,e,_⟩:=x;exact kH e
 |V0 l=>obtain⟨_,_,_,e,_⟩:=x;exact kH e
 |ins T d fs=>obtain⟨_,_,_,e,_⟩:=x;exact kH e
 |own y=>obtain⟨_,e⟩:=x;exact kH e
 |xd fs=>obtain⟨_,⟨_,_,_,e,_⟩,_⟩:=x;exact kH e
 |rng lo i=>obtain⟨_,_,_,e⟩:=x;exact kH e
 |AL j u=>obtain⟨e,_⟩:=x;exact kH e
 |tbl k=>obtain⟨_,_,_,_,e,_⟩:=x;exact kH e
 |met f y=>exact kH (show h.get? a=Y _ from x)
 |ext m=>obtain⟨_,⟨_,e⟩,_⟩:=x;exact kH e
def Paired.LJ{e i:Type}{F G:e->i->Prop}{c:List e}{d:List i}(h:Paired F c d)(f:∀a b,F a b->G a b):Paired G c d:=by
 induction h with
 |nil=>exact .nil
 |cons r t j=>exact .cons (f _ _ r) j
def T2.A6(x:T2 P w H h a o)(k:∀b u,(b=a\/H b=Go (.own a))->h.get? b=Go u->h'.get? b=Go u)
  (N:∀b,H b=Go (.own a)->g b=Go (.own a))(U:∀b A,H b=Go (.tup A)->g b=Go (.tup A))(Y:∀b i u,H b=Go (.AL i u)->g b=Go (.AL i u):=by exact λ_ _ _ q=>q):T2 P w g h' a o:=by
 induction o with
 |lst A=>obtain⟨z,s,n,r,e⟩:=x;exact⟨z,s,n,r,k _ _ (.inl C) e⟩
 |tup A=>obtain⟨z,s,r,i,e,c⟩:=x;exact⟨z,s,r,i,k _ _ (.inl C) e,c⟩
 |dK B=>obtain⟨z,y,O,r,i,j,l,e,c⟩:=x;exact⟨z,y,O,r,i,j,l,k _ _ (.inl C) e,c⟩
 |dT B=>obtain⟨z,y,A,r,i,j,l,e,c⟩:=x;exact⟨z,y,A,Paired.LJ r λp q z=>⟨z.1,U _ _ z.2.1,z.2.2⟩,i,j,l,k _ _ (.inl C) e,c⟩
 |set S n=>obtain⟨i,j,l,t,e,c⟩:=x;exact⟨i,j,l,t,k _ _ (.inl C) e,c⟩
 |V0 zs=>obtain⟨j,n,t,e,c⟩:=x;exact⟨j,n,t,k _ _ (.inl C) e,c⟩
 |ins C' dx fs=>obtain⟨d,z,ne,e,E,⟨I,j,l,G,c⟩,r⟩:=x;exact⟨N _ d,z,ne,k _ _ (.inl C) e,E,⟨I,j,l,k _ _ (.inr d) G,c⟩,r⟩
 |own y=>obtain⟨i,e⟩:=x;exact⟨i,k _ _ (.inl C) e⟩
 |xd fs=>obtain⟨E,⟨I,j,l,e,c⟩,r⟩:=x;exact⟨E,⟨I,j,l,k _ _ (.inl C) e,c⟩,r⟩
 |rng lo hi=>obtain⟨t,u,v,e⟩:=x;exact⟨t,u,v,k _ _ (.inl C) e⟩
 |AL i u ih=>obtain⟨e,q⟩:=x;exact⟨k _ _ (.inl C) e,ih q⟩
 |tbl ps=>obtain⟨q,t,D,T,e,F,m⟩:=x;exact⟨q,t,D,T,k _ _ (.inl C) e,F,λL Q z=>let⟨c,i,u,O,t,h1,J',M⟩:=m L Q z;⟨c,i,u,O,t,h1,Y _ _ _ J',M⟩⟩
 |met f y=>have e:h.get? a=Go (ew (.ref f)<|.ref y):=x;show h'.get? a=Go (ew (.ref f)<|.ref y);exact k a _ (.inl C) e
 |ext φ=>obtain⟨p,⟨o,e⟩,st⟩:=x;exact⟨st _ _ p λo q=>k _ _ (.inl C) q,⟨o,k _ _ (.inl C) e⟩,st⟩
def BW.lt(x:BW P w H h)(e:H a=Y o):a<h.objs.size:=(x a o e).lt
def BW.fresh(x:BW P w H h)(e:h.objs.size<=a):H a=I:=by
 cases q:H a with
 |none=>rfl
 |some u=>exact absurd (oH (x.lt q) e)<|qo _
def BW.kept(x:BW P w H h)(k:∀b u,h.get? b=Y u->h'.get? b=Y u):BW P w H h':=λa o e=>(x a o e).A6 (λb u _ q=>k b u q) (λ_ q=>q) λ_ _ q=>q
def BW.laid(x:BW P w H h)(k:∀b u,h.get? b=Y u->h'.get? b=Y u)(i:h.objs.size<=a)(new:T2 P w (upd H a o) h' a o):BW P w (upd H a o) h':=λb u e=>by
 have d:=x.fresh i;by_cases f:b=a
 .subst f;rw[jk]at e;cases e;exact new
 rw[jq f]at e;exact(x b u e).A6 (λc v _ q=>k c v q) (λc q=>by rw[jq<|mK q d];exact q) (λc j q=>by rw[jq<|mK q d];exact q) λc _ _ q=>by rw[jq<|mK q d];exact q
end
def Rd(T:Hp)(a:iw)(u:HO):Prop:=T a=Y u\/∃o,T a=Y (.AL o u)
def Rd.ok{P:jh}{w:iY}{T:Hp}{h:jb}{a:iw}{u:HO}(r:Rd T a u)(x:BW P w T h):T2 P w T h a u:=by
 rcases r with r|⟨o,r⟩
 .exact x a u r
 obtain⟨_,q⟩:=x a _ r;exact q
def LU:Option HO->Prop
 |some (.lst _)=>True
 |some (.dK _)=>True
 |some (.dT _)=>True
 |some (.set _ _)=>True
 |some (.V0 _)=>True
 |some (.ins _ _ _)=>True
 |some (.ext _)=>True
 |_=>False
section
variable {P:jh}{w:iY}{H:Hp}{h a:jb}{x e:iw}{d:HO}
def BW.write(ok:BW P w H h)(g:LU (H x))(o:e=x\/H e=Y (.own x))(k:∀b u,b≠e->h.get? b=Y u->a.get? b=Y u)(s:∃u,a.get? e=Y u)
  (new:T2 P w (upd H x d) a x d):BW P w (upd H x d) a:=λb u q=>by
 have f:∀c y,H c=Y (.own y)->c≠x:=λc y r z=>by subst z;rw[r]at g;exact g
 have i:∀c n,H c=Y (.tup n)->c≠x:=λc n r z=>by subst z;rw[r]at g;exact g
 by_cases l:b=x
 .subst l;rw[jk]at q;cases q;exact new
 rw[jq l]at q;by_cases j:b=e
 .have p:H b=Y (.own x):=by
   rcases o with z|z
   .exact absurd (j.trans z) l
   rw[j];exact z
  rw[q]at p;cases p;obtain⟨v,hv⟩:=s;exact⟨v,by rw[j];exact hv⟩
 refine(ok b u q).A6 (λc v m r=>k c v ?_ r) (λc r=>by rw[jq<|f c b r];exact r) (λc n r=>by rw[jq<|i c n r];exact r) λc _ _ r=>by rw[jq λz=>by subst z;rw[r]at g;exact g];exact r
 rcases m with rfl|m
 .exact j
 rintro rfl;rcases o with z|z
 .exact f c b m z
 rw[m]at z;cases z;exact l C
end
structure Un(fs ex:la)(H H':Hp)(h h':jb):Prop where
 keep:∀b o,h.get? b=Go o->H b=Ix->b∉fs->b∉ex->h'.get? b=Go o
 slot:∀b o,h.get? b=Go o->H b=Ix->b∈fs->b∉ex->∃sl,h'.get? b=Go {o with slots:=sl}
 free:∀b o,h.get? b=Go o->H b=Ix->b∉ex->H' b=Ix
 there:∀b o,h.get? b=Go o->b∉ex->∃o',h'.get? b=Go o'
 tups:∀b xs,H b=Go (.tup xs)->H' b=Go (.tup xs)
 frzs:∀b o u,H b=Go (.AL o u)->H' b=Go (.AL o u)
 tbls:∀b ps,H b=Go (.tbl ps)->∃more,H' b=Go (.tbl<|ps++more)
section
variable {fs g ex c:la}{H d i:Hp}{h h1 f h':jb}{a x e:iw}{o:HO}
def Un.any(u:Un fs ex H d h h1){b:iw}{j:el}(q:h.get? b=Y j)(n:H b=I)(l:b∉ex):∃m,h1.get? b=Y {j with slots:=m}:=by
 by_cases k:b∈fs
 .exact u.slot b j q n k l
 exact⟨j.slots,u.keep b j q n k l⟩
def Un.kept(k:∀b u,h.get? b=Y u->h'.get? b=Y u):Un fs ex H H h h':=
 ⟨λb j q _ _ _=>k b j q,λb j q _ _ _=>⟨j.slots,k b j q⟩,λ_ _ _ n _=>n,λb j q _=>⟨j,k b j q⟩,λ_ _ q=>q,λ_ _ _ q=>q,λ_ l q=>⟨#[],by rw[q];simp⟩⟩
def Un.refl:Un fs ex H H h h:=Un.kept λ_ _ q=>q
def Un.laid(k:∀b u,h.get? b=Y u->h'.get? b=Y u)(r:h.objs.size<=a)(j:H a=I):Un fs ex H (upd H a o) h h' where
 keep:=λb u q _ _ _=>k b u q
 slot:=λb u q _ _ _=>⟨u.slots,k b u q⟩
 free:=λb u q n _=>by rw[jq<|kz<|oH (kH q) r];exact n
 there:=λb u q _=>⟨u,k b u q⟩
 tups:=λb s q=>by rw[jq<|mK q j];exact q
 frzs:=λb u s q=>by rw[jq<|mK q j];exact q
 tbls:=λb t q=>⟨#[],by rw[jq<|mK q j,q];simp⟩
def Un.write(j:LU (H x))(v:e=x\/H e=Y (.own x))(k:∀b u,b≠e->h.get? b=Y u->h'.get? b=Y u)(t:∃u,h'.get? e=Y u):Un fs ex H (upd H x o) h h':=by
 have s:∀b,H b=I->b≠x:=λb n z=>by subst z;rw[n]at j;exact j
 have p:∀b,H b=I->b≠e:=λb n z=>by
  subst z;rcases v with r|r
  .exact s b n r
  rw[n]at r;cases r
 have l:∀b u,H b=Y u->¬LU (Y u)->b≠x:=λb u q w z=>by subst z;rw[q]at j;exact w j
 refine⟨λb u q n _ _=>k b u (p b n) q,λb u q n _ _=>⟨u.slots,k b u (p b n) q⟩,λb u q n _=>by rw[jq<|s b n];exact n,λb u q _=>?_,
  λb y q=>by rw[jq<|l b _ q λz=>z];exact q,λb u y q=>by rw[jq<|l b _ q λz=>z];exact q,λb A q=>⟨#[],by rw[jq<|l b _ q λz=>z,q];simp⟩⟩
 by_cases m:b=e
 .subst m;exact t
 exact⟨u,k b u m q⟩
end
noncomputable def Lf(h:jb)(T:Hp):List Addr:=(au h.objs.size).filter λa=>(T a).isSome
def BN(h:jb)(T:Hp):Heap:=PySem.W.hideAll h<|Lf h T
def afZ(h:jb)(T:Hp):(BN h T).objs.size=h.objs.size:=PySem.W.hideAll_size _ _
def PR{h:jb}{T:Hp}{b:iw}{o:el}(e:h.get? b=Y o)(n:T b=I):(BN h T).get? b=Y o:=
 PySem.W.hideAll_get _ e λa=>by have q:(T b).isSome=J:=(sL.mp a).2;rw[n]at q;simp at q
def S8{h:jb}{T:Hp}{b:iw}{o:el}(e:(BN h T).get? b=Y o):h.get? b=Y o/\T b=I:=by
 have a:h.get? b=Y o:=PySem.W.of_hideAll (Lf h T) e;refine⟨a,?_⟩
 cases q:T b with
 |none=>rfl
 |some x=>have c:b∈Lf h T:=sL.mpr ⟨vc.mpr<|kH a,by simp[q]⟩;have z:(BN h T).get? b=I:=PySem.W.hideAll_none (Lf h T) c;rw[z]at e;cases e
structure Mod(K:jd)(mg:mE)(base:jb):Prop where
 kin:K.In base
 glob:base.Ns ap mg
 blt:∃mb,base.Ns f4 mb/\∀x:aE,x≠"__name__"->mb x=aF x
 nolimit:base.NoLimit
structure Cx where
 prog:jh
 w:iY
 K:jd
 mg:aE->Option iI
 base:jb
 A:iU
 N:List aE
 s₀:iB
 H₀:Hp
 env:dk
 outer:List dk
 stack:List dk
 ex:List iw
 fn:aE->Bool
 calm:Bool
 pn:List (iw×el)
 xe:iI->iB->Prop
noncomputable def H9(l:List dk):List Addr:=l.filterMap (·.frame)
abbrev Cx.fs(X:Cx):List Addr:=H9 X.outer
def FQ(a:ju)(x:aE):Prop:=a.names.lookup x=Y .local\/a.names.lookup x=Y .cell\/a.names.lookup x=Y .free
def Loc(a:ju)(x:aE):Prop:=a.names.lookup x=Y .local\/a.names.lookup x=Y .cell
def acP(a:dk)(h:jb)(m:mE)(x:aE)(u:iI):Prop:=
 (a.kindOf x=Y .local/\m x=Y u)\/((a.kindOf x=Y .cell\/a.kindOf x=Y .free)/\∃c,a.cells.lookup x=Y c/\h.IsCell c (Y u))
structure Cx.Ok(X:Cx):Prop where
 mod:Mod X.K X.mg X.base
 kind:X.env.scope.kind=.function
 glob:X.env.globals=ap
 blt:X.env.builtins=f4
 above:X.s₀.heap.objs.size<=X.env.locals
 inj:∀x y c,X.env.cells.lookup x=Go c->X.env.cells.lookup y=Go c->x=y
 has:∀x,(X.env.kindOf x=Go .cell\/X.env.kindOf x=Go .free)->∃c,X.env.cells.lookup x=Go c
 cab:∀x c,X.fn x=IN->X.env.cells.lookup x=Go c->X.s₀.heap.objs.size<=c
 hd:X.calm=IN->X.A.handled=Ix
 frames:X.A.frames=Go X.stack
 stk:X.stack=X.outer\/(X.stack=X.env::X.outer/\X.env.frame=Go X.env.locals)
 exf:∀b∈X.ex,b≠X.env.locals/\∀x c,X.env.cells.lookup x=Go c->c≠b
 bs:∀b o,X.base.get? b=Go o->X.s₀.heap.get? b=Go o/\X.H₀ b=Ix
 bsz:X.base.objs.size<=X.s₀.heap.objs.size
 noex:∀b o,X.base.get? b=Go o->b∉X.ex
 exfs:∀b∈X.ex,b∉X.fs
 BQ:X.s₀.heap.FunFrames X.base X.outer
 frf:∀b∈X.fs,X.H₀ b=Ix
structure Inv(X:Cx)(pins:jw)(σ:List (Option V))(H:Hp)(s:iB):Prop where
 ok:X.Ok
 os:s.os=X.s₀.os
 bare:ej s.gens
 base:Un X.fs X.ex X.H₀ H X.s₀.heap s.heap
 loc:∃m,s.heap.Ns X.env.locals m/\∀(i:Nat)(x:aE)(v:V),X.N[i]?=Go x->σ[i]?=Go (Go v)->FQ X.env.scope x->∃u,RelV v u/\acP X.env s.heap m x u
 cell:∀x c,X.env.cells.lookup x=Go c->∃v,s.heap.IsCell c v
 free:H X.env.locals=Ix
 freeC:∀x c,X.env.cells.lookup x=Go c->H c=Ix
 pin:∀p∈X.pn++pins,s.heap.get? p.1=Go p.2/\H p.1=Ix/\p.1≠X.env.locals/\p.1∉X.fs/\∀v,p.2.data≠ .cell v
 hok:BW X.prog X.w H s.heap
 len:(IX σ)=X.N.length
section
variable {X:Cx}{f:jw}{g:List (Option V)}{H H':Hp}{s:iB}{h':jb}
def Cx.Ok.nofr(ok:X.Ok){b:iw}{o:el}(e:X.base.get? b=Y o):b∉X.fs:=λa=>by have:=(ok.BQ.mem a).1;rw[e]at this;cases this
def Inv.bs(T:Inv X f g H s):∀b o,X.base.get? b=Y o->s.heap.get? b=Y o/\H b=I:=λb o e=>⟨T.base.keep b o (T.ok.bs b o e).1 (T.ok.bs b o e).2 (T.ok.nofr e)<|T.ok.noex b o e,T.base.free b o (T.ok.bs b o e).1 (T.ok.bs b o e).2<|T.ok.noex b o e⟩
def Inv.bk(T:Inv X f g H s):∀b o,X.base.get? b=Y o->s.heap.get? b=Y o:=λb o e=>(T.bs b o e).1
def Inv.mod(T:Inv X f g H s):Mod X.K X.mg X.base:=T.ok.mod
def Inv.F1(T:Inv X f g H s):X.K.In s.heap:=T.ok.mod.kin.keeps T.bk
def Inv.lt(T:Inv X f g H s):X.env.locals<s.heap.objs.size:=let⟨_,a,_⟩:=T.loc;a.lt
def Inv.sz(T:Inv X f g H s):X.s₀.heap.objs.size<=s.heap.objs.size:=mq T.ok.above<|wQ T.lt
def Inv.LG(T:Inv X f g H s){a:iw}(h:s.heap.objs.size<=a):a∉X.fs:=λb=>by obtain⟨_,o,c,_⟩:=T.ok.BQ.mem b;exact absurd (oH (kH c)<|mq T.sz h)<|qo _
def Inv.Ji(T:Inv X f g H s):∀x c,X.env.cells.lookup x=Y c->c≠X.env.locals:=λx c e z=>by obtain⟨v,o,a,hd⟩:=T.cell x c e;obtain⟨m,⟨j,i,h,d,b,_⟩,_⟩:=T.loc;rw[z,d]at a;cases a;rw[b]at hd;cases hd
def Inv.BQ(T:Inv X f g H s):s.heap.FunFrames X.base X.outer:=by
 have all:∀(l:List dk),(∀b∈H9 l,b∈X.fs)->X.s₀.heap.FunFrames X.base l->s.heap.FunFrames X.base l:=by
  intro l
  induction l with
  |nil=>intro _ _;trivial
  |cons i r p=>intro h j;obtain⟨hk,⟨L,o,d,k,m,hd⟩,n⟩:=j;have a:L∈X.fs:=h L (by unfold H9;rw[wO,d];exact ky);obtain⟨q,e⟩:=T.base.slot L o m (T.ok.frf L a) a λz=>T.ok.exfs L z a;exact⟨hk,⟨L,_,d,k,e,hd⟩,p (λb c=>h b<|by unfold H9;rw[wO,d];exact kO _ c) n⟩
 exact all X.outer (λ_ c=>c) T.ok.BQ
def Inv.stack(T:Inv X f g H s):s.heap.FunFrames X.base X.stack:=by
 rcases T.ok.stk with e|⟨e,hf⟩
 .rw[e];exact T.BQ
 rw[e];obtain⟨m,a,_⟩:=T.loc;refine .cons (by rw[T.ok.kind];decide) hf a ?_ T.BQ;exact Heap.get?_none_of_le<|mq T.ok.bsz T.ok.above
def Inv.D9(T:Inv X f g H s):∀b∈H9 X.stack,b∈X.env.locals::X.fs:=λb a=>by
 rcases T.ok.stk with e|⟨e,hf⟩
 .rw[e]at a;exact kO _ a
 rw[e]at a;unfold H9 at a;rw[wO,hf]at a;exact a
def Inv.HP(T:Inv X f g H s):∀b∈H9 X.stack,H b=I:=λb a=>by
 rcases oq.mp (T.D9 b a)with e|a
 .rw[e];exact T.free
 obtain⟨_,o,c,_⟩:=T.ok.BQ.mem a;exact T.base.free b o c (T.ok.frf b a) λz=>T.ok.exfs b z a
def Inv.step{g':Array fB}{t':Nat}{d':Drawn}{ch:la}(I:Inv X f g H s)
  (C:∀b∈ch,(b∈X.ex\/X.s₀.heap.objs.size<=b)/\b≠X.env.locals/\(∀x c,X.env.cells.lookup x=Go c->c≠b)/\∀p∈X.pn++f,p.1≠b)
  (keep:∀b o,b≠X.env.locals->b∉X.fs->b∉ch->s.heap.get? b=Go o->H b=Ix->h'.get? b=Go o)
  (slot:∀b o,b≠X.env.locals->b∈X.fs->b∉ch->s.heap.get? b=Go o->H b=Ix->∃U',h'.get? b=Go {o with slots:=U'})(free:∀b o,b∉ch->s.heap.get? b=Go o->H b=Ix->H' b=Ix)
  (there:∀b o,b∉ch->s.heap.get? b=Go o->∃Q,h'.get? b=Go Q)
  (G:∀b t,H b=Go (.tup t)->H' b=Go (.tup t))(L:∀b o u,H b=Go (.AL o u)->H' b=Go (.AL o u))(T:∀b M,H b=Go (.tbl M)->∃more,H' b=Go (.tbl<|M++more))
  (ns:∀m,s.heap.Ns X.env.locals m->h'.Ns X.env.locals m)(N:BW X.prog X.w H' h')(hg:ej g'):
  Inv X f g H' {s with heap:=h',gens:=g',drawn:=d',toks:=t'}:=by
 have O:∀b o,X.s₀.heap.get? b=Go o->b≠X.env.locals:=λb o e=>kz<|oH (kH e) I.ok.above
 have J:∀b o,X.s₀.heap.get? b=Go o->b∉X.ex->b∉ch:=λb o e a y=>by
  rcases(C b y).1 with z|z
  .exact a z
  exact absurd (oH (kH e) z) (qo _)
 have h:∀x c,X.env.cells.lookup x=Go c->∀v,s.heap.IsCell c v->h'.IsCell c v:=λx c e v a'=>by
  obtain⟨o,A,hd⟩:=a'
  have B:c∉ch:=λz=>(C c z).2.2.1 x c e IR;by_cases D:c∈X.fs
  .obtain⟨U',q⟩:=slot c o (I.Ji x c e) D B A<|I.freeC x c e;exact⟨_,q,hd⟩
  exact⟨o,keep c o (I.Ji x c e) D B A<|I.freeC x c e,hd⟩
 refine⟨I.ok,I.os,hg,⟨λb o e n y a=>?_,λb o e n y a=>?_,λb o e n a=>?_,λb o e a=>?_,λb t e=>G b t<|I.base.tups b t e,λb o t e=>L b o t<|I.base.frzs b o t e,λb M e=>?_⟩,?_,λx c e=>?_,?_,λx c e=>?_,λp F=>?_,N,I.len⟩
 .exact keep b o (O b o e) y (J b o e a) (I.base.keep b o e n y a) (I.base.free b o e n a)
 .obtain⟨U',j⟩:=I.base.slot b o e n y a;obtain⟨Y,E⟩:=slot b _ (O b o e) y (J b o e a) j (I.base.free b o e n a);exact⟨Y,E⟩
 .obtain⟨Q,j⟩:=I.base.there b o e a;exact free b Q (J b o e a) j<|I.base.free b o e n a
 .obtain⟨Q,j⟩:=I.base.there b o e a;exact there b Q (J b o e a) j
 .obtain⟨V,j⟩:=I.base.tbls b M e;obtain⟨W,E⟩:=T b _ j;exact⟨V++W,by rw[E,Hx]⟩
 .obtain⟨m,S,R⟩:=I.loc;refine⟨m,ns m S,λi x v j E P=>?_⟩;obtain⟨u,r,l⟩:=R i x v j E P;refine⟨u,r,?_⟩;rcases l with l|⟨k,c,e,z⟩
  .exact .inl l
  exact .inr ⟨k,c,e,h x c e _ z⟩
 .obtain⟨v,z⟩:=I.cell x c e;exact⟨v,h x c e v z⟩
 .obtain⟨m,⟨o,_,_,A,_⟩,_⟩:=I.loc;exact free _ o (λz=>(C _ z).2.1 IR) A I.free
 .obtain⟨v,o,A,hd⟩:=I.cell x c e;exact free c o (λz=>(C c z).2.2.1 x c e IR) A<|I.freeC x c e
 obtain⟨e,n,ne,K,d⟩:=I.pin p F;have B:p.1∉ch:=λz=>(C p.1 z).2.2.2 p F IR;exact⟨keep p.1 p.2 ne K B e n,free p.1 p.2 B e n,ne,K,d⟩
def Inv.un{t':Nat}(T:Inv X f g H s)(u:Un X.fs [] H H' s.heap h')(d:BW X.prog X.w H' h'):Inv X f g H' {s with heap:=h',toks:=t'}:=by
 obtain⟨m,⟨o,t,q,i,r⟩,_⟩:=id T.loc;obtain⟨y,j⟩:=u.any i T.free (by simp)
 exact T.step (g':=s.gens) (d':=s.drawn) (ch:=[]) (λ_ z=>nomatch z) (λb o _ c _ e n=>u.keep b o e n c<|by simp) (λb o _ c _ e n=>u.slot b o e n c<|by simp) (λb o _ e n=>u.free b o e n<|by simp) (λb o _ e=>u.there b o e<|by simp) u.tups u.frzs u.tbls (λv l=>by obtain⟨x,a,k,h,p⟩:=l;rw[i]at h;cases h;exact⟨_,a,k,j,p⟩) d T.bare
def Inv.call{g':Array fB}{t':Nat}{d':Drawn}{ch:la}(T:Inv X f g H s)(u:Un (H9 X.stack) ch H H' s.heap h')(i:BW X.prog X.w H' h')(v:ej g')
  (k:∀b∈ch,(b∈X.ex\/X.s₀.heap.objs.size<=b)/\b≠X.env.locals/\(∀x c,X.env.cells.lookup x=Y c->c≠b)/\∀p∈X.pn++f,p.1≠b):
  Inv X f g H' {s with heap:=h',gens:=g',drawn:=d',toks:=t'}:=by
 obtain⟨m,⟨o,Q,B,l,r⟩,_⟩:=id T.loc;obtain⟨O,h⟩:=u.any l T.free λz=>(k _ z).2.1 C
 exact T.step (ch:=ch) k (λb o h t a e n=>u.keep b o e n (λz=>(oq.mp<|T.D9 b z).elim h t) a) (λb o _ _ a e n=>u.any e n a) (λb o a e n=>u.free b o e n a) (λb o a e=>u.there b o e a) u.tups u.frzs u.tbls (λE y=>by obtain⟨L,d,q,j,A⟩:=y;rw[l]at j;cases j;exact⟨_,d,q,h,A⟩) i v
def Inv.turned{t':Nat}{it:iw}(T:Inv X f g H s)(k:∀b o,b≠it->s.heap.get? b=Y o->h'.get? b=Y o)(A:H it=I)(h:it≠X.env.locals)
  (h1:it∈X.ex\/X.s₀.heap.objs.size<=it)(l:∀x c,X.env.cells.lookup x=Y c->c≠it)(t:∀p∈X.pn++f,p.1≠it):Inv X f g H {s with heap:=h',toks:=t'}:=by
 have d:∀b u,H b=Y u->b≠it:=λb u e z=>by rw[z,A]at e;cases e
 refine T.step (g':=s.gens) (d':=s.drawn) (ch:=[it]) (λb w=>?_) (λb o _ _ a e _=>k b o (λz=>a<|by simp[z]) e) (λb o _ _ a e _=>⟨o.slots,k b o (λz=>a<|by simp[z]) e⟩) (λ_ _ _ _ n=>n)
  (λb o a e=>⟨o,k b o (λz=>a<|by simp[z]) e⟩) (λ_ _ e=>e) (λ_ _ _ e=>e) (λb Q e=>⟨#[],by rw[e];simp⟩) (λm y=>?_) (λb u e=>?_) T.bare
 .have e:b=it:=by simpa using w
  subst e;exact⟨h1,h,l,t⟩
 .obtain⟨o,j,i,B,r⟩:=y;exact⟨o,j,i,k _ o (tD h) B,r⟩
 refine(T.hok b u e).A6 (λc v a q=>k c v ?_ q) (λ_ q=>q) λ_ _ q=>q;rcases a with z|z
 .rw[z];exact d b u e
 exact d c _ z
def Inv.tok(T:Inv X f g H s)(t:Nat):Inv X f g H {s with toks:=t}:=T.un (h':=s.heap) (t':=t) Un.refl T.hok
def Inv.kept{t':Nat}(T:Inv X f g H s)(k:∀b u,s.heap.get? b=Y u->h'.get? b=Y u):Inv X f g H {s with heap:=h',toks:=t'}:=T.un (Un.kept k)<|T.hok.kept k
def Inv.laid{a:iw}{o:HO}{t':Nat}(T:Inv X f g H s)(k:∀b u,s.heap.get? b=Y u->h'.get? b=Y u)(c:s.heap.objs.size<=a)(new:T2 X.prog X.w (upd H a o) h' a o):
  Inv X f g (upd H a o) {s with heap:=h',toks:=t'}:=T.un (Un.laid k c<|T.hok.fresh c)<|T.hok.laid k c new
def Inv.write{x e:iw}{o:HO}{h:Nat}(T:Inv X f g H s)(d:LU (H x))(c:e=x\/H e=Y (.own x))(k:∀b u,b≠e->s.heap.get? b=Y u->h'.get? b=Y u)(a:∃u,h'.get? e=Y u)
  (new:T2 X.prog X.w (upd H x o) h' x o):Inv X f g (upd H x o) {s with heap:=h',toks:=h}:=T.un (Un.write d c k a)<|T.hok.write d c k a new
def Inv.D6{a:jw}(T:Inv X f g H s)(h:∀p∈a,s.heap.get? p.1=Y p.2/\H p.1=I/\p.1≠X.env.locals/\p.1∉X.fs/\∀v,p.2.data≠ .cell v):Inv X a g H s:=
 ⟨T.ok,T.os,T.bare,T.base,T.loc,T.cell,T.free,T.freeC,λp b=>(pk.mp b).elim (λz=>T.pin p<|DI _ z)<|h p,T.hok,T.len⟩
def FK{N:ji}(e:N.Nodup){i j:Nat}{x:aE}(a:N[i]?=Y x)(b:N[j]?=Y x):i=j:=by obtain⟨h1,c⟩:=wJ.mp a;obtain⟨h,d⟩:=wJ.mp b;exact(DH e).mp (c.trans d.symm)
def Ck{M:fW}{A:iU}{E:jr}{i:Nat}{x:aE}{v:V}{u:iI}{Q:Unit->iB->Prop}(I:Inv X f g H s)(hN:X.N.Nodup)(hi:X.N[i]?=Go x)(L:Loc X.env.scope x)(r:RelV v u)
  (h:∀s',Inv X f (g.set i<|Go v) H s'->(∃a,aL a s.heap s'.heap/\(a=X.env.locals\/X.env.cells.lookup x=Go a))->Q () s')(hf:X.fn x=IN\/X.env.scope.names.lookup x=Go .local:=by first|exact .inl rfl|exact .inr rfl|assumption):af M A (storeName X.env x u) Q E s:=by
 obtain⟨m,S,hl⟩:=id I.loc;have Y:(X.env.scope.kind== .class||(X.env.scope.kind== .module&&X.env.locals !=X.env.globals))=IP:=by rw[I.ok.kind];rfl
 have T:i<(IX g):=by rw[I.len];exact(wJ.mp hi).1
 have Ji:=I.Ji
 have B:∀{a:iw}{h':jb},(∃o,s.heap.get? a=Go o/\H a=Ix)->aL a s.heap h'->BW X.prog X.w H h':=λ{a h'} ha l b ob e=>by
  obtain⟨_,_,j9⟩:=ha;refine(I.hok b ob e).A6 (λc K C q=>(l.2 c ?_).trans q) (λ_ q=>q) λ_ _ q=>q;rintro rfl;rcases C with rfl|C
  .rw[j9]at e;cases e
  rw[j9]at C;cases C
 rcases L with hk|hk
 .refine wpAny_storeName_local hk S (λh' W l=>?_) Y;obtain⟨oL,_,_,eX,_⟩:=id S;refine h _ ⟨I.ok,I.os,I.bare,⟨λb o e n G L=>?_,λb o e n G L=>?_,I.base.free,λb o e L=>?_,I.base.tups,I.base.frzs,I.base.tbls⟩,⟨_,W,λj y v' t O R=>?_⟩,λy c e=>?_,I.free,I.freeC,λp Z=>?_,B ⟨oL,eX,I.free⟩ l,by simpa using I.len⟩ ⟨_,l,.inl IR⟩
  .exact(l.2 b<|kz<|oH (kH e) I.ok.above).trans (I.base.keep b o e n G L)
  .obtain⟨sl,t⟩:=I.base.slot b o e n G L;exact⟨sl,(l.2 b<|kz<|oH (kH e) I.ok.above).trans t⟩
  .obtain⟨o',t⟩:=I.base.there b o e L;exact⟨o',(l.2 b<|kz<|oH (kH e) I.ok.above).trans t⟩
  .by_cases J:j=i
   .subst J;rw[hi]at t;cases t;rw[tx T]at O;cases O;exact⟨u,r,.inl ⟨hk,by simp⟩⟩
   rw[nu<|tD J]at O;obtain⟨u',r',q⟩:=hl j y v' t O R;refine⟨u',r',?_⟩;rcases q with⟨k,e⟩|⟨k,c,e,z⟩
   .refine .inl ⟨k,?_⟩;have:y≠x:=λe=>J<|FK hN t<|e▸hi;simp[this,e]
   exact .inr ⟨k,c,e,z.sameBut l<|Ji y c e⟩
  .obtain⟨K,z⟩:=I.cell y c e;exact⟨K,z.sameBut l<|Ji y c e⟩
  obtain⟨e,n,ne,nf,d⟩:=I.pin p Z;exact⟨(l.2 p.1 ne).trans e,n,ne,nf,d⟩
 have P:X.fn x=IN:=by
  rcases hf with z|z
  .exact z
  rw[z]at hk;cases hk
 obtain⟨c,C⟩:=I.ok.has x<|.inl hk;obtain⟨K,z⟩:=I.cell x c C;refine MZ I.ok.kind hk C z λh' w6 l=>?_;obtain⟨oc,dH,D⟩:=id z;refine h {s with heap:=h'} ⟨I.ok,I.os,I.bare,⟨λb o e n G L=>?_,λb o e n G L=>?_,I.base.free,λb o e L=>?_,I.base.tups,I.base.frzs,I.base.tbls⟩,⟨m,S.sameBut l<|tD<|Ji x c C,λj y v' t O R=>?_⟩,λy F e=>?_,I.free,I.freeC,λp Z=>?_,B ⟨oc,dH,I.freeC x c C⟩ l,by simpa using I.len⟩ ⟨c,l,.inr C⟩
 .exact(l.2 b<|kz<|oH (kH e)<|I.ok.cab x c P C).trans (I.base.keep b o e n G L)
 .obtain⟨sl,t⟩:=I.base.slot b o e n G L;exact⟨sl,(l.2 b<|kz<|oH (kH e)<|I.ok.cab x c P C).trans t⟩
 .obtain⟨o',t⟩:=I.base.there b o e L;exact⟨o',(l.2 b<|kz<|oH (kH e)<|I.ok.cab x c P C).trans t⟩
 .by_cases J:j=i
  .subst J;rw[hi]at t;cases t;rw[tx T]at O;cases O;exact⟨u,r,.inr ⟨.inl hk,c,C,w6⟩⟩
  rw[nu<|tD J]at O;obtain⟨u',r',q⟩:=hl j y v' t O R;refine⟨u',r',?_⟩;rcases q with q|⟨k,F,e,z'⟩
  .exact .inl q
  refine .inr ⟨k,F,e,z'.sameBut l ?_⟩;rintro rfl;exact J<|FK hN t<|I.ok.inj _ _ _ e C▸hi
 .by_cases U:F=c
  .subst U;exact⟨_,w6⟩
  obtain⟨w2,z2⟩:=I.cell y F e;exact⟨w2,z2.sameBut l U⟩
 obtain⟨e,n,ne,nf,d⟩:=I.pin p Z;refine⟨(l.2 p.1 ?_).trans e,n,ne,nf,d⟩;intro q;rw[q,dH]at e;have q':oc=p.2:=kZ e;exact d K (by rw[<-q'];exact D)
def Fi{M:fW}{A:iU}{E:jr}{i:Nat}{x:aE}{v:V}{u:iI}{Q:Unit->iB->Prop}(T:Inv X f g H s)(c:X.N.Nodup)(e:X.N[i]?=Y x)(j:Loc X.env.scope x)(r:RelV v u)
  (h:∀a,Inv X f (g.set i<|Y v) H a->Q () a)(d:X.fn x=J\/X.env.scope.names.lookup x=Y .local:=by first|exact .inl rfl|exact .inr rfl|assumption):af M A (storeName X.env x u) Q E s:=
 Ck T c e j r (λa b _=>h a b) d
def Inv.LP{s':iB}{ch:la}(T:Inv X f g H s)(i:s'.os=s.os)(u:Un (H9 X.stack) ch H H' s.heap s'.heap)(a:BW X.prog X.w H' s'.heap)(h:ej s'.gens)
  (d:∀b∈ch,(b∈X.ex\/X.s₀.heap.objs.size<=b)/\b≠X.env.locals/\(∀x c,X.env.cells.lookup x=Y c->c≠b)/\∀p∈X.pn++f,p.1≠b):Inv X f g H' s':=by
 obtain⟨h',g',d',t',j⟩:=s';have e:j=s.os:=i;subst e;exact T.call (g':=g') (t':=t') (d':=d') u a h d
end
abbrev XK:=iI->Option iw->Hp->Prop
abbrev St:=List<|Option V
abbrev VK:=V->Hp->Prop
abbrev TE:=St->Hp->VK->Prop
abbrev TT:=St->Hp->(Bool->Hp->Prop)->Prop
abbrev TA:=St->Hp->(List V->Hp->Prop)->Prop
structure Ends where
 nx:St->Hp->Prop
 rt:VK
 bk:St->Hp->Prop:=λ_ _=>False
 ct:St->Hp->Prop:=λ_ _=>False
abbrev TS:=Ends->St->Hp->Prop
inductive EP(X:Cx)(pins:jw)(σ:St)(Q:VK)(u:iI)(s':iB):Prop where
 |mk (v:V) (H':Hp) (_:Inv X pins σ H' s') (_:RelV v u) (_:Q v H')
inductive TP(X:Cx)(pins:jw)(σ:St)(Q:Bool->Hp->Prop)(b:Bool)(s':iB):Prop where
 |mk (H':Hp) (_:Inv X pins σ H' s') (_:Q b H')
inductive AP(X:Cx)(pins:jw)(σ:St)(Q:List V->Hp->Prop)(us:jS)(s':iB):Prop where
 |mk (vs:List V) (H':Hp) (_:Inv X pins σ H' s') (_:Vals vs us) (_:Q vs H')
def SP(X:Cx)(b:jw)(D:Ends)(f:Flow)(d:iB):Prop:=
 match f with
 |.next=>∃a c,Inv X b a c d/\D.nx a c
 |.brk=>∃a c,Inv X b a c d/\D.bk a c
 |.cont=>∃a c,Inv X b a c d/\D.ct a c
 |.ret u=>∃v a c,Inv X b a c d/\RelV v u/\D.rt v c
def PE(X:Cx)(e:iM)(t:TE):Prop:=
 ∀(a:jw)(s:iB)(b:St)(T:Hp)(Q:VK),Inv X a b T s->t b T Q->af (am X.prog X.w) X.A (bh e X.env) (EP X a b Q) X.xe s
def PT(X:Cx)(e:iM)(t:TT):Prop:=
 ∀(a:jw)(s:iB)(b:St)(T:Hp)(Q:Bool->Hp->Prop),Inv X a b T s->t b T Q->af (am X.prog X.w) X.A (isTrue e X.env<|bh e X.env) (TP X a b Q) X.xe s
def PW(X:Cx)(e:iM)(t:TT):Prop:=
 ∀(b:dq iI)(a:jw)(s:iB)(c:St)(T:Hp)(Q:Bool->Hp->Prop),Inv X a c T s->t c T Q->af (am X.prog X.w) X.A (isTrue e X.env b) (TP X a c Q) X.xe s
def PW.pt{X:Cx}{e:iM}{t:TT}(h:PW X e t):PT X e t:=h _
def PA(X:Cx)(d:kI)(t:TA):Prop:=
 ∀(b:bA)(a:jw)(s:iB)(c:St)(T:Hp)(Q:List V->Hp->Prop),Inv X a c T s->t c T Q->af (am X.prog X.w) X.A (g8<|aO b<|aj d X.env) (AP X a c Q) X.xe s
def PS(X:Cx)(st:bi)(t:TS):Prop:=
 ∀(a:jw)(s:iB)(b:St)(T:Hp)(D:Ends),Inv X a b T s->t D b T->af (am X.prog X.w) X.A (exec st X.env) (SP X a D) X.xe s
def D5(X:Cx)(st:List bi)(t:TS):Prop:=
 ∀(a:jw)(s:iB)(b:St)(T:Hp)(D:Ends),Inv X a b T s->t D b T->af (am X.prog X.w) X.A (execs st X.env) (SP X a D) X.xe s
def Q1{c:Type}{t:dq c}{Q b:c->iB->Prop}{M:fW}{A:iU}{E:jr}{s:iB}(h:af M A t Q E s)(d:∀a s,Q a s->b a s):af M A t b E s:=nQ h d λ_ _ x=>x
section
variable {X:Cx}
def abz(i:Nat):TE:=λa T Q=>∃v,a[i]?=Y (Y v)/\Q v T
noncomputable def tC(v:V):TE:=λ_ T Q=>Q v T
def wj{i:Nat}{x:aE}{f:bA}(g:X.N[i]?=Y x)(hv:FQ X.env.scope x)(hd:(x==("__debug__":aE))=U:=by decide)(n:(x==("__classdict__":aE))=U:=by decide):PE X (.Name x f) (abz i):=by
 intro a s o O Q T h;obtain⟨v,e,h⟩:=h;obtain⟨m,k,j⟩:=T.loc;obtain⟨u,r,l⟩:=j i x v g e hv;have fin:EP X a o Q u s:=⟨v,O,T,r,h⟩
 rcases l with⟨hk,hm⟩|⟨hk,c,b,d⟩
 .exact n3 (wpAny_loadName_local T.ok.kind hk k hm fin) hd
 rcases hk with hk|hk
 .exact n3 (wpAny_loadName_cell T.ok.kind hk b d fin) hd
 exact n3 (wpAny_loadName_free T.ok.kind hk b d fin n) hd
def Ox{i j f}:PE X (.Constant (.int i) j f) (tC<|.int i):=λ_ _ _ Q _ T h=>wpAny_Constant_int ⟨.int i,Q,T.tok _,⟨_,rfl⟩,h⟩
def ZV{b j f}:PE X (.Constant (.bool b) j f) (tC<|.bl b):=λ_ _ _ Q _ T h=>Constant_bool ⟨.bl b,Q,T,rfl,h⟩
def Wu{j f}:PE X (.Constant .none j f) (tC .VP):=λ_ _ _ Q _ T h=>Constant_none ⟨.VP,Q,T,rfl,h⟩
def Gl(X:Cx)(x:aE):Prop:=X.env.kindOf x=Y .globalImplicit
def zI{E:jr}{a:jw}{s:iB}{d:St}{O:Hp}{x:aE}{u:iI}{f:bA}{Q:jr}(T:Inv X a d O s)(b:Gl X x)(c:X.mg x=Y u)(h:Q u s)
  (hd:(x==("__debug__":aE))=U:=by decide):af (am X.prog X.w) X.A (bh (.Name x f) X.env) Q E s:=
 MY T.ok.kind b (Calls.loadGlobal_global (by rw[T.ok.glob];exact T.mod.glob.keeps T.bk) c h) hd
def qx{E:jr}{a:jw}{s:iB}{g:St}{O:Hp}{x:aE}{u:iI}{f:bA}{Q:jr}(T:Inv X a g O s)(c:Gl X x)(d:X.mg x=I)(hv:aF x=Y u)(h:Q u s)
  (e:x≠"__name__":=by decide)(hd:(x==("__debug__":aE))=U:=by decide):af (am X.prog X.w) X.A (bh (.Name x f) X.env) Q E s:=by
 obtain⟨i,h1,b⟩:=T.mod.blt;exact MY T.ok.kind c (Calls.loadGlobal_builtin (by rw[T.ok.glob];exact T.mod.glob.keeps T.bk) d (by rw[T.ok.blt];exact h1.keeps T.bk) ((b x e).trans hv) h) hd
def So{x:aE}{v:V}{u:iI}{f:bA}(a:Gl X x)(b:X.mg x=Y u)(r:RelV v u)(hd:(x==("__debug__":aE))=U:=by decide):PE X (.Name x f) (tC v):=
 λ_ _ _ Q _ T h=>zI T a b ⟨v,Q,T,r,h⟩ hd
def Sv{x:aE}{v:V}{u:iI}{f:bA}(a:Gl X x)(b:X.mg x=I)(hv:aF x=Y u)(r:RelV v u)(c:x≠"__name__":=by decide)(hd:(x==("__debug__":aE))=U:=by decide):PE X (.Name x f) (tC v):=
 λ_ _ _ Q _ T h=>qx T a b hv ⟨v,Q,T,r,h⟩ c hd
variable {a b:iM}{n tb:TE}{f:bA}
def OV(b:iM){c:cc}(h:c≠ .In)(g:c≠ .NotIn):c3 c b=U:=by
 have d:(c==cc.In)=U:=by cases c<;>first|rfl|exact absurd C h
 have e:(c==CmpOp.NotIn)=U:=by cases c<;>first|rfl|exact absurd C g
 cases b with
 |Set _ k _=>show(k==0&&(c== .In||c== .NotIn)&&_)=U;rw[d,e];simp
 |_=>rfl
noncomputable def tB(t:TE):TT:=λe T Q=>t e T λx d=>∃c,x=.bl c/\Q c d
def Wg{e:iM}{t:TE}(h:PE X e t)(j:∀c,isTrue e X.env c=(do let v <-c;cA e.pos;cn [v] (truthy v)):=by intro _;rfl):PT X e (tB t):=by intro g s o O Q T k;refine isTrue_plain (Q1 (h g s o O _ T k) ?_)<|j _;rintro v s1 ⟨x,H1,i,m,l⟩;obtain⟨d,rfl,q⟩:=l;cases m;exact tw ⟨H1,i,q⟩
variable {tA o:TT}{g:kI}
noncomputable def abN(t u:TT):TT:=λe T Q=>t e T λc d=>if c=J then u e d Q else Q U d
noncomputable def tOr(t u:TT):TT:=λe T Q=>t e T λc d=>if c=J then Q J d else u e d Q
noncomputable def KG(t:TT):TT:=λe T Q=>t e T λc d=>Q (!c) d
def R7(i:PT X a tA):PW X (.BoolOp .And [a] f) tA:=by
 intro wh d s j O Q T h;refine isTrue_and<|Q1 (i d s j O Q T h) λc s1 e=>?_
 cases c
 .exact e
 exact isTrue_and_nil e
def Wb(i:PT X a tA):PW X (.BoolOp .Or [a] f) tA:=by
 intro wh d s j O Q T h;refine isTrue_or<|Q1 (i d s j O Q T h) λc s1 e=>?_
 cases c
 .exact isTrue_or_nil e
 exact e
def Wc(k:PT X a tA)(l:PW X (.BoolOp .And (b::g) f) o):PW X (.BoolOp .And (a::b::g) f) (abN tA o):=by
 intro wh d s j O Q T h;refine isTrue_and<|Q1 (k d s j O _ T h) ?_;rintro c s1 ⟨H1,e,i⟩
 cases c
 .exact⟨H1,e,i⟩
 exact l wh d s1 j H1 Q e i
def ZQ(k:PT X a tA)(l:PW X (.BoolOp .Or (b::g) f) o):PW X (.BoolOp .Or (a::b::g) f) (tOr tA o):=by
 intro wh d s j O Q T h;refine isTrue_or<|Q1 (k d s j O _ T h) ?_;rintro c s1 ⟨H1,e,i⟩
 cases c
 .exact l wh d s1 j H1 Q e i
 exact⟨H1,e,i⟩
def Wh(j:PT X a tA):PT X (.UnaryOp .Not a f) (KG tA):=by intro d s l O Q T h;exact isTrue_not (Q1 (j d s l O (λc e=>Q (!c) e) T h) λc s1 N=>by obtain⟨e,i,k⟩:=N;exact ⟨e,i,k⟩)
def Zy(n tb:TE):TE:=λe T Q=>n e T λx d=>∃c,x=.bl c/\if c=J then tb e d Q else Q (.bl U) d
def abF(n tb:TE):TE:=λe T Q=>n e T λx d=>∃c,x=.bl c/\if c=J then Q (.bl J) d else tb e d Q
def Zr(n:TE):TE:=λe T Q=>n e T λx d=>∃c,x=.bl c/\Q (.bl (!c)) d
def Ws{op}{t:TE}(h:PE X a t):PE X (.BoolOp op [a] f) t:=λc s e O Q T d=>BoolOp_one<|h c s e O Q T d
def Wx(k:PE X a n)(l:PE X (.BoolOp .And (b::g) f) tb):PE X (.BoolOp .And (a::b::g) f) (Zy n tb):=by
 intro d s j O Q T h;refine BoolOp_and<|Q1 (k d s j O _ T h) ?_;rintro v s1 ⟨x,H1,i,m,e⟩;obtain⟨c,rfl,e⟩:=e;cases m;refine tw ?_
 cases c
 .exact⟨.bl U,H1,i,rfl,e⟩
 exact l d s1 j H1 Q i e
def ZT(k:PE X a n)(l:PE X (.BoolOp .Or (b::g) f) tb):PE X (.BoolOp .Or (a::b::g) f) (abF n tb):=by
 intro d s j O Q T h;refine BoolOp_or<|Q1 (k d s j O _ T h) ?_;rintro v s1 ⟨x,H1,i,m,e⟩;obtain⟨c,rfl,e⟩:=e;cases m;refine tw ?_
 cases c
 .exact l d s1 j H1 Q i e
 exact⟨.bl J,H1,i,rfl,e⟩
def Wt(j:PE X a n):PE X (.UnaryOp .Not a f) (Zr n):=by intro d s l O Q T h;refine UnaryOp_<|Q1 (j d s l O _ T h) ?_;rintro v s1 ⟨x,H1,i,k,e⟩;obtain⟨c,rfl,e⟩:=e;cases k;exact not_of<|tw ⟨.bl (!c),H1,i,rfl,e⟩
noncomputable def tIf(t:TT)(n tb:TE):TE:=λd T Q=>t d T λc e=>if c=J then n d e Q else tb d e Q
def Oy{c:iM}(p:PT X c tA)(l:PE X a n)(m:PE X b tb):PE X (.IfExp c a b f) (tIf tA n tb):=by
 intro e s i O Q T h;refine wpAny_IfExp<|Q1 (p e s i O _ T h) ?_;rintro d s1 ⟨H1,j,k⟩
 cases d
 .exact m e s1 i H1 Q j k
 exact l e s1 i H1 Q j k
end
def Bx(K:jd)(T:Hp)(a:iw)(xs:List V):Prop:=
 Rd T a (.lst xs)\/
  ∃(o:el)(b:nE)(n:Nat),K.lookup a=Y o/\o.cls=.type "list"/\o.dict=I/\o.data=.seq b n/\b.size<=sizeLine/\Vals xs b.toList
def EC(K:jd)(T:Hp)(a:iw)(c:List V):Prop:=
 Rd T a (.tup c)\/
  ∃(o:el)(b:nE)(n:Nat),K.lookup a=Y o/\o.cls=.type "tuple"/\o.data=.seq b n/\b.size<=sizeLine/\Vals c b.toList
noncomputable def acM:iI->Option V
 |.none=>Y .VP
 |.bool b=>Y<|.bl b
 |.int i _=>Y<|.int i
 |.str x _=>Y<|.str x
 |.bytes b _=>Y<|.byt b
 |.float b _=>Y<|.flt b
 |.ref a=>Y<|.ref a
 |.type n=>Y<|.ty n
 |_=>I
def RelV.abs{x:V}{u:iI}(r:RelV x u):acM u=Y x:=by
 cases x with
 |VP=>cases r;rfl
 |bl _=>cases r;rfl
 |int _=>obtain⟨t,rfl⟩:=r;rfl
 |str _=>obtain⟨t,rfl⟩:=r;rfl
 |byt _=>obtain⟨t,rfl⟩:=r;rfl
 |flt _=>obtain⟨t,rfl⟩:=r;rfl
 |ref _=>cases r;rfl
 |ty _=>cases r;rfl
def RelV.inj{x y:V}{u:iI}(r:RelV x u)(q:RelV y u):x=y:=kZ<|r.abs.symm.trans q.abs
def Vals.inj{c a:List V}{b:jS}(h:Vals c b)(q:Vals a b):c=a:=by
 induction h generalizing a with
 |nil=>cases q;rfl
 |cons r t d=>obtain _|⟨e,f⟩:=q;rw[r.inj e,d f]
section
variable {X:Cx}{pins:jw}{σ:St}{H:Hp}{s:iB}{a:iw}{xs ys:List V}
def Bx.of{K:jd}(h:H a=Y (.lst xs)):Bx K H a xs:=.inl (.inl h)
inductive SqI(P:Array iI->Prop)(xs:List V):Prop where
 |mk (its:jS) (_:Vals xs its) (_:P its.toArray) (_:(IX xs)<=sizeLine)
def Inv.list(T:Inv X pins σ H s)(h:Bx X.K H a xs):SqI (PlainL s.heap a) xs:=by
 rcases h with h|⟨o,b,n,hk,c,hd,d,f,r⟩
 .obtain⟨z,b,n,r,e⟩:=h.ok T.hok;exact⟨b,r,⟨_,n,e,rfl,rfl,rfl⟩,z⟩
 refine⟨b.toList,r,⟨o,n,T.F1 a o hk,c,hd,by simpa using d⟩,?_⟩;have e:=r.length;simp only[lS]at e
 lia
def Inv.tuple(T:Inv X pins σ H s)(h:EC X.K H a xs):SqI (gg s.heap a) xs:=by
 rcases h with h|⟨o,b,n,hk,c,d,f,r⟩
 .obtain⟨z,b,r,p⟩:=h.ok T.hok;exact⟨b,r,p.tup,z⟩
 refine⟨b.toList,r,⟨o,T.F1 a o hk,c,n,by simpa using d⟩,?_⟩;have e:=r.length;simp only[lS]at e
 lia
def Inv.BY(T:Inv X pins σ H s)(h:Bx X.K H a xs)(j:Bx X.K H a ys):xs=ys:=by
 obtain⟨c,r,⟨o,n,e,_,_,d⟩,_⟩:=T.list h;obtain⟨b,k,⟨m,l,g,_,_,f⟩,_⟩:=T.list j;rw[e]at g;cases g;rw[d]at f;injection f with i _
 have:c=b:=by simpa using mG o9 i
 subst this;exact r.inj k
def Inv.BI(T:Inv X pins σ H s)(h:EC X.K H a xs)(j:EC X.K H a ys):xs=ys:=by
 obtain⟨c,r,⟨o,e,_,n,d⟩,_⟩:=T.tuple h;obtain⟨b,k,⟨m,g,_,l,f⟩,_⟩:=T.tuple j;rw[e]at g;cases g;rw[d]at f;injection f with i _
 have:c=b:=by simpa using mG o9 i
 subst this;exact r.inj k
end
noncomputable abbrev Cx.Eb(X:Cx)(E:jr):Cx:={X with xe:=E}
noncomputable abbrev Cx.FG(X:Cx):Cx:=X.Eb λ_ _=>False
def Cx.Ok.Eb{X:Cx}(ok:X.Ok)(E:jr):(X.Eb E).Ok:=
 ⟨ok.mod,ok.kind,ok.glob,ok.blt,ok.above,ok.inj,ok.has,ok.cab,ok.hd,ok.frames,ok.stk,ok.exf,ok.bs,ok.bsz,ok.noex,ok.exfs,ok.BQ,ok.frf⟩
def Cx.Ok.BH{X:Cx}{E:jr}(ok:(X.Eb E).Ok):X.Ok:=
 ⟨ok.mod,ok.kind,ok.glob,ok.blt,ok.above,ok.inj,ok.has,ok.cab,ok.hd,ok.frames,ok.stk,ok.exf,ok.bs,ok.bsz,ok.noex,ok.exfs,ok.BQ,ok.frf⟩
section
variable {X:Cx}{a:jw}{b:St}{H:Hp}{s:iB}{E:jr}
def Inv.Eb(T:Inv X a b H s)(E:jr):Inv (X.Eb E) a b H s:=⟨T.ok.Eb E,T.os,T.bare,T.base,T.loc,T.cell,T.free,T.freeC,T.pin,T.hok,T.len⟩
def Inv.BH(T:Inv (X.Eb E) a b H s):Inv X a b H s:=⟨T.ok.BH,T.os,T.bare,T.base,T.loc,T.cell,T.free,T.freeC,T.pin,T.hok,T.len⟩
def SP.BH{D:Ends}{f:Flow}{e:iB}(h:SP (X.Eb E) a D f e):SP X a D f e:=by
 cases f with
 |next=>obtain⟨c,d,T,q⟩:=h;exact⟨c,d,T.BH,q⟩
 |brk=>obtain⟨c,d,T,q⟩:=h;exact⟨c,d,T.BH,q⟩
 |cont=>obtain⟨c,d,T,q⟩:=h;exact⟨c,d,T.BH,q⟩
 |ret u=>obtain⟨v,c,d,T,r,q⟩:=h;exact⟨v,c,d,T.BH,r,q⟩
def D5.FG{st:List bi}{t:TS}(h:D5 X.FG st t):D5 X st t:=λa s b H D T c=>nQ (h a s b H D (T.Eb _) c) (λ_ _ q=>q.BH) λ_ _ z=>aR z
end
section
variable {X:Cx}{st:bi}{j:List bi}{t u:TS}{e:iM}{i:TE}{g:bA}
noncomputable def Zs:TS:=λD a T=>D.nx a T
noncomputable def abC(t u:TS):TS:=λD a T=>t {D with nx:=u D} a T
def Se:D5 X [] Zs:=λ_ _ a Q _ T h=>Hw ⟨a,Q,T,h⟩
def N7(h1:PS X st t)(k:D5 X j u):D5 X (st::j) (abC t u):=by
 intro a s l Q D T h;refine Hv<|Q1 (h1 a s l Q {D with nx:=u D} T h) λf s1 q=>?_
 cases f with
 |next=>obtain⟨b,c,d,q⟩:=q;exact k a s1 b c D d q
 |ret v=>exact q
 |brk=>exact q
 |cont=>exact q
def Inv.quiet{a:jw}{b:St}{Q:Hp}{s:iB}(T:Inv X a b Q s):Db X.env=U:=by simp[Db,T.ok.kind]
noncomputable def Zu(i:TE):TS:=λD a T=>i a T λ_ b=>D.nx a b
def Sf(f:PE X e i)(k:cH e I g.line X.env=pure U:=by rfl):PS X (.Expr e g) (Zu i):=by intro a s b Q D T h;exact wpAny_Expr_any (Q1 (f a s b Q _ T h) λv s1 O=>by obtain⟨x,c,d,m,l⟩:=O;exact ⟨b,c,d,l⟩) T.quiet k
noncomputable def abE(i:TE):TS:=λD a T=>i a T D.rt
def Oa(f:PE X e i):PS X (.Return (Y e) g) (abE i):=by intro a s b Q D T h;exact px (Q1 (f a s b Q _ T h) λv s1 O=>by obtain⟨x,c,d,l,k⟩:=O;exact ⟨x,b,c,d,l,k⟩)
noncomputable def abJ(c:TT)(t u:TS):TS:=λD a T=>c a T λb d=>if b=J then t D a d else u D a d
def ZR{c:iM}{a b:List bi}{n:TT}(q:PT X c n)(o:D5 X a t)(p:D5 X b u):PS X (.If c a b g) (abJ n t u):=by
 intro f s k Q D T h;refine wpAny_If<|Q1 (q f s k Q _ T h) ?_;rintro d s1 ⟨H1,l,m⟩
 cases d
 .exact p f s1 k H1 D l m
 exact o f s1 k H1 D l m
end
abbrev TG:=V->St->Hp->(St->Hp->Prop)->Prop
abbrev K0:=List V->St->Hp->(St->Hp->Prop)->Prop
def PG(X:Cx)(a:iM)(t:TG):Prop:=
 ∀(b:jw)(s:iB)(e:St)(T:Hp)(v:V)(u:iI)(Q:St->Hp->Prop),Inv X b e T s->RelV v u->t v e T Q->
  af (am X.prog X.w) X.A (cu a X.env u) (λ_ f=>∃c d,Inv X b c d f/\Q c d) X.xe s
def IF(X:Cx)(h:kI)(t:K0):Prop:=
 ∀(a:jw)(s:iB)(f:St)(T:Hp)(e:List V)(d:jS)(Q:St->Hp->Prop),Inv X a f T s->Vals e d->t e f T Q->
  af (am X.prog X.w) X.A (assignInOrder ((bf h X.env).map (·.2)) d) (λ_ g=>∃b c,Inv X a b c g/\Q b c) X.xe s
abbrev Up:=V->V->V->Hp->(Hp->Prop)->Prop
def XU(X:Cx)(t:Up):Prop:=
 ∀(a:jw)(s:iB)(e:St)(T:Hp)(o i v:V)(d c u:iI)(Q:Hp->Prop),Inv X a e T s->RelV o d->RelV i c->RelV v u->t o i v T Q->
  af (am X.prog X.w) X.A (g9 d c u) (λ_ f=>∃b,Inv X a e b f/\Q b) X.xe s
section
variable {X:Cx}{d:bA}
noncomputable def Ga(i:Nat):TG:=λv a T Q=>Q (a.set i<|Y v) T
def JQ{i:Nat}{x:aE}(c:X.N.Nodup)(f:X.N[i]?=Y x)(g:Loc X.env.scope x)(e:X.fn x=J\/X.env.scope.names.lookup x=Y .local:=by first|exact .inl rfl|exact .inr rfl|assumption):PG X (.Name x d) (Ga i):=by intro a s k O v u Q T r h;exact wpAny_assign_Name<|Fi T c f g r (λj b=>⟨_,O,b,h⟩) e
noncomputable def acD:K0:=λa b T Q=>a=[]/\Q b T
def aav(t:TG)(u:K0):K0:=λc e T Q=>∃v r,c=v::r/\t v e T λa b=>u r a b Q
def Sn:IF X [] acD:=by intro a s b O f c Q T r h;obtain⟨e,h⟩:=h;subst e;cases r;exact assignInOrder_nil ⟨b,O,T,h⟩
def Oq{e:iM}{b:kI}{t:TG}{u:K0}(h1:PG X e t)(i:IF X b u)
  (j:(bf (e::b) X.env).map (·.2)=cu e X.env::(bf b X.env).map (·.2):=by rfl):IF X (e::b) (aav t u):=by
 intro a s m O p n Q T r h;obtain⟨v,o,g,h⟩:=h;subst g
 cases r with
 |cons r l=>rw[j];refine assignInOrder_cons<|Q1 (h1 a s m O _ _ _ T r h) ?_;rintro _ s1 ⟨c,H1,f,k⟩;exact i a s1 c H1 _ _ Q f l k
def acB(K:jd)(n:Nat)(t:K0):TG:=λv c T Q=>∃a b,v=.ref a/\EC K T a b/\(IX b)=n/\t b c T Q
def Wq{f:kI}{k:Nat}{t:K0}{n:Nat}(q:X.calm=J)(h:IF X f t)
  (x:(bf f X.env).length=n:=by rfl)(N:(bf f X.env).findIdx? (·.1)=I:=by rfl):PG X (.Tuple f k d) (acB X.K n t):=by
 intro c s j O v u Q T r g;obtain⟨a,E,m,y,w,g⟩:=g;subst m;cases r;obtain⟨B,i,z,L⟩:=T.tuple y;refine assign_Tuple_tuple (T.ok.hd q) z (by simp[x,<-w,i.length]) N λp A=>?_;have l:Inv X c j O {s with heap:=p}:=T.kept (t':=s.toks) λb o e=>A b o (kz<|kH e) e;exact h c _ j O E _ Q l (by simpa using i) g
noncomputable def Eg(to f:TE)(t:Up):TG:=λv a T Q=>to a T λo b=>f a b λi c=>t o i v c λe=>Q a e
def Ot{o i:iM}{to f:TE}{t:Up}(q:PE X o to)(p:PE X i f)(w:XU X t)
  (n:∀v,cu (.Subscript o i d) X.env v=(do
   let b <-cn [v] (bh o X.env)
   let c <-cn [v,b] (bh i X.env)
   cA d
   cn [v,b,c] (g9 b c v)
   y4 [v,b,c] []):=by intro _;rfl):PG X (.Subscript o i d) (Eg to f t):=by
 intro a s e O v u Q T r h;rw[n];refine iz<|mF<|Q1 (q a s e O _ T h) ?_;rintro b s1 ⟨x,H1,k,N,z⟩;refine iz<|mF<|Q1 (p a s1 e H1 _ k z) ?_;rintro c s2 ⟨y,g,l,E,A⟩;refine iz<|ud<|iz<|mF<|Q1 (w a s2 e g x y v b c u _ l N E r A) ?_;rintro _ s3 ⟨j,m,B⟩;exact wpAny_release ⟨e,j,m,B⟩
noncomputable def VG(c:TE)(g:TG):TS:=λD a T=>c a T λx b=>g x a b D.nx
def HS{b e:iM}{c:TE}{g:TG}(j:PE X e c)(k:PG X b g)(l:eQ [b] e d.line X.env=pure U:=by rfl)(m:eR [b] e X.env=pure I:=by rfl)
  (h1:(bf [b] X.env).map (·.2)=[cu b X.env]:=by rfl):PS X (.Assign [b] e d) (VG c g):=by
 intro a s f Q D T h;refine wpAny_Assign_stores (Q1 (j a s f Q _ T h) ?_) l m;rintro v s1 ⟨x,H1,i,o,n⟩;rw[h1];exact Q1 (k a s1 f H1 x v _ i o n) λ_ p q=>q
def N9{i:Nat}{x:aE}{e:iM}{c:TE}{a:bA}(j:X.N.Nodup)(m:X.N[i]?=Y x)(o:Loc X.env.scope x)(k:PE X e c)(n:cH e (Y<|.Name x a) d.line X.env=pure U:=by rfl)(l:X.fn x=J\/X.env.scope.names.lookup x=Y .local:=by first|exact .inl rfl|exact .inr rfl|assumption):
  PS X (.Assign [.Name x a] e d) (VG c<|Ga i):=by
 intro b s r Q D T h;refine wpAny_Assign_Name (Q1 (k b s r Q _ T h) ?_) n;rintro v s1 ⟨y,H1,f,q,p⟩;exact Fi f j m o q (λt g=>⟨_,H1,g,p⟩) l
def VD(c:TT)(tb:TS):TS:=λD a T=>∃W:Nat->St->Hp->Prop,(∃m,W m a T)/\∀m a T,W m a T->
 c a T λb g=>if b=J then ∃N:St->Hp->Prop,(∀e f,N e f->∃h,h<m/\W h e f)/\tb {D with nx:=N,ct:=N,bk:=D.nx} a g else D.nx a g
def N8{c:iM}{i:List bi}{C:TT}{tb:TS}(B:eI (am X.prog X.w) X.A X.env X.xe)(O:PT X c C)(L:D5 X i tb):PS X (.While c i [] d) (VD C tb):=by
 intro a s M H D I h;obtain⟨W,⟨Q,G⟩,turn⟩:=h;refine wpAny_While<|codeAny_whileLoop (λn T=>∃k u,Inv X a k u T/\W n k u) ?_ Q ⟨M,H,I,G⟩;rintro n s1 ⟨g,H1,E,J'⟩;refine vW B<|Q1 (O a s1 g H1 _ E (turn n g H1 J')) ?_;rintro b s2 ⟨x,y,l⟩
 cases b with
 |true=>
  obtain⟨N,z,l⟩:=l;rw[iQ IR];refine vW B<|Q1 (L a s2 g x _ y l) λf U m=>?_
  cases f with
  |next=>obtain⟨e,j,o,r⟩:=m;obtain⟨q,p,t⟩:=z e j r;exact⟨q,p,e,j,o,t⟩
  |cont=>obtain⟨e,j,o,r⟩:=m;obtain⟨q,p,t⟩:=z e j r;exact⟨q,p,e,j,o,t⟩
  |brk=>exact m
  |ret v=>exact m
 |false=>rw[je kY];exact Hw ⟨g,x,y,l⟩
end
structure It where
 go:Nat->Hp->Prop
 yld:Nat->Hp->V->Hp->Prop
 stop:Nat->Hp->Prop
def uG(X:Cx)(a:jw)(T:Hp)(b:iw):Prop:=
 T b=I/\b≠X.env.locals/\b∉X.fs/\(b∈X.ex\/X.s₀.heap.objs.size<=b)/\(∀x c,X.env.cells.lookup x=Y c->c≠b)/\∀p∈X.pn++a,p.1≠b
def Inv.I9{X:Cx}{a:jw}{i:St}{Q f:Hp}{s:iB}{b:iw}(T:Inv X a i Q s)(d:s.heap.objs.size<=b)(g:f b=I):uG X a f b:=by
 refine⟨g,qm<|oH T.lt d,T.LG d,.inr<|mq T.sz d,λx c e z=>?_,λp h z=>?_⟩
 .obtain⟨v,q⟩:=T.cell x c e;exact absurd (oH q.lt<|by rw[z];exact d)<|qo _
 exact absurd (oH (kH (T.pin p h).1)<|by rw[z];exact d) (qo _)
structure Turn(P:jh)(w:iY)(K:jd)(tg:iM)(J:It)(fp:la)(it:iw)(tn:Nat->jb->Prop):Prop where
 mem:it∈fp
 obj:∀i h,tn i h->∀b∈fp,∃o,h.get? b=Go o/\∀v,o.data≠ .cell v
 keep:∀i h h',tn i h->(∀b∈fp,∀o,h.get? b=Go o->h'.get? b=Go o)->tn i h'
 item:∀(X:Cx),X.prog=P->X.w=w->X.K=K->X.calm=IN->∀(i:Nat)(pins:jw)(s:iB)(σ:St)(H:Hp)(E:jr),Inv X pins σ H s->(∀b∈fp,uG X pins H b)->tn i s.heap->J.go i H->
  af (am P w) X.A (cJ<|.ref it) (λr s1=>∃u,r=Go u/\
   af (am P w) X.A (ek tg (.ref it) u) (λ_ s2=>∃x H',Inv X pins σ H' s2/\RelV x u/\J.yld i H x H'/\tn (i+1) s2.heap/\∀b∈fp,H' b=Ix) E s1) E s
 done:∀(X:Cx),X.prog=P->X.w=w->X.K=K->X.calm=IN->∀(i:Nat)(pins:jw)(s:iB)(σ:St)(H:Hp)(E:jr),Inv X pins σ H s->(∀b∈fp,uG X pins H b)->tn i s.heap->J.stop i H->
  af (am P w) X.A (cJ<|.ref it) (λr s1=>r=Ix/\Inv X pins σ H s1) E s
 self:∀(A:iU)(i:Nat)(s:iB)(Q:jr)(E:jr),tn i s.heap->Q (.ref it) s->af (am P w) A (db<|.ref it) Q E s
abbrev TI:=St->Hp->(It->Hp->Prop)->Prop
inductive PIE(X:Cx)(pins:jw)(σ:St)(tg:iM)(R:It->Hp->Prop)(dz:iI)(s2:iB):Prop where
 |mk (it:iw) (fp:la) (tn:Nat->jb->Prop) (J:It) (H':Hp) (_:dz=.ref it) (_:Inv X pins σ H' s2) (_:Turn X.prog X.w X.K tg J fp it tn) (_:tn 0 s2.heap) (_:∀b∈fp,uG X pins H' b) (_:R J H')
def PI(X:Cx)(tg iter:iM)(c:TI):Prop:=
 ∀(a:jw)(s:iB)(b:St)(T:Hp)(R:It->Hp->Prop),Inv X a b T s->c b T R->
  af (am X.prog X.w) X.A (bh iter X.env) (λv s1=>af (am X.prog X.w) X.A (db v) (PIE X a b tg R) X.xe s1) X.xe s
def PY{M:fW}{A:iU}{E:jr}{s:iB}{b:iM}{it:iw}{u:iI}{o:el}{n:String}{c:nE}{Q:Unit->iB->Prop}(f:s.heap.get? it=Y o)(d:o.cls=.type n)(hd:o.data=.fields c)
  (e:["enumerate","zip","dict_itemiterator","dict_reverseitemiterator","odict_iterator","itertools.zip_longest","itertools.pairwise"].contains n=U)(a:Q () s):af M A (ek b (.ref it) u) Q E s:=by
 unfold ek
 cases b<;>first
  |exact iJ a
  |(cases u<;>first
    |exact iJ a
    |(
      refine iz<|DG f ?_;rw[d,hd];show af M A (if(["enumerate","zip","dict_itemiterator","dict_reverseitemiterator","odict_iterator","itertools.zip_longest","itertools.pairwise"].contains n&&c[0]?==Y (cE _))=J then _ else _) Q E s;rw[je (by intro h;rw[e,yv]at h;cases h)];exact iJ a))
noncomputable def Itl(K:jd)(a:iw):It:=
 ⟨λi T=>∃b x,Bx K T a b/\b[i]?=Y x,λi T x c=>c=T/\∀b,Bx K T a b->b[i]?=Y x,λi T=>∃b,Bx K T a b/\(IX b)<=i⟩
noncomputable def Itt(K:jd)(a:iw):It:=
 ⟨λi T=>∃b x,EC K T a b/\b[i]?=Y x,λi T x c=>c=T/\∀b,EC K T a b->b[i]?=Y x,λi T=>∃b,EC K T a b/\(IX b)<=i⟩
noncomputable def LY(lo:Int)(n:Nat):It:=⟨λi _=>i<n,λi T x a=>a=T/\x=.int (lo+i),λi _=>n<=i⟩
def afA{P:jh}{w:iY}{K:jd}{tg:iM}(a it:iw):Turn P w K tg (Itl K a) [it] it (λi h=>h.IsListIter it a i) where
 mem:=by simp
 obj:=λi h st b g=>by
  have e:b=it:=by simpa using g
  subst e;obtain⟨o,e,c,d⟩:=st;exact⟨o,e,λv z=>by rw[d]at z;cases z⟩
 keep:=λi h j st k=>st.at λo e=>k it (by simp) o e
 item:=by intro X y B t T i f s G H E I l st A;subst y B t;obtain⟨S,x,m,C⟩:=A;obtain⟨L,O,p,D⟩:=I.list m;obtain⟨u,U,F⟩:=O.get C;obtain⟨f0,f1,N,n,q,r⟩:=l it (by simp);refine wpAny_pyNext_list_item st p.isList (x:=u) (by simpa using U) λj Q R=>?_;have J:Inv X f G H {s with heap:=j}:=I.turned (t':=s.toks) (λb o g e=>(R.2 b g).trans e) f0 f1 n q r;obtain⟨o,e,c,d⟩:=id Q;exact⟨u,rfl,PY (s:={s with heap:=j}) e c d (by decide) ⟨x,H,J,F,⟨rfl,λW Y=>by rw[I.BY Y m];exact C⟩,Q,λb g=>(l b g).1⟩⟩
 done:=by intro X y B t T i f s G H E I l st A;subst y B t;obtain⟨S,m,C⟩:=A;obtain⟨L,O,p,D⟩:=I.list m;obtain⟨f0,f1,N,n,q,r⟩:=l it (by simp);have V:=O.length;exact wpAny_pyNext_list_end (I.ok.hd T) st p.isList (by simp;lia) λj M=>⟨rfl,I.turned (t':=s.toks) (λb o g e=>M b o g e) f0 f1 n q r⟩
 self:=λ_ _ _ _ _ st h=>wpAny_pyIter_listiter st h
def aeJ{P:jh}{w:iY}{K:jd}{tg:iM}(a it:iw):Turn P w K tg (Itt K a) [it] it (λi h=>h.IsTupleIter it a i) where
 mem:=by simp
 obj:=λi h st b g=>by
  have e:b=it:=by simpa using g
  subst e;obtain⟨o,e,c,d⟩:=st;exact⟨o,e,λv z=>by rw[d]at z;cases z⟩
 keep:=λi h l st k=>st.at λo e=>k it (by simp) o e
 item:=by intro X A C y T i f s G H E I m st B;subst A C y;obtain⟨S,x,n,L⟩:=B;obtain⟨j,O,p,D⟩:=I.tuple n;obtain⟨u,U,F⟩:=O.get L;obtain⟨f0,f1,N,q,r,t⟩:=m it (by simp);refine wpAny_pyNext_tuple_item st (show s.heap.IsTuple a j.toArray from p) (x:=u) (by simpa using U) λl Q R=>?_;have J:Inv X f G H {s with heap:=l}:=I.turned (t':=s.toks) (λb o g e=>(R.2 b g).trans e) f0 f1 q r t;obtain⟨o,e,c,d⟩:=id Q;exact⟨u,rfl,PY (s:={s with heap:=l}) e c d (by decide) ⟨x,H,J,F,⟨rfl,λW Y=>by rw[I.BI Y n];exact L⟩,Q,λb g=>(m b g).1⟩⟩
 done:=by intro X A C y T i f s G H E I m st B;subst A C y;obtain⟨S,n,L⟩:=B;obtain⟨j,O,p,D⟩:=I.tuple n;obtain⟨f0,f1,N,q,r,t⟩:=m it (by simp);have V:=O.length;exact wpAny_pyNext_tuple_end (I.ok.hd T) st (show s.heap.IsTuple a j.toArray from p) (by simp;lia) λl M=>⟨rfl,I.turned (t':=s.toks) (λb o g e=>M b o g e) f0 f1 q r t⟩
 self:=λ_ _ _ _ _ st h=>wpAny_pyIter_tupleiter st h
def aeK{P:jh}{w:iY}{K:jd}{Q:iM}(it:iw)(lo:Int)(n:Nat):Turn P w K Q (LY lo n) [it] it (λi h=>F2 h it (lo+(i:Nat)*1) ((n:Int)-(i:Nat)) 1) where
 mem:=by simp
 obj:=λi h st b c=>by
  have e:b=it:=by simpa using c
  subst e
  exact⟨_,st,λv z=>by have T:gj _=eU v:=z;cases T⟩
 keep:=λi h d st k=>k it (by simp) _ st
 item:=by intro X p u m q i a s A M E N f st r;subst p u m;obtain⟨f0,f1,L,g,j,l⟩:=f it (by simp);have W:=Walks.range (prog:=X.prog) (w:=X.w) (N.ok.hd q) it lo 1 n;refine W.item i s _ _ r st λv d y hv x O=>?_;obtain⟨t,rfl⟩:=hv;have B:Inv X a A M {s with heap:=d,toks:=y}:=N.turned (λb o c e=>O b o (by simpa using c) e) f0 f1 g j l;refine⟨_,rfl,PY (s:={s with heap:=d,toks:=y}) (n:="range_iterator") x C C (by decide) ⟨.int<|lo+i,M,B,⟨t,?_⟩,⟨rfl,rfl⟩,x,λb c=>(f b c).1⟩⟩;rw[DF]
 done:=by intro X p u m q i a s A M E N f st r;subst p u m;obtain⟨f0,f1,L,g,j,l⟩:=f it (by simp);exact wpAny_pyNext_range_end (N.ok.hd q) st (by have:n<=i:=r;lia) λd G=>⟨rfl,N.turned (t':=s.toks) (λb o c e=>G b o c e) f0 f1 g j l⟩
 self:=λ_ _ _ _ _ st h=>wpAny_pyIter_rangeiter st h
section
variable {X:Cx}{tg:iM}
def aat(K:jd)(c:TE):TI:=λe T R=>c e T λx b=>∃a,x=.ref a/\(∃d,Bx K b a d)/\R (Itl K a) b
def acz(K:jd)(c:TE):TI:=λe T R=>c e T λx b=>∃a,x=.ref a/\(∃d,EC K b a d)/\R (Itt K a) b
def Sk{l:iM}{f:TE}(i:PE X l f):PI X tg l (aat X.K f):=by
 intro c s r Q R T h;refine Q1 (i c s r Q _ T h) ?_;rintro v s1 ⟨x,H1,d,n,m⟩;obtain⟨a,e,⟨w,j⟩,q⟩:=m;subst e;cases n;obtain⟨k,u,p,t⟩:=d.list j;refine Aj p.isList ?_;refine⟨s1.heap.objs.size,[s1.heap.objs.size],_,_,H1,rfl,d.kept (t':=s1.toks) λb o e=>jX _ e,afA a _,⟨_,kF _ rfl,rfl,rfl⟩,λb g=>?_,q⟩;have e:b=s1.heap.objs.size:=by simpa using g
 subst e;exact d.I9 (jT _)<|d.hok.fresh<|jT _
def Wo{l:iM}{g:TE}(j:PE X l g):PI X tg l (acz X.K g):=by
 intro c s r Q R T h;refine Q1 (j c s r Q _ T h) ?_;rintro v s1 ⟨x,H1,d,n,m⟩;obtain⟨a,e,⟨w,k⟩,q⟩:=m;subst e;cases n;obtain⟨f,u,p,t⟩:=d.tuple k;refine Hu (show s1.heap.IsTuple a f.toArray from p) ?_;refine⟨s1.heap.objs.size,[s1.heap.objs.size],_,_,H1,rfl,d.kept (t':=s1.toks) λb o e=>jX _ e,aeJ a _,⟨_,kF _ rfl,rfl,rfl⟩,λb i=>?_,q⟩;have e:b=s1.heap.objs.size:=by simpa using i
 subst e;exact d.I9 (jT _)<|d.hok.fresh<|jT _
def Fw{c:jw}{g:St}{Q:Hp}{s:iB}{R:It->Hp->Prop}{E:jr}{lo a:Int}{t u v:oC}{f:Nat}(T:Inv X c g Q s)(h1: -(2^62)<=lo)(j:lo<2^62)(k: -(2^62)<=a)(l:a<2^62)
  (q:R (LY lo (a-lo).toNat) Q):af (am X.prog X.w) X.A (db<|.ref s.heap.objs.size) (PIE X c g tg R) E {s with heap:=s.heap.push {cls:=.type "range",data:=.fields #[.int lo t,.int a u,.int 1 v]},toks:=f}:=by
 refine wpAny_pyIter_range (IsRange.new ..) (small_one h1 j k l) ?_;have d:Inv X c g Q {s with heap:=s.heap.push {cls:=.type "range",data:=.fields #[.int lo t,.int a u,.int 1 v]},toks:=f}:=T.kept λb o e=>jX _ e
 refine⟨(s.heap.push {cls:=.type "range",data:=.fields #[.int lo t,.int a u,.int 1 v]}).objs.size,[(s.heap.push {cls:=.type "range",data:=.fields #[.int lo t,.int a u,.int 1 v]}).objs.size],_,_,Q,rfl,
  d.kept (t':=f) λb o e=>jX _ e,aeK _ lo (a-lo).toNat,?_,λb m=>?_,q⟩
 .have h:lo+((0:Nat):Int)*1=lo:=by simp
  have i:(((a-lo).toNat:Nat):Int)-((0:Nat):Int)=eJ lo a 1:=by rw[xc];split<;>lia
  show F2 _ _ (lo+((0:Nat):Int)*1) ((((a-lo).toNat:Nat):Int)-((0:Nat):Int)) 1;rw[h,i];exact kF _ rfl
 have e:b=(s.heap.push {cls:=.type "range",data:=.fields #[.int lo t,.int a u,.int 1 v]}).objs.size:=by simpa using m
 subst e;exact d.I9 (jT _)<|d.hok.fresh<|jT _
def aas(b:TA):TI:=λd T R=>b d T λc a=>∃j:Int,c=[.int j]/\ -(2^62)<=j/\j<2^62/\R (LY 0 j.toNat) a
def aar(b:TA):TI:=λd T R=>b d T λc a=>∃i j:Int,c=[.int i,.int j]/\(-(2^62)<=i/\i<2^62/\ -(2^62)<=j/\j<2^62)/\R (LY i (j-i).toNat) a
def agg{a:iM}{f:TA}{p c:bA}(k:Gl X "range")(l:X.mg "range"=I)(i:PA X [a] f)(m:aj [a] X.env=[(U,bh a X.env)]:=by rfl):PI X tg (.Call (.Name "range" p) [a] [] c) (aas f):=by
 intro b s v Q R T h;refine Call_<|qx T k l DE<|DD (Q1 (i c b s v Q _ T h) ?_) m C;rintro us s1 ⟨w,H1,g,o,d⟩;obtain⟨j,e,d,n,q⟩:=d;subst e
 cases o with
 |cons r u=>
  cases u;obtain⟨t,rfl⟩:=r;exact call_range_1<|Fw g (by lia) (by lia) d n (by simpa using q)
def agf{a b:iM}{l:TA}{p d:bA}(o:Gl X "range")(u:X.mg "range"=I)(n:PA X [a,b] l)(v:aj [a,b] X.env=[(U,bh a X.env),(U,bh b X.env)]:=by rfl)(k:aj [b] X.env=[(U,bh b X.env)]:=by rfl):
  PI X tg (.Call (.Name "range" p) [a,b] [] d) (aar l):=by
 intro c s B Q R T h;refine Call_<|qx T o u DE<|DD (Q1 (n d c s B Q _ T h) λL s1 M=>?_) (by rw[v,k]) (by rw[k];rfl);obtain⟨O,N,m,A,f⟩:=M;obtain⟨i,j,e,⟨f,w,x,y⟩,q⟩:=f;subst e
 cases A with
 |cons r g=>
  cases g with
  |cons z g=>
   cases g;obtain⟨t,rfl⟩:=r;obtain⟨E,rfl⟩:=z;exact z0<|Fw m f w x y q
def abK(j:TI)(g:TG)(tb:TS):TS:=λD a Q=>j a Q λT f=>∃W:Nat->Nat->St->Hp->Prop,(∃m,W 0 m a f)/\∀i m a Q,W i m a Q->
 (T.stop i Q/\D.nx a Q)\/(T.go i Q/\∃N:St->Hp->Prop,(∀c b,N c b->∃e,e<m/\W (i+1) e c b)/\∀x b,T.yld i Q x b->g x a b λd h=>tb {D with nx:=N,ct:=N,bk:=D.nx} d h)
noncomputable def AB(a:la)(h:jb):List (iw×el):=a.filterMap λb=>(h.get? b).map λo=>(b,o)
def rR{a:la}{h:jb}{b:iw}{o:el}(c:b∈a)(e:h.get? b=Y o):(b,o)∈AB a h:=c7.mpr ⟨b,c,by rw[e];rfl⟩
def agq{a:la}{h:jb}{p:iw×el}(f:p∈AB a h):p.1∈a/\h.get? p.1=Y p.2:=by
 obtain⟨b,d,e⟩:=c7.mp f
 cases q:h.get? b with
 |none=>rw[q]at e;cases e
 |some o=>rw[q]at e;have c:(b,o)=p:=kZ e;subst c;exact⟨d,q⟩
def Inv.pinned{a:jw}{h:St}{Q:Hp}{s:iB}{c:la}(T:Inv X a h Q s)(j:∀b∈c,uG X a Q b)(k:∀b∈c,∃o,s.heap.get? b=Y o/\∀v,o.data≠ .cell v):Inv X (a++AB c s.heap) h Q s:=
 T.D6 λp l=>(pk.mp l).elim (λz=>T.pin p<|pd _ z) λz=>by obtain⟨g,e⟩:=agq z;obtain⟨f0,f1,i,_⟩:=j p.1 g;obtain⟨o,f,d⟩:=k p.1 g;rw[e]at f;cases f;exact⟨e,f0,f1,i,d⟩
def Inv.B2{a d:jw}{b:St}{Q:Hp}{s:iB}(T:Inv X (a++d) b Q s):Inv X a b Q s:=T.D6 λp c=>T.pin p<|pd _ (DI _ c)
def Wj{iter:iM}{y:List bi}{wi:TI}{g:TG}{tb:TS}{Q:bA}(C:eI (am X.prog X.w) X.A X.env X.xe)(hc:X.calm=IN)(hi:PI X tg iter wi)(hg:PG X tg g)(l:D5 X y tb)
  (hs:∀x,aB iter X.env x=pure x:=by intro _;rfl):PS X (.For tg iter y [] Q) (abK wi g tb):=by
 intro a s Z H D I h;refine wpAny_For (Q1 (hi a s Z H _ I h) λv s1 h1=>Q1 h1 λdz s2 h2=>?_) hs;obtain⟨it,B,V,J,H2,e,I2,T,aJ,P,W,⟨m0,w0⟩,turn⟩:=h2;subst e;have M:∀{t:Hp},(∀b∈B,t b=Ix)->∀b∈B,uG X a t b:=λhn b l=>⟨hn b l,(P b l).2⟩
 refine codeAny_forLoop_any (λn R=>∃i p t,Inv X a p t R/\V i R.heap/\(∀b∈B,t b=Ix)/\W i n p t) ?_ m0 ⟨0,Z,H2,I2,aJ,λb l=>(P b l).1,w0⟩;rintro n S ⟨i,q,L,Y,K,F,w3⟩;rcases turn i n q L w3 with⟨stop,qn⟩|⟨go,N,hN,step⟩
 .refine vW C (Q1 (T.done X IR IR IR hc i a S q L X.xe Y (M F) K stop) ?_);rintro r s4 ⟨O,I4⟩;subst O;exact Hw ⟨q,L,I4,qn⟩
 refine vW C (Q1 (T.item X IR IR IR hc i a S q L X.xe Y (M F) K go) ?_);rintro r s4 ⟨u,O,h4⟩;subst O;refine vW C<|Q1 h4 ?_;rintro _ s5 ⟨x,U',I5,r5,y5,cj,hG⟩;have iu:=I5.pinned (M hG)<|T.obj _ _ cj;refine vW C<|Q1 (hg _ s5 q U' x u _ iu r5 (step x U' y5)) ?_;rintro _ s6 ⟨σ6,H6,I6,q6⟩;refine vW C (Q1 (l _ s6 σ6 H6 _ I6 q6) λf G z=>?_)
 have again:∀{c:St}{j:Hp},Inv X (a++AB B s5.heap) c j G->N c j->∃m,m<n/\∃i p t,Inv X a p t G/\V i G.heap/\(∀b∈B,t b=Ix)/\W i m p t:=λ{c j} k E=>by obtain⟨m',hm,w7⟩:=hN c j E;refine⟨m',hm,i+1,c,j,k.B2,T.keep _ _ _ cj λb l o e=>(k.pin (b,o)<|pd _ (pd _ (rR l e))).1,λb l=>?_,w7⟩;obtain⟨o,e,d⟩:=T.obj _ _ cj b l;exact(k.pin (b,o)<|pd _ (pd _ (rR l e))).2.1
 cases f with
 |next=>obtain⟨c,j,k,E⟩:=z;exact again k E
 |cont=>obtain⟨c,j,k,E⟩:=z;exact again k E
 |brk=>obtain⟨c,j,k,z⟩:=z;exact⟨c,j,k.B2,z⟩
 |ret v=>obtain⟨x7,c,j,k,r7,z⟩:=z;exact⟨x7,c,j,k.B2,r7,z⟩
end
abbrev R2:=V->V->Hp->VK->Prop
def AD(X:Cx)(f:yX)(r:R2):Prop:=
 ∀(a:jw)(s:iB)(b:St)(T:Hp)(x y:V)(v u:iI)(Q:VK),Inv X a b T s->RelV x v->RelV y u->r x y T Q->
  af (am X.prog X.w) X.A (f v u) (EP X a b Q) X.xe s
def Lq(X:Cx)(f:iI->dq iI)(r:V->Hp->VK->Prop):Prop:=
 ∀(a:jw)(s:iB)(b:St)(T:Hp)(x:V)(v:iI)(Q:VK),Inv X a b T s->RelV x v->r x T Q->
  af (am X.prog X.w) X.A (f v) (EP X a b Q) X.xe s
def lh(X:Cx)(f:iI)(r:List V->Hp->VK->Prop):Prop:=
 ∀(a:jw)(s:iB)(d:St)(T:Hp)(c:List V)(b:jS)(Q:VK),Inv X a d T s->Vals c b->r c T Q->
  af (am X.prog X.w) X.A (call f b) (EP X a d Q) X.xe s
noncomputable def KD(r:R2)(d tb:TE):TE:=λa T Q=>d a T λx b=>tb a b λy c=>r x y c Q
def tUn(r:V->Hp->VK->Prop)(b:TE):TE:=λc T Q=>b c T λx a=>r x a Q
def rI(O:Int->Int->Prop)(g:Int->Int->V):R2:=λx y T Q=>∃i j,x=.int i/\y=.int j/\O i j/\Q (g i j) T
def IJ(g:Int->Int->V):R2:=λx y T Q=>∃i j,x=.int i/\y=.int j/\Q (g i j) T
def rU(g:Int->V):V->Hp->VK->Prop:=λx T Q=>∃i,x=.int i/\Q (g i) T
section
variable {X:Cx}{a b c:iM}{ta tb tc:TE}{pos:bA}
def XJ(o:PE X a ta)(p:PE X b tb){d:jw}{s:iB}{g:St}{O:Hp}{R:V->V->Hp->Prop}(T:Inv X d g O s)
  (h:ta g O λx l=>tb g l λy e=>R x y e){Q:jr}{f:yX}
  (q:∀v u k x y e,Inv X d g e k->RelV x v->RelV y u->R x y e->af (am X.prog X.w) X.A (f v u) Q X.xe k):
  af (am X.prog X.w) X.A (bh a X.env) (λv i=>af (am X.prog X.w) X.A (bh b X.env) (λu j=>af (am X.prog X.w) X.A (f v u) Q X.xe j) X.xe i) X.xe s:=by
 refine Q1 (o d s g O _ T h) ?_;rintro v s1 ⟨x,l,m,z,r⟩;refine Q1 (p d s1 g l _ m r) ?_;rintro u k ⟨y,e,n,B,t⟩;exact q v u k x y e n z B t
def ZU{e:Operator}{r:R2}(k:AD X (bK e) r)(i:PE X a ta)(j:PE X b tb):PE X (.BinOp a e b pos) (KD r ta tb):=by intro d s o O Q T h;exact wpAny_BinOp<|XJ i j T h λv u n x y f g l m q=>k d n o f x y v u Q g l m q
def ZS{e:UnaryOp}{r:V->Hp->VK->Prop}(k:Lq X (x6 e) r)(j:PE X a ta):PE X (.UnaryOp e a pos) (tUn r ta):=by intro d s f O Q T h;exact UnaryOp_ (Q1 (j d s f O _ T h) λv s1 N=>by obtain⟨x,g,i,m,l⟩:=N;exact k d s1 f g x v Q i m l)
def Li{f:yX}{N:Int->Int->Prop}{g:Int->Int->Int}
  (rule:∀(i j:Int)(t u:oC)(s:iB)(Q:jr)(E:jr),N i j->Q (.int (g i j) s.toks) {s with toks:=s.toks+1}->af (am X.prog X.w) X.A (f (.int i t)<|.int j u) Q E s):
  AD X f (rI N λi j=>.int (g i j)):=by
 intro d s n O x y v u Q T k l h;obtain⟨i,j,rfl,rfl,e,q⟩:=h;obtain⟨t,rfl⟩:=k;obtain⟨m,rfl⟩:=l;exact rule i j t m s _ _ e ⟨.int<|g i j,O,T.tok _,⟨_,rfl⟩,q⟩
def Z4{f:yX}{g:Int->Int->Int}
  (rule:∀(i j:Int)(t u:oC)(s:iB)(Q:jr)(E:jr),Q (.int (g i j) s.toks) {s with toks:=s.toks+1}->af (am X.prog X.w) X.A (f (.int i t)<|.int j u) Q E s):
  AD X f (IJ λi j=>.int (g i j)):=by
 intro d s m O x y v u Q T e k h;obtain⟨i,j,rfl,rfl,q⟩:=h;obtain⟨t,rfl⟩:=e;obtain⟨l,rfl⟩:=k;exact rule i j t l s _ _ ⟨.int<|g i j,O,T.tok _,⟨_,rfl⟩,q⟩
def SY{f:yX}{g:Int->Int->Bool}
  (rule:∀(i j:Int)(t u:oC)(s:iB)(Q:jr)(E:jr),Q (.bool<|g i j) s->af (am X.prog X.w) X.A (f (.int i t)<|.int j u) Q E s):
  AD X f (IJ λi j=>.bl (g i j)):=by
 intro d s m O x y v u Q T e k h;obtain⟨i,j,rfl,rfl,q⟩:=h;obtain⟨t,rfl⟩:=e;obtain⟨l,rfl⟩:=k;exact rule i j t l s _ _ ⟨.bl<|g i j,O,T,rfl,q⟩
def Ma(i j:Int):Prop:=0<j/\j<1073741824
def EM(i j:Int):Prop:=0<=j/\j<=1000000/\i.natAbs<2^64
def B9(i j:Int):Prop:=(-(2^64)<i/\i<2^64)\/(-(2^64)<j/\j<2^64)
def B9.ok{i j:Int}(h:B9 i j):IntMulOk i j:=by
 rcases h with⟨h1,d⟩|⟨h1,d⟩
 .exact .of_left (xf h1 d)
 exact .of_right (xf h1 d)
def WI:AD X (bK .Add) (IJ λi j=>.int (i+j)):=Z4 λ_ _ _ _ _ _ _ q=>add_int q
def WB:AD X (bK .Sub) (IJ λi j=>.int (i-j)):=Z4 λ_ _ _ _ _ _ _ q=>sub_int q
def WE:AD X (bK .Mult) (rI B9 λi j=>.int (i*j)):=Li λ_ _ _ _ _ _ _ d q=>mul_int q d.ok
def SV:AD X (bK .FloorDiv) (rI Ma λi j=>.int (i / j)):=Li λi j _ _ _ _ _ d q=>by have h1:(0:Int)<j:=d.1;have e:j<1073741824:=d.2;exact floordiv_int (by lia) (by rw[Int.fdiv_eq_ediv_of_nonneg i<|by lia];exact q)<|.inl<|PyProof.noPylong_small (by lia)
def WG:AD X (bK .Mod) (rI (λ_ j=>0<j) λi j=>.int (i%j)):=Li λi j _ _ _ _ _ d q=>by have h1:(0:Int)<j:=d;exact mod_int' (by lia) (by rw[Int.fmod_eq_emod_of_nonneg i<|by lia];exact q)
def WC:AD X (bK .Pow) (rI EM λi j=>.int (i^j.toNat)):=Li λ_ _ _ _ _ _ _ d q=>pow_int_small d.1 d.2.1 d.2.2 q
def unI{f:iI->dq iI}{g:Int->Int}
  (rule:∀(i:Int)(t:oC)(s:iB)(Q:jr)(E:jr),Q (.int (g i) s.toks) {s with toks:=s.toks+1}->af (am X.prog X.w) X.A (f<|.int i t) Q E s):
  Lq X f (rU λi=>.int (g i)):=by
 intro d s j O x v Q T e h;obtain⟨i,rfl,q⟩:=h;obtain⟨t,rfl⟩:=e;exact rule i t s _ _ ⟨.int<|g i,O,T.tok _,⟨_,rfl⟩,q⟩
def VA:Lq X (x6 .USub) (rU λi=>.int (-i)):=unI λ_ _ _ _ _ q=>neg_int q
def Et{d:jw}{g:St}{O:Hp}{s:iB}{Q:VK}{k f:Bool}(T:Inv X d g O s)(q:Q (.bl k) O)(e:k=f):EP X d g Q (.bool f) s:=by subst e;exact⟨.bl k,O,T,rfl,q⟩
def Z0:AD X (aA .Lt) (IJ λi j=>.bl (decide<|i<j)):=SY λ_ _ _ _ _ _ _ q=>lt_int q
def Z1:AD X (aA .LtE) (IJ λi j=>.bl (decide<|i<=j)):=SY λ_ _ _ _ _ _ _ q=>le_int q
def Z2:AD X (aA .Gt) (IJ λi j=>.bl (decide<|j<i)):=SY λ_ _ _ _ _ _ _ q=>gt_int q
def Z3:AD X (aA .GtE) (IJ λi j=>.bl (decide<|j<=i)):=SY λ_ _ _ _ _ _ _ q=>ge_int q
def OL:AD X (aA .Is) (λx y O Q=>y=.VP/\Q (.bl<|decide<|x=.VP) O):=by
 intro d s g O x y v u Q T e f h;obtain⟨rfl,q⟩:=h;cases f;refine is_none_gen<|Et T q ?_
 cases x<;>first
  |(cases e;rfl)
  |(obtain⟨t,rfl⟩:=e;rfl)
def JS:AD X (aA .IsNot) (λx y O Q=>y=.VP/\Q (.bl (!decide (x=.VP))) O):=by
 intro d s g O x y v u Q T e f h;obtain⟨rfl,q⟩:=h;cases f;refine isnot_none_gen<|Et T q ?_
 cases x<;>first
  |(cases e;rfl)
  |(obtain⟨t,rfl⟩:=e;rfl)
def OU(b:iM){d:cc}(h:d≠ .In:=by decide)(e:d≠ .NotIn:=by decide):c3 d b=U:=OV b h e
def Sq{e:cc}{r:R2}(l:AD X (aA e) r)(i:PE X a ta)(j:PE X b tb)(k:c3 e b=U):PE X (.Compare a [e] [b] pos) (KD r ta tb):=by intro d s p O Q T h;exact wpAny_Compare1 (XJ i j T h λv u o x y f g m n q=>l d o p f x y v u Q g m n q) k
def Uv(t:TE):TT:=λe T Q=>t e T λx d=>∃k,x=.bl k/\Q k d
def Sa{g:cc}{r:R2}(A:AD X (aA g) r)(q:PE X a ta)(t:PE X b tb)(w:c3 g b=U):PT X (.Compare a [g] [b] pos) (Uv<|KD r ta tb):=by intro d s i H Q N h;refine wpAny_isTrue_Compare1 (Q1 (q d s i H _ N h) λv s1 f=>?_) w;obtain⟨x,j,n,L,B⟩:=f;refine Q1 (t d s1 i j _ n B) λu G f=>?_;obtain⟨y,l,o,O,C⟩:=f;refine Q1 (A d G i l x y v u _ o L O C) λc M f=>?_;obtain⟨z,m,p,T,k,e,E⟩:=f;subst e;cases T;exact tw ⟨m,p,E⟩
def HF(r i:R2)(ta tb tc:TE):TE:=λd T Q=>ta d T λx f=>tb d f λy g=>r x y g λz e=>∃k,z=.bl k/\
 (if k=J then tc d e λj h=>i y j h Q else Q (.bl U) e)
def OB{l j:cc}{r p:R2}(M:AD X (aA l) r)(L:AD X (aA j) p)(O:PE X a ta)(T:PE X b tb)(G:PE X c tc)
  (J:gB [l,j] [b,c]=IP:=by with_unfolding_all rfl):PE X (.Compare a [l,j] [b,c] pos) (HF r p ta tb tc):=by
 intro f s i H Q I h;refine Compare_chain (Q1 (O f s i H _ I h) λv s1 g=>?_) J;obtain⟨x,t,B,D,N⟩:=g;refine chain_link<|Q1 (T f s1 i t _ B N) λu K g=>?_;obtain⟨y,w,C,q,U⟩:=g;refine Q1 (M f K i w x y v u _ C D q U) λd P g=>?_;obtain⟨z,m,n,F,k,e,o⟩:=g;subst e;cases F;refine tw ?_
 cases k
 .exact ite_ff ⟨.bl IP,m,n,rfl,o⟩
 exact ite_tt<|chain_last (Q1 (G f P i m _ n o) λw' s4 a'=>by obtain⟨z',A,E,r4,Y'⟩:=a';exact L f s4 i A y z' u w' Q E q r4 Y')
def N4{l j:cc}{r p:R2}(ho:AD X (aA l) r)(T:AD X (aA j) p)(M:PE X a ta)(N:PE X b tb)(U:PE X c tc)
  (Y:gB [l,j] [b,c]=IP:=by with_unfolding_all rfl):PT X (.Compare a [l,j] [b,c] pos) (Uv<|HF r p ta tb tc):=by
 intro f s i H Q I h;refine isTrue_chain (Q1 (M f s i H _ I h) λv s1 g=>?_) Y;obtain⟨x,t,C,S,F⟩:=g;refine test_link<|Q1 (N f s1 i t _ C F) λu s2 g=>?_;obtain⟨y,w,E,q,K⟩:=g;refine Q1 (ho f s2 i w x y v u _ E S q K) λd s3 g=>?_;obtain⟨z,m,n,V,k,e,o⟩:=g;subst e;cases V;refine tw ?_
 cases k
 .obtain⟨k',G,D⟩:=o;cases G;exact ite_ff ⟨m,n,D⟩
 refine ite_tt<|test_last<|Q1 (U f s3 i m _ n o) λw' s4 g=>?_;obtain⟨z',A,L,W,P⟩:=g;refine Q1 (T f s4 i A y z' u w' _ L q W P) λd' s5 g=>?_;obtain⟨z2,B,O,Z,k2,J,R⟩:=g;subst J;cases Z;exact tw ⟨B,O,R⟩
def Ed:(sizeLine:Nat)<2^63:=by rw[kD];decide
def ae9:AD X (bK .Add) (λx y O Q=>∃i j,x=.str i/\y=.str j/\i.length+j.length<=sizeLine/\Q (.str<|i++j) O):=by intro d s l O x y v u Q T f g h;obtain⟨i,j,rfl,rfl,e,q⟩:=h;obtain⟨t,rfl⟩:=f;obtain⟨t',rfl⟩:=g;exact add_str (λt' k=>⟨.str<|i++j,O,T.tok _,⟨_,rfl⟩,q⟩) e
inductive Vl1(x:V)(us:jS):Prop where
 |mk (u:iI) (_:us=[u]) (_:RelV x u)
inductive Vl2(x y:V)(us:jS):Prop where
 |mk (u w:iI) (_:us=[u,w]) (_:RelV x u) (_:RelV y w)
def qZ{x:V}{d:jS}(r:Vals [x] d):Vl1 x d:=by
 cases r with
 |cons e f=>cases f;exact⟨_,rfl,e⟩
def Fc{x y:V}{d:jS}(r:Vals [x,y] d):Vl2 x y d:=by
 cases r with
 |cons e f=>
  cases f with
  |cons g h=>cases h;exact⟨_,_,rfl,e,g⟩
def QD:lh X (.builtin "abs") (λe O Q=>∃i,e=[.int i]/\Q (.int (if i<0 then -i else i)) O):=by intro d s j O e g Q T r h;obtain⟨i,rfl,q⟩:=h;obtain⟨u,rfl,t,rfl⟩:=qZ r;exact AT λu f=>⟨.int (if i<0 then -i else i),O,T.tok _,⟨_,rfl⟩,q⟩
def agc(g:X.calm=J):lh X (.builtin "max") (λf O Q=>∃i j,f=[.int i,.int j]/\Q (.int (if j>i then j else i)) O):=by
 intro e s v O f o Q T r h;obtain⟨i,j,rfl,q⟩:=h;obtain⟨u,p,rfl,⟨t,rfl⟩,⟨m,rfl⟩⟩:=Fc r;refine max_two_ints (T.ok.hd g) λl n k=>⟨_,O,T.kept k,?_,q⟩
 by_cases d:j>i
 .rw[iQ d,iQ d];exact⟨_,rfl⟩
 rw[je d,je d];exact⟨_,rfl⟩
def agb(g:X.calm=J):lh X (.builtin "min") (λf O Q=>∃i j,f=[.int i,.int j]/\Q (.int (if j<i then j else i)) O):=by
 intro e s v O f o Q T r h;obtain⟨i,j,rfl,q⟩:=h;obtain⟨u,p,rfl,⟨t,rfl⟩,⟨m,rfl⟩⟩:=Fc r;refine min_two_ints (T.ok.hd g) λl n k=>⟨_,O,T.kept k,?_,q⟩
 by_cases d:j<i
 .rw[iQ d,iQ d];exact⟨_,rfl⟩
 rw[je d,je d];exact⟨_,rfl⟩
def CV:lh X (.type "int") (λd O Q=>(∃i,d=[.int i]/\Q (.int i) O)\/∃k,d=[.bl k]/\Q (.int (if k then 1 else 0)) O):=by
 intro e s j O d g Q T r h;rcases h with⟨i,rfl,q⟩|⟨k,rfl,q⟩
 .obtain⟨u,rfl,t,rfl⟩:=qZ r;exact call_int_int ⟨.int i,O,T,⟨_,rfl⟩,q⟩
 obtain⟨u,rfl,f⟩:=qZ r;cases f;exact call_int_bool ⟨.int (if k then 1 else 0),O,T.tok _,⟨_,rfl⟩,q⟩
end
section
variable {a:jh}{w:iY}{A:iU}{E:jr}{s:iB}{K:jd}{x d C f:iw}{c:mE}{b:aE}{v:iI}
end
def En.some_of{v:V}{o:Option iI}(r:En (Y v) o):∃u,o=Y u/\RelV v u:=by
 cases o with
 |none=>exact(show False from r).elim
 |some u=>exact⟨u,rfl,r⟩
section
variable {P:jh}{w:iY}{H e:Hp}{h b:jb}{a C d:iw}{fs c:List (aE×V)}
end
section
variable {X:Cx}{b:jw}{c:St}{H:Hp}{s:iB}{a C d:iw}{fs:List (aE×V)}{f:aE}{v:V}{A:iU}{E:jr}
end
section
variable {X:Cx}{o e a:iM}{f:aE}{c b h:bA}{g d:TE}
end
section
variable {X:Cx}{a:jw}{d:St}{H:Hp}{s:iB}{A:iU}{E:jr}{Q:jr}{c:iI}{b:Bool}
end
structure OO(k:Nat)(A:iU):Prop where
 hd:A.handled=Ix
 dp:A.depth+3*k+5<recursionLimit
 un:A.units+16*k+200<aT
 gd:A.guards=Go []:=by rfl
def OO.mono{j k:Nat}{A:iU}(r:OO k A)(h:j<=k):OO j A:=⟨r.hd,by have:=r.dp;lia,by have:=r.un;lia,r.gd⟩
def OO.deeper{k:Nat}{A:iU}(r:OO (k+1) A)(a:dk):OO k (A.deeper a):=
 ⟨r.hd,by have:=r.dp;show A.depth+1+3*k+5<_;lia,by have:=r.un;show A.units+3+16*k+200<_;lia,r.gd⟩
def OO.depth{k:Nat}{A:iU}(r:OO k A):A.depth<recursionLimit:=by have:=r.dp;lia
noncomputable def abG:TA:=λ_ T Q=>Q [] T
noncomputable def Zv(d:TE)(e:TA):TA:=λa T Q=>d a T λx b=>e a b λf c=>Q (x::f) c
section
variable {X:Cx}{e:iM}{c:kI}{d:TE}{t:TA}{a:bA}
def ug:PA X [] abG:=λ_ _ _ _ O Q T h=>Ht ⟨[],O,T,.nil,h⟩
def pv(k:PE X e d)(l:PA X c t)(m:aj (e::c) X.env=(U,bh e X.env)::aj c X.env:=by rfl):PA X (e::c) (Zv d t):=by intro a b s f O Q T h;rw[m];show af _ _ (g8 ((U,bh e X.env)::aO a (aj c X.env))) _ _ s;refine DC<|Q1 (k b s f O _ T h) ?_;rintro u s1 ⟨x,H1,i,p,n⟩;exact Q1 (l a b s1 f H1 _ i n) λw v ⟨r,g,j,q,o⟩=>⟨x::r,g,j,.cons p q,o⟩
def abB(t:TA):TE:=λg T Q=>t g T λf b=>IX f<=sizeLine/\∀p,b p=I->Q (.ref p) (upd b p<|.tup f)
def abH(t:TA):TE:=λg T Q=>t g T λf b=>IX f<=sizeLine/\∀p,b p=I->Q (.ref p) (upd b p<|.lst f)
def Wr{x1}(h:PA X c t):PE X (.Tuple c x1 a) (abB t):=by intro f s n O Q T k;refine wpAny_Tuple_spliced<|Q1 (h a f s n O _ T k) λl s1 ⟨m,g,i,r,z,q⟩=>⟨by rw[<-r.length];exact z,?_⟩;have j:g s1.heap.objs.size=I:=i.hok.fresh<|jT _;refine⟨.ref s1.heap.objs.size,upd g s1.heap.objs.size<|.tup m,i.laid (t':=s1.toks) (λb u e=>jX _ e) (jT _) ?_,rfl,q _ j⟩;exact⟨z,l,r,DQ.new _ _⟩
def Wv(h:PA X c t):PE X (.List c a) (abH t):=by intro f s n O Q T k;refine wpAny_List_spliced<|Q1 (h a f s n O _ T k) λl s1 ⟨m,g,i,r,z,q⟩=>⟨by rw[<-r.length];exact z,?_⟩;have j:g s1.heap.objs.size=I:=i.hok.fresh<|jT _;refine⟨.ref s1.heap.objs.size,upd g s1.heap.objs.size<|.lst m,i.laid (t':=s1.toks) (λb u e=>jX _ e) (jT _) ?_,rfl,q _ j⟩;exact⟨z,l,0,r,kF _ rfl⟩
end
abbrev Sp:=List V->Hp->VK->XK->Prop
abbrev HB:=List dk->Hp->iB->XK->iI->iB->Prop
structure Eo(P:jh)(w:iY)(K:jd)(mg:mE)(base:jb)(A:iU)(outer:List dk)(s:iB)(H:Hp):Prop where
 frames:A.frames=Go outer
 mod:Mod K mg base
 bs:∀b o,base.get? b=Go o->s.heap.get? b=Go o/\H b=Ix
 bsz:base.objs.size<=s.heap.objs.size
 BQ:s.heap.FunFrames base outer
 frf:∀b∈H9 outer,H b=Ix
 hok:BW P w H s.heap
 bare:ej s.gens
inductive CE(outer:List dk)(P:jh)(w:iY)(H:Hp)(s:iB)(Q:VK)(u:iI)(s':iB):Prop where
 |mk (v:V) (H':Hp) (_:s'.os=s.os) (_:ej s'.gens) (_:Un (H9 outer) [] H H' s.heap s'.heap) (_:BW P w H' s'.heap) (_:RelV v u) (_:Q v H')
def CR(CX:HB)(a:List dk)(P:jh)(w:iY)(T:Hp)(s:iB)(Q:VK)(E:XK)(r:io)(b:iB):Prop:=
 match r with
 |.ok (.ret u)=>CE a P w T s Q u b
 |.ok _=>False
 |.error e=>CX a T s E e b
structure BF(P:jh)(w:iY)(K:jd)(mg:mE)(base:jb)(CX:HB)(k:Nat)(f:iw)(fd:nK)(ps:ji)(sp:Sp):Prop where
 len:∀vs H Q E,sp vs H Q E->IX vs=IX ps
 run:∀(A:iU)(outer:List dk)(s:iB)(H:Hp)(args:Args)(us:jS)(vs:List V)(Q:VK)(E:XK),OO k A->Eo P w K mg base A outer s H->fD s fd args (ps.zip us)->Vals vs us->sp vs H Q E->
  b4 (am P w) A (.call (.ref f) args) (CR CX outer P w H s Q E) s
def BF.mono{P:jh}{w:iY}{K:jd}{e:mE}{base:jb}{c:HB}{j k:Nat}{f:iw}{d:nK}{g:ji}{i:Sp}(F:BF P w K e base c j f d g i)(h:j<=k):
  BF P w K e base c k f d g i:=⟨F.len,λA a s T b m n Q E l=>F.run A a s T b m n Q E<|l.mono h⟩
section
variable {X:Cx}{a:jw}{c:St}{H:Hp}{s e:iB}
def Inv.KU(T:Inv X a c H s):Eo X.prog X.w X.K X.mg X.base X.A X.stack s H:=
 ⟨T.ok.frames,T.ok.mod,T.bs,mq T.ok.bsz T.sz,T.stack,T.HP,T.hok,T.bare⟩
def Inv.after{Q:VK}{u:iI}(T:Inv X a c H s)(h:CE X.stack X.prog X.w H s Q u e):EP X a c Q u e:=by obtain⟨v,j,os,f,un,i,r,q⟩:=h;obtain⟨l,g,d,t,k⟩:=e;obtain rfl:k=s.os:=os;exact⟨v,j,T.call (h':=l) (g':=g) (d':=d) (t':=t) (ch:=[]) un i f λb z=>absurd z<|by simp,r,q⟩
end
noncomputable def Ux(c:Sp)(b:List V)(E:XK)(t:TA):TE:=λe T Q=>t e T λd a=>c (d++b) a Q E
def Binds(K:jd)(d:nK)(c:ji)(b:jS):Prop:=
 ∀(s:iB)(a:jS),K.In s.heap->(a++b).length=IX c->fD s d ⟨a,[]⟩ (c.zip<|a++b)
def Binds.all{K:jd}{c:nK}{b:ji}(h:∀a:List iI,IX a=IX b->dh c ⟨a,[]⟩=pure (b.zip a)):Binds K c b []:=λs a _ d=>by rw[wN]at d ⊢;exact .of_eq<|h a d
def Jm(c:HB)(X:Cx)(E:XK):Prop:= ∀(a:jw)(d:St)(T:Hp)(s:iB)(e:iI)(b:iB),Inv X a d T s->c X.stack T s E e b->X.xe e b
section
variable {X:Cx}{l:HB}{k:Nat}{f C:iw}{j:nK}{d:ji}{i:Sp}{c:List V}{b:jS}{E:XK}{x m:aE}{p a n:bA}{e o:iM}{g:kI}{v:TE}{t:TA}
def NQ{q:jw}{L:St}{H:Hp}{s:iB}{Q:VK}{y:jS}{B:List V}(F:BF X.prog X.w X.K X.mg X.base l k f j d i)(M:OO k X.A)(G:Binds X.K j d b)(hd:Vals c b)(N:Jm l X E)
  (I:Inv X q L H s)(r:Vals B y)(h:i (B++c) H Q E):af (am X.prog X.w) X.A (call (.ref f) y) (EP X q L Q) X.xe s:=by
 have O:Vals (B++c) (y++b):=r.append hd;have J:(y++b).length=d.length:=by rw[<-O.length];exact F.len _ _ _ _ h
 refine yu<|ql (F.run X.A X.stack s H ⟨y,[]⟩ (y++b) (B++c) Q E M I.KU (G s y I.F1 J) O h) λr U z=>?_
 cases r with
 |error e=>exact N q L H s e U I z
 |ok T=>
  cases T with
  |ret u=>exact I.after z
  |next=>exact aR z
  |brk=>exact aR z
  |cont=>exact aR z
def Su(F:BF X.prog X.w X.K X.mg X.base l k f j d i)(J:OO k X.A)(T:Gl X x)(G:X.mg x=Y (.ref f))(hk:ce X.K (.ref f)=IN)(L:Binds X.K j d b)(hd:Vals c b)(M:Jm l X E)
  (B:PA X (e::g) t)(N:(x==("__debug__":aE))=IP:=by decide)(O:aj (e::g) X.env=(IP,bh e X.env)::aj g X.env:=by rfl)(z:(aO a<|aj g X.env).any (·.1)=IP:=by rfl):
  PE X (.Call (.Name x p) (e::g) [] a) (Ux i c E t):=by
 intro u s U H Q I h;refine vB<|zI I T G ?_ N;refine ga (h₀:=X.base) I.ok.mod.kin hk (Q1 (B a u s U H _ I h) λus s1 ⟨vs,Y',y,r,q⟩=>⟨y.F1,?_⟩) O z;exact NQ F J L hd M y r q
end
section
variable {X:Cx}{w:HB}{k:Nat}{f C:iw}{s:nK}{l q:ji}{j:Sp}{E:XK}{x m:aE}{p c b a:bA}{e o:iM}{u:kI}{v:List qs}{h i:TE}{t d:TA}{n:Option aE}
variable {g:List iI->List iI->List iI}{r:List V->List V->List V}
end
structure R1(N P:ji)(sc:ju):Prop where
 kind:sc.kind=.function
 co:sc.isCoroutine=IP
 gen:sc.isGenerator=IP
 nd:N.Nodup
 pre:N.take P.length=P
 par:∀x∈P,sc.names.lookup x=Go .local\/sc.names.lookup x=Go .cell
 nofree:∀y∈sc.names,y.2≠ .free
theorem CY{kindOf:aE->Option NameKind}{x:aE}:∀{binds:List (aE×iI)}{m:mE},(∀v,(x,v)∉binds)->gE kindOf binds m x=m x
 |[],_,_=>rfl
 |(n,v)::r,m,h=>by
  unfold gE;rw[CY λw a=>h w<|kO _ a];split
  .have:x≠n:=by rintro rfl;exact h v ky
   simp[this]
  rfl
theorem C0{kindOf:aE->Option NameKind}{x:aE}:∀{binds:List (aE×iI)}{m:mE},(∀v,(x,v)∉binds)->gM kindOf binds m x=m x
 |[],_,_=>rfl
 |(n,v)::r,m,h=>by
  unfold gM;rw[C0 λw a=>h w<|kO _ a];split
  .rfl
  have:x≠n:=by rintro rfl;exact h v ky
  simp[this]
theorem CZ{kindOf:aE->Option NameKind}{x:aE}{v:iI}:∀{P:ji}{a:jS}{i:Nat}{m:mE},P.Nodup->P[i]?=Y x->a[i]?=Y v->kindOf x=Y .local->
  gE kindOf (P.zip a) m x=Y v
 |[],_,_,_,_,h,_,_=>by simp at h
 |_::_,[],_,_,_,_,h,_=>by simp at h
 |p::P,w::a,0,m,c,h1,b,hk=>by simp at h1 b;subst h1;subst b;show gE kindOf ((p,w)::P.zip a) m p=_;unfold gE;rw[CY λv hv=>(zC.mp c).1 (Hs hv).1,iQ hk];simp
 |p::P,w::a,i+1,m,c,h1,b,hk=>by show gE kindOf ((p,w)::P.zip a) m x=_;unfold gE;exact CZ (i:=i) (zC.mp c).2 (by simpa using h1) (by simpa using b) hk
theorem C1{kindOf:aE->Option NameKind}{x:aE}{v:iI}:∀{P:ji}{a:jS}{i:Nat}{m:mE},P.Nodup->P[i]?=Y x->a[i]?=Y v->kindOf x≠Y .local->
  gM kindOf (P.zip a) m x=Y v
 |[],_,_,_,_,h,_,_=>by simp at h
 |_::_,[],_,_,_,_,h,_=>by simp at h
 |p::P,w::a,0,m,c,h1,b,hk=>by simp at h1 b;subst h1;subst b;show gM kindOf ((p,w)::P.zip a) m p=_;unfold gM;rw[C0 λv hv=>(zC.mp c).1 (Hs hv).1,je hk];simp
 |p::P,w::a,i+1,m,c,h1,b,hk=>by show gM kindOf ((p,w)::P.zip a) m x=_;unfold gM;exact C1 (i:=i) (zC.mp c).2 (by simpa using h1) (by simpa using b) hk
noncomputable def qp(N:ji)(vs:List V):St:=vs.map Y++ao (IX N-IX vs) I
noncomputable def rE(CX:HB)(P:jh)(w:iY)(K:jd)(c:mE)(base:jb)(N:ji)(qual:aE)(scope:ju)(f:iw)(cd:iI)(A:iU)(a:List dk)(s:iB)(T:Hp)(E:XK):Cx where
 prog:=P
 w:=w
 K:=K
 mg:=c
 base:=base
 A:=A.deeper<|bc qual scope s.heap.objs.size f cd
 N:=N
 s₀:=s
 H₀:=T
 env:=bc qual scope s.heap.objs.size f cd
 outer:=a
 stack:=bc qual scope s.heap.objs.size f cd::a
 ex:=[]
 calm:=J
 fn:=λ_=>J
 pn:=[]
 xe:=λe h=>af (am P w) (A.deeper<|bc qual scope s.heap.objs.size f cd) (leaving (bc qual scope s.heap.objs.size f cd) e) (λ_ b=>CX a T s E e b) (λg b=>CX a T s E g b) h
def Gq{a:ju}{n:Nat}{x:aE}(h:a.names.lookup x=Y .cell):∃c,(bn n a.names []).lookup x=Y c:=by have q:=DA a.names n []<|.inl h;exact Mb.mp q
def afW{Q:HB}{P:jh}{w:iY}{K:jd}{L:mE}{base:jb}{N m:ji}{qual:aE}{scope:ju}{f:iw}{cd:iI}{A:iU}{d:List dk}{s s1:iB}{H:Hp}{E:XK}{O:jS}{o:List V}
  (S:R1 N m scope)(hd:A.handled=Ix)(j:Eo P w K L base A d s H)(Y:(IX o)=IX m)(r:Vals o O)
  (x:InCallC s s.heap.objs.size (gE (bc qual scope s.heap.objs.size f cd).kindOf (m.zip O) λ_=>Ix) (bn (s.heap.objs.size+1) scope.names []) (gM (bc qual scope s.heap.objs.size f cd).kindOf (m.zip O) λ_=>Ix) s1):
  Inv (rE Q P w K L base N qual scope f cd A d s H E) [] (qp N o) H s1:=by
 have M:(IX m)<=(IX N):=by have:=mG ef S.pre;rw[uc]at this;lia
 obtain⟨h1,D,rfl,hk⟩:=x.done;have I:∀b:iw,b∉(rE Q P w K L base N qual scope f cd A d s H E).ex:=λb z=>absurd (show b∈([]:List iw)from z) (by simp)
 refine⟨⟨j.mod,S.kind,rfl,rfl,jT _,λy z c h1 g=>?_,λy l=>?_,λy c _ h=>?_,λ_=>hd,Hr j.frames,.inr ⟨rfl,rfl⟩,λb z=>absurd z<|I b,j.bs,j.bsz,λb _ _=>I b,λb z=>absurd z<|I b,j.BQ,j.frf⟩,
  rfl,j.bare,Un.kept hk,⟨_,x.toInCall.ns,λi y v h1 g U=>?_⟩,λy c h=>⟨_,x.cell y c h⟩,j.hok.fresh<|jT _,λy c h=>?_,λp t=>absurd (show p∈([]:List (iw×el))from t)<|by simp,j.hok.kept hk,?_⟩
 .exact zn x.apart (qR h1) (qR g)
 .have l:scope.names.lookup y=Go .cell\/scope.names.lookup y=Go .free:=l;rcases l with l|l
  .exact Gq l
  exact absurd IR (S.nofree _ (qR l))
 .exact wQ (x.above y c<|qR h)
 .have C:i<(IX o):=by
   unfold qp at g;by_cases C:i<IX o
   .exact C
   rw[pL<|by simpa using C]at g;rw[Dz]at g;split at g<;>cases g
  have G:o[i]?=Go v:=by
   unfold qp at g;rw[qk<|by simpa using C,kX]at g
   cases e:o[i]? with
   |none=>rw[e]at g;cases g
   |some a=>rw[e]at g;cases g;rfl
  obtain⟨u,T,J⟩:=r.get G
  have t:m[i]?=Go y:=by rw[<-S.pre,Hq<|by lia];exact h1
  have B:m.Nodup:=by rw[<-S.pre];exact S.nd.sublist<|yt _ _
  refine⟨u,J,?_⟩;rcases S.par y (mY t)with k|k
  .exact .inl ⟨k,CZ B t T k⟩
  obtain⟨c,e⟩:=Gq (n:=s.heap.objs.size+1) k;refine .inr ⟨.inl k,c,e,?_⟩;have q:=x.cell y c e;rw[C1 B t T (by show scope.names.lookup y≠_;rw[k];decide)]at q;exact q
 .exact j.hok.fresh (wQ<|x.above y c<|qR h)
 unfold qp;show _=IX N;rw[oG,jU,Ho]
 lia
def U7{CX:HB}{P:jh}{w:iY}{K:jd}{C:mE}{base:jb}{k:Nat}{f:iw}{j qual:aE}{c:bo}{d:List bi}{scope:ju}{dV kV z pm l ct oc:iI}{an od:Option iw}
  {r9:zN}{N L:ji}{A:iU}{a:List dk}{s:iB}{H:Hp}{i:Args}{U:jS}{vs:List V}{Q:VK}{E:XK}(lk:K.lookup f=Go ⟨oc,od,.func<|bI j qual c d scope dV kV z pm an l ct,r9⟩)(l4:cR K l qual=IN)(S:R1 N L scope)
  (O:OO (k+1) A)(B:Eo P w K C base A a s H)(hb:fD s (bI j qual c d scope dV kV z pm an l ct) i (L.zip U))(r:Vals vs U)(hl:(IX vs)=IX L)
  (m8:OO k (A.deeper<|bc qual scope s.heap.objs.size f l)->∃t,D5 (rE CX P w K C base N qual scope f l A a s H E) d t/\t {nx:=λ_ h=>Q .VP h,rt:=Q} (qp N vs) H):
  b4 (am P w) A (.call (.ref f) i) (CR CX a P w H s Q E) s:=by
 have Y:K.In s.heap:=B.mod.kin.keeps λb o e=>(B.bs b o e).1;have T:s.heap.NoLimit:=B.mod.nolimit.keeps λb o e=>(B.bs b o e).1
 have m:∀y∈L.zip U,scope.names.lookup y.1=Go .local\/(scope.names.lookup y.1=Go .cell/\((bn (s.heap.objs.size+1) scope.names []).lookup y.1).isSome=IN):=λ⟨n,v⟩ hy=>by
  rcases S.par n (Hs hy).1 with q|q
  .exact .inl q
  exact .inr ⟨q,DA _ _ _ (.inl q)⟩
 refine Hn O.depth (Y _ _ lk) IR S.co S.gen IR (PySem.W.codeRec_of Y l4)<|hb _ _ _ _ ?_;refine wpAny_newFunctionEnv_cells S.kind m λD F s1 x=>?_;subst F;refine⟨T.keeps x.toInCall.keep,Hm ?_⟩;obtain⟨t,X,R⟩:=m8<|O.deeper _;have I:Inv (rE CX P w K C base N qual scope f l A a s H E) [] (qp N vs) H s1:=afW S O.hd B hl r x;refine nQ (X [] s1 (qp N vs) H _ I R) (λfl M p=>?_) λe M p=>p
 have fin:∀{g:St}{h:Hp}{v:V}{u:iI},Inv (rE CX P w K C base N qual scope f l A a s H E) [] g h M->RelV v u->Q v h->CE a P w H s Q u M:=
  λ{g h v u} J G q=>⟨v,h,J.os,J.bare,J.base,J.hok,G,q⟩
 cases fl with
 |ret u=>obtain⟨v,g,h,J,G,q⟩:=p;exact fin J G q
 |next=>obtain⟨g,h,J,q⟩:=p;exact fin (v:=V.VP) (u:=ay) J IR q
 |brk=>obtain⟨_,_,_,q⟩:=p;exact aR q
 |cont=>obtain⟨_,_,_,q⟩:=p;exact aR q
def U6{l:HB}{P:jh}{w:iY}{K:jd}{o:mE}{base:jb}{k:Nat}{f:iw}{d qual:aE}{b:bo}{c:List bi}{scope:ju}{n kV h p g ct M:iI}{an T:Option iw}
  {L:zN}{N i:ji}{j:Sp}(lk:K.lookup f=Y ⟨M,T,.func<|bI d qual b c scope n kV h p an g ct,L⟩)(z:cR K g qual=J)(S:R1 N i scope)
  (len:∀e O Q E,j e O Q E->IX e=IX i)
  (B:∀(A:iU)(a:List dk)(s:iB)(O:Hp)(e:List V)(Q:VK)(E:XK),OO k (A.deeper<|bc qual scope s.heap.objs.size f g)->j e O Q E->
   ∃t,D5 (rE l P w K o base N qual scope f g A a s O E) c t/\t {nx:=λ_ u=>Q .VP u,rt:=Q} (qp N e) O):
  BF P w K o base l (k+1) f (bI d qual b c scope n kV h p an g ct) i j:=
 ⟨len,λA a s O _ _ e Q E y v x r m=>U7 lk z S y v x r (len _ _ _ _ m) λq=>B A a s O e Q E q m⟩
section
variable {X:Cx}{x:aE}{p a:bA}{e:iM}{b:kI}{t:TA}{id T:String}{r:List V->Hp->VK->Prop}
def LB(r:List V->Hp->VK->Prop)(t:TA):TE:=λf O Q=>t f O λd c=>r d c Q
def AE(k:lh X (.builtin id) r)(m:Gl X x)(n:X.mg x=I)(hv:aF x=Y (.builtin id))(j:PA X (e::b) t)(o:x≠"__name__":=by decide)(q:(x==("__debug__":aE))=U:=by decide)
  (l:aj (e::b) X.env=(U,bh e X.env)::aj b X.env:=by rfl)(i:(aO a<|aj b X.env).any (·.1)=U:=by rfl):PE X (.Call (.Name x p) (e::b) [] a) (LB r t):=by
 intro c s d N Q O h;refine vB<|qx O m n hv ?_ o q;exact u9 (Q1 (j a c s d N _ O h) λw s1 M=>by obtain⟨y,f,g,v,u⟩:=M;exact k c s1 d f y w Q g v u) l i
def rn(k:lh X (.type T) r)(m:Gl X x)(n:X.mg x=I)(hv:aF x=Y (.type T))(j:PA X (e::b) t)(o:x≠"__name__":=by decide)(q:(x==("__debug__":aE))=U:=by decide)
  (l:aj (e::b) X.env=(U,bh e X.env)::aj b X.env:=by rfl)(i:(aO a<|aj b X.env).any (·.1)=U:=by rfl):PE X (.Call (.Name x p) (e::b) [] a) (LB r t):=by
 intro c s d N Q O h;refine vB<|qx O m n hv ?_ o q;exact DD (Q1 (j a c s d N _ O h) λw s1 M=>by obtain⟨y,f,g,v,u⟩:=M;exact k c s1 d f y w Q g v u) l i
end
end L2
namespace HT
section
open PySem.SeqAt
open PySem.AutoSeq1 (wpAny_loadPart')
open PySem.MeetsSeq PySem.MeetsSeq2 PySem.MeetsSeq3
end
section
variable {a:jh}{w:iY}{A:iU}{E:jr}{s:iB}
def aaO{t b:iw}{d c:jS}{Q:jr}(y:gg s.heap t d.toArray)(x:gg s.heap b c.toArray)(hv:d≠[])
  (h1:c=[]->Q (.ref t) s)(v:c≠[]->Q (.ref s.heap.objs.size) {s with heap:=s.heap.push {cls:=.type "tuple",data:=.seq (d++c).toArray}})
  (l:(IX d)+IX c<=sizeLine):af (am a w) A (bK .Add (.ref t)<|.ref b) Q E s:=by
 obtain⟨⟨k,dd,f,u⟩,h,q,n,hd⟩:=id y;obtain⟨⟨z,p,data2,m⟩,j,o,r,g⟩:=id x;simp only at q hd o g;subst q hd o g;have e:d.toArray++c.toArray=(d++c).toArray:=by simp
 by_cases i:c=[]
 .exact Dy ⟨_,h,rfl⟩ ⟨_,j,rfl⟩ Hl Hk Hj Hh (Hg _ _)
   (tuple_addW1 t b d.toArray c.toArray n r dd p u m (by simpa using hv)<|by simp[i]) ⟨h,j,h1 i⟩
 refine Dy ⟨_,h,rfl⟩ ⟨_,j,rfl⟩ Hl Hk Hj Hh (Hg _ _)
  (tuple_addW2 t b d.toArray c.toArray n r dd p u m (by simpa using hv) (by simpa using i)<|by rw[kR,kR];exact l) ⟨h,j,?_⟩
 rw[e];exact v i
noncomputable def I0(n d:Nat):Option Int->Nat
 |none=>d
 |some v=>if v<0 then(v+(n:Int)).toNat else min v.toNat n
theorem UC(n d:Nat):I0 n d I=d:=rfl
def VQ(n d k:Nat):I0 n d (Y (k:Int))=min k n:=by show(if(k:Int)<0 then((k:Int)+(n:Int)).toNat else min (k:Int).toNat n)=min k n;rw[je<|by lia,yq]
def VR(n d:Nat)(hd:d<=n)(o:Option Int):I0 n d o<=n:=by
 cases o with
 |none=>exact hd
 |some v=>
  show(if v<0 then(v+(n:Int)).toNat else min v.toNat n)<=n;by_cases hv:v<0
  .rw[iQ hv];lia
  rw[je hv];exact Nat.min_le_right _ _
def Ko(v:Int)(n d:Nat):(if v<0 then max (v+(n:Int)) 0 else min v (n:Int))=((I0 n d (Y v):Nat):Int):=by
 show(if v<0 then max (v+(n:Int)) 0 else min v (n:Int))=(((if v<0 then(v+(n:Int)).toNat else min v.toNat n):Nat):Int)
 by_cases hv:v<0
 .simp only[iQ hv];lia
 simp only[je hv];lia
def afr(lo b:Option Int)(n:Nat):bq lo b 1 (n:Int)=(((I0 n 0 lo:Nat):Int),((I0 n n b:Nat):Int)):=by
 have h1: ¬((1:Int)<0):=by lia
 unfold bq;simp only[h1,mn];refine Prod.ext ?_ ?_
 .cases lo with
  |none=>rfl
  |some v=>exact Ko v n 0
 cases b with
 |none=>rfl
 |some v=>exact Ko v n n
def aeS(i j:Nat):ba (i:Int) (j:Int) 1=j-i:=by
 unfold ba;have h1:(1:Int)>0:=by lia
 simp only[h1,nr,tv];split<;>lia
def Aw{v:iI}{o:Option Int}{Q:Option Int->iB->Prop}(p:d0 v o)(h:Q o s):af (am a w) A (sm v) Q E s:=by
 cases p with
 |none=>exact Dx h
 |int i t=>exact x0 h
def rh{g:iw}{e f:iI}{lo b:Option Int}{n:Nat}{Q:Int×Int×Nat->iB->Prop}(i:s.heap.IsSliceOf g e f .none)(j:d0 e lo)(k:d0 f b)
  (h:Q (((I0 n 0 lo:Nat):Int),1,I0 n n b-I0 n 0 lo) s):af (am a w) A (bR (.ref g)<|pure (n:Int)) Q E s:=by
 obtain⟨os,d,l,c⟩:=id i;unfold bR eC;refine iz<|iz<|oo d c (x:=e) C<|iz<|oo d c (x:=f) C<|iz<|oo d c (x:=.none) C<|iJ ?_;refine iz<|Dx ?_;show af _ _ (if((1:Int)==0)=J then _ else _) _ _ s;rw[je<|by decide];refine iz<|Aw j<|iz<|Aw k<|iz<|iJ ?_;show af _ _ (match bq lo b 1 (n:Int)with|(lo,b)=>pure (lo,(1:Int),ba lo b 1)) _ _ s;rw[afr lo b n];show af _ _ (pure (((I0 n 0 lo:Nat):Int),(1:Int),ba ((I0 n 0 lo:Nat):Int) ((I0 n n b:Nat):Int) 1)) _ _ s;rw[aeS];exact iJ h
def Ol(b:nE)(i k:Nat):((au k).filterMap λ(m:Nat)=>b[((i:Int)+(m:Int)*1).toNat]?).toArray=((b.toList.drop i).take k).toArray:=by
 have e:(λ(m:Nat)=>b[((i:Int)+(m:Int)*1).toNat]?)=λm=>b[i+m]?:=by
  funext m;have:((i:Int)+(m:Int)*1).toNat=i+m:=by lia
  rw[this]
 rw[e];have:=pick_run b i k;rw[g7]at this;have c:((λx=>b[x]?)∘λx=>i+x)=λm=>b[i+m]?:=rfl;rw[c]at this;rw[this]
def afk{t e:iw}{items:nE}{g i:iI}{lo b:Option Int}{Q:jr}(c:gg s.heap t items)(f:s.heap.IsSliceOf e g i .none)(p:d0 g lo)(r:d0 i b)
  (o: ¬(I0 items.size 0 lo=0/\I0 items.size items.size b=items.size))
  (h:Q (.ref s.heap.objs.size) {s with heap:=s.heap.push {cls:=.type "tuple",data:=.seq ((items.toList.drop<|I0 items.size 0 lo).take<|I0 items.size items.size b-I0 items.size 0 lo).toArray}})
  (n:items.size<=sizeLine):af (am a w) A (cZ (.ref t)<|.ref e) Q E s:=by
 have d:sizeOk (.seq ((items.toList.drop<|I0 items.size 0 lo).take<|I0 items.size items.size b-I0 items.size 0 lo).toArray):=by show((items.toList.drop<|I0 items.size 0 lo).take<|I0 items.size items.size b-I0 items.size 0 lo).toArray.size<=sizeLine;rw[kR,uc,kA,lS];omega
 have x:I0 items.size items.size b<=items.size:=VR _ _ (jT _) b;obtain⟨os,u,k,v⟩:=id f;have l:s.TypeIs (.ref e) "slice":=⟨os,u,k⟩
 unfold cZ
 try with_reducible refine mF ?_
 first|refine iz (iJ ?_)|skip
 refine iz<|Hf c.typeIs (by decide) ?_
 refine iz (wM (name:=bz "__getitem__") c.typeIs zO
  (oF zO c.typeIs He ?_<|Hd _ _))
 show af _ _ (bO (.ref t)>>=_) _ _ s;refine iz<|Hc c ?_;refine iz<|tZ l ?_;rw[iQ<|by decide];refine iz<|rh f p r ?_
 have j: ¬((((I0 items.size 0 lo:Nat):Int)==0&&(1:Int)==1&&(I0 items.size items.size b-I0 items.size 0 lo)==items.size)=J):=by intro q;rw[lR,lR]at q;have y:((I0 items.size 0 lo:Nat):Int)=0:=pK q.1.1;have z:I0 items.size items.size b-I0 items.size 0 lo=items.size:=pK q.2;exact o ⟨by omega,by omega⟩
 show af _ _ (if(((I0 items.size 0 lo:Nat):Int)==0&&(1:Int)==1&&(I0 items.size items.size b-I0 items.size 0 lo)==items.size)=J then _ else _) _ _ s;rw[je j,Ol]
 first
  |exact iz (m:=aH _)<|nq (iJ ⟨_,rfl,iJ h⟩) d
  |exact iz (m:=aH _)<|nq (iz<|iJ<|iJ ⟨_,rfl,iJ h⟩) d
  |exact iz<|iz (m:=aH _)<|nq (iJ<|iJ ⟨_,rfl,iJ h⟩) d
  |exact iz<|iz (m:=aH _)<|nq (iJ ⟨_,rfl,iJ h⟩) d
end
end HT
namespace L2
abbrev TO:=St->Hp->(Option Int->Hp->Prop)->Prop
def PO(X:Cx)(e:Option Expr)(t:TO):Prop:=
 ∀(a:jw)(s:iB)(b:St)(T:Hp)(Q:Option Int->Hp->Prop),Inv X a b T s->t b T Q->
  af (am X.prog X.w) X.A (evalPart e X.env) (λu c=>∃o H',Inv X a b H' c/\d0 u o/\Q o H') X.xe s
noncomputable def RF:TO:=λ_ T Q=>Q I T
def Zq(t:TE):TO:=λb T Q=>t b T λx a=>∃i,x=.int i/\Q (Y i) a
section
variable {X:Cx}{e:iM}{d:TE}{lo c:Option Expr}{f g:TO}{k j:bA}
def JP:PO X I RF:=by intro a s b O Q T h;rw[Hb];exact iJ ⟨I,O,T,.none,h⟩
def JO(h:PE X e d):PO X (Y e) (Zq d):=by intro a s o O Q T l;rw[xl];refine Q1 (h a s o O _ T l) ?_;rintro u s1 ⟨x,H1,b,n,m⟩;obtain⟨i,rfl,q⟩:=m;obtain⟨t,rfl⟩:=n;exact⟨Y i,H1,b,.int i t,q⟩
def Lr(X:Cx)(r:V->Option Int->Option Int->Hp->VK->Prop):Prop:=
 ∀(a:jw)(s:iB)(l:St)(O:Hp)(x:V)(v h i:iI)(lo c:Option Int)(b:iw)(Q:VK),Inv X a l O s->RelV x v->s.heap.IsSliceOf b h i .none->d0 h lo->d0 i c->r x lo c O Q->
  ∃T id,n5 (.type T) "__getitem__"=pure (Y<|.builtin id)/\s.TypeIs v T/\af (am X.prog X.w) X.A (cZ v<|.ref b) (EP X a l Q) X.xe s
def tSl(r:V->Option Int->Option Int->Hp->VK->Prop)(d:TE)(f g:TO):TE:=λa T Q=>d a T λx b=>f a b λl h=>g a h λu i=>r x l u i Q
def FC{r:V->Option Int->Option Int->Hp->VK->Prop}(G:Lr X r)(E:PE X e d)(O:PO X lo f)(M:PO X c g):PE X (.Subscript e (.Slice lo c Ix j) k) (tSl r d f g):=by intro a s i H Q I h;refine o7<|Q1 (E a s i H _ I h) ?_;rintro v s1 ⟨x,H1,t,r1,U'⟩;refine Ch<|Q1 (O a s1 i H1 _ t U') λm s2 ⟨l,p,y,N,Y'⟩=>Q1 (M a s2 i p _ y Y') ?_;rintro n s3 ⟨u,o,z,pu,q3⟩;rw[Hb];refine iJ ?_;have B:Inv X a i o {s3 with heap:=s3.heap.push {cls:=.type "slice",data:=.fields #[m,n,.none]}}:=z.kept (t':=s3.toks) λb D q=>jX _ q;obtain⟨T,id,C,J,L⟩:=G a {s3 with heap:=s3.heap.push {cls:=.type "slice",data:=.fields #[m,n,.none]}} i o x v m n l u s3.heap.objs.size Q B r1 (Heap.IsSliceOf.new ..) N pu q3;show af (am X.prog X.w) X.A (eV e (.Slice lo c Ix j) v<|.ref s3.heap.objs.size) (EP X a i Q) X.xe {s3 with heap:=s3.heap.push {cls:=.type "slice",data:=.fields #[m,n,.none]}};exact tail_any (ops:=[.ref s3.heap.objs.size,v]) J C L (by with_unfolding_all rfl)
noncomputable def Gk(a:List V)(lo c:Option Int):List V:=(a.drop<|HT.I0 (IX a) 0 lo).take<|HT.I0 (IX a) (IX a) c-HT.I0 (IX a) 0 lo
def zf(a:List V)(lo c:Option Int):(Gk a lo c).length<=(IX a):=by
 unfold Gk;rw[uc,kA]
 lia
def acm(K:jd):V->Option Int->Option Int->Hp->VK->Prop:=λx lo c T Q=>∃a b,x=.ref a/\EC K T a b/\
 ¬(HT.I0 (IX b) 0 lo=0/\HT.I0 (IX b) (IX b) c=IX b)/\∀p,T p=I->Q (.ref p) (upd T p<|.tup<|Gk b lo c)
def VM:Lr X (acm X.K):=by
 intro t s T M x v L O lo c E Q N B u z A h;obtain⟨a,l,rfl,y,w,q⟩:=h;cases B;obtain⟨m,r,n,p⟩:=N.tuple y;have i:m.toArray.size=(IX l):=by rw[kR];exact r.length.symm
 refine⟨"tuple",_,zO.lookup,n.typeIs,?_⟩;refine HT.afk n u z A (by rw[i];exact w) ?_ (by rw[i];exact p);rw[i];refine⟨.ref s.heap.objs.size,_,N.laid (t':=s.toks) (o:=.tup (Gk l lo c)) (λb G q=>jX _ q) (jT _) ?_,rfl,q _ (N.hok.fresh<|jT _)⟩;exact⟨mq (zf l lo c) p,_,(r.drop<|HT.I0 (IX l) 0 lo).take<|HT.I0 (IX l) (IX l) c-HT.I0 (IX l) 0 lo,DQ.new _ _⟩
def ZN(K:jd):R2:=λx y T Q=>∃a b i h,x=.ref a/\y=.ref b/\EC K T a i/\EC K T b h/\i≠[]/\(IX i)+IX h<=sizeLine/\
 (h=[]->Q (.ref a) T)/\(h≠[]->∀p,T p=I->Q (.ref p) (upd T p<|.tup<|i++h))
def Vals.FH{b:List V}{a:jS}(r:Vals b a):a=[]↔b=[]:=by
 cases r with
 |nil=>simp
 |cons _ _=>simp
def SW:AD X (bK .Add) (ZN X.K):=by intro n s N H x y v u Q I L O h;obtain⟨a,b,T,G,rfl,rfl,p,r,t,m,C,E⟩:=h;cases L;cases O;obtain⟨A,l,B,_⟩:=I.tuple p;obtain⟨J,i,j,_⟩:=I.tuple r;refine HT.aaO B j (λz=>t<|l.FH.mp z) (λz=>⟨.ref a,H,I,rfl,C<|i.FH.mp z⟩) (λz=>?_) (by rw[<-l.length,<-i.length];exact m);refine⟨.ref s.heap.objs.size,_,I.laid (t':=s.toks) (o:=.tup (T++G)) (λb M q=>jX _ q) (jT _) ?_,rfl,E (λw=>z<|i.FH.mpr w) _ (I.hok.fresh<|jT _)⟩;exact⟨by rw[oG];exact m,_,l.append i,DQ.new _ _⟩
end
noncomputable def DL(n:Nat)(i:Int):Option Nat:=if 0<=i then(if i<n then Y i.toNat else I)else if -(n:Int)<=i then Y (i+n).toNat else I
def FN{b:Type}(a:List b)(i:Int):Option b:=(DL (IX a) i).bind λj=>a[j]?
def Eh{n:Nat}{i:Int}{j:Nat}(h:DL n i=Y j):ro i n=Y j/\j<n/\ -(n:Int)<=i/\i<n:=by
 unfold DL at h;by_cases a:0<=i
 .rw[iQ a]at h;by_cases h1:i<n
  .rw[iQ h1]at h;have e:i.toNat=j:=kZ h;exact⟨by rw[Ha a h1,e],by lia,by lia,h1⟩
  rw[je h1]at h;cases h
 rw[je a]at h;by_cases h1: -(n:Int)<=i
 .rw[iQ h1]at h;have e:(i+n).toNat=j:=kZ h;exact⟨by rw[G9 (by lia) h1,e],by lia,h1,by lia⟩
 rw[je h1]at h;cases h
def Kw{b:Type}{a:List b}{i:Int}{v:b}(h:FN a i=Y v):∃j,ro i (IX a)=Y j/\a[j]?=Y v/\j<IX a/\ -((IX a):Int)<=i/\i<(IX a):=by
 unfold FN at h
 cases e:DL (IX a) i with
 |none=>rw[e]at h;cases h
 |some j=>rw[e]at h;obtain⟨h1,c,d,f⟩:=Eh e;exact⟨j,h1,h,c,d,f⟩
def EK(b:iM):Prop:= ∀o i,lm b U o i=operate [o,i] (cZ o i)
def LW(X:Cx)(r:R2):Prop:=
 ∀(c a:iM)(b:jw)(s:iB)(d:St)(T:Hp)(x y:V)(v u:iI)(Q:VK),Inv X b d T s->RelV x v->RelV y u->r x y T Q->
  lm a U v u=operate [v,u] (cZ v u)->af (am X.prog X.w) X.A (eV c a v u) (EP X b d Q) X.xe s
def MtR(X:Cx)(id:String)(r:V->List V->Hp->VK->Prop):Prop:=
 ∀(a:jw)(s:iB)(d:St)(T:Hp)(x:V)(c:List V)(v:iI)(b:jS)(Q:VK),Inv X a d T s->RelV x v->Vals c b->r x c T Q->
  af (am X.prog X.w) X.A (call (.builtin id) (v::b)) (EP X a d Q) X.xe s
section
variable {X:Cx}{a b:iM}{C tb:TE}{B:bA}
def UN{r:R2}(i:LW X r)(f:PE X a C)(g:PE X b tb)(j:EK b):PE X (.Subscript a b B) (KD r C tb):=by intro c s n O Q T h;exact o7<|XJ f g T h λv u m x y d e k l q=>i a b c m n d x y v u Q e k l q<|j _ _
def acp(K:jd):R2:=λx y T Q=>∃p c i v,x=.ref p/\y=.int i/\Bx K T p c/\FN c i=Y v/\Q v T
def aco(K:jd):R2:=λx y T Q=>∃p c i v,x=.ref p/\y=.int i/\EC K T p c/\FN c i=Y v/\Q v T
def Tt:LW X (acp X.K):=by
 intro k g c s o H x y v u Q I J M h n;obtain⟨p,P,i,z,rfl,rfl,G,O,q⟩:=h;cases J;obtain⟨t,rfl⟩:=M;obtain⟨e,r,f,F⟩:=I.list G;obtain⟨j,h1,A,Y,E,L⟩:=Kw O;obtain⟨w,l,U⟩:=r.get A;have T:=r.length;have D:=Ed;have fin:EP X c o Q w s:=⟨z,H,I,U,q⟩
 by_cases m:0<=i
 .have d:i.toNat=j:=by rw[Ha m L]at h1;exact kZ h1
  exact item_listR f.isList m (by lia) (by rw[d];simpa using l) fin n
 have d:(i+(e.toArray.size:Int)).toNat=j:=by rw[G9 (by lia) E]at h1;rw[kR,<-T];exact kZ h1
 exact MX (x:=w) f.isList.typeIs p4.lookup
  (wpAny_getItem_list_neg (Q:=λr N=>r=w/\EP X c o Q r N) f.isList (by lia) (by rw[kR]<;>lia) (by lia) (by rw[d];simpa using l) ⟨rfl,fin⟩) n
def W2:LW X (aco X.K):=by
 intro e d c s g H x y v u Q I L O h A;obtain⟨p,D,i,z,rfl,rfl,o,m,q⟩:=h;cases L;obtain⟨t,rfl⟩:=O;obtain⟨E,r,f,Y⟩:=I.tuple o;obtain⟨j,h1,l,J,M,N⟩:=Kw m;obtain⟨w,k,G⟩:=r.get l;have n:=r.length;have U:=Ed;have fin:EP X c g Q w s:=⟨z,H,I,G,q⟩
 exact MX (x:=w) f.typeIs zO.lookup
  (getItem_tuple (j:=j) (Q:=λr T=>r=w/\EP X c g Q r T) f (by lia) (by lia) (by rw[kR,<-n];exact h1) (by simpa using k) ⟨rfl,fin⟩) A
def afh(c:jS)(n j:Nat)(u:iI):aV (·.setIfInBounds j u) {cls:=.type "list",data:=.seq c.toArray n}={cls:=.type "list",data:=.seq (c.set j u).toArray n}:=by simp[aV]
def Inv.lst{d:jw}{f:St}{Q:Hp}{s:iB}{p:iw}{xs:List V}(T:Inv X d f Q s)(h:Q p=Y (.lst xs)):
  ∃(c:jS)(n:Nat),Vals xs c/\s.heap.get? p=Y {cls:=.type "list",data:=.seq c.toArray n}/\(IX xs)<=sizeLine:=by
 obtain⟨z,c,n,r,e⟩:=T.hok p _ h;exact⟨c,n,r,e,z⟩
def Inv.KN{d:jw}{l:St}{Q:Hp}{s:iB}{p:iw}{w j:List V}{g c:jS}{n i:Nat}{f:el->el}(T:Inv X d l Q s)(h:Q p=Y (.lst w))
  (o:s.heap.get? p=Y {cls:=.type "list",data:=.seq g.toArray n})(k:f {cls:=.type "list",data:=.seq g.toArray n}={cls:=.type "list",data:=.seq c.toArray i})(r:Vals j c)(v:(IX j)<=sizeLine)(t:Nat):
  Inv X d l (upd Q p<|.lst j) {s with heap:=s.heap.update p f,toks:=t}:=by
 have e:(s.heap.update p f).get? p=Y {cls:=.type "list",data:=.seq c.toArray i}:=by rw[tY f o<|by rw[k]<;>rfl,k]
 refine T.write (x:=p) (e:=p) (by rw[h];trivial) (.inl IR) (λb u m q=>(Dw _ _ (tD m)).trans q) ⟨_,e⟩ ?_;exact⟨v,c,i,r,e⟩
def ZK:V->V->V->Hp->(Hp->Prop)->Prop:=λo i v T Q=>∃p c k j,o=.ref p/\i=.int k/\T p=Y (.lst c)/\DL (IX c) k=Y j/\Q (upd T p<|.lst<|c.set j v)
def NJ:XU X ZK:=by
 intro d s T H o i v N M u Q I E A L h;obtain⟨p,O,k,j,rfl,rfl,x,y,q⟩:=h;cases E;obtain⟨t,rfl⟩:=A;obtain⟨c,n,r,f,z⟩:=I.lst x;obtain⟨h1,G,m,w⟩:=Eh y;have e:=r.length;have J:=Ed
 have g:Inv X d T (upd H p<|.lst<|O.set j v) {s with heap:=s.heap.update p (aV (·.setIfInBounds j u))}:=
  I.KN x f (afh c n j u) (r.set L j) (by rw[vA];exact z) s.toks
 by_cases l:0<=k
 .have hk:k.toNat=j:=by rw[Ha l w]at h1;exact kZ h1
  exact PySem.W.ki_setAt f l (by lia) (by rw[kR,<-e];exact w) (by rw[hk];exact⟨_,g,q⟩)
 have hk:(k+(c.toArray.size:Int)).toNat=j:=by rw[G9 (by lia) m]at h1;rw[kR,<-e];exact kZ h1
 exact PySem.W.ki_setBack f (by lia) (by rw[kR,<-e];exact m) (by lia) (by rw[hk];exact⟨_,g,q⟩)
def ad9(lo c:Option Int)(n:Nat):(c4 lo c I n).1=((HT.I0 n 0 lo:Nat):Int)/\(c4 lo c I n).2.1=((HT.I0 n n c:Nat):Int)/\(c4 lo c I n).2.2=1:=by
 refine⟨?_,?_,rfl⟩
 .cases lo with
  |none=>simp[c4,HT.I0]
  |some i=>
   simp only[c4,HT.I0,gX,show(1:Int)>0 by decide,nr];by_cases h:i<0
   .simp only[h,nr]<;>lia
   simp only[h,mn]<;>lia
 cases c with
 |none=>simp[c4,HT.I0]
 |some i=>
  simp only[c4,HT.I0,gX,show(1:Int)>0 by decide,nr];by_cases h:i<0
  .simp only[h,nr]<;>lia
  simp only[h,mn]<;>lia
def adY(c:jS)(lo d:Option Int):slicePick c.toArray lo d I=((c.drop<|HT.I0 (IX c) 0 lo).take<|HT.I0 (IX c) (IX c) d-HT.I0 (IX c) 0 lo).toArray:=by obtain⟨h1,e,f⟩:=ad9 lo d c.toArray.size;unfold slicePick;rw[h1,e,f];simp only[sliceRange_one,pick_run,kR]<;>rfl
def acn(K:jd):V->Option Int->Option Int->Hp->VK->Prop:=λx lo d T Q=>∃a c,x=.ref a/\Bx K T a c/\∀p,T p=I->Q (.ref p) (upd T p<|.lst<|Gk c lo d)
def RI:Lr X (acn X.K):=by intro g s z O x v w y lo e u Q T p i m n h;obtain⟨a,c,rfl,j,q⟩:=h;cases p;obtain⟨l,r,f,k⟩:=T.list j;have d:=r.length;refine⟨"list",_,p4.lookup,f.isList.typeIs,?_⟩;refine wpAny_getItem_list_slice f.isList i m n .none (by simp) ?_ (by rw[kR]<;>lia);rw[adY,<-d];refine⟨.ref s.heap.objs.size,_,T.laid (t':=s.toks) (o:=.lst (Gk c lo e)) (λb t q=>jX _ q) (jT _) ?_,rfl,q _ (T.hok.fresh<|jT _)⟩;exact⟨mq (zf c lo e) k,_,0,(r.drop<|HT.I0 c.length 0 lo).take<|HT.I0 c.length c.length e-HT.I0 c.length 0 lo,kF _ rfl⟩
def xM:lh X (.builtin "len") (λk O Q=>∃p d,k=[.ref p]/\(Bx X.K O p d\/EC X.K O p d)/\Q (.int d.length) O):=by
 intro j s t O k o Q T r h;obtain⟨p,d,rfl,e,q⟩:=h;obtain⟨u,rfl,m⟩:=qZ r;cases m;have n:=Ed;rcases e with e|e
 .obtain⟨f,i,g,l⟩:=T.list e;have c:=i.length;exact Calls.call_len_list g.isList (by simp only[kR]<;>lia) ⟨.int d.length,O,T.tok _,⟨s.toks+1,by rw[kR,c]⟩,q⟩
 obtain⟨f,i,g,l⟩:=T.tuple e;have c:=i.length;exact len_tuple g (by simp only[kR]<;>lia) ⟨.int d.length,O,T.tok _,⟨s.toks+1,by rw[kR,c]⟩,q⟩
def xK:lh X (.type "list") (λA N Q=>∃p i,A=[.ref p]/\(Bx X.K N p i\/EC X.K N p i)/\∀l,N l=I->Q (.ref l) (upd N l<|.lst i)):=by
 intro t s L N A O Q T r h;obtain⟨p,i,rfl,k,q⟩:=h;obtain⟨u,rfl,E⟩:=qZ r;cases E
 have fin:∀(c:jS),Vals i c->i.length<=sizeLine->∀(d:jb)(f:Nat),(∀b z,s.heap.get? b=Y z->d.get? b=Y z)->
   d.get? s.heap.objs.size=Y {cls:=.type "list",dict:=I,data:=.seq c.toArray f,slots:= #[]}->EP X t L Q (.ref s.heap.objs.size) {s with heap:=d}:=λc g m d f kp e=>
  ⟨.ref s.heap.objs.size,_,T.laid (t':=s.toks) kp (jT _) (show T2 X.prog X.w _ d _ (.lst i)from⟨m,c,f,g,e⟩),rfl,q _ (T.hok.fresh<|jT _)⟩
 rcases k with k|k
 .obtain⟨c,g,y,m⟩:=T.list k;have j:=g.length;obtain⟨o,x,v,n,hd⟩:=y.isList;exact xx p (.inl IR) x v hd (λd f kp e=>fin c g m d f kp e) (by simp only[kR]<;>omega)
 obtain⟨c,g,y,m⟩:=T.tuple k;have j:=g.length;obtain⟨o,x,v,n,hd⟩:=y;exact xx p (.inr IR) x v hd (λd f kp e=>fin c g m d f kp e) (by simp only[kR]<;>omega)
def vH:lh X (.type "tuple") (λv O Q=>∃p f,v=[.ref p]/\((Bx X.K O p f/\∀l,O l=I->Q (.ref l) (upd O l<|.tup f))\/(EC X.K O p f/\Q (.ref p) O))):=by
 intro c s x O v A Q T r h;obtain⟨p,f,rfl,h⟩:=h;obtain⟨u,rfl,z⟩:=qZ r;cases z;rcases h with⟨i,q⟩|⟨i,q⟩
 .obtain⟨d,k,j,t⟩:=T.list i;have n:=k.length;refine call_tuple_list j.isList (λg kp=>?_) (by simp only[kR]<;>lia);have m:Inv X c x O {s with heap:=g}:=T.kept (t':=s.toks) kp
  have y:Inv X c x (upd O g.objs.size<|.tup f) {s with heap:=g.push {cls:=.type "tuple",data:=.seq d.toArray}}:=
   m.laid (t':=s.toks) (λb o e=>jX _ e) (jT _) (show T2 X.prog X.w _ _ _ (.tup f)from⟨t,d,k,DQ.new _ _⟩)
  exact⟨.ref g.objs.size,_,y,rfl,q _ (m.hok.fresh<|jT _)⟩
 obtain⟨d,k,j,t⟩:=T.tuple i;exact call_tuple_same j ⟨.ref p,O,T,rfl,q⟩
def tyV(K:jd)(T:String)(x:V)(Q:Hp):Prop:=match x with
 |.str _=>T="str"
 |.int _=>T="int"
 |.ref p=>(T="list"/\∃d,Bx K Q p d)\/(T="tuple"/\∃o,K.lookup p=Y o/\o.cls=.type "tuple"/\o.dict=I)\/
   (T="dict"/\((∃c,Q p=Y (.dK c))\/∃c,Q p=Y (.dT c)))\/(T="set"/\∃S n,Q p=Y (.set S n))
 |_=>False
def VB{d:jw}{q:St}{O:Hp}{s:iB}{T:String}{x:V}{v:iI}(Q:Inv X d q O s)(r:RelV x v)(ty:tyV X.K T x O):
  s.TypeIs v T/\∀a,v=.ref a->∃h,s.heap.get? a=Y h/\h.dict=I:=by
 cases x with
 |str z=>obtain⟨t,rfl⟩:=r;cases(show T="str" from ty);exact⟨typeIs_str s z t,λ_ e=>nomatch e⟩
 |int i=>obtain⟨t,rfl⟩:=r;cases(show T="int" from ty);exact⟨typeIs_int s i t,λ_ e=>nomatch e⟩
 |ref p=>
  cases r;rcases ty with⟨rfl,u,l⟩|⟨rfl,o,hk,k,hd⟩|⟨rfl,hk⟩|⟨rfl,S,n,hk⟩
  .obtain⟨m,_,j,_⟩:=Q.list l;refine⟨j.isList.typeIs,λa e=>?_⟩;cases e;obtain⟨o,n,e,c,hd,_⟩:=j;exact⟨o,e,hd⟩
  .refine⟨⟨o,Q.F1 p o hk,k⟩,λa e=>?_⟩;cases e;exact⟨o,Q.F1 _ o hk,hd⟩
  .have z:∃o,s.heap.get? p=Y o/\o.ExactDict:=by
    rcases hk with⟨g,hk⟩|⟨g,hk⟩
    .obtain⟨_,_,_,_,o,_,_,e,ex,_⟩:=Q.hok p _ hk;exact⟨o,e,ex⟩
    obtain⟨_,_,_,_,o,_,_,e,ex,_⟩:=Q.hok p _ hk;exact⟨o,e,ex⟩
   obtain⟨o,e,ex⟩:=z;refine⟨⟨o,e,ex.1⟩,λa f=>?_⟩;cases f;exact⟨o,e,ex.2.1⟩
  obtain⟨o,_,_,_,e,ex,_⟩:=Q.hok p _ hk;refine⟨⟨o,e,ex.1⟩,λa f=>?_⟩;cases f;exact⟨o,e,ex.2.1⟩
 |_=>exact aR ty
def tBM(K:jd)(T:String)(r:V->List V->Hp->VK->Prop)(to:TE)(t:TA):TE:=λd O Q=>to d O λx c=>tyV K T x c/\t d c λf e=>r x f e Q
variable {o e:iM}{g:kI}{to:TE}{t:TA}{d:aE}{m A:bA}{T id:String}{r:V->List V->Hp->VK->Prop}
abbrev La(X:Cx)(p:bA)(g:kI):Prop:=((aO p<|aj g X.env).all (λx=>!x.1)&&(eE p<|c5 [] X.env).all (λx=>x.1.isSome)&&decide (IX g+([]:List qs).length+(if([]:List qs).isEmpty then 0 else 1)<30))=J
abbrev Lc(X:Cx)(o:iM)(d:aE):Prop:=attributeBase o d X.env (bh o X.env)=bh o X.env
def UO(J:PlainAttrs T)(slot:Slot T d id)(f:v8 (.builtin id)=pure (.type "method_descriptor"))(y:MtR X id r)(z:PE X o to)(w:PA X (e::g) t)
  (O:Lc X o d:=by rfl)
  (G:La X A (e::g):=by rfl)
  (L:(m.endLine==A.line)=IN:=by rfl)(E:aj (e::g) X.env=(U,bh e X.env)::aj g X.env:=by rfl)(q:(aO A<|aj g X.env).any (·.1)=U:=by rfl):
  PE X (.Call (.Attribute o d m) (e::g) [] A) (tBM X.K T r to t):=by
 intro c s i H Q I h;refine MW O G L IR<|Q1 (z c s i H _ I h) ?_;rintro v s1 ⟨x,H1,j,l,ty,M⟩;obtain⟨h1,u⟩:=VB j l ty;refine⟨T,id,J,slot,f,h1,u,?_⟩;have k:=w A c s1 i H1 _ j M;rw[E]at k ⊢;refine MV (by show(U||(aO A<|aj g X.env).any (·.1))=U;rw[q]<;>rfl)<|MU ?_;exact Q1 k λus Y' ⟨vs,n,p,U',N⟩=>y c Y' i n x vs v us Q p l U' N
end
def MtM(X:Cx)(id:String)(r:V->List V->Hp->VK->Prop):Prop:=
 ∀(a:jw)(s:iB)(d:St)(T:Hp)(x:V)(c:List V)(v:iI)(b:jS)(Q:VK),Inv X a d T s->RelV x v->Vals c b->r x c T Q->
  af (am X.prog X.w) X.A (call (.builtin id) (v::b)) (EP X a d Q) X.xe s
def Vals.one{x:V}{a:jS}:Vals [x] a->Vl1 x a:=qZ
theorem Vals.eraseIdx:∀{b:List V}{a:jS}(i:Nat),Vals b a->Vals (b.eraseIdx i) (a.eraseIdx i)
 |_,_,_,.nil=>.nil
 |_,_,0,.cons _ t=>t
 |_,_,i+1,.cons r t=>.cons r (Vals.eraseIdx i t)
def Vals.reverse{b:List V}{a:jS}(h:Vals b a):Vals b.reverse a.reverse:=by
 induction h with
 |nil=>exact .nil
 |cons r t c=>rw[Ai,Ai];exact Vals.append c<|.cons r .nil
theorem CC{a:Type}:∀(l:List a)(i:Nat),(l.eraseIdx i).length<=IX l
 |[],_=>jT _
 |_::_,0=>tX _
 |_::r,i+1=>Nat.succ_le_succ<|CC r i
section
variable {X:Cx}{pins:jw}{σ:St}{H:Hp}{s:iB}{l b:iw}{xs ys zs:List V}
def Inv.KP{a its':jS}{n:Nat}{f:Array iI->Array iI}{j:Nat}(T:Inv X pins σ H s)(c:H l=Y (.lst xs))
  (e:s.heap.get? l=Y {cls:=.type "list",data:=.seq a.toArray n})(g:f a.toArray=its'.toArray)(hv:Vals ys its')(i:(IX ys)<=sizeLine):
  Inv X pins σ (upd H l<|.lst ys) {s with heap:=s.heap.update l<|aV f,toks:=j}:=by
 have q:=PySem.IsL.update e f;rw[g]at q;refine T.write (x:=l) (e:=l) (by rw[c];exact trivial) (.inl C) (λk u d h=>(Dw s.heap (aV f)<|tD d).trans h) ⟨_,q⟩ ?_;exact⟨i,its',_,hv,q⟩
def Inv.LK{a:jS}{t':Nat}(T:Inv X pins σ H s)(hv:Vals ys a)(c:(IX ys)<=sizeLine):
  Inv X pins σ (upd H s.heap.objs.size<|.lst ys) {s with heap:=s.heap.push {cls:=.type "list",data:=.seq a.toArray},toks:=t'}:=
 T.laid (λ_ _ q=>jX _ q) (jT _) ⟨c,a,0,hv,kF _ rfl⟩
def Inv.fresh(T:Inv X pins σ H s):H s.heap.objs.size=I:=T.hok.fresh<|jT _
inductive LsM(h:jb)(l:iw)(xs:List V):Prop where
 |mk (_:(IX xs)<=sizeLine) (its:jS) (n:Nat) (_:Vals xs its) (_:(IX xs)=IX its) (_:h.get? l=Go {cls:=.type "list",data:=.seq its.toArray n})
def Inv.KO(T:Inv X pins σ H s)(c:H l=Y (.lst xs)):LsM s.heap l xs:=by obtain⟨z,a,n,r,e⟩:=T.hok l _ c;exact⟨z,a,n,r,r.length,e⟩
end
section
variable {X:Cx}
def RT:V->List V->Hp->VK->Prop:=λx b T Q=>∃l a y,x=.ref l/\b=[y]/\T l=Y (.lst a)/\(IX a)<sizeLine/\Q .VP (upd T l<|.lst<|a++[y])
def ags:MtM X "list.append" RT:=by
 intro c s p O x m v k Q T g f h;obtain⟨l,o,y,rfl,rfl,b,j,q⟩:=h;cases g;obtain⟨u,rfl,d⟩:=f.one;obtain⟨z,a,n,r,i,e⟩:=T.KO b;refine Ah F.slot_list_append ⟨_,e,rfl⟩ MT (MS _ _) (gA l a.toArray n u<|by rw[kR];lia) ⟨e,?_⟩;refine⟨.VP,_,T.KP (its':=a++[u]) b e (by simp) (r.append<|.cons d .nil) ?_,rfl,q⟩;rw[oG,Ag]
 lia
def V3:V->List V->Hp->VK->Prop:=λx b T Q=>∃l a i k y,x=.ref l/\b=[.int i]/\T l=Y (.lst a)/\ -(2^63)<=i/\i<2^63/\ro i (IX a)=Y k/\a[k]?=Y y/\Q y (upd T l<|.lst<|a.eraseIdx k)
def OZ:MtM X "list.pop" V3:=by
 intro c s L O x E v N Q T p o h;obtain⟨l,B,i,k,y,rfl,rfl,b,h1,d,hk,j,q⟩:=h;cases p;obtain⟨u,rfl,m⟩:=o.one;obtain⟨t,rfl⟩:=m;obtain⟨z,a,n,r,f,e⟩:=T.KO b;obtain⟨w,g,A⟩:=r.get j
 refine Ah F.slot_list_pop ⟨_,e,rfl⟩ F.entry_list_pop (F.args_list_pop_2 _ _)
  (MeetsSeq.list_pop_at l a.toArray n i t k w (fitsIndex_both h1 d) (by rw[kR,<-f];exact hk) (by rw[<-nM];exact g)<|by rw[kR];lia) ⟨e,?_⟩
 refine⟨y,_,T.KP (its':=a.eraseIdx k) b e ?_ (r.eraseIdx k) ?_,A,q⟩
 .show a.toArray.eraseIdxIfInBounds k=(a.eraseIdx k).toArray;rw[List.eraseIdxIfInBounds_toArray]
 have:=CC B k
 lia
end
section
variable {a:jh}{w:iY}{A:iU}{E:jr}{s:iB}
end
section
variable {X:Cx}
end
end L2
namespace Att
open PySem.W PySem.Calls
def zv{P:Params}{h:jb}:∀(c:iF)(d:jS),WellAll P h d (c.map WData.int)->ei d c:=by
 intro c
 induction c with
 |nil=>intro d w;rw[oZ]at w;cases w;exact .nil
 |cons n c e=>
  intro d w;rw[ku]at w
  cases w with
  |cons a b=>
   cases a;exact .cons _ _ (e _ b)
def afI{l:OpenLaw}{n:Nat}(v:l.most=Y n){P:Params}{h:jb}{b:List WData}{e:jS}
  (j:l.row.toRowW.claim.pre b=J)(s:WellAll P h e b):
  ∃a m c,e=[ca a]/\b=[WData.list<|c.map WData.int]/\h.get? a=Y {cls:=.type "list",data:=.seq m.toArray}/\ei m c/\(IX c)<=n:=by
 have p:WShape.hasAll [] b [.list .int]=J:=(pre_splitW j).1;have k:l.pre.holds [] {args:=b}=J:=(pre_splitW j).2;obtain⟨d,r,rfl,h1,t⟩:=hasAllW_cons p;obtain rfl:=hasAllW_nil t;obtain⟨A,rfl,u⟩:=hasW_list h1;obtain⟨c,rfl⟩:=items_int u
 have f:(IX c)<=n:=by
  unfold OpenLaw.pre at k
  have g:(WTm.not<|.lt (.lit<|.int (n:Int))<|.len<|.arg 0).holds [] {args:=[.list<|c.map .int]}=J:=by have g:=(holds_andW k).1;rw[v]at g;exact g
  have i:=condW_of g<|w_not<|w_lt w_lit<|w_len_list<|w_arg C;rw[jU]at i;refine ms λq=>?_;have x:(n:Int)<(((IX c):Nat):Int):=by omega
  first
   |(rw[lO x]at i;exact absurd i<|by decide)
   |(simp at i;omega)
 cases s with
 |cons y z=>
  cases z
  cases y with
  |list w o=>exact⟨_,_,c,rfl,rfl,w,zv c _ o,f⟩
def afw(l:OpenLaw)(a:List WData):l.row.toRowW.claim.post a (.bool J) a=J:=
 postW_of (r:=l.row.toRowW) (X:=J==J)
  (show WShape.has [] (.bool J) .bool=J by first|rfl|decide|simp[WShape.has,WShape.arms,WShape.armsAll])
  (show(WTm.eq .res<|.lit<|.bool J).value [] {args:=a,res:=Y<|.bool J,after:=a}=Y (.bool<|J==J)from w_eq_bool (w_res C) w_lit) rfl
def Ue{l:OpenLaw}{n:Nat}{q:jh}{c:ji}{x:(aE->Option iI)->jb->Prop}{y:iY->jb->Prop}{d:DefRec}
  (hn:l.most=Go n)(I:d.params.defaults=[])
  (call:∀(w:iY)(e b:iB)(m u:mE)(j:iw)(o:el)(v cd g:iI)(a:iw)(i:jS)(p:iF),
   Ground q c [] x w e m u b.heap->y w b.heap->
   b.heap.get? j=Go o->o.data=.func (docDef d.name d.params d.body d.scope v cd g)->b.heap.CodeRec cd d.name->m d.name=Go (.ref j)->
   b.heap.get? a=Go {cls:=.type "list",data:=.seq i.toArray}->ei i p->IX p<=n->b.gens= #[]->
   b4 (am l.prog w) fy (.call (.ref j) ⟨[.ref a],[]⟩) (λr s=>r=.ok (.ret<|.bool IN)/\OldK b.heap s.heap/\s.os=b.os/\ej s.gens) b):
  WalkO q c x y l.row.toRowW d [] (λf i=>r6 f i):=by
 intro w e b m u G Y j o v cd g L kV D hd P A t M z C as E B K O N;obtain rfl:L=.none:=Dflts.none A I;obtain rfl:kV=.none:=Dflts.noKw A;obtain⟨a,i,p,rfl,rfl,H,h,k⟩:=afI hn E O;refine enter_call<|ql (call w e b m u j o v cd g a i p G Y D (fd_plain hd) P t H h k M) λr s F=>?_;obtain⟨rfl,Q,T,J⟩:=F;exact⟨.inl ⟨.bool IN,.bool IN,[],rfl,λ_=>rfl,.bool IN,afw l _,λ_=>⟨cb,λ_ U=>(nomatch U)⟩⟩,Q,T,J⟩
section
variable {a:jh}{w:iY}{A:iU}{E:jr}{s:iB}{K:Frag}
end
end Att
namespace L2
def afz{b:jS}{a:iF}(h:ei b a):Vals (a.map V.int) b:=by
 induction h with
 |nil=>exact .nil
 |cons n t h c=>exact .cons ⟨t,rfl⟩ c
noncomputable def qv(s:bi):Arguments:=match s with
 |.FunctionDef _ a _ _ _ _ _ _ _ _=>a
 |_=>{posonlyargs:=[],args:=[],vararg:=I,kwonlyargs:=[],kw_defaults:=[],kwarg:=I,defaults:=[]}
noncomputable def lQ(s:bi):List Stmt:=match s with
 |.FunctionDef _ _ b _ _ _ _ _ _ _=>b
 |_=>[]
noncomputable def iL(s:bi):Scope:=match s with
 |.FunctionDef _ _ _ _ _ _ a _ _ _=>a
 |_=>{kind:=.function,names:=[],isGenerator:=U,isCoroutine:=U}
abbrev BU:HB:=λ_ _ _ _ _ _=>False
abbrev E0:XK:=λ_ _ _=>False
def UP{X:Cx}:Jm BU X E0:=λ_ _ _ _ _ _ _ h=>h.elim
structure HM(K:jd)(x qual:aE)(st:bi)(f:iw)(fd:nK):Prop where
 ex:∃(oc:iI)(od:Option iw)(kV doc pm:iI)(an:Option iw)(b7 ct:iI)(r9:zN),
  fd=bI x qual (qv st) (lQ st) (iL st) .none kV doc pm an b7 ct/\K.lookup f=Go ⟨oc,od,.func fd,r9⟩/\cR K b7 qual=IN
 kp:ce K (.ref f)=IN
section
variable {P:jh}{w:iY}{K:jd}{a:mE}{base:jb}
def HM.ok{x qual:aE}{st:bi}{f:iw}{g:nK}{N d:ji}{k:Nat}{e:Sp}(F:HM K x qual st f g)(S:R1 N d (iL st))(len:∀vs T Q E,e vs T Q E->IX vs=IX d)
  (o:∀(c:iI)(A:iU)(b:List dk)(s:iB)(T:Hp)(vs:List V)(Q:VK)(E:XK),OO k (A.deeper<|bc qual (iL st) s.heap.objs.size f c)->e vs T Q E->
   ∃t,D5 (rE BU P w K a base N qual (iL st) f c A b s T E).FG (lQ st) t/\t {nx:=λ_ i=>Q .VP i,rt:=Q} (qp N vs) T):BF P w K a base BU (k+1) f g d e:=by
 obtain⟨p,r,kV,l,u,an,c,ct,v,rfl,lk,n⟩:=F.ex;refine U6 lk n S len λA b s T vs Q E m j=>?_;obtain⟨t,h,q⟩:=o c A b s T vs Q E m j;exact⟨t,h.FG,q⟩
def HM.binds{x qual:aE}{st:bi}{f:iw}{i:nK}{e:ji}(F:HM K x qual st f i)
  (h:∀(kV b d:iI)(an:Option iw)(c ct:iI)(g:jS),IX g=IX e->dh (bI x qual (qv st) (lQ st) (iL st) .none kV b d an c ct) ⟨g,[]⟩=pure (e.zip g)):Binds K i e []:=by
 obtain⟨k,l,kV,b,d,an,c,ct,m,rfl,lk,j⟩:=F.ex;exact .all<|h kV b d an c ct
def Qa{x qual:aE}{st:bi}{f:iw}{g:iI}{h an:Option iw}{i:zN}{kV b e d ct:iI}(l:K.lookup f=Y ⟨g,h,.func<|bI x qual (qv st) (lQ st) (iL st) .none kV b e an d ct,i⟩)
  (c:cR K d qual=J)(k:ce K (.ref f)=J):HM K x qual st f (bI x qual (qv st) (lQ st) (iL st) .none kV b e an d ct):=⟨⟨g,h,kV,b,e,an,d,ct,i,rfl,l,c⟩,k⟩
end
section
variable {X:Cx}
end
def aao{A B:Prop}(h:B):if U=J then A else B:=by rw[je kY];exact h
def aan{A B:Prop}(h:A):if J=J then A else B:=by rw[iQ C];exact h
theorem wF(b:dk):∀(l:List (aE×NameKind))(g:kj),(∀x∈l,x.2=.free->∃c,b.cells.lookup x.1=Y c)->(∀x c,g.lookup x=Y c->b.cells.lookup x=Y c)->
  ∃cl,(fI l g λx r=>if x.2==aQ then do let a <-ww b x.1;pure (bG ((x.1,a)::r))else pure (bG r))=(pure cl:dq (List<|aE×iw))/\
   (∀x c,cl.lookup x=Y c->b.cells.lookup x=Y c)/\(∀x,(x,aQ)∈l->∃c,cl.lookup x=Y c)/\∀x c,g.lookup x=Y c->∃c,cl.lookup x=Y c
 |[],g,_,m=>⟨g,rfl,m,λx h=>by simp at h,λx c h=>⟨c,h⟩⟩
 |(n,k)::l,g,h,m=>by
  by_cases hk:k=.free
  .subst hk;obtain⟨c,e⟩:=h (n,.free) ky C;have q:b.cells.lookup n=Y c:=e
   obtain⟨cl,h1,o,p,j⟩:=wF b l ((n,c)::g) (λx f=>h x<|kO _ f) (λx d f=>by
    rw[oY]at f
    cases i:x==n with
    |true=>rw[i]at f;have:=pK i;subst this;cases f;exact q
    |false=>rw[i]at f;exact m x d f)
   refine⟨cl,?_,o,λx f=>?_,λx d f=>?_⟩
   .rw[Af];have:ww b n=pure c:=by unfold ww;rw[q]
    simp -iota only[this,tp,nr];exact h1
   .rcases oq.mp f with z|z
    .cases z;exact j n c (by simp)
    exact p x z
   cases i:x==n
   .exact j x d (by rw[oY,i];exact f)
   have:=pK i;subst this;exact j x c (by simp)
  obtain⟨cl,h1,o,p,j⟩:=wF b l g (λx f=>h x<|kO _ f) m;have i:(k==aQ)=U:=by simpa using hk
  refine⟨cl,?_,o,λx f=>?_,j⟩
  .rw[Af];simp -iota only[i,mn,tp];exact h1
  rcases oq.mp f with z|z
  .cases z;exact absurd C hk
  exact p x z
def wD(b:dk)(scope:ju)(h:∀x∈scope.names,x.2=.free->∃c,b.cells.lookup x.1=Y c):
  ∃cl,n7 scope b=pure cl/\(∀x c,cl.lookup x=Y c->b.cells.lookup x=Y c)/\∀x,(x,aQ)∈scope.names->∃c,cl.lookup x=Y c:=by
 obtain⟨cl,h1,d,e,_⟩:=wF b scope.names [] h (λx c f=>by simp at f);refine⟨cl,?_,d,e⟩;unfold n7;have:(fI scope.names ([]:List (aE×iw)) λx r=>if x.2==aQ then do let a <-ww b x.1;pure (bG ((x.1,a)::r))else pure (bG r))=(pure cl:dq (List<|aE×iw)):=h1
 first
  |exact(mG (· >>=λr=>pure r) this).trans (tp _ _)
  |(simp -iota;exact this)
  |exact this
theorem nB:∀(b:List (aE×NameKind))(n:Nat)(a:kj),bn n b a=bn n b []++a
 |[],_,_=>rfl
 |(x,k)::r,n,a=>by
  unfold bn;split
  .rw[nB r (n+1) ((x,n)::a),nB r (n+1) [(x,n)],qO];rfl
  exact nB r n a
theorem qC{x:aE}{c:iw}:∀(a:List (aE×NameKind))(n:Nat),(x,c)∈bn n a []->(x,aK)∈a
 |[],_,h=>by simp[bn]at h
 |(y,k)::r,n,h=>by
  unfold bn at h;split at h
  .rename_i hk;rw[nB]at h;rcases pk.mp h with z|z
   .exact kO _ (qC r _ z)
   cases EU.mp z;rw[pK hk];exact ky
  exact kO _ (qC r _ h)
structure Lb(cells:kj)(scope:ju)(C:iw)(h:jb)(cl:kj):Prop where
 one:∀x c,cl.lookup x=Go c->(cells.lookup x=Go c/\scope.names.lookup x≠Go .cell)\/(C<c/\scope.names.lookup x=Go .cell/\h.IsCell c Ix)
 all:∀x,(x,aQ)∈scope.names\/(x,aK)∈scope.names->∃c,cl.lookup x=Go c
 inj:∀x y c,C<c->cl.lookup x=Go c->cl.lookup y=Go c->(∀z d,cells.lookup z=Go d->d<C)->x=y
 ex:∀x c,cl.lookup x=Go c->cells.lookup x=Go c\/C<c
def Ta{M:fW}{A:iU}{E:jr}{s:iB}{scope:ju}{globals:iw}{a:dk}{cl:kj}{qual:aE}{Q:dk->iB->Prop}(u:∀y∈scope.names,y.2=.cell->scope.names.lookup y.1=Y .cell)
  (m:∀x c,cl.lookup x=Y c->a.cells.lookup x=Y c)(T:∀x,(x,aQ)∈scope.names->∃c,cl.lookup x=Y c)
  (B:∀k r,k.Ns s.heap.objs.size (λ_=>I)->(∀b o,s.heap.get? b=Y o->k.get? b=Y o)->Lb a.cells scope s.heap.objs.size k r->
   Q {scope,locals:=s.heap.objs.size,globals,cells:=r,qual,func:=I,code:=a.code,frame:=a.frame,builtins:=a.builtins} {s with heap:=k}):
  af M A (dg scope globals cl [] qual I .none<|Y a) Q E s:=by
 simp -iota only[dg,gl,nr];refine iz<|yp ?_;refine iz<|v6 _ (λv j i=>by cases n:j==aK<;>simp[n]) _ _ _ _ ?_;have ok:=zx scope.names (s.heap.push {cls:=.type "dict",data:=.dict #[]}) (s.heap.objs.size+1) [] ⟨λ_ _ N=>(nomatch N),cb⟩ (by rw[oX];exact jT _);rw[oX]at ok;rw[show({s with heap:=s.heap.push {cls:=.type "dict",data:=.dict #[]}}:iB).heap.objs.size=s.heap.objs.size+1 from oX ..];simp -iota;have g:∀x,(bn (s.heap.objs.size+1) scope.names cl).lookup x=((bn (s.heap.objs.size+1) scope.names []).lookup x).or (cl.lookup x):=λx=>by rw[nB,List.lookup_append]
 have f:∀x c,(bn (s.heap.objs.size+1) scope.names cl).lookup x=Y c->(cl.lookup x=Y c/\(bn (s.heap.objs.size+1) scope.names []).lookup x=I)\/(x,c)∈bn (s.heap.objs.size+1) scope.names []:=λx c h=>by
  rw[g]at h
  cases p:(bn (s.heap.objs.size+1) scope.names []).lookup x with
  |none=>rw[p]at h;exact .inl ⟨h,rfl⟩
  |some d=>rw[p]at h;cases h;exact .inr<|qR p
 have lo:∀{x:aE}{c:iw},(x,c)∈bn (s.heap.objs.size+1) scope.names []->s.heap.objs.size<c:=λ{x c} h=>(ok.empty x c h).2;refine iz<|iJ<|iJ<|B _ _ ((Heap.Ns.new s.heap<|.type "dict").keeps<|Dv _ _) (λb o e=>Dv _ _ b o (jX _ e)) ⟨λx c h=>?_,λx h=>?_,λx y c l h1 w t=>?_,λx c h=>?_⟩
 .rcases f x c h with⟨z,O⟩|z
  .refine .inl ⟨m x c z,λe=>?_⟩;have:=DA scope.names (s.heap.objs.size+1) []<|.inl e;rw[O]at this;cases this
  exact .inr ⟨lo z,u _ (qC _ _ z) rfl,(ok.empty x c z).1⟩
 .rcases h with h|h
  .obtain⟨c,l⟩:=T x h;rw[g,l];cases(bn (s.heap.objs.size+1) scope.names []).lookup x<;>exact⟨_,rfl⟩
  have:=DA scope.names (s.heap.objs.size+1) cl<|.inl<|u _ h rfl;exact Mb.mp this
 .rcases f x c h1 with⟨z,_⟩|z
  .exact absurd (t x c<|m x c z) (G8 l)
  rcases f y c w with⟨q,_⟩|q
  .exact absurd (t y c<|m y c q) (G8 l)
  exact zn ok.apart z q
 rcases f x c h with⟨z,_⟩|z
 .exact .inl (m x c z)
 exact .inr (lo z)
noncomputable def Cx.comp(X:Cx)(d:ji)(scope:ju)(cl:kj)(T:iw)(e:iB)(c:Hp)(fp:la)(a:jw):Cx:=
 {X with N:=d,s₀:=e,H₀:=c,env:=compEnvC scope cl T X.env,outer:=X.stack,stack:=X.stack,ex:=fp,fn:=λx=>scope.names.lookup x==Y .cell,pn:=X.pn++a,xe:=λ_ _=>False}
abbrev TB:=St->Hp->(St->Hp->Prop)->Prop
def PB(X:Cx)(code:dq Unit)(t:TB):Prop:=
 ∀(a:jw)(s:iB)(c:St)(T:Hp)(N:St->Hp->Prop),Inv X a c T s->t c T N->
  af (am X.prog X.w) X.A code (λ_ d=>∃b H',Inv X a b H' d/\N b H') X.xe s
def IE(X:Cx)(b:kI)(t:TT):Prop:=
 ∀(a:jw)(s:iB)(d:St)(T:Hp)(Q:Bool->Hp->Prop),Inv X a d T s->t d T Q->
  af (am X.prog X.w) X.A (fI b J λc r=>if r=J then do let ok <-isTrue c X.env (bh c X.env);pure (bG ok)else pure (bG r)) (TP X a d Q) X.xe s
noncomputable def Zp:TT:=λ_ T Q=>Q J T
section
variable {X:Cx}
def Sj:IE X [] Zp:=λa s b O Q T h=>wpAny_tests_nil ⟨O,T,h⟩
def Si{c:iM}{t:TT}(h:PT X c t):IE X [c] t:=λa s d O Q T b=>wpAny_tests_one<|h a s d O Q T b
noncomputable def jG(e:iM)(depth:Nat)(acc:iI)(a:dk):dq Unit:=
 match(bS e)[depth+1]? with
 |some c=>do
  let x <-bh c.iter a
  cA c.iter.pos
  let x <-aB c.iter a x
  let _ <-runOwn (.compStart e (depth+1) (<-cn [x] (db x)) acc a) a
 |none=>match e with
  |.ListComp b _ _ _=>do let _ <-call (.builtin "list.append") [acc,<-bh b a]
  |.SetComp b _ _ _=>do let v <-bh b a;cA b.pos;let _ <-call (.builtin "set.add") [acc,v]
  |_=>lf "no"
def JC(T:It)(g:TG)(l:TT)(tb:TB):TB:=λd Q N=>∃W:Nat->Nat->St->Hp->Prop,(∃m,W 0 m d Q)/\∀i m d Q,W i m d Q->
 (T.stop i Q/\N d Q)\/(T.go i Q/\∀x f,T.yld i Q x f->g x d f λa j=>l a j λb h=>if b=J then tb a h λe k=>∃c,c<m/\W (i+1) c e k else ∃c,c<m/\W (i+1) c a h)
def aec(e:iM)(depth:Nat)(it f:iI)(b:dk)(g:oT)(o:(∃d a i p,e=.ListComp d a i p)\/(∃d a i p,e=.SetComp d a i p))
  (j:(bS e)[depth]?=Y g)(n:g.is_async=0)(k:∀h,(bS e)[depth+1]?=Y h->h.is_async=0):
  l3 e depth it f b=(do
   cA g.iter.pos
   match <-cJ it with
   |none=>pure<|.done .next
   |some v=>
    ek g.target it v
    cu g.target b v
    let ok <-fI g.ifs J λc r=>if r=J then do let ok <-isTrue c b (bh c b);pure (bG ok)else pure (bG r)
    if ok=J then jG e depth f b
    again (.compLoop e depth it f b)):=by
 rcases o with⟨d,a,i,p,rfl⟩|⟨d,a,i,p,rfl⟩
 .have l:a[depth]?=Y g:=j;unfold l3 jG;simp only[clausesOf.eq_def]at j k ⊢;rw[l];simp only[n]
  cases m:a[depth+1]? with
  |none=>rfl
  |some h=>
   have:=k h m;simp only[this,yo,kW,mn]
   congr 1;funext _;congr 1;funext r
   cases r with
   |none=>rfl
   |some v=>
    dsimp only
    congr 1;funext _;congr 1;funext _;congr 1;funext ok
    cases ok
    .rfl
    simp only[tV];rfl
 have l:a[depth]?=Y g:=j;unfold l3 jG;simp only[clausesOf.eq_def]at j k ⊢;rw[l];simp only[n]
 cases m:a[depth+1]? with
 |none=>rfl
 |some h=>
  have:=k h m;simp only[this,yo,kW,mn]
  congr 1;funext _;congr 1;funext r
  cases r with
  |none=>rfl
  |some v=>
   dsimp only
   congr 1;funext _;congr 1;funext _;congr 1;funext ok
   cases ok
   .rfl
   simp only[tV];rfl
def Qq
  (d:(∃b a c p,e=.ListComp b a c p)\/(∃b a c p,e=.SetComp b a c p))
  (h:af (am prog w) A ((l3 e depth it acc env).onRaise (λx=>do rs x env;theTreesLotGoes x)) Q E s):
  af (am prog w) (A.under<|.compLoop e depth it acc env) ((am prog w).den<|.compLoop e depth it acc env) Q E s:=by
 rcases d with⟨b,a,c,p,rfl⟩|⟨b,a,c,p,rfl⟩
 .exact h
 exact h
def J1{e:iM}{depth:Nat}{acc:iI}{c:oT}{g:TG}{ti:TT}{tb:TB}{J:It}{y:la}{it:iw}{tn:Nat->jb->Prop}(cB:X.xe=λ_ _=>False)(hc:X.calm=IN)
  (hl:(∃B k sc p,e=.ListComp B k sc p)\/(∃B k sc p,e=.SetComp B k sc p))(hg:(bS e)[depth]?=Y c)(ha:c.is_async=0)(j7:∀g',(bS e)[depth+1]?=Y g'->g'.is_async=0)
  (T:Turn X.prog X.w X.K c.target J y it tn)(pg:PG X c.target g)(bB:IE X c.ifs ti)(pb:PB X (jG e depth acc X.env) tb)
  {a:jw}{s:iB}{σ:St}{H:Hp}{N:St->Hp->Prop}(I:Inv X a σ H s)(f2:∀b∈y,uG X a H b)(st:tn 0 s.heap)(h:JC J g ti tb σ H N):
  b4 (am X.prog X.w) X.A (.compLoop e depth (.ref it) acc X.env) (λr Y'=>r=.ok .next/\∃f j,Inv X a f j Y'/\(∀b∈y,j b=Ix)/\N f j) s:=by
 obtain⟨W,⟨m0,w0⟩,turn⟩:=h;have R:∀{j:Hp},(∀b∈y,j b=Ix)->∀b∈y,uG X a j b:=λhn b v=>⟨hn b v,(f2 b v).2⟩
 have D:∀{α:Type}{t:dq α}{Q:α->iB->Prop}{E:jr}{s:iB},af (am X.prog X.w) X.A t Q X.xe s->af (am X.prog X.w) X.A t Q E s:=λh=>nQ h (λ_ _ x=>x) λ_ _ z=>by rw[cB]at z;exact z.elim
 refine codeAny_loop C (λn Y'=>∃i f j,Inv X a f j Y'/\tn i Y'.heap/\(∀b∈y,j b=Ix)/\W i n f j) (λn Z hI=>?_) m0 ⟨0,σ,H,I,st,λb v=>(f2 b v).1,w0⟩;refine Qq hl ?_;refine wpAny_noted ?_;rw[aec e depth (.ref it) acc X.env c hl hg ha j7];obtain⟨i,l,G,S,V,F,w3⟩:=hI;refine iz<|ud ?_;rcases turn i n l G w3 with⟨stop,qn⟩|⟨go,step⟩
 .refine iz (Q1 (T.done X C C C hc i a Z l G _ S (R F) V stop) ?_);rintro r s4 ⟨P,I4⟩;subst P;exact iJ ⟨rfl,l,G,I4,F,qn⟩
 refine iz (Q1 (T.item X C C C hc i a Z l G _ S (R F) V go) ?_);rintro r s4 ⟨u,P,h4⟩;subst P;refine iz<|Q1 h4 ?_;rintro _ s5 ⟨x,H5,I5,r5,y5,cj,hG⟩;have iu:=I5.pinned (R hG)<|T.obj _ _ cj;refine iz<|Q1 (D<|pg _ s5 l H5 x u _ iu r5 (step x H5 y5)) ?_;rintro _ s6 ⟨σ6,H6,I6,q6⟩;refine iz<|Q1 (D<|bB _ s6 σ6 H6 _ I6 q6) ?_;rintro ok s7 ⟨H7,I7,U'⟩
 have again:∀{O:iB}{q:St}{C':Hp},Inv X (a++AB y s5.heap) q C' O->(∃M,M<n/\W (i+1) M q C')->∃m,m<n/\∃i f j,Inv X a f j O/\tn i O.heap/\(∀b∈y,j b=Ix)/\W i m f j:=λ{O q C'} L a'=>by
  obtain⟨M,hm,w8⟩:=a'
  refine⟨M,hm,i+1,q,C',L.B2,T.keep _ _ _ cj λb v o e=>(L.pin (b,o)<|pd _ (pd _ (rR v e))).1,λb v=>?_,w8⟩;obtain⟨o,e,d⟩:=T.obj _ _ cj b v;exact(L.pin (b,o)<|pd _ (pd _ (rR v e))).2.1
 cases ok with
 |false=>rw[je kY]at U';exact iJ ⟨rfl,again I7 U'⟩
 |true=>rw[iQ C]at U';simp -iota;refine iz<|Q1 (D<|pb _ s7 σ6 H7 _ I7 U') ?_;rintro _ O ⟨q,C',L,q8⟩;exact iJ ⟨rfl,again L q8⟩
def Zt(d:iw)(e:TE):TB:=λc T N=>e c T λy b=>∃a,b d=Y (.lst a)/\(IX a)<sizeLine/\N c (upd b d<|.lst<|a++[y])
def Sx{b:iM}{a:oU}{i:ju}{p:bA}{depth:Nat}{d:iw}{j:TE}(o:a[depth+1]?=I)(m:PE X b j):PB X (jG (.ListComp b a i p) depth (.ref d) X.env) (Zt d j):=by
 intro f s k Q N T h
 have l:jG (.ListComp b a i p) depth (.ref d) X.env=(do let _ <-call (.builtin "list.append") [.ref d,<-bh b X.env]):=by unfold jG;simp -iota only[clausesOf.eq_def];rw[o]
 rw[l];refine iz<|Q1 (m f s k Q _ T h) ?_;rintro u s1 ⟨y,H1,g,t,x,hd,w,q⟩;obtain⟨z,c,n,r,v,e⟩:=g.KO hd;refine iz<|Ah F.slot_list_append ⟨_,e,rfl⟩ MT (MS _ _) (gA d c.toArray n u<|by rw[kR];lia) ⟨e,?_⟩;refine iJ ⟨k,_,g.KP (its':=c++[u]) hd e (by simp) (r.append<|.cons t .nil) ?_,q⟩;rw[oG,Ag]
 lia
def Fl{b:jh}{w:iY}{A:iU}{e:iM}{depth:Nat}{it acc:iI}{d:dk}{R:io->iB->Prop}{s:iB}{c:oT}
  (q:(∃g a i p,e=.ListComp g a i p)\/(∃g a i p,e=.SetComp g a i p))(o:(bS e)[depth]?=Y c)(n:c.is_async=0)
  (l:b4 (am b w) A (.compLoop e depth it acc d) R s)
  (j:∀(Q:jr)(E:jr),Q it s->af (am b w) A (db it) Q E s):
  b4 (am b w) A (.compStart e depth it acc d) R s:=by
 have h:af (am b w) A (gD e depth it acc d) (λfin k=>match fin with|.done f=>R (.ok f) k|.again m=>m.quiet=J/\b4 (am b w) A m R k) (notedBy (am b w) A d λx k=>R (.error x) k) s:=by
  unfold gD;rw[o];simp only[Option.elim,n,kW,mn];refine iz<|tU<|wpAny_ite ?_;split
  .first
    |exact iz<|iJ<|iJ<|du C l
    |exact iJ<|du C l
  exact iz (vz<|iz<|ud<|iz<|j _ _ (iJ<|du C l))
 rcases q with⟨g,a,i,p,rfl⟩|⟨g,a,i,p,rfl⟩
 .refine tR ?_;show af _ A ((gD (.ListComp g a i p) depth it acc d).onRaise (λx=>do rs x d;cA ul)) _ _ s;exact wS h
 refine tR ?_;show af _ A ((gD (.SetComp g a i p) depth it acc d).onRaise (λx=>do rs x d;cA ul)) _ _ s;exact wS h
noncomputable def Nv(d:TI)(g:TG)(c:TT)(tb:TB):TB:=λa Q N=>d a Q λT b=>JC T g c tb a b N
def Wy{e:iM}{depth:Nat}{b:iI}{c:oT}{u:TI}{g:TG}{t:TT}{tb:TB}(C:X.xe=λ_ _=>False)(M:X.calm=IN)
  (o:(∃d a j p,e=.ListComp d a j p)\/(∃d a j p,e=.SetComp d a j p))(i:(bS e)[depth+1]?=Go c)(n:c.is_async=0)(j7:∀m,(bS e)[depth+1+1]?=Go m->m.is_async=0)
  (hs:∀x,aB c.iter X.env x=pure x)(pi:PI X c.target c.iter u)(pg:PG X c.target g)(B:IE X c.ifs t)(pb:PB X (jG e (depth+1) b X.env) tb):
  PB X (jG e depth b X.env) (Nv u g t tb):=by
 intro f s K H N I h
 have L:jG e depth b X.env=(do
  let x <-bh c.iter X.env
  cA c.iter.pos
  let x <-aB c.iter X.env x
  let _ <-runOwn (.compStart e (depth+1) (<-cn [x] (db x)) b X.env) X.env):=by
  unfold jG;rw[i]
 rw[L];refine iz<|Q1 (pi f s K H _ I h) λv s1 h1=>iz<|ud<|iz<|vw (hs v)<|iz<|mF<|Q1 h1 λR F G=>?_;obtain⟨it,S,W,J,P,rfl,y,T,l,O,D⟩:=G;refine iz<|wpAny_runOwn ?_;refine Fl o i n ?_ λQ E U=>T.self X.A 0 F Q E l U;refine ql (J1 C M o i n j7 T pg B pb y O l D) λr V Y=>?_;obtain⟨rfl,k,w,z,_,q⟩:=Y;exact iJ ⟨k,w,z,q⟩
end
theorem ph{a:dk}:∀{b:List (aE×NameKind)}{x:aE},b.lookup x=Y .free->
  (b.map λ(n,k)=>if(k==aQ&&a.scope.kind== .function&&a.kindOf n==Y .cell)then(n,aK)else(n,k)).lookup x=Y .cell\/
  (b.map λ(n,k)=>if(k==aQ&&a.scope.kind== .function&&a.kindOf n==Y .cell)then(n,aK)else(n,k)).lookup x=Y .free
 |[],_,h=>by simp at h
 |(n,k)::r,x,h=>by
  have e:= @ph a r x;rw[ku]
  cases c:x==n with
  |true=>
   simp only[oY,c]at h;cases h;by_cases d:(aQ==aQ&&a.scope.kind== .function&&a.kindOf n==Y .cell)=J
   .left;simp only[d,nr,oY,c]
   right;simp only[d,mn,oY,c,kW]
  |false=>
   simp only[oY,c]at h;by_cases d:(k==aQ&&a.scope.kind== .function&&a.kindOf n==Y .cell)=J
   .simp only[d,nr,oY,c];exact e h
   simp only[d,mn,oY,c,kW];exact e h
theorem lP{a:dk}:∀{b:List (aE×NameKind)}{x:aE}{g:NameKind},
  (b.map λ(n,k)=>if(k==aQ&&a.scope.kind== .function&&a.kindOf n==Y .cell)then(n,aK)else(n,k)).lookup x=Y g->∃k,(x,k)∈b/\(k=g\/k=.free)
 |[],_,_,h=>by simp at h
 |(n,k)::r,x,g,h=>by
  rw[ku]at h
  cases f:x==n
  .by_cases c:(k==aQ&&a.scope.kind== .function&&a.kindOf n==Y .cell)=J
   .simp only[c,nr,oY,f]at h;obtain⟨i,h1,d⟩:=lP h;exact⟨i,kO _ h1,d⟩
   simp only[c,mn,oY,f,kW]at h;obtain⟨i,h1,d⟩:=lP h;exact⟨i,kO _ h1,d⟩
  have e:=pK f;subst e;by_cases c:(k==aQ&&a.scope.kind== .function&&a.kindOf x==Y .cell)=J
  .refine⟨k,ky,.inr ?_⟩
   have h1:(k==aQ)=J:=by
    cases hk:(k==aQ)with
    |true=>rfl
    |false=>rw[hk]at c;simp at c
   exact pK h1
  simp only[c,mn,oY,kW]at h;exact⟨k,ky,.inl<|by simpa using h⟩
structure B8(X:Cx)(N':ji)(scope:ju)(pre:St->St):Prop where
 cell:∀y∈scope.names,y.2=.cell->scope.names.lookup y.1=Go .cell
 kind:scope.kind=.function
 names:∀y∈scope.names,y.2=.local->scope.names.lookup y.1=Go .local
 free:∀y∈scope.names,y.2=.free->X.env.scope.names.lookup y.1=Go .cell\/X.env.scope.names.lookup y.1=Go .free
 len:∀σ:St,(pre σ).length=IX N'
 pre:∀(σ:St)(i:Nat)(v:V)(x:aE),(pre σ)[i]?=Go (Go v)->N'[i]?=Go x->scope.names.lookup x=Go .free/\∃j:Nat,X.N[j]?=Go x/\σ[j]?=Go (Go v)
section
variable {X:Cx}
def T3{H:ji}{scope:ju}{pre:St->St}(S:B8 X H scope pre){d:jw}{f:iB}{E:St}{t:Hp}{A:la}{cl:kj}{C:jb}{t':Nat}(I:Inv X d E t f)
  (B:Lb X.env.cells scope f.heap.objs.size C cl)
  (w:∀b∈A,uG X d t b)(O:∀b∈A,b<f.heap.objs.size)
  (q9:C.Ns f.heap.objs.size (λ_=>Ix))(hk:∀b o,f.heap.get? b=Y o->C.get? b=Y o):
  Inv (X.comp H scope cl f.heap.objs.size f t A d) [] (pre E) t {f with heap:=C,toks:=t'}:=by
 have D:∀b∈H9 X.stack,t b=Ix:=I.HP;have L:∀b,b≠X.env.locals->b∉X.fs->b∉H9 X.stack:=λb h1 a z=>(oq.mp<|I.D9 b z).elim h1 a;have old:∀x c,X.env.cells.lookup x=Y c->c<f.heap.objs.size:=λx c e=>(I.cell x c e).elim λ_ z=>z.lt
 refine⟨⟨I.ok.mod,?_,I.ok.glob,I.ok.blt,jT _,λx y c h1 a=>?_,λx h=>?_,λx c q e=>?_,I.ok.hd,I.ok.frames,.inl IR,λb g=>?_,
  I.bs,mq I.ok.bsz I.sz,λb o e g=>?_,λb g=>L b (w b g).2.1 (w b g).2.2.1,I.stack,D⟩,rfl,I.bare,Un.kept hk,⟨_,q9,λi x v h1 a Q=>?_⟩,λx c h=>?_,I.hok.fresh<|jT _,λx c h=>?_,λp R=>?_,I.hok.kept hk,S.len E⟩
 .show(hD scope X.env).kind=.function;simp[hD,S.kind]
 .rcases B.ex x c h1 with z|z
  .rcases B.ex y c a with s|s
   .exact I.ok.inj x y c z s
   exact absurd (old x c z) (G8 s)
  exact B.inj x y c z h1 a old
 ·
  have J:(hD scope X.env).names.lookup x=Y .cell\/(hD scope X.env).names.lookup x=Y .free:=h;refine B.all x ?_;rcases J with z|z
  .obtain⟨k,h1,a⟩:=lP z;rcases a with a|a<;>subst a
   .exact .inr h1
   exact .inl h1
  obtain⟨k,h1,a⟩:=lP z;rcases a with a|a<;>(subst a;exact .inl h1)
 .rcases B.one x c e with⟨_,z⟩|⟨z,_⟩
  .exact absurd (pK q) z
  exact wQ z
 .refine⟨kz<|O b g,λx c h=>?_⟩;rcases B.ex x c h with z|z
  .exact(w b g).2.2.2.2.1 x c z
  exact qm (Ae (O b g) z)
 ·
  have W:b∈A:=g;rcases(w b W).2.2.2.1 with z|z
  .exact I.ok.noex b o e z
  exact absurd (oH (kH e)<|mq I.ok.bsz z) (qo _)
 .obtain⟨q,j,K,hv⟩:=S.pre E i v x a h1;obtain⟨m,Z,P⟩:=I.loc;have T:=S.free (x,.free) (qR q) IR;obtain⟨u,r,l⟩:=P j x v K hv (by rcases T with z|z;exact .inr<|.inl z;exact .inr<|.inr z);refine⟨u,r,.inr ⟨ph q,?_⟩⟩;rcases l with⟨Y',_⟩|⟨_,c,F,V⟩
  .have M:X.env.scope.names.lookup x=Y .local:=Y';rcases T with z|z<;>(have s:X.env.scope.names.lookup x=_:=z;rw[M]at s;cases s)
  obtain⟨N,G⟩:=B.all x<|.inl<|qR q;rcases B.one x N G with⟨this,_⟩|⟨_,z,_⟩
  .rw[F]at this;cases this;exact⟨c,G,V.keeps hk⟩
  rw[q]at z;cases z
 .rcases B.one x c h with⟨z,_⟩|⟨_,_,z⟩
  .obtain⟨v,hv⟩:=I.cell x c z;exact⟨v,hv.keeps hk⟩
  exact⟨_,z⟩
 .rcases B.ex x c h with z|z
  .exact I.freeC x c z
  exact I.hok.fresh (wQ z)
 have U:p∈X.pn++d:=by simpa[Cx.comp]using R
 obtain⟨e,n,h1,a,Q⟩:=I.pin p U;exact⟨hk _ _ e,n,kz<|kH e,L _ h1 a,Q⟩
def Gm{q:ji}{scope:ju}{a:jw}{f g:iB}{n k:St}{i l:Hp}{j:la}{cl:kj}{m:jb}(T:Inv X a n i f)(h:∀b∈j,uG X a i b)
  (Q:Inv (X.comp q scope cl f.heap.objs.size f i j a) [] k l g)(s:aL f.heap.objs.size g.heap m):Inv X a n l {g with heap:=m}:=by
 have K:=T.LP (s':=g) (ch:=j) Q.os Q.base Q.hok Q.bare λb d=>⟨(h b d).2.2.2.1,(h b d).2.1,(h b d).2.2.2.2.1,(h b d).2.2.2.2.2⟩
 have Gv:X.env.locals<f.heap.objs.size:=T.lt;refine K.turned (it:=f.heap.objs.size) (t':=g.toks) (λb o d e=>by rw[s.2 b d];exact e) Q.free (qm Gv) (.inr T.sz) (λx c t z=>?_) λp r z=>?_
 .obtain⟨v,o,e,_⟩:=T.cell x c t;exact absurd (kH e) (by rw[z];exact qo _)
 obtain⟨e,_⟩:=T.pin p r;exact absurd (kH e) (by rw[z];exact qo _)
def Fh(o:HO)(T:It)(g:TG)(b:TT)(tb:iw->TB)(pre:St->St)(c:St)(O:Hp)(Q:VK):Prop:=
 ∀d,O d=I->JC T g b (tb d) (pre c) (upd O d o) λ_ a=>Q (.ref d) a
def abL(T:It)(g:TG)(a:TT)(tb:iw->TB)(pre:St->St)(b:St)(O:Hp)(Q:VK):Prop:=Fh (.lst []) T g a tb pre b O Q
def CQ{e:iM}{o:HO}{l:el}{c:oT}{s:oU}{scope:ju}{v:ji}{pre:St->St}{g:TG}{ti:TT}{tb:iw->TB}{N:kj}{J:It}{i:la}{it:iw}{tn:Nat->jb->Prop}
  (hl:(∃U' k sc p,e=.ListComp U' k sc p)\/∃U' k sc p,e=.SetComp U' k sc p)(hg:bS e=c::s)
  (S:B8 X v scope pre)(hc:X.calm=IN)(ha:c.is_async=0)(j7:∀L,s[0]?=Go L->L.is_async=0)
  (n8:∀(cl:kj)(C:iw)(t:iB)(u:Hp)(i:la)(a:jw),let I':=X.comp v scope cl C t u i a
   PG I' c.target g/\IE I' c.ifs ti/\∀d,PB I' (jG e 0 (.ref d) I'.env)<|tb d)
  (j5:∀x c,N.lookup x=Go c->X.env.cells.lookup x=Go c)(j6:∀x,(x,aQ)∈scope.names->∃c,N.lookup x=Go c)
  {a:jw}{f:iB}{O:St}{m:Hp}{Q:VK}{E:jr}{RR:iI->iw->io->iB->Prop}(I2:Inv X a O m f)(T:Turn X.prog X.w X.K c.target J i it tn)(aJ:tn 0 f.heap)(f2:∀b∈i,uG X a m b)
  (M:Inv X a O (upd m f.heap.objs.size o) {f with heap:=f.heap.push l})
  (h:Fh o J g ti tb pre O m Q)
  (hRR:∀(d:iw)(cl:kj)(t:iB)(u G:Hp)(σ':St)(s4:iB),Inv X a O u t->(∀b∈i,uG X a u b)->Inv (X.comp v scope cl t.heap.objs.size t u i a) [] σ' G s4->Q (.ref d) G->RR (.ref d) t.heap.objs.size (.ok .next) s4):
  af (am X.prog X.w) X.A (dg scope X.env.globals N [] X.env.qual I .none<|Go X.env) (λn H'=>
   b4 (am X.prog X.w) X.A (.compStart e 0 (.ref it) (.ref f.heap.objs.size) {n with scope:=hD scope X.env}) (RR (.ref f.heap.objs.size) n.locals) H') E {f with heap:=f.heap.push l}:=by
 have P:∀b∈i,b<f.heap.objs.size:=λb j=>by obtain⟨o,e,_⟩:=T.obj _ _ aJ b j;exact kH e
 have Y:∀b∈i,uG X a (upd m f.heap.objs.size o) b:=λb j=>⟨by rw[jq<|kz<|P b j];exact(f2 b j).1,(f2 b j).2⟩
 refine Ta S.cell j5 j6 λh1 cl q9 dN B=>?_;have hk:∀b o,(f.heap.push l).get? b=Go o->h1.get? b=Go o:=dN;have F:∀b∈i,b<(f.heap.push l).objs.size:=λb j=>by rw[oX];exact vq<|P b j
 have J0:=T3 (t':=f.toks) S M B Y F q9 hk;obtain⟨pg,bB,pb⟩:=n8 cl (f.heap.push l).objs.size {f with heap:=f.heap.push l} (upd m f.heap.objs.size o) i a;have y:tn 0 h1:=T.keep _ _ _ aJ λb j o e=>hk b o<|jX _ e;have hw:=h f.heap.objs.size<|I2.hok.fresh<|jT _
 have D:∀b∈i,uG (X.comp v scope cl (f.heap.push l).objs.size {f with heap:=f.heap.push l} (upd m f.heap.objs.size o) i a) []
   (upd m f.heap.objs.size o) b:=λb j=>by
  obtain⟨z1,z2,z3,z4,z5,z6⟩:=Y b j;refine⟨z1,kz<|F b j,λz=>(oq.mp<|M.D9 b z).elim z2 z3,.inl j,λx c hx=>(B.ex x c hx).elim (z5 x c) λz=>qm<|Ae (F b j) z,λp hp=>z6 p<|by simpa[Cx.comp]using hp⟩
 have R:(bS e)[0]?=Go c:=by rw[hg];rfl
 refine Fl hl R ha ?_ λQ' W hq=>T.self X.A 0 _ Q' W y hq
 refine ql (J1 (X:=X.comp v scope cl (f.heap.push l).objs.size {f with heap:=f.heap.push l} (upd m f.heap.objs.size o) i a)
  (depth:=0) (acc:=.ref f.heap.objs.size) rfl hc hl R ha (λL V=>j7 L<|by rw[hg]at V;exact V) T pg bB (pb _) J0 D y hw) λr s4 hr=>?_
 obtain⟨rfl,σ4,G,Z,_,q⟩:=hr;exact hRR _ _ _ _ _ _ _ M Y Z q
def Uw(d:TI)(g:TG)(c:TT)(tb:iw->TB)(pre:St->St):TE:=λa O Q=>d a O λT b=>abL T g c tb pre a b Q
def D1{o:HO}{e:iM}{new:dq iI}{fp:bA}{c:oT}{i:oU}{scope:ju}{O:ji}{pre:St->St}{U:TI}{g:TG}{ti:TT}{tb:iw->TB}
  (S:B8 X O scope pre)(hc:X.calm=J)(ha:c.is_async=0)(j7:∀G,i[0]?=Y G->G.is_async=0)
  (hs:∀x,aB c.iter X.env x=pure x)(pi:PI X c.target c.iter U)
  (n8:∀(cl:kj)(C:iw)(N:iB)(z:Hp)(fp:la)(a:jw),let l:=X.comp O scope cl C N z fp a
   PG l c.target g/\IE l c.ifs ti/\∀d,PB l (jG e 0 (.ref d) l.env)<|tb d)
  (mk:∀(j:iB)(Q E:jr),(∀n,(∀H',T2 X.prog X.w H' (j.heap.push n) j.heap.objs.size o)->Q (.ref j.heap.objs.size) {j with heap:=j.heap.push n})->af (am X.prog X.w) X.A new Q E j)
  (hl:(∃t f y p,e=.ListComp t f y p)\/∃t f y p,e=.SetComp t f y p)(M:bS e=c::i:=by rfl)(hev:bh e X.env=xn e scope X.env fp new (c.is_async !=0) (bh c.iter X.env)):
  PE X e (λk H' Q=>U k H' λJ' Y'=>Fh o J' g ti tb pre k Y' Q):=by
 intro a s k H' Q I h;obtain⟨tg,V,u,P⟩:=c;obtain rfl:P=0:=ha;obtain⟨cl,m6,j5,j6⟩:=wD X.env scope λx hx hf=>I.ok.has x.1<|S.free x hx hf;rw[hev];refine MR (use:=Ix) (g:=⟨tg,V,u,0⟩) (gs:=i) M hs m6 S.kind S.names<|Q1 (pi a s k H' _ I h) λv s1 h1=>Q1 h1 λdz j h2=>?_;obtain⟨it,fp,tn,J',H2,rfl,B,T,K,W,hw⟩:=h2;refine mk _ _ _ λn hS=>?_;refine CQ (RR:=λr C=>compPost (am X.prog X.w) X.A X.xe Ix (EP X a k Q) r C) hl M S hc IR j7 n8 j5 j6 B T K W (B.laid (t':=j.toks) (λb n q=>jX _ q) (jT _)<|hS _) hw λd R N z D σ' s4 F Z L q=>?_;obtain⟨m,hn,_⟩:=id L.loc;exact⟨m,hn,λh' v5=>⟨.ref d,D,Gm F Z L v5,rfl,q⟩⟩
def Ob{j:iM}{c:oT}{f:oU}{scope:ju}{k i3 l:bA}{N':ji}{pre:St->St}{wi:TI}{g:TG}{ti:TT}{tb:iw->TB}{y:aE}{i:Nat}
  (dF:cH (.ListComp j (c::f) scope k) (Go<|.Name y l) i3.line X.env=pure IN)
  (S:B8 X N' scope pre)(hc:X.calm=IN)(ha:c.is_async=0)(j7:∀g',f[0]?=Go g'->g'.is_async=0)
  (hs:∀x,aB c.iter X.env x=pure x)(pi:PI X c.target c.iter wi)(fN:PG X (.Name y l) (Ga i))
  (n8:∀(cl:kj)(C:iw)(n:iB)(H3:Hp)(fp:la)(a:jw),let B:=X.comp N' scope cl C n H3 fp a
   PG B c.target g/\IE B c.ifs ti/\∀d,PB B (jG (.ListComp j (c::f) scope k) 0 (.ref d) B.env)<|tb d):
  PS X (.Assign [.Name y l] (.ListComp j (c::f) scope k) i3) (VG (Uw wi g ti tb pre)<|Ga i):=by
 intro a s L H D I h;obtain⟨W,N,u,az⟩:=c;obtain rfl:az=0:=ha;obtain⟨cl,m6,j5,j6⟩:=wD X.env scope λx F hf=>I.ok.has x.1<|S.free x F hf;rw[exec_Assign_Name_used _ _ _ _ dF];refine iz<|ud<|iz ?_;show af _ X.A (do let _ <-xn (.ListComp j (⟨W,N,u,0⟩::f) scope k) scope X.env _ (p8 []) IP (bh N X.env) (Go<|cu (.Name y l) X.env)) _ _ s
 refine iz (nQ (MR (use:=Go<|cu (.Name y l) X.env) (g:=⟨W,N,u,0⟩) (gs:=f) (Q:=λ_ E=>SP X a D .next E) IR hs m6 S.kind S.names
  (Q1 (pi a s L H _ I h) λv s1 h1=>Q1 h1 λdz s2 h2=>?_)) (λ_ E hq=>iJ<|iJ hq) λ_ _ e=>e)
 obtain⟨it,fp,tn,J,H2,rfl,R,T,aJ,f2,hw⟩:=h2;refine nq<|CQ (RR:=λM C=>compPost (am X.prog X.w) X.A X.xe (Go<|cu (.Name y l) X.env) (λ_ E=>SP X a D .next E) M C) (.inl ⟨_,_,_,_,rfl⟩) IR S hc IR j7 n8 j5 j6 R T aJ f2 (R.LK (t':=s2.toks) .nil<|by simp) hw λd cl' n H3 O σ' P r ff G q=>?_;obtain⟨m,hn,_⟩:=id G.loc;obtain⟨K,es,ep,ho,hd,hr⟩:=id hn;have V:Inv X a L O P:=Gm r ff G (Du ..);have t:n.heap.objs.size≠X.env.locals:=qm r.lt;have U:n.heap.objs.size∉X.fs:=λz=>r.LG (jT _) z
 have Z:Inv X (a++[(n.heap.objs.size,K)]) L O P:=V.D6 λp Y=>by
  rcases pk.mp Y with z|z
  .exact V.pin p (pd _ z)
  rcases EU.mp z with rfl
  exact⟨ho,G.free,t,U,λv z=>by rw[hd]at z;cases z⟩
 show af _ X.A (cu (.Name y l) X.env<|.ref d) _ _ _;refine Q1 (fN _ P L O (.ref d) (.ref d) _ Z rfl q) ?_;rintro _ s5 ⟨σ5,H5,I5,q5⟩;have pC:=I5.pin (n.heap.objs.size,K) (by simp);refine⟨m,⟨K,es,ep,pC.1,hd,hr⟩,λh' v5=>⟨σ5,H5,?_,q5⟩⟩;refine I5.B2.turned (it:=n.heap.objs.size) (t':=s5.toks) (λb o hb e=>by rw[v5.2 b hb];exact e) pC.2.1 t (.inr r.sz) (λx c F z=>?_) λp Y z=>?_
 .obtain⟨v,o,e,_⟩:=r.cell x c F;exact absurd (kH e) (by rw[z];exact qo _)
 obtain⟨e,_⟩:=r.pin p Y;exact absurd (kH e) (by rw[z];exact qo _)
end
end L2
namespace PX
open L2
inductive OK where
 |dct|set|fn(i:Nat)|exc(c:Nat)
 deriving DecidableEq
inductive D where
 |VP|bl(b:Bool)|int(i:Int)|str(x:aE)|tup(l:List D)|lst(l:List D)|Q2(k:OK)(ks vs:List D)
mutual
noncomputable def D.hash:D->Int
 |.int i=>hashInt i
 |.tup l=>reduceHash<|bp<|D.BZ l
 |_=>0
noncomputable def D.BZ:List D->List Int
 |[]=>[]
 |d::l=>D.hash d::D.BZ l
end
noncomputable def lZ:Key->D
 |.inl i=>.int i
 |.inr x=>.str x
def acQ(K:jd)(o:el)(T:Nat):Prop:=o.cls=.ref T/\(∀a:iw,PySem.W.KitX K (.ref a) (.ref T) λh=>h.get? a=Y o)/\∀n∈["int","bool","str","tuple","list","dict"],dZ K (.ref T) (.type n)=Y U
def AN(K:jd)(h:Option HO)(k:OK)(a c:List D)(b:List V):Prop:=
 match k with
 |.dct=>(∃kvs:List (Key×V),h=Y (.dK kvs)/\a=kvs.map (λp=>lZ p.1)/\b=kvs.map (·.2))\/
   (∃kvs:List (List Key×V),h=Y (.dT kvs)/\a=kvs.map (λp=>.tup (p.1.map lZ))/\b=kvs.map (·.2))
 |.set=>a=[]/\∃d:List (Int×V),h=Y (.V0 d)/\d.Perm ((D.BZ c).zip b)
 |.exc T=>(a=[]/\c=[]/\b=[])/\∃o,h=Y (.AL o<|.own 0)/\acQ K o T
 |_=>False
def AN.ex{K h k a vs us}(x:AN K h k a vs us):∃o,h=Y o:=by
 cases k with
 |dct=>rcases x with⟨_,e,_⟩|⟨_,e,_⟩<;>exact⟨_,e⟩
 |set=>obtain⟨_,_,e,_⟩:=x;exact⟨_,e⟩
 |exc T=>obtain⟨_,_,e,_⟩:=x;exact⟨_,e⟩
 |_=>exact x.elim
def AN.keep{K k a b us}(x:AN K h k a b us)(kp:∀o,h=Y o->h'=Y o):AN K h' k a b us:=by obtain⟨o,e⟩:=x.ex;rw[kp o e,<-e];exact x
abbrev SS:=iw->Prop
def afC(K:jd)(a:iw)(c:List V):Prop:= ∃(o:el)(b:nE)(n:Nat),K.lookup a=Y o/\o.cls=.type "list"/\o.dict=I/\o.data=.seq b n/\b.size<=sizeLine/\Vals c b.toList
def EB(K:jd)(T:Hp)(O:SS)(a:iw)(b:List V):Prop:=T a=Y (.tup b)/\¬O a
def ED(K:jd)(T:Hp)(O:SS)(a:iw)(b:List V):Prop:=(Rd T a (.lst b)/\¬O a)\/afC K a b
def EB.sq{K T O a xs}(h:EB K T O a xs):EC K T a xs:=.inl (.inl h.1)
def ED.sq{K T O a xs}(h:ED K T O a xs):Bx K T a xs:=h.elim (λz=>.inl z.1) .inr
def Rd.mono{a u}(h:Rd T a u)(k:∀o,T a=Y o->H' a=Y o):Rd H' a u:=by
 rcases h with h|⟨o,h⟩
 .exact .inl (k _ h)
 exact .inr ⟨o,k _ h⟩
def EB.mono{K T H'}{a xs}(h:EB K T O a xs)(k:∀b o,T b=Y o->¬O b->H' b=Y o)(c:∀b,T b≠I->O' b->O b):EB K H' O' a xs:=
 ⟨k a _ h.1 h.2,λz=>h.2<|c a (by rw[h.1];simp) z⟩
def ED.mono{K T H'}{a xs}(h:ED K T O a xs)(k:∀b o,T b=Y o->¬O b->H' b=Y o)(c:∀b,T b≠I->O' b->O b):ED K H' O' a xs:=by
 rcases h with⟨r,n⟩|h
 .refine .inl ⟨Rd.mono r λo e=>k a o e n,λz=>n<|c a ?_ z⟩;rcases r with r|⟨_,r⟩<;>(rw[r];simp)
 exact .inr h
inductive Iz(S:iw->List V->Prop)(R:List V->Prop)(v:V):Prop where
 |mk (a:iw) (xs:List V) (_:v=.ref a) (_:S a xs) (_:R xs)
inductive MmI{α β:Type}(l:List α)(f:α->β)(b:β):Prop where
 |mk (a:α) (_:a∈l) (_:f a=b)
def iR{c d:Type}{l:List c}{f:c->d}{b:d}(h:b∈l.map f):MmI l f b:=let⟨a,x,y⟩:=rJ.mp h;⟨a,x,y⟩
mutual
def Rep(K:jd)(T:Hp)(O:SS):D->V->Prop
 |.VP,v=>v=.VP
 |.bl b,v=>v=.bl b
 |.int i,v=>v=.int i
 |.str x,v=>v=.str x
 |.tup l,v=>Iz (EB K T O) (YP K T O l) v
 |.lst l,v=>Iz (ED K T O) (YP K T O l) v
 |.Q2 k d c,v=>Iz (λa e=>¬O a/\AN K (T a) k d c e) (YP K T O c) v
def YP(K:jd)(T:Hp)(O:SS):List D->List V->Prop
 |[],a=>a=[]
 |d::l,a=>∃v r,a=v::r/\Rep K T O d v/\YP K T O l r
end
mutual
theorem Rep.mono{K T H'}{O O':SS}(k:∀b o,T b=Y o->¬O b->H' b=Y o)(c:∀b,T b≠I->O' b->O b):∀{d:D}{v:V},Rep K T O d v->Rep K H' O' d v
 |.VP,_,h=>h
 |.bl _,_,h=>h
 |.int _,_,h=>h
 |.str _,_,h=>h
 |.tup l,_,h=>by rw[Rep]at h ⊢;obtain⟨a,f,e,s,r⟩:=h;exact⟨a,f,e,s.mono k c,YP.mono k c r⟩
 |.lst l,_,h=>by rw[Rep]at h ⊢;obtain⟨a,f,e,s,r⟩:=h;exact⟨a,f,e,s.mono k c,YP.mono k c r⟩
 |.Q2 i j m,_,h=>by rw[Rep]at h ⊢;obtain⟨a,g,e,s,r⟩:=h;exact⟨a,g,e,⟨λz=>s.1<|c a (by obtain⟨o,q⟩:=s.2.ex;rw[q];simp) z,s.2.keep λo q=>k a o q s.1⟩,YP.mono k c r⟩
theorem YP.mono{K T H'}{O O':SS}(k:∀b o,T b=Y o->¬O b->H' b=Y o)(a:∀b,T b≠I->O' b->O b):∀{l:List D}{c:List V},YP K T O l c->YP K H' O' l c
 |[],_,h=>h
 |d::l,_,h=>by rw[YP]at h ⊢;obtain⟨v,r,e,h1,f⟩:=h;exact⟨v,r,e,Rep.mono k a h1,YP.mono k a f⟩
end
def Rep.mkInt{K T O i}:Rep K T O (.int i) (.int i):=by rw[Rep]
def Rep.HD{K T O i}:Rep K T O (.bl i) (.bl i):=by rw[Rep]
def Rep.Ey{K T O}:Rep K T O .VP .VP:=by rw[Rep]
def Rep.mkStr{K T O i}:Rep K T O (.str i) (.str i):=by rw[Rep]
def Rep.int{K T O i v}(h:Rep K T O (.int i) v):v=.int i:=by rwa [Rep]at h
def Rep.bl{K T O i v}(h:Rep K T O (.bl i) v):v=.bl i:=by rwa [Rep]at h
def Rep.VP{K T O v}(h:Rep K T O .VP v):v=.VP:=by rwa [Rep]at h
def Rep.str{K T O i v}(h:Rep K T O (.str i) v):v=.str i:=by rwa [Rep]at h
def Rep.tup{K T O l v}(h:Rep K T O (.tup l) v):Iz (EB K T O) (YP K T O l) v:=by rwa [Rep]at h
def Rep.lst{K T O l v}(h:Rep K T O (.lst l) v):Iz (ED K T O) (YP K T O l) v:=by rwa [Rep]at h
def Rep.Q2{K T O k c b v}(h:Rep K T O (.Q2 k c b) v):Iz (λa d=>¬O a/\AN K (T a) k c b d) (YP K T O b) v:=by rwa [Rep]at h
def Rep.LH{K T O k c b a us}(n: ¬O a)(h:AN K (T a) k c b us)(r:YP K T O b us):Rep K T O (.Q2 k c b) (.ref a):=by rw[Rep];exact⟨a,us,rfl,⟨n,h⟩,r⟩
def Rep.HU{K T O l a xs}(h:EB K T O a xs)(r:YP K T O l xs):Rep K T O (.tup l) (.ref a):=by rw[Rep];exact⟨a,xs,rfl,h,r⟩
def Rep.LI{K T O l a xs}(h:ED K T O a xs)(r:YP K T O l xs):Rep K T O (.lst l) (.ref a):=by rw[Rep];exact⟨a,xs,rfl,h,r⟩
theorem YP.length{K T O}:∀{l:List D}{vs:List V},YP K T O l vs->IX vs=IX l
 |[],vs,h=>by rw[YP]at h;rw[h];rfl
 |d::l,vs,h=>by rw[YP]at h;obtain⟨v,r,rfl,_,a⟩:=h;simp[YP.length a]
inductive GtI(vs:List V)(i:Nat)(P:V->Prop):Prop where
 |mk (v:V) (_:vs[i]?=Go v) (_:P v)
theorem YP.get{K T O}:∀{l:List D}{a:List V}{i:Nat}{d:D},YP K T O l a->l[i]?=Y d->GtI a i (Rep K T O d)
 |[],_,_,_,_,e=>by simp at e
 |d::l,a,0,b,h,e=>by rw[YP]at h;obtain⟨v,r,rfl,h1,_⟩:=h;simp at e;subst e;exact⟨v,rfl,h1⟩
 |d::l,a,i+1,b,h,e=>by rw[YP]at h;obtain⟨v,r,rfl,_,c⟩:=h;obtain⟨w,f,g⟩:=YP.get (i:=i) c (by simpa using e);exact⟨w,by simpa using f,g⟩
def YP.append{K T O}:∀{l m:List D}{a c:List V},YP K T O l a->YP K T O m c->YP K T O (l++m) (a++c):=by
 intro g
 induction g with
 |nil=>intro _ a _ h b;rw[YP]at h;subst h;exact b
 |cons d l f=>intro _ a _ h b;rw[YP]at h;obtain⟨v,r,rfl,h1,e⟩:=h;show YP K T O (d::(l++_)) _;rw[YP];exact⟨v,_,rfl,h1,f e b⟩
def YP.one{K T O}{d:D}{v:V}(h:Rep K T O d v):YP K T O [d] [v]:=by rw[YP];exact⟨v,[],rfl,h,by rw[YP]⟩
def YP.nil{K T O}:YP K T O [] []:=by rw[YP]
def YP.cons{K T O}{l vs}(h:Rep K T O d v)(h':YP K T O l vs):YP K T O (d::l) (v::vs):=by rw[YP];exact⟨v,vs,rfl,h,h'⟩
theorem YP.take{K T O}:∀{l:List D}{vs:List V}(n:Nat),YP K T O l vs->YP K T O (l.take n) (vs.take n)
 |_,_,0,_=>by simp[YP]
 |[],vs,n+1,h=>by rw[YP]at h;subst h;simp[YP]
 |d::l,vs,n+1,h=>by rw[YP]at h;obtain⟨v,r,rfl,h1,a⟩:=h;exact YP.cons h1<|YP.take n a
theorem YP.drop{K T O}:∀{l:List D}{a:List V}(n:Nat),YP K T O l a->YP K T O (l.drop n) (a.drop n)
 |_,_,0,h=>h
 |[],a,n+1,h=>by rw[YP]at h;subst h;simp[YP]
 |d::l,a,n+1,h=>by rw[YP]at h;obtain⟨v,r,rfl,h1,b⟩:=h;exact YP.drop n b
theorem YP.set{K T O}{d:D}{v:V}(hv:Rep K T O d v):∀{l:List D}{vs:List V}(i:Nat),YP K T O l vs->YP K T O (l.set i d) (vs.set i v)
 |[],vs,i,h=>by rw[YP]at h;subst h;simp[YP]
 |e::l,vs,0,h=>by rw[YP]at h;obtain⟨w,r,rfl,h1,a⟩:=h;exact YP.cons hv a
 |e::l,vs,i+1,h=>by rw[YP]at h;obtain⟨w,r,rfl,h1,a⟩:=h;exact YP.cons h1<|YP.set hv i a
abbrev Sl:=Option<|D×Bool
abbrev Dn:=List Sl
def X0(b:L2.St)(δ:Dn)(a:iw):Prop:= ∃(i:Nat)(d:D),δ[i]?=Y (Y (d,J))/\b[i]?=Y (Y<|V.ref a)
def AM(K:jd)(T:Hp)(O:SS):D->iw->Prop
 |.lst l,a=>∃d,T a=Y (.lst d)/\YP K T O l d
 |.Q2 k e c,a=>∃b,AN K (T a) k e c b/\YP K T O c b
 |_,_=>False
def AM.mono{K T H'}(h:AM K T O d a)(k:∀b o,T b=Y o->¬O b->H' b=Y o)(c:∀b,T b≠I->O' b->O b)(f:∀o,T a=Y o->H' a=Y o):AM K H' O' d a:=by
 cases d with
 |lst l=>obtain⟨i,e,r⟩:=h;exact⟨i,f _ e,YP.mono k c r⟩
 |Q2 j m n=>obtain⟨g,e,r⟩:=h;exact⟨g,e.keep f,YP.mono k c r⟩
 |_=>exact h
def AM.rep{K T}(h:AM K T O d a)(f: ¬O' a)(c:∀b,T b≠I->O' b->O b):Rep K T O' d (.ref a):=by
 cases d with
 |lst l=>obtain⟨g,e,r⟩:=h;rw[Rep];exact⟨a,g,rfl,.inl ⟨.inl e,f⟩,YP.mono (λb o e _=>e) c r⟩
 |Q2 i j m=>obtain⟨k,e,r⟩:=h;exact Rep.LH f e<|YP.mono (λb o e _=>e) c r
 |_=>exact h.elim
def Ow:Option HO->Prop
 |none=>False
 |some (.tup _)=>False
 |_=>True
def Ow.ne{o:Option HO}(h:Ow o):o≠I:=λe=>by rw[e]at h;exact h
def Ow.up{o a:Option HO}(h:Ow o)(k:∀x,o=Y x->a=Y x):Ow a:=by
 cases o with
 |none=>exact h.elim
 |some x=>rw[k x C];exact h
def L3{o:Option HO}(h:o=I): ¬Ow o:=λz=>z.ne h
def AM.ow{K T}{O:SS}{d:D}{a:iw}(h:AM K T O d a):Ow (T a):=by
 cases d with
 |lst l=>obtain⟨g,e,_⟩:=h;rw[e];trivial
 |Q2 k b f=>
  obtain⟨c,e,_⟩:=h
  cases k with
  |dct=>rcases e with⟨_,e,_⟩|⟨_,e,_⟩<;>(rw[e];trivial)
  |set=>obtain⟨_,_,e,_⟩:=e;rw[e];trivial
  |exc Q=>obtain⟨_,_,e,_⟩:=e;rw[e];trivial
  |_=>exact e.elim
 |_=>exact h.elim
inductive AtV(σ:L2.St)(i:Nat)(P:V->Prop):Prop where
 |mk (v:V) (_:σ[i]?=Go (Go v)) (_:P v)
inductive AtA(σ:L2.St)(i:Nat)(P:iw->Prop):Prop where
 |mk (a:iw) (_:σ[i]?=Go (Go<|V.ref a)) (_:P a)
structure ER(K:jd)(H:Hp)(T:SS)(σ:L2.St)(δ:Dn):Prop where
 len:(IX σ)=IX δ
 val:∀(i:Nat)(d:D),δ[i]?=Go (Go (d,IP))->AtV σ i (Rep K H (λa=>X0 σ δ a\/T a) d)
 own:∀(i:Nat)(d:D),δ[i]?=Go (Go (d,IN))->AtA σ i (AM K H (λa=>X0 σ δ a\/T a) d)
 inj:∀(i j:Nat)(d e:D)(a:iw),δ[i]?=Go (Go (d,IN))->δ[j]?=Go (Go (e,IN))->σ[i]?=Go (Go<|V.ref a)->σ[j]?=Go (Go<|V.ref a)->i=j
 nT:∀a,X0 σ δ a->¬T a
 dom:∀a,T a->Ow (H a)
def ER.HQ{K Q T σ e}(E:ER K Q T σ e)(h:X0 σ e a):Ow (Q a):=by obtain⟨i,d,h1,f⟩:=h;obtain⟨b,c,g⟩:=E.own i d h1;rw[f]at c;cases c;exact g.ow
def ER.FF{K Q T σ δ}(E:ER K Q T σ δ)(h:X0 σ δ a):Q a≠I:=(E.HQ h).ne
def ER.mono{K Q H' σ δ}(E:ER K Q T σ δ)(k:∀b o,Q b=Y o->¬T b->H' b=Y o)(f:∀b,Q b≠I->T' b->T b)(hd:∀a,T' a->Ow (H' a)):ER K H' T' σ δ where
 len:=E.len
 val:=λi d h=>by obtain⟨v,h1,c⟩:=E.val i d h;exact⟨v,h1,Rep.mono (λb o e n=>k b o e λz=>n<|.inr z) (λb g z=>z.elim .inl λz=>.inr (f b g z)) c⟩
 own:=λi d h=>by obtain⟨a,h1,c⟩:=E.own i d h;exact⟨a,h1,c.mono (λb o e n=>k b o e λz=>n<|.inr z) (λb g z=>z.elim .inl λz=>.inr (f b g z)) λo e=>k a o e<|E.nT a ⟨i,d,h,h1⟩⟩
 inj:=E.inj
 nT:=λa h z=>E.nT a h<|f a (E.FF h) z
 dom:=hd
def X0.set(h:X0 σ (δ.set i<|Y (d,U)) a):X0 σ δ a:=by
 obtain⟨j,e,h1,b⟩:=h;rw[yn]at h1;split at h1
 .split at h1<;>simp at h1
 exact⟨j,e,h1,b⟩
def ER.freeze{K Q T σ m}(E:ER K Q T σ m){i:Nat}{d:D}{b:Bool}(h:m[i]?=Y (Y (d,b))):ER K Q T σ (m.set i<|Y (d,U))/\AtV σ i (Rep K Q (λa=>X0 σ (m.set i<|Y (d,U)) a\/T a) d):=by
 have o:i<(IX m):=(wJ.mp h).1
 have me:AtV σ i (Rep K Q (λa=>X0 σ (m.set i<|Y (d,U)) a\/T a) d):=by
  cases b
  .obtain⟨v,h1,l⟩:=E.val i d h;exact⟨v,h1,Rep.mono (λ_ _ e _=>e) (λb _ z=>z.elim (λz=>.inl z.set) .inr) l⟩
  obtain⟨a,h1,l⟩:=E.own i d h;refine⟨.ref a,h1,l.rep (λz=>?_) λb _ z=>z.elim (λz=>.inl z.set) .inr⟩;rcases z with⟨j,e,n,p⟩|z
  .rw[yn]at n;split at n
   .first
     |(split at n<;>simp at n)
     |simp at n
   rename_i q;exact q<|E.inj i j d e a h n h1 p
  exact E.nT a ⟨i,d,h,h1⟩ z
 refine⟨⟨by rw[vA];exact E.len,λj e c=>?_,λj e c=>?_,λj k e f a c hk h1 l=>?_,λa z=>E.nT a z.set,E.dom⟩,me⟩
 .by_cases g:i=j
  .subst g;rw[tx o]at c;cases c;exact me
  rw[nu g]at c;obtain⟨v,h1,l⟩:=E.val j e c;exact⟨v,h1,Rep.mono (λ_ _ e _=>e) (λb _ z=>z.elim (λz=>.inl z.set) .inr) l⟩
 .by_cases g:i=j
  .subst g;rw[tx o]at c;cases c
  rw[nu g]at c;obtain⟨a,h1,l⟩:=E.own j e c;exact⟨a,h1,l.mono (λ_ _ e _=>e) (λb _ z=>z.elim (λz=>.inl z.set) .inr) λ_ e=>e⟩
 have g1:m[j]?=Y (Y (e,J)):=by
  by_cases g:i=j
  .subst g;rw[tx o]at c;cases c
  rwa [nu g]at c
 have g2:m[k]?=Y (Y (f,J)):=by
  by_cases g:i=k
  .subst g;rw[tx o]at hk;cases hk
  rwa [nu g]at hk
 exact E.inj j k e f a g1 g2 h1 l
def NR(b:L2.St)(δ:Dn)(i:Nat)(a:iw):Prop:= ∃d:D,δ[i]?=Y (Y (d,J))/\b[i]?=Y (Y<|V.ref a)
structure I8(σ:L2.St)(δ:Dn)(H:Hp)(δ':Dn)(H':Hp):Prop where
 kp:∀a o,H a=Go o->¬X0 σ δ a->H' a=Go o
 owi:∀i a,NR σ δ' i a->NR σ δ i a
 dm:∀a,H a≠Ix->H' a≠Ix
def I8.ow{σ c T b f}(k:I8 σ c T b f)(a:iw)(h:X0 σ b a):X0 σ c a:=by obtain⟨i,d,h1,g⟩:=h;obtain⟨e,j,l⟩:=k.owi i a ⟨d,h1,g⟩;exact⟨i,e,j,l⟩
def I8.refl{σ a T}:I8 σ a T a T:=⟨λ_ _ e _=>e,λ_ _ z=>z,λ_ z=>z⟩
def I8.trans{σ δ δ1 δ2 T H1 b}(x:I8 σ δ T δ1 H1)(y:I8 σ δ1 H1 δ2 b):I8 σ δ T δ2 b:=
 ⟨λa o e n=>y.kp a o (x.kp a o e n) λz=>n<|x.ow a z,λi a z=>x.owi i a<|y.owi i a z,λa z=>y.dm a<|x.dm a z⟩
def I8.ext{σ b T H1}(k:∀a o,T a=Y o->H1 a=Y o):I8 σ b T b H1:=⟨λa o e _=>k a o e,λ_ _ z=>z,λa z=>by
 cases h:T a with
 |none=>exact absurd h z
 |some o=>rw[k a o h];simp⟩
def NR.set(h:NR σ (δ.set i<|Y (d,U)) j a):NR σ δ j a:=by
 obtain⟨e,h1,b⟩:=h;rw[yn]at h1;split at h1
 .split at h1<;>simp at h1
 exact⟨e,h1,b⟩
def I8.set{σ δ T i d}:I8 σ δ T (δ.set i<|Y (d,U)) T:=⟨λ_ _ e _=>e,λ_ _ z=>z.set,λ_ z=>z⟩
def Ls(K:jd)(T:SS)(c:L2.St)(e:Dn)(Q:Hp)(r:D×Bool)(b:Dn)(v:V)(H':Hp):Prop:=
 I8 c e Q b H'/\
 match r with
 |(d,U)=>ER K H' T c b/\Rep K H' (λa=>X0 c b a\/T a) d v
 |(d,J)=>∃p,v=.ref p/\Q p=I/\ER K H' (λa=>T a\/a=p) c b/\AM K H' (λa=>X0 c b a\/T a\/a=p) d p
abbrev F:=Dn->Option ((D×Bool)×Dn)
inductive tF(K:jd)(f:F)(σ:L2.St)(H:Hp)(Q:VK):Prop where
 |mk (δ:Dn) (T:SS) (r:D×Bool) (δ':Dn) (_:ER K H T σ δ) (_:f δ=Go (r,δ')) (_:∀v H',Ls K T σ δ H r δ' v H'->Q v H')
def PX(X:Cx)(e:iM)(f:F):Prop:=PE X e<|tF X.K f
noncomputable def Jj(T:SS)(r:D×Bool)(v:V):SS:=λa=>T a\/(r.2=J/\v=.ref a)
section
variable {K:jd}{T:SS}{c:L2.St}{δ δ1 δ2:Dn}{H f g:Hp}{x y:D×Bool}{v u:V}
def Ls.er(E:ER K H T c δ)(P:Ls K T c δ H x δ1 v f):ER K f (Jj T x v) c δ1:=by
 obtain⟨d,b⟩:=x
 cases b
 .refine P.2.1.mono (λ_ _ e _=>e) (λb _ z=>z.elim id λz=>absurd z.1<|by simp) λa z=>?_;rcases z with z|z
  .exact P.2.1.dom a z
  exact absurd z.1 (by simp)
 obtain⟨p,rfl,i,h,j⟩:=P.2;refine h.mono (λ_ _ e _=>e) (λb _ z=>z.elim .inl λz=>.inr (by have:=z.2;cases this;rfl)) λa z=>?_;rcases z with z|z
 .exact h.dom a (.inl z)
 have:=z.2;cases this;exact h.dom _ (.inr C)
def Ls.rep(E:ER K H T c δ)(P:Ls K T c δ H x δ1 v f):ER K f T c δ1/\Rep K f (λa=>X0 c δ1 a\/T a) x.1 v:=by
 obtain⟨d,b⟩:=x
 cases b
 .exact P.2
 obtain⟨p,rfl,i,h,j⟩:=P.2;refine⟨h.mono (λ_ _ e _=>e) (λb _ z=>.inl z) λa z=>h.dom a<|.inl z,j.rep (λz=>?_) λb _ z=>z.elim .inl λz=>.inr (.inl z)⟩;rcases z with z|z
 .exact h.nT p z (.inr C)
 exact(E.dom p z).ne i
def Ls.val(k:I8 c δ H δ2 g)(E:ER K g T c δ2)(r:Rep K g (λa=>X0 c δ2 a\/T a) d w):Ls K T c δ H (d,U) δ2 w g:=⟨k,E,r⟩
end
def jg{e f:Type}{a c:e}{b d:f}(h:Y (a,b)=Y (c,d)):a=c/\b=d:=by cases h;exact⟨rfl,rfl⟩
noncomputable def fC(d:D):F:=λδ=>Y ((d,U),δ)
noncomputable def jI(i:Nat):F:=λδ=>match δ[i]? with
 |some (Y (d,_))=>Y ((d,U),δ.set i<|Y (d,U))
 |_=>I
section
variable {X:Cx}{a b c:iM}{d:bA}{m l g:F}
def PX.imp(h:PE X e t)(k:∀j O Q,tF X.K f j O Q->t j O Q):PX X e f:=λi s j O Q T n=>h i s j O Q T<|k j O Q n
def ZP{i j}:PX X (.Constant (.bool i) j d) (fC<|.bl i):=PX.imp ZV λo O Q h=>by obtain⟨n,T,r,f,E,e,k⟩:=h;cases e;exact k _ _ (Ls.val .refl E (by first|exact Rep.mkInt|exact Rep.HD|exact Rep.Ey|exact Rep.mkStr))
end
inductive A1 where
 |val(r:D×Bool)|slot(i:Nat)
noncomputable def res(δ:Dn):A1->Option D
 |.val r=>Y r.1
 |.slot i=>match δ[i]? with
  |some (Y (d,_))=>Y d
  |_=>I
def kx(K:jd)(T:Hp)(O:SS)(d:D)(v:V):Prop:=Rep K T O d v\/∃a,v=.ref a/\AM K T O d a
abbrev FO:=Dn->Option (A1×Dn)
def BP(K:jd)(T:SS)(b:L2.St)(c:Dn)(Q:Hp)(o:A1)(a:Dn)(v:V)(H':Hp):Prop:=
 match o with
 |.val r=>Ls K T b c Q r a v H'
 |.slot i=>I8 b c Q a H'/\ER K H' T b a/\b[i]?=Y (Y v)
def Bv(T:SS)(o:A1)(v:V):SS:=match o with
 |.val r=>Jj T r v
 |.slot _=>T
inductive tO(K:jd)(f:FO)(σ:L2.St)(H:Hp)(Q:VK):Prop where
 |mk (δ:Dn) (T:SS) (o:A1) (δ':Dn) (_:ER K H T σ δ) (_:f δ=Go (o,δ')) (_:∀v H',BP K T σ δ H o δ' v H'->Q v H')
def PO(X:Cx)(e:iM)(f:FO):Prop:=PE X e<|tO X.K f
noncomputable def iP(f:F):FO:=λδ=>(f δ).bind λp=>Y (.val p.1,p.2)
noncomputable def iA(i:Nat):FO:=λδ=>match δ[i]? with
 |some (Y _)=>Y (.slot i,δ)
 |_=>I
def PE.imp'(h:PE X e t)(k:∀b O Q,d b O Q->t b O Q):PE X e d:=λa s b O Q T c=>h a s b O Q T<|k b O Q c
section
variable {X:Cx}{a:bA}
def PX.po(h:PX X e f):PO X e (iP f):=PE.imp' h λj O Q g=>by
 obtain⟨c,T,o,i,E,e,k⟩:=g;unfold iP at e
 cases h1:f c with
 |none=>rw[h1]at e;cases e
 |some p=>obtain⟨r,b⟩:=p;rw[h1]at e;obtain⟨rfl,rfl⟩:=jg e;exact⟨c,T,r,b,E,h1,λv d P=>k v d P⟩
end
structure Ops(K:jd)(T:SS)(σ:L2.St)(δ:Dn)(H:Hp)(os:List A1)(vs:List V)(δ':Dn)(H':Hp)(T':SS):Prop where
 len:os.length=IX vs
 keep:I8 σ δ H δ' H'
 er:ER K H' T' σ δ'
 tt:∀a,T a->T' a
 val:∀(j:Nat)(d:D)(v:V),os[j]?=Go (.val (d,IP))->vs[j]?=Go v->Rep K H' (λa=>X0 σ δ' a\/T a) d v
 tmp:∀(j:Nat)(d:D)(v:V),os[j]?=Go (.val (d,IN))->vs[j]?=Go v->∃p,v=.ref p/\T' p/\H p=Ix/\AM K H' (λa=>X0 σ δ' a\/T a) d p
 slt:∀(j i:Nat)(v:V),os[j]?=Go (.slot i)->vs[j]?=Go v->σ[i]?=Go (Go v)
section
variable {K:jd}{T T':SS}{b:L2.St}{δ a c:Dn}{H H' e:Hp}{os:List A1}{vs:List V}{o:A1}{v:V}
def Ops.nil(E:ER K H T b δ):Ops K T b δ H [] [] δ H T:=⟨rfl,.refl,E,λ_ z=>z,λj d v h=>by simp at h,λj d v h=>by simp at h,λj i v h=>by simp at h⟩
def BP.keep(P:BP K T b δ H o a v H'):I8 b δ H a H':=by
 cases o with
 |val r=>exact P.1
 |slot i=>exact P.1
def BP.er(E:ER K H T b δ)(P:BP K T b δ H o a v H'):ER K H' (Bv T o v) b a:=by
 cases o with
 |val r=>exact Ls.er E P
 |slot i=>exact P.2.1
end
def Gen(K:jd)(T:Hp)(O:SS)(z:D×Bool)(Q:VK):Prop:=
 match z with
 |(d,U)=>∀w b,(∀a o,T a=Y o->b a=Y o)->Rep K b O d w->Q w b
 |(d,J)=>∀p b,T p=I->(∀a o,T a=Y o->b a=Y o)->AM K b (λa=>O a\/a=p) d p->Q (.ref p) b
section
variable {K:jd}{T h:SS}{c:L2.St}{δ δ1 δ' δ2:Dn}{H m H' f:Hp}{os:List A1}{vs:List V}{o:A1}{v:V}{z:D×Bool}{Q:VK}
def Ops.cons(E:ER K H T c δ)(P:BP K T c δ H o δ1 v m)(B:Ops K (Bv T o v) c δ1 m os vs δ2 f h):Ops K T c δ H (o::os) (v::vs) δ2 f h:=by
 have y:=P.er E;have u:=B.keep.kp;have x:=B.keep.ow
 have s:∀a,T a->Bv T o v a:=λa z=>by
  cases o with
  |val r=>exact .inl z
  |slot i=>exact z
 refine⟨by simp[B.len],P.keep.trans B.keep,B.er,λa z=>B.tt a<|s a z,λj d w h1 g=>?_,λj d w h1 g=>?_,λj i w h1 g=>?_⟩
 .cases j with
  |zero=>simp at h1 g;subst h1;subst g;have q:Ls K T c δ H (d,U) δ1 v m:=P;exact Rep.mono (λb k e n=>u b k e λz=>n<|.inl z) (λb _ z=>z.elim (λz=>bg<|x b z) bv) (q.rep E).2
  |succ j=>exact Rep.mono (λ_ _ e _=>e) (λb _ z=>z.elim bg λz=>bv<|s b z)<|B.val j d w (by simpa using h1) (by simpa using g)
 .cases j with
  |zero=>simp at h1 g;subst h1;subst g;have q:Ls K T c δ H (d,J) δ1 v m:=P;obtain⟨p,rfl,t,O,ok⟩:=q.2;have l:Bv T (.val (d,J)) (V.ref p) p:=.inr ⟨rfl,rfl⟩;refine⟨p,rfl,B.tt p l,t,ok.mono (λb k e n=>u b k e λz=>n<|.inl z) (λb _ z=>z.elim (λz=>bg<|x b z) λz=>bv<|bg z) λk e=>u p k e λz=>y.nT p z l⟩
  |succ j=>
   obtain⟨p,rfl,l,t,ok⟩:=B.tmp j d w (by simpa using h1) (by simpa using g);refine⟨p,rfl,l,?_,ok.mono (λ_ _ e _=>e) (λb _ z=>z.elim bg λz=>bv<|s b z) λ_ e=>e⟩
   cases A:H p with
   |none=>rfl
   |some k=>exact absurd t<|P.keep.dm p (by rw[A];simp)
 cases j with
 |zero=>simp at h1 g;subst h1;subst g;exact P.2.2
 |succ j=>exact B.slt j i w (by simpa using h1) (by simpa using g)
def Ops.view(B:Ops K T c δ H os vs δ' H' h){j:Nat}{d:D}(h1:os[j]?=Y o)(n:vs[j]?=Y v)(g:res δ' o=Y d):kx K H' (λa=>X0 c δ' a\/T a) d v:=by
 cases o with
 |val r=>
  obtain⟨e,b⟩:=r;have hd:e=d:=kZ g;subst hd
  cases b
  .exact .inl<|B.val j e v h1 n
  obtain⟨p,rfl,_,_,ok⟩:=B.tmp j e v h1 n;exact .inr ⟨p,rfl,ok⟩
 |slot i=>
  have t:=B.slt j i v h1 n;unfold res at g;dsimp only at g
  cases l:δ'[i]? with
  |none=>rw[l]at g;cases g
  |some q=>
   cases q with
   |none=>rw[l]at g;cases g
   |some p=>
    obtain⟨e,b⟩:=p;rw[l]at g;have hd:e=d:=kZ g;subst hd
    cases b
    .obtain⟨w,k,s⟩:=B.er.val i e l;rw[t]at k;cases k;exact .inl<|Rep.mono (λ_ _ e _=>e) (λb _ z=>z.elim bg λz=>bv<|B.tt b z) s
    obtain⟨a,k,s⟩:=B.er.own i e l;rw[t]at k;cases k;exact .inr ⟨a,rfl,s.mono (λ_ _ e _=>e) (λb _ z=>z.elim bg λz=>bv<|B.tt b z) λ_ e=>e⟩
def Ops.done(B:Ops K T c δ H os vs δ' H' h)(k:∀v f,Ls K T c δ H z δ' v f->Q v f):Gen K H' (λa=>X0 c δ' a\/T a) z Q:=by
 obtain⟨d,b⟩:=z;have i:∀{f:Hp},(∀a o,H' a=Y o->f a=Y o)->∀a,T a->Ow (f a):=λ{f} g a z=>(B.er.dom a<|B.tt a z).up<|g a
 cases b
 .intro w f g r;exact k w f ⟨B.keep.trans<|.ext g,B.er.mono (λb o e _=>g b o e) (λb _ z=>B.tt b z)<|i g,r⟩
 intro p f l g ok
 have j:H p=I:=by
  cases n:H p with
  |none=>rfl
  |some s=>exact absurd l<|B.keep.dm p (by rw[n];simp)
 refine k (.ref p) f ⟨B.keep.trans<|.ext g,p,rfl,j,B.er.mono (λb o e _=>g b o e) (λb q z=>z.elim (B.tt b) λz=>absurd (z▸l) q) λa z=>?_,ok.mono (λ_ _ e _=>e) (λb _ z=>?_) λ_ e=>e⟩
 .rcases z with z|z
  .exact i g a z
  subst z;exact ok.ow
 rcases z with z|z|z
 .exact bg (bg z)
 .exact bg (bv z)
 exact bv z
def Gen.int(g:Gen K H O (.int i,U) Q):Q (.int i) H:=g _ H (λ_ _ e=>e) Rep.mkInt
def Gen.bl(g:Gen K H O (.bl i,U) Q):Q (.bl i) H:=g _ H (λ_ _ e=>e) Rep.HD
def md{H:Hp}{p:iw}{o:HO}(b:H p=I):∀a u,H a=Y u->upd H p o a=Y u:=λa u e=>by rw[jq (by intro z;subst z;rw[e]at b;cases b)];exact e
def Gen.lst{O:SS}{l:List D}{xs:List V}{p:iw}(g:Gen K H O (.lst l,J) Q)(a:H p=I)(r:YP K H O l xs):Q (.ref p) (upd H p<|.lst xs):=
 g p _ a (md a) ⟨xs,jk,YP.mono (λb o e _=>md a b o e) (λb d z=>z.elim id λz=>absurd (z▸a) d) r⟩
def Gen.tup(g:Gen K H O (.tup l,U) Q)(a:H p=I)(np: ¬O p)(r:YP K H O l xs):Q (.ref p) (upd H p<|.tup xs):=
 g _ _ (md a) (Rep.HU ⟨jk,np⟩<|YP.mono (λb o e _=>md a b o e) (λb d z=>z) r)
def Ops.np(B:Ops K T c δ H os vs δ' H' h)(a: ¬Ow (H' p)): ¬(X0 c δ' p\/T p):=λz=>a<|z.elim (λz=>B.er.HQ z) λz=>B.er.dom p<|B.tt p z
end
def qy(g:D->Option (D×Bool))(a:FO):F:=λδ=>(a δ).bind λp=>(res p.2 p.1).bind λx=>(g x).bind λz=>Y (z,p.2)
def iT(g:D->D->Option (D×Bool))(fa fb:FO):F:=λδ=>(fa δ).bind λp=>(fb p.2).bind λq=>(res q.2 p.1).bind λx=>(res q.2 q.1).bind λy=>(g x y).bind λz=>Y (z,q.2)
noncomputable def lg:List FO->Dn->Option (List A1×Dn)
 |[],δ=>Y ([],δ)
 |f::fs,δ=>(f δ).bind λp=>(lg fs p.2).bind λq=>Y (p.1::q.1,q.2)
def wd(a:Dn):List A1->Option (List D)
 |[]=>Y []
 |o::os=>(res a o).bind λd=>(wd a os).bind λl=>Y (d::l)
def jc(g:List D->Option (D×Bool))(fs:List FO):F:=λδ=>(lg fs δ).bind λp=>(wd p.2 p.1).bind λds=>(g ds).bind λz=>Y (z,p.2)
inductive tA(K:jd)(fs:List FO)(σ:L2.St)(H:Hp)(Q:List V->Hp->Prop):Prop where
 |mk (δ:Dn) (T:SS) (os:List A1) (δ':Dn) (_:ER K H T σ δ) (_:lg fs δ=Go (os,δ')) (_:∀vs H' T',Ops K T σ δ H os vs δ' H' T'->Q vs H')
section
variable {X:Cx}{e a b:iM}{es:kI}{fa fb:FO}{fs:List FO}{pos:bA}
inductive BndS{α β:Type}(x:Option α)(f:α->Option β)(b:β):Prop where
 |mk (a:α) (_:x=Go a) (_:f a=Go b)
inductive BndP{α β γ:Type}(x:Option (α×γ))(f:α×γ->Option β)(b:β):Prop where
 |mk (a:α) (c:γ) (_:x=Go (a,c)) (_:f (a,c)=Go b)
def iK{c d g:Type}{x:Option (c×g)}{f:c×g->Option d}{b:d}(h:x.bind f=Y b):BndP x f b:=by
 cases x with
 |none=>cases h
 |some a=>exact⟨a.1,a.2,rfl,h⟩
def iE{c d:Type}{x:Option c}{f:c->Option d}{b:d}(h:x.bind f=Y b):BndS x f b:=by
 cases x with
 |none=>cases h
 |some a=>exact⟨a,rfl,h⟩
def acO(K:jd)(r:V->Hp->VK->Prop)(g:D->Option (D×Bool)):Prop:=
 ∀x z v T (O:SS) (Q:VK),(∀p,¬Ow (T p)->¬O p)->kx K T O x v->g x=Y z->Gen K T O z Q->r v T Q
def XT(K:jd)(r:R2)(g:D->D->Option (D×Bool)):Prop:=
 ∀x y z v u T (O:SS) (Q:VK),(∀p,¬Ow (T p)->¬O p)->kx K T O x v->kx K T O y u->g x y=Y z->Gen K T O z Q->r v u T Q
def acN(K:jd)(r:List V->Hp->VK->Prop)(g:List D->Option (D×Bool)):Prop:=
 ∀ds z c T (O:SS) (Q:VK),(∀p,¬Ow (T p)->¬O p)->IX ds=IX c->(∀(j:Nat) d v,ds[j]?=Y d->c[j]?=Y v->kx K T O d v)->g ds=Y z->Gen K T O z Q->r c T Q
def V8{r:V->Hp->VK->Prop}{g:D->Option (D×Bool)}(h:PE X e (tUn r<|tO X.K fa))(n:acO X.K r g):PX X e (qy g fa):=PX.imp h λw O Q q=>by obtain⟨s,T,u,t,E,e,k⟩:=q;obtain⟨o,c,h1,e⟩:=iK e;obtain⟨x,i,e⟩:=iE e;obtain⟨z,l,e⟩:=iE e;obtain⟨rfl,rfl⟩:=jg e;refine⟨s,T,o,c,E,h1,λv f d=>?_⟩;have B:=Ops.cons E d<|Ops.nil<|d.er E;exact n x z v f _ Q (λp m=>B.np m) (B.view (j:=0) C C i) l (B.done k)
def V7{r:R2}{g:D->D->Option (D×Bool)}(h:PE X e (KD r (tO X.K fa)<|tO X.K fb))(w:XT X.K r g):PX X e (iT g fa fb):=PX.imp h λM H Q A=>by obtain⟨N,T,G,L,E,e,k⟩:=A;obtain⟨o,c,h1,e⟩:=iK e;obtain⟨C,f,m,e⟩:=iK e;obtain⟨x,n,e⟩:=iE e;obtain⟨y,q,e⟩:=iE e;obtain⟨z,s,e⟩:=iE e;obtain⟨rfl,rfl⟩:=jg e;refine⟨N,T,o,c,E,h1,λv O d=>⟨c,Bv T o v,C,f,d.er E,m,λu l i=>?_⟩⟩;have B:=Ops.cons E d<|Ops.cons (d.er E) i<|Ops.nil<|i.er<|d.er E;exact w x y z v u l _ Q (λp t=>B.np t) (B.view (j:=0) IR IR n) (B.view (j:=1) IR IR q) s (B.done k)
def zF:PA X [] (tA X.K []):=λpos c s f N Q O h=>by obtain⟨g,T,os,d,E,e,k⟩:=h;obtain⟨rfl,rfl⟩:=jg e;exact ug pos c s f N Q O<|k [] N T<|Ops.nil E
def uh(n:PO X e fa)(p:PA X es (tA X.K fs))(q:aj (e::es) X.env=(U,bh e X.env)::aj es X.env):PA X (e::es) (tA X.K (fa::fs)):=λpos c s u N Q O h=>by obtain⟨r,T,os,t,E,e,k⟩:=h;unfold lg at e;obtain⟨o,d,h1,e⟩:=iK e;obtain⟨f,g,m,e⟩:=iK e;obtain⟨rfl,rfl⟩:=jg e;exact pv n p q pos c s u N Q O ⟨r,T,o,d,E,h1,λv w i=>⟨d,Bv T o v,f,g,i.er E,m,λx j l B=>k _ j l (Ops.cons E i B)⟩⟩
def pQ{g:Dn}:∀{os:List A1}{c:List D},wd g os=Y c->IX c=os.length/\∀(j:Nat) d,c[j]?=Y d->∃o,os[j]?=Y o/\res g o=Y d:=by
 intro p
 induction p with
 |nil=>intro c h;cases h;exact⟨rfl,λj d h=>by simp at h⟩
 |cons o os n=>
  intro c h;unfold wd at h;obtain⟨d,h1,h⟩:=iE h;obtain⟨l,i,h⟩:=iE h;cases h;obtain⟨k,m⟩:=n i;refine⟨by simp[k],λj e f=>?_⟩
  cases j with
  |zero=>simp at f;subst f;exact⟨o,rfl,h1⟩
  |succ j=>obtain⟨q,r,s⟩:=m j e (by simpa using f);exact⟨q,by simpa using r,s⟩
def R5{r:List V->Hp->VK->Prop}{g:List D->Option (D×Bool)}(h:PE X e (LB r<|tA X.K fs))(w:acN X.K r g):PX X e (jc g fs):=PX.imp h λO M Q x=>by obtain⟨A,T,L,G,E,e,k⟩:=x;obtain⟨os,f,h1,e⟩:=iK e;obtain⟨l,m,e⟩:=iE e;obtain⟨z,n,e⟩:=iE e;obtain⟨rfl,rfl⟩:=jg e;obtain⟨q,s⟩:=pQ m;refine⟨A,T,os,f,E,h1,λy i N B=>?_⟩;refine w l z y i _ Q (λp u=>B.np u) (q.trans B.len) (λj d v hd hv=>?_) n (B.done k);obtain⟨o,t,c⟩:=s j d hd;exact B.view t hv c
end
open PySem.SeqAt
mutual
noncomputable def D.P1:D->D->Bool
 |.VP,e=>match e with|.VP=>J|_=>U
 |.bl a,e=>match e with|.bl b=>a==b|.int b=>(if a then 1 else 0)==b|_=>U
 |.int a,e=>match e with|.bl b=>a==(if b then 1 else 0)|.int b=>a==b|_=>U
 |.str a,e=>match e with|.str b=>a==b|_=>U
 |.tup l,e=>match e with|.tup m=>D.A9 l m|_=>U
 |.lst l,e=>match e with|.lst m=>D.A9 l m|_=>U
 |.Q2 _ _ _,e=>match e with|.Q2 _ _ _=>J|_=>U
noncomputable def D.A9:List D->List D->Bool
 |[],m=>m.isEmpty
 |a::l,m=>match m with|b::m=>D.P1 a b&&D.A9 l m|[]=>U
end
mutual
noncomputable def D.dep:D->Nat
 |.tup l=>D.NL l+1
 |.lst l=>D.NL l+1
 |.Q2 _ _ _=>20000
 |_=>0
noncomputable def D.NL:List D->Nat
 |[]=>0
 |d::l=>max (D.dep d)<|D.NL l
end
mutual
theorem D.B7:∀d:D,D.P1 d d=J
 |.VP=>rfl
 |.bl a=>by simp[D.P1]
 |.int a=>by simp[D.P1]
 |.str a=>by simp[D.P1]
 |.tup l=>D.By l
 |.lst l=>D.By l
 |.Q2 _ _ _=>rfl
theorem D.By:∀l:List D,D.A9 l l=J
 |[]=>rfl
 |d::l=>by show(D.P1 d d&&D.A9 l l)=J;rw[D.B7 d,D.By l];rfl
end
theorem D.BM{d:D}:∀{l:List D}{j:Nat},l[j]?=Y d->d.dep<=D.NL l
 |[],j,h=>by simp at h
 |e::l,0,h=>by simp at h;subst h;rw[D.NL];exact Nat.le_max_left _ _
 |e::l,j+1,h=>by rw[D.NL];exact mq (D.BM<|by simpa using h)<|Nat.le_max_right _ _
def ze(l m:List D)(j:Nat):Bool:=match l[j]?,m[j]? with
 |some d,Y e=>D.P1 d e
 |_,_=>J
theorem yS:∀l m:List D,((au<|min (IX l)<|IX m).all (ze l m)&&(IX l)==IX m)=D.A9 l m
 |[],[]=>rfl
 |[],e::m=>rfl
 |d::l,[]=>rfl
 |d::l,e::m=>by
  show _=(D.P1 d e&&D.A9 l m)
  rw[<-yS l m];simp only[mX,Nat.succ_min_succ,dL,tQ,dS];have a:ze (d::l) (e::m) 0=D.P1 d e:=rfl;have h1:(λx=>ze (d::l) (e::m)<|Nat.succ x)=ze l m:=by funext x;simp[ze]
  rw[a];simp only[fP]
  congr 2
  simp
section
variable {X:Cx}{pins:jw}{σ:L2.St}{H:Hp}{s:iB}
def mr(h:kx X.K H O (.tup l) v):Iz (EC X.K H) (YP X.K H O l) v:=by
 rcases h with h|⟨a,rfl,h⟩
 .obtain⟨a,b,e,q,r⟩:=h.tup;exact⟨a,b,e,q.sq,r⟩
 exact h.elim
def lT(h:kx X.K H O (.lst l) v):Iz (Bx X.K H) (YP X.K H O l) v:=by
 rcases h with h|⟨a,rfl,h⟩
 .obtain⟨a,b,e,q,r⟩:=h.lst;exact⟨a,b,e,q.sq,r⟩
 obtain⟨b,e,r⟩:=h;exact⟨a,b,rfl,.inl<|.inl e,r⟩
def YP.views{O:SS}{l:List D}{b:List V}(r:YP X.K H O l b){j:Nat}{d:D}{v:V}(h1:l[j]?=Y d)(c:b[j]?=Y v):Rep X.K H O d v:=by obtain⟨w,a,e⟩:=r.get h1;rw[c]at a;cases a;exact e
def OH(T:Inv X pins σ H s)(h:AN X.K (H a) k l i us):∃o,s.heap.get? a=Y o/\(o.cls=.type "dict"\/o.cls=.type "set"\/∃Q,o.cls=.ref Q):=by
 cases k with
 |dct=>
  rcases h with⟨b,e,_⟩|⟨b,e,_⟩
  .obtain⟨_,_,i,_,o,d,g,h1,c,_⟩:=(show T2 X.prog X.w H s.heap a (.dK b)from T.hok a _ e)
   exact⟨o,h1,.inl c.1⟩
  obtain⟨_,_,m,_,o,d,g,h1,c,_⟩:=(show T2 X.prog X.w H s.heap a (.dT b)from T.hok a _ e)
  exact⟨o,h1,.inl c.1⟩
 |set=>
  obtain⟨_,j,e,_⟩:=h;obtain⟨d,n,t,h1,_⟩:=(show T2 X.prog X.w H s.heap a (.V0 j)from T.hok a _ e)
  exact⟨_,h1,.inr<|.inl C⟩
 |exc Q=>
  obtain⟨_,o,e,h1,_⟩:=h;obtain⟨f,_⟩:=(show T2 X.prog X.w H s.heap a (.AL o<|.own 0)from T.hok a _ e)
  exact⟨o,f,.inr<|.inr ⟨Q,h1⟩⟩
 |_=>exact h.elim
def Fn(T:Inv X pins σ H s)(h1:EC X.K H a xs)(f:Bx X.K H a k):False:=by obtain⟨g,_,⟨o,e,c,_⟩,_⟩:=T.tuple h1;obtain⟨h,_,⟨j,i,d,b,_⟩,_⟩:=T.list f;rw[e]at d;cases d;rw[c]at b;exact absurd b (by simp)
def Sz(T:Inv X pins σ H s)(h1:EC X.K H a xs)(f:AN X.K (H a) k h j us):False:=by obtain⟨g,_,⟨o,e,c,_⟩,_⟩:=T.tuple h1;obtain⟨i,d,b⟩:=OH T f;rw[e]at d;cases d;rw[c]at b;rcases b with b|b|⟨Q,b⟩<;>exact absurd b (by simp)
def SA(T:Inv X pins σ H s)(h1:Bx X.K H a xs)(f:AN X.K (H a) k h j us):False:=by obtain⟨g,_,⟨o,n,e,c,_⟩,_⟩:=T.list h1;obtain⟨i,d,b⟩:=OH T f;rw[e]at d;cases d;rw[c]at b;rcases b with b|b|⟨Q,b⟩<;>exact absurd b (by simp)
mutual
theorem Rep.inj(T:Inv X pins σ H s):∀{d e:D}{v:V},d.dep<20000->Rep X.K H O d v->Rep X.K H u e v->d=e
 |.VP,e,v,i,h,c=>by
  have:=h.VP;subst this
  cases e with
  |VP=>rfl
  |bl b=>have:=c.bl;cases this
  |int b=>have:=c.int;cases this
  |str b=>have:=c.str;cases this
  |tup m=>obtain⟨a,f,z,_⟩:=c.tup;cases z
  |lst m=>obtain⟨a,f,z,_⟩:=c.lst;cases z
  |Q2 m n o=>obtain⟨a,f,z,_⟩:=c.Q2;cases z
 |.bl b,e,v,i,h,c=>by
  have:=h.bl;subst this
  cases e with
  |VP=>have:=c.VP;cases this
  |bl b=>have:=c.bl;cases this;rfl
  |int b=>have:=c.int;cases this
  |str b=>have:=c.str;cases this
  |tup m=>obtain⟨a,f,z,_⟩:=c.tup;cases z
  |lst m=>obtain⟨a,f,z,_⟩:=c.lst;cases z
  |Q2 m n o=>obtain⟨a,f,z,_⟩:=c.Q2;cases z
 |.int b,e,v,i,h,c=>by
  have:=h.int;subst this
  cases e with
  |VP=>have:=c.VP;cases this
  |bl b=>have:=c.bl;cases this
  |int b=>have:=c.int;cases this;rfl
  |str b=>have:=c.str;cases this
  |tup m=>obtain⟨a,f,z,_⟩:=c.tup;cases z
  |lst m=>obtain⟨a,f,z,_⟩:=c.lst;cases z
  |Q2 m n o=>obtain⟨a,f,z,_⟩:=c.Q2;cases z
 |.str b,e,v,i,h,c=>by
  have:=h.str;subst this
  cases e with
  |VP=>have:=c.VP;cases this
  |bl b=>have:=c.bl;cases this
  |int b=>have:=c.int;cases this
  |str b=>have:=c.str;cases this;rfl
  |tup m=>obtain⟨a,f,z,_⟩:=c.tup;cases z
  |lst m=>obtain⟨a,f,z,_⟩:=c.lst;cases z
  |Q2 m n o=>obtain⟨a,f,z,_⟩:=c.Q2;cases z
 |.tup l,e,v,i,h,c=>by
  rw[D.dep]at i;obtain⟨a,f,rfl,q,r⟩:=h.tup
  cases e with
  |VP=>have:=c.VP;cases this
  |bl b=>have:=c.bl;cases this
  |int b=>have:=c.int;cases this
  |str b=>have:=c.str;cases this
  |tup m=>obtain⟨k,p,z,g,j⟩:=c.tup;cases z;have:=T.BI q.sq g.sq;subst this;rw[YP.inj T (by lia) r j]
  |lst m=>obtain⟨k,p,z,g,j⟩:=c.lst;cases z;exact(Fn T q.sq g.sq).elim
  |Q2 m n o=>obtain⟨k,t,z,g,j⟩:=c.Q2;cases z;exact(Sz T q.sq g.2).elim
 |.lst l,e,v,i,h,c=>by
  rw[D.dep]at i;obtain⟨a,f,rfl,q,r⟩:=h.lst
  cases e with
  |VP=>have:=c.VP;cases this
  |bl b=>have:=c.bl;cases this
  |int b=>have:=c.int;cases this
  |str b=>have:=c.str;cases this
  |tup m=>obtain⟨k,p,z,g,j⟩:=c.tup;cases z;exact(Fn T g.sq q.sq).elim
  |lst m=>obtain⟨k,p,z,g,j⟩:=c.lst;cases z;have:=T.BY q.sq g.sq;subst this;rw[YP.inj T (by lia) r j]
  |Q2 m n o=>obtain⟨k,t,z,g,j⟩:=c.Q2;cases z;exact(SA T q.sq g.2).elim
 |.Q2 _ _ _,e,v,i,h,c=>by rw[D.dep]at i;lia
theorem YP.inj(T:Inv X pins σ H s){O b:SS}:∀{l m:List D}{vs:List V},D.NL l<20000->YP X.K H O l vs->YP X.K H b m vs->l=m
 |[],m,vs,_,h,a=>by
  rw[YP]at h;subst h
  cases m with
  |nil=>rfl
  |cons e m=>rw[YP]at a;obtain⟨_,_,z,_⟩:=a;cases z
 |d::l,m,vs,i,h,a=>by
  rw[D.NL]at i;rw[YP]at h;obtain⟨v,r,rfl,h1,c⟩:=h
  cases m with
  |nil=>rw[YP]at a;cases a
  |cons e m=>rw[YP]at a;obtain⟨k,j,z,f,g⟩:=a;cases z;rw[Rep.inj T (by lia) h1 f,YP.inj T (by lia) c g]
end
def xG(h:kx X.K H O d v)(hd:d.dep=0)(c:∀l,d≠ .tup l)(b:∀l,d≠ .lst l):Rep X.K H O d v:=by
 rcases h with h|⟨a,rfl,h⟩
 .exact h
 cases d with
 |lst l=>exact absurd C<|b l
 |Q2 _ _ _=>rw[D.dep]at hd;lia
 |_=>exact h.elim
inductive Sh(X:Cx)(H:Hp)(s:iB)(O:SS):D->V->iI->Prop
 |VP:Sh X H s O .VP .VP .none
 |bl (b:Bool):Sh X H s O (.bl b) (.bl b) (.bool b)
 |int (i:Int) (t:oC):Sh X H s O (.int i) (.int i) (.int i t)
 |str (x:aE) (t:oC):Sh X H s O (.str x) (.str x) (.str x t)
 |tup {l:List D} {p:iw} {xs:List V} {its:jS} (q:EC X.K H p xs) (r:YP X.K H O l xs) (v:Vals xs its) (pl:gg s.heap p its.toArray):Sh X H s O (.tup l) (.ref p) (.ref p)
 |lst {l:List D} {p:iw} {xs:List V} {its:jS} (q:Bx X.K H p xs) (r:YP X.K H O l xs) (v:Vals xs its) (pl:s.heap.IsList p its.toArray):Sh X H s O (.lst l) (.ref p) (.ref p)
def zD(T:Inv X pins σ H s)(h:kx X.K H O d v)(b:RelV v a)(i:d.dep<20000):Sh X H s O d v a:=by
 cases d with
 |Q2 m k n=>rw[D.dep]at i;omega
 |tup l=>obtain⟨p,j,rfl,q,r⟩:=mr h;cases b;obtain⟨e,g,f,_⟩:=T.tuple q;exact .tup q r g f
 |lst l=>obtain⟨p,j,rfl,q,r⟩:=lT h;cases b;obtain⟨e,g,f,_⟩:=T.list q;exact .lst q r g f.isList
 |VP=>have:=(xG h C (by simp)<|by simp).VP;subst this;cases b;exact .VP
 |bl c=>have:=(xG h C (by simp)<|by simp).bl;subst this;cases b;exact .bl c
 |int c=>have:=(xG h C (by simp)<|by simp).int;subst this;obtain⟨t,rfl⟩:=b;exact .int c t
 |str c=>have:=(xG h C (by simp)<|by simp).str;subst this;obtain⟨t,rfl⟩:=b;exact .str c t
def TY{A:iU}{y x:iI}{k:Bool}(h:RcAt A s y x k)(e:y=x->k=J)(d:∀b t,y≠ .float b t):EqAt A s y x k:=λa w E Q c=>by
 unfold eqBool;refine mF ?_;refine wpAny_ite_split (λf=>?_) λ_=>?_
 .rw[e<|pK f]at c;exact iz<|vz<|iJ c
 cases y with
 |float b t=>exact absurd C<|d b t
 |_=>exact iz<|h a w E _ (tw c)
def Qm(I:Inv X pins σ H s){A:iU}{n:Nat}(M:∀(d e:D)(v u:V)(a b:iI)(O Q:SS)(A:iU),kx X.K H O d v->kx X.K H Q e u->RelV v a->RelV u b->d.dep+1<=n->e.dep<20000->A.units+n<aT+1->EqAt A s a b (D.P1 d e))(hA:A.units+n<aT):∀(l m:List D)(g h:List V)(c f:jS)(i k:SS),D.NL l+1<=n->D.NL m<20000->YP X.K H i l g->YP X.K H k m h->Vals g c->Vals h f->
   ∀j (h1:j<c.toArray.size) (r:j<f.toArray.size),EqAt A.in1 s c.toArray[j] f.toArray[j] (ze l m j):=λl m g h c f i k Z hm y z B C j h1 r=>by
 have P:=B.length;have R:=C.length;have S:=y.length;have W:=z.length;simp at h1 r;have t:g[j]?=Go g[j]:=jZ (by omega);have x:h[j]?=Go h[j]:=jZ (by omega);have p:l[j]?=Go l[j]:=jZ (by omega);have o:m[j]?=Go m[j]:=jZ (by omega);obtain⟨w,E,U⟩:=B.get t;obtain⟨N,L,Y⟩:=C.get x
 have G:c.toArray[j]=w:=by have:c[j]?=Go c[j]:=jZ (by omega);rw[this]at E;simpa using E
 have J:f.toArray[j]=N:=by have:f[j]?=Go f[j]:=jZ (by omega);rw[this]at L;simpa using L
 rw[G,J];have T:ze l m j=D.P1 l[j] m[j]:=by unfold ze;rw[p,o]
 rw[T];have F:=D.BM p;have q:=D.BM o;exact M _ _ _ _ _ _ i k A.in1 (.inl<|y.views p t) (.inl<|z.views o x) U Y (by omega) (by omega) (by show A.units+1+n<aT+1;omega)
def NX{d e:D}{v u:V}{a b:iI}{O T:SS}{A:iU}(I:Inv X pins σ H s){n:Nat}(ih:∀(d e:D)(v u:V)(a b:iI)(O T:SS)(A:iU),kx X.K H O d v->kx X.K H T e u->RelV v a->RelV u b->d.dep+1<=n->e.dep<20000->A.units+n<aT+1->EqAt A s a b (D.P1 d e))(hd:kx X.K H O d v)(he:kx X.K H T e u)(ra:RelV v a)(rb:RelV u b)(Q:d.dep<=n)(M:e.dep<20000)(hA:A.units+n<aT):RcAt A s a b (D.P1 d e)/\RcNeAt A s a b (!D.P1 d e):=by
 have f:A.units<cLine:=by lia
 have items:=Qm I ih hA;have W:aT=9900:=rfl;have h1:=zD I hd ra (by lia);have E:=zD I he rb M
 cases h1 with
 |VP=>
  cases E with
  |VP=>exact⟨RcAt.none_none,RcNeAt.none_none⟩
  |bl c=>exact⟨RcAt.none_bool c,RcNeAt.none_bool c⟩
  |int c i=>exact⟨RcAt.none_int c i,RcNeAt.none_int c i⟩
  |str c i=>exact⟨RcAt.none_str c i,RcNeAt.none_str c i⟩
  |tup B t x h=>exact⟨RcAt.none_tuple h f,RcNeAt.none_tuple h f⟩
  |lst B t x h=>exact⟨RcAt.none_list h f,RcNeAt.none_list h f⟩
 |bl g=>
  cases E with
  |VP=>exact⟨RcAt.bool_none g,RcNeAt.bool_none g⟩
  |bl c=>exact⟨RcAt.bool_bool g c,RcNeAt.bool_bool g c⟩
  |int c i=>exact⟨RcAt.bool_int g c i,RcNeAt.bool_int g c i⟩
  |str c i=>exact⟨RcAt.bool_str g c i,RcNeAt.bool_str g c i⟩
  |tup B t x h=>exact⟨RcAt.bool_tuple g h f,RcNeAt.bool_tuple g h f⟩
  |lst B t x h=>exact⟨RcAt.bool_list g h f,RcNeAt.bool_list g h f⟩
 |int g k=>
  cases E with
  |VP=>exact⟨RcAt.int_none g k,RcNeAt.int_none g k⟩
  |bl c=>exact⟨RcAt.int_bool g k c,RcNeAt.int_bool g k c⟩
  |int c i=>exact⟨RcAt.int_int g k c i,RcNeAt.int_int g k c i⟩
  |str c i=>exact⟨RcAt.int_str g k c i,RcNeAt.int_str g k c i⟩
  |tup B t x h=>exact⟨RcAt.int_tuple g k h f,RcNeAt.int_tuple g k h f⟩
  |lst B t x h=>exact⟨RcAt.int_list g k h f,RcNeAt.int_list g k h f⟩
 |str g k=>
  cases E with
  |VP=>exact⟨RcAt.str_none g k,RcNeAt.str_none g k⟩
  |bl c=>exact⟨RcAt.str_bool g k c,RcNeAt.str_bool g k c⟩
  |int c i=>exact⟨RcAt.str_int g k c i,RcNeAt.str_int g k c i⟩
  |str c i=>exact⟨RcAt.str_str g k c i,RcNeAt.str_str g k c i⟩
  |tup B t x h=>exact⟨RcAt.str_tuple g k h f,RcNeAt.str_tuple g k h f⟩
  |lst B t x h=>exact⟨RcAt.str_list g k h f,RcNeAt.str_list g k h f⟩
 | @tup l p N o q r L j=>
  cases E with
  |VP=>exact⟨RcAt.tuple_none j f,RcNeAt.tuple_none j f⟩
  |bl c=>exact⟨RcAt.tuple_bool c j f,RcNeAt.tuple_bool c j f⟩
  |int c i=>exact⟨RcAt.tuple_int c i j f,RcNeAt.tuple_int c i j f⟩
  |str c i=>exact⟨RcAt.tuple_str c i j f,RcNeAt.tuple_str c i j f⟩
  | @tup m p2 U' C' B t x h=>
   have G:D.NL l+1<=n:=by rw[D.dep]at Q;exact Q
   have J:D.NL m<20000:=by rw[D.dep]at M;lia
   have F:=L.length;have P:=x.length;have R:=r.length;have S:=t.length;have w:=items l m N U' o C' _ _ G J r t L x;have z:=du (RcAt.tuples j h f w)<|RcNeAt.tuples j h f w;simp only[kR]at z;rw[show o.length=l.length by lia,show C'.length=m.length by lia,yS]at z;exact z
  |lst B t x h=>exact⟨RcAt.tuple_list j h f,RcNeAt.tuple_list j h f⟩
 | @lst l p N o q r L j=>
  cases E with
  |VP=>exact⟨RcAt.list_none j f,RcNeAt.list_none j f⟩
  |bl c=>exact⟨RcAt.list_bool c j f,RcNeAt.list_bool c j f⟩
  |int c i=>exact⟨RcAt.list_int c i j f,RcNeAt.list_int c i j f⟩
  |str c i=>exact⟨RcAt.list_str c i j f,RcNeAt.list_str c i j f⟩
  |tup B t x h=>exact⟨RcAt.list_tuple j h f,RcNeAt.list_tuple j h f⟩
  | @lst m p2 U' C' B t x h=>
   have G:D.NL l+1<=n:=by rw[D.dep]at Q;exact Q
   have J:D.NL m<20000:=by rw[D.dep]at M;lia
   have F:=L.length;have P:=x.length;have R:=r.length;have S:=t.length;have Y:=yS l m;by_cases y:l.length=m.length
   .have w:=items l m N U' o C' _ _ G J r t L x;have q:o.toArray.size=C'.toArray.size:=by simp;lia
    have z:=du (RcAt.lists j h q f w)<|RcNeAt.lists j h q f w;simp at z;rw[show o.length=min l.length m.length by lia]at z;show _/\RcNeAt _ _ _ _ (!D.A9 l m);rw[show D.P1 (.lst l) (.lst m)=D.A9 l m from C,<-Y,y];rw[y]at z;simpa using z
   have q:(o.toArray.size !=C'.toArray.size)=IN:=by simp;lia
   have z:=du (RcAt.lists_lengths j h q f)<|RcNeAt.lists_lengths j h q f;rw[show D.P1 (.lst l) (.lst m)=D.A9 l m from C,<-Y];rw[show(l.length==m.length)=U by simpa using y];simpa using z
def CM(N:Inv X pins σ H s)(n:Nat)
  (Q:∀(d e:D)(v u:V)(a b:iI)(O k:SS)(A:iU),kx X.K H O d v->kx X.K H k e u->RelV v a->RelV u b->d.dep+1<=n->e.dep<20000->A.units+n<aT+1->EqAt A s a b (D.P1 d e)):
  ∀(d e:D)(v u:V)(a b:iI)(O k:SS)(A:iU),kx X.K H O d v->kx X.K H k e u->RelV v a->RelV u b->d.dep<=n->e.dep<20000->A.units+n<aT->EqAt A s a b (D.P1 d e):=by
 intro d e v u a b O k A hd y C E m B L;have J:aT=9900:=rfl;have h1:=zD N hd C (by lia);have l:=zD N y E B;refine TY (NX N Q hd y C E m B L).1 (λT=>?_) λb t z=>by subst z;cases h1
 subst T
 have no:∀{p:iw}{i j:nE},gg s.heap p i->s.heap.IsList p j->False:=λ⟨o,a,b,_⟩ ⟨M,c,d,_⟩=>by rw[a]at c;cases c;rw[b]at d;exact absurd d (by decide)
 cases h1 with
 |tup q r G w=>
  cases l with
  |tup g h x f=>have:=N.BI q g;subst this;rw[YP.inj N (by rw[D.dep]at m;lia) r h,D.B7]
  |lst g h x f=>exact(no w f).elim
 |lst q r G w=>
  cases l with
  |tup g h x f=>exact(no f w).elim
  |lst g h x f=>have:=N.BY q g;subst this;rw[YP.inj N (by rw[D.dep]at m;lia) r h,D.B7]
 |_=>cases l;exact D.B7 _
def Bf(T:Inv X pins σ H s):∀(n:Nat)(d e:D)(v u:V)(a b:iI)(O c:SS)(A:iU),kx X.K H O d v->kx X.K H c e u->RelV v a->RelV u b->d.dep<=n->e.dep<20000->A.units+n<aT->EqAt A s a b (D.P1 d e):=by
 intro n
 induction n with
 |zero=>intro d e v u a b O c A hd f i j g h k;exact CM T 0 (λd e v u a b O c A hd f i j g h k=>absurd g<|by lia) d e v u a b O c A hd f i j g h k
 |succ n l=>intro d e v u a b O c A hd f i j g h k;exact CM T (n+1) (λd e v u a b O c A hd f i j g h k=>l d e v u a b O c A hd f i j (by lia) h<|by lia) d e v u a b O c A hd f i j g h k
end
section
variable {X:Cx}{c:jw}{f:L2.St}{H:Hp}{s:iB}
def UE(T:Inv X c f H s)(hd:kx X.K H O d v)(i:kx X.K H g e u)(l:RelV v a)(m:RelV u b)(j:d.dep<=n)(k:e.dep<20000)(h:A.units+n<aT):RcAt A s a b (D.P1 d e)/\RcNeAt A s a b (!D.P1 d e):=
 NX T (λd e v u a b O g A x1 x2 x3 o x5 p x7=>Bf T (n-1) d e v u a b O g A x1 x2 x3 o (by lia) p<|by lia) hd i l m j k h
def WH(j:X.A.units+60<aT):AD X (aA .Eq) (λx y H Q=>∃O d e,kx X.K H O d x/\kx X.K H O e y/\(d.dep<=50/\e.dep<=50)/\Q (.bl<|D.P1 d e) H):=by intro c s f H x y v u Q T g i h;obtain⟨O,d,e,h1,a,b,q⟩:=h;exact(UE (A:=X.A) T h1 a g i b.1 (by lia)<|by lia).1 _ _ _ _ ⟨.bl _,H,T,rfl,q⟩
def WD(j:X.A.units+60<aT):AD X (aA .NotEq) (λx y H Q=>∃O d e,kx X.K H O d x/\kx X.K H O e y/\(d.dep<=50/\e.dep<=50)/\Q (.bl (!D.P1 d e)) H):=by intro c s f H x y v u Q T g i h;obtain⟨O,d,e,h1,a,b,q⟩:=h;exact(UE (A:=X.A) T h1 a g i b.1 (by lia)<|by lia).2 _ _ _ _ ⟨.bl _,H,T,rfl,q⟩
end
def jy{e:Type}{c:Prop}[Decidable c]{a b:e}(h:(if c then Y a else I)=Y b):c/\a=b:=by
 split at h
 .rename_i d;exact⟨d,kZ h⟩
 cases h
section
variable {X:Cx}{c:jw}{f:L2.St}{H:Hp}{s:iB}
def aaq(I:Inv X c f H s){A:iU}{l:List D}{o:List V}{a:jS}{O C:SS}{b:D}{Q:V}{x:iI}(r:YP X.K H O l o)(v:Vals o a)(U:kx X.K H C b Q)(rx:RelV Q x)(hn:D.NL l<=50)(Y:b.dep<=50)(hA:A.units+60<aT):
  ∃e:iI->Bool,(∀y∈a,EqAt A.in1 s y x<|e y)/\a.map e=l.map λd=>D.P1 d b:=by
 let e:iI->Bool:=λy=>match(a.zip l).find? (λp=>p.1==y)with
  |some p=>D.P1 p.2 b
  |none=>IP
 have S:=v.length;have W:=r.length
 have key:∀(j:Nat)(h:j<a.length)(g:j<l.length),e a[j]=D.P1 l[j] b:=λj h g=>by
  show(match(a.zip l).find? (λp=>p.1==a[j])with|some p=>D.P1 p.2 b|none=>IP)=_
  cases t:(a.zip l).find? (λp=>p.1==a[j])with
  |none=>
   have:=List.find?_eq_none.mp t (a[j],l[j]) (by
    have:(a.zip l)[j]?=Go (a[j],l[j]):=by simp[EO,jZ g]
    exact mY this)
   simp at this
  |some p=>
   have N:=mu t;have M:=MQ t;obtain⟨i,L⟩:=sJ M;obtain⟨P,p2⟩:=p;rw[EO]at L;have J:P=a[j]:=pK N;obtain⟨h1,k⟩:=L;have E:i<o.length:=by have:=(wJ.mp h1).1;lia
   obtain⟨w,n,B⟩:=v.get<|jZ E;have q:j<o.length:=by lia
   obtain⟨w',T,R⟩:=v.get<|jZ q;rw[h1]at n;cases n;rw[jZ h]at T;cases T;subst J;have hv:=B.inj R;have a1:=r.views k<|jZ E;have G:=r.views (jZ g)<|jZ q;rw[hv]at a1;have Z:=D.BM k;have:=Rep.inj I (by lia) a1 G;exact mG (λz=>D.P1 z b) this
 refine⟨e,λy F=>?_,?_⟩
 .obtain⟨j,h⟩:=sJ F;have u:=(wJ.mp h).1;have q:=(wJ.mp h).2;have g:j<l.length:=by lia
  have m:j<o.length:=by lia
  obtain⟨w,n,B⟩:=v.get<|jZ m;rw[h]at n;cases n;have hk:=key j u g;rw[q]at hk;rw[hk];have hd:=D.BM<|jZ g;exact Bf I 50 _ _ _ _ _ _ O C A.in1 (.inl<|r.views (jZ g)<|jZ m) U B rx (by lia) (by lia) (by show A.units+1+50<aT;lia)
 apply Ad
 .simp;lia
 intro j h1 k;simp at h1 k;simp;exact key j h1 k
def PQ(T:Inv X c f H s){A:iU}{l:List D}{j:List V}{a:jS}{O k:SS}{b:D}{i:V}{x:iI}(r:YP X.K H O l j)(v:Vals j a)(t:kx X.K H k b i)(u:RelV i x)(p:D.NL l<=50)(g:b.dep<=50)(o:A.units+60<aT):
  ∃e:iI->Bool,(∀y∈a,EqAt A.in1 s y x<|e y)/\a.any e=l.any λd=>D.P1 d b:=by
 obtain⟨e,h,q⟩:=aaq T r v t u p g o;have m:a.any e=(a.map e).any id:=by rw[dQ];rfl
 have n:(l.any λd=>D.P1 d b)=(l.map λd=>D.P1 d b).any id:=by rw[dQ];rfl
 exact⟨e,h,by rw[m,n,q]⟩
def inD(x:D):D->Option Bool
 |.tup l=>if D.NL l<=50/\x.dep<=50 then Y (l.any λd=>D.P1 d x)else I
 |.lst l=>if D.NL l<=50/\x.dep<=50 then Y (l.any λd=>D.P1 d x)else I
 |_=>I
def D3(n:Bool)(E:X.A.units+60<aT):AD X (aA (if n then .NotIn else .In)) (λx y H Q=>∃O d e b,kx X.K H O d x/\kx X.K H O e y/\inD d e=Y b/\Q (.bl (if n then !b else b)) H):=by
 intro c s f H x y v u Q N L T h;obtain⟨O,d,e,b,h1,M,m,q⟩:=h
 cases e with
 |tup l=>
  obtain⟨i,rfl⟩:=jy m;obtain⟨a,G,rfl,t,r⟩:=mr M;cases T;obtain⟨g,B,j,_⟩:=N.tuple t;obtain⟨e,p,o⟩:=PQ (A:=X.A) N r B h1 L i.1 i.2 E;have k:∀w∈g.toArray,EqAt X.A.in1 s w v (e w):=λw z=>p w (by simpa using z);rw[<-o,show g.any e=g.toArray.any e by simp]at q;cases n
  .exact in_tupleAt e j k ⟨.bl _,H,N,rfl,q⟩
  exact notIn_tupleAt e j k ⟨.bl _,H,N,rfl,q⟩
 |lst l=>
  obtain⟨i,rfl⟩:=jy m;obtain⟨a,G,rfl,t,r⟩:=lT M;cases T;obtain⟨g,B,j,_⟩:=N.list t;obtain⟨e,p,o⟩:=PQ (A:=X.A) N r B h1 L i.1 i.2 E;have k:∀w∈g.toArray,EqAt X.A.in1 s w v (e w):=λw z=>p w (by simpa using z);rw[<-o,show g.any e=g.toArray.any e by simp]at q;cases n
  .exact in_listAt e j.isList k ⟨.bl _,H,N,rfl,q⟩
  exact notIn_listAt e j.isList k ⟨.bl _,H,N,rfl,q⟩
 |_=>cases m
end
inductive rD1(K:jd)(g:D->Option (D×Bool))(x:V)(H:Hp)(Q:VK):Prop where
 |mk (O:SS) (d:D) (z:D×Bool) (_:∀p,¬Ow (H p)->¬O p) (_:kx K H O d x) (_:g d=Go z) (_:Gen K H O z Q)
inductive rD(K:jd)(g:D->D->Option (D×Bool))(x y:V)(H:Hp)(Q:VK):Prop where
 |mk (O:SS) (d e:D) (z:D×Bool) (_:∀p,¬Ow (H p)->¬O p) (_:kx K H O d x) (_:kx K H O e y) (_:g d e=Go z) (_:Gen K H O z Q)
inductive EH(K:jd)(g:List D->Option (D×Bool))(vs:List V)(H:Hp)(Q:VK):Prop where
 |mk (O:SS) (ds:List D) (z:D×Bool) (_:∀p,¬Ow (H p)->¬O p) (_:(IX ds)=IX vs) (_:∀(j:Nat) d v,ds[j]?=Go d->vs[j]?=Go v->kx K H O d v) (_:g ds=Go z) (_:Gen K H O z Q)
section
variable {X:Cx}{e a b:iM}{fa fb:FO}{fs:List FO}{pos:bA}
def px1(h:PE X e (tUn (rD1 X.K g)<|tO X.K fa)):PX X e (qy g fa):=V8 h λx z v T O Q np d c G=>⟨O,x,z,np,d,c,G⟩
def Lh(h:PE X e (KD (rD X.K g) (tO X.K fa)<|tO X.K fb)):PX X e (iT g fa fb):=V7 h λx y z v u T O Q np d f c G=>⟨O,x,y,z,np,d,f,c,G⟩
def pxn(h:PE X e (LB (EH X.K g)<|tA X.K fs)):PX X e (jc g fs):=R5 h λc z i T O Q np f hv d G=>⟨O,c,z,np,f,hv,d,G⟩
def jx{K T}{O:SS}{i:Int}{v:V}(h:kx K T O (.int i) v):v=.int i:=h.elim (λh=>h.int) λ⟨_,_,h⟩=>h.elim
def Jw{K T}(h:kx K T O (.bl i) v):v=.bl i:=h.elim (λh=>h.bl) λ⟨_,_,h⟩=>h.elim
def Ar{K T}(h:kx K T O (.str i) v):v=.str i:=h.elim (λh=>h.str) λ⟨_,_,h⟩=>h.elim
def Nm{K T}(h:kx K T O .VP v):v=.VP:=h.elim (λh=>h.VP) λ⟨_,_,h⟩=>h.elim
def Gen.str{K T}(g:Gen K T O (.str i,U) Q):Q (.str i) T:=g _ T (λ_ _ e=>e) Rep.mkStr
noncomputable def gI(f:Int->Int->Option D):D->D->Option (D×Bool)
 |.int i,.int j=>(f i j).map λz=>(z,U)
 |_,_=>I
def zJ{f:Int->Int->Option D}{d e:D}{z:D×Bool}(h:gI f d e=Y z):∃i j y,d=.int i/\e=.int j/\f i j=Y y/\z=(y,U):=by
 cases d with
 |int i=>
  cases e with
  |int j=>
   cases c:f i j with
   |none=>simp only[gI,c]at h;cases h
   |some y=>simp only[gI,c]at h;cases h;exact⟨i,j,y,rfl,rfl,c,rfl⟩
  |_=>cases h
 |_=>cases h
def zG{f:yX}{M:Int->Int->Prop}[∀i j,Decidable<|M i j]{g:Int->Int->Int}(o:AD X f (rI M λi j=>.int (g i j))):AD X f (rD X.K (gI λi j=>if M i j then Y (.int<|g i j)else I)):=by intro c s r N x y v u Q T p q h;obtain⟨O,d,e,z,np,h1,k,n,G⟩:=h;obtain⟨i,j,w,rfl,rfl,m,rfl⟩:=zJ n;obtain⟨l,rfl⟩:=jy m;exact o c s r N x y v u Q T p q ⟨i,j,jx h1,jx k,l,G.int⟩
def OI{f:yX}{g:Int->Int->Int}(n:AD X f (IJ λi j=>.int (g i j))):AD X f (rD X.K<|gI λi j=>Y<|.int<|g i j):=by intro c s q N x y v u Q T o p h;obtain⟨O,d,e,z,np,h1,k,m,G⟩:=h;obtain⟨i,j,w,rfl,rfl,l,rfl⟩:=zJ m;cases l;exact n c s q N x y v u Q T o p ⟨i,j,jx h1,jx k,G.int⟩
instance(i j:Int):Decidable (B9 i j):=by unfold B9;exact inferInstance
instance(i j:Int):Decidable (Ma i j):=by unfold Ma;exact inferInstance
instance(i j:Int):Decidable (EM i j):=by unfold EM;exact inferInstance
def Eg:=gI λi j=>Y<|.int<|i-j
def rB:=gI λi j=>if B9 i j then Y (.int<|i*j)else I
def P9:=gI λi j=>if Ma i j then Y (.int<|i / j)else I
def AW:=gI λi j=>if 0<j then Y (.int<|i%j)else I
def PZ:=gI λi j=>if EM i j then Y (.int<|i^j.toNat)else I
def SF:AD X (bK .Sub) (rD X.K Eg):=OI WB
def SM:AD X (bK .Mult) (rD X.K rB):=zG WE
def SR:AD X (bK .FloorDiv) (rD X.K P9):=zG SV
def SN:AD X (bK .Mod) (rD X.K AW):=zG WG
def SH:AD X (bK .Pow) (rD X.K PZ):=zG WC
noncomputable def nV:D->D->Option (D×Bool)
 |.int i,.int j=>Y (.int<|i+j,U)
 |.str i,.str j=>if i.length+j.length<=sizeLine then Y (.str<|i++j,U)else I
 |.tup l,.tup m=>if l.length+m.length<=sizeLine then Y (.tup<|l++m,U)else I
 |.lst l,.lst m=>if l.length+m.length<=sizeLine then Y (.lst<|l++m,J)else I
 |_,_=>I
def SU:AD X (bK .Add) (rD X.K nV):=by
 intro g s σ H x y v u Q I E L h;obtain⟨O,d,e,z,np,h1,J,k,G⟩:=h
 cases d with
 |int i=>
  cases e with
  |int j=>cases k;exact WI g s σ H x y v u Q I E L ⟨i,j,jx h1,jx J,G.int⟩
  |_=>cases k
 |str i=>
  cases e with
  |str j=>obtain⟨V,rfl⟩:=jy k;exact ae9 g s σ H x y v u Q I E L ⟨i,j,Ar h1,Ar J,V,G.str⟩
  |_=>cases k
 |tup l=>
  cases e with
  |tup m=>
   obtain⟨V,rfl⟩:=jy k;have k1:Rep X.K H O (.tup l) x:=h1.elim id λ⟨_,_,z⟩=>z.elim;have k2:Rep X.K H O (.tup m) y:=J.elim id λ⟨_,_,z⟩=>z.elim;obtain⟨M,xs,rfl,N,B⟩:=k1.tup;obtain⟨A,ys,rfl,U,C⟩:=k2.tup;have l1:=B.length;have l2:=C.length;by_cases hx:xs=[]
   .subst hx;have:l=[]:=by simpa using l1.symm
    subst this;cases E;cases L;obtain⟨f,Y,S,_⟩:=I.tuple N.sq;obtain⟨o,v2,W,_⟩:=I.tuple U.sq;have e1:f=[]:=by have:=Y.length;simpa using this.symm
    subst e1;obtain⟨⟨R,dd,q,sl⟩,r,w,n,hd⟩:=id S;obtain⟨⟨aY,P,data2,D⟩,T,t,Z,c⟩:=id W;simp only at w hd t c;subst w hd t c
    refine Dy ⟨_,r,rfl⟩ ⟨_,T,rfl⟩ Hl Hk Hj Hh (Hg _ _)
     (tuple_addW0 M A #[] o.toArray n Z dd P sl D (by simp)) ⟨r,T,⟨.ref A,H,I,rfl,?_⟩⟩
    exact G _ H (λ_ _ e=>e) (by simpa using k2)
   refine SW g s σ H _ _ v u Q I E L ⟨M,A,xs,ys,rfl,rfl,N.sq,U.sq,hx,by lia,λhy=>?_,λhy p hp=>?_⟩
   .subst hy;have:m=[]:=by simpa using l2.symm
    subst this;exact G _ H (λ_ _ e=>e) (by simpa using k1)
   exact G.tup hp (np p<|L3 hp) (B.append C)
  |_=>cases k
 |lst l=>
  cases e with
  |lst m=>
   obtain⟨V,rfl⟩:=jy k;obtain⟨M,xs,rfl,N,B⟩:=lT h1;obtain⟨A,ys,rfl,U,C⟩:=lT J;have l1:=B.length;have l2:=C.length;cases E;cases L;obtain⟨f,Y,S,_⟩:=I.list N;obtain⟨o,v2,W,_⟩:=I.list U;have e1:=Y.length;have e2:=v2.length;obtain⟨⟨R,dd,q,sl⟩,r,w,n,hd⟩:=id S.isList;obtain⟨⟨aY,P,data2,D⟩,T,t,Z,c⟩:=id W.isList;simp only at w hd t c;subst w hd t c
   refine Dy ⟨_,r,rfl⟩ ⟨_,T,rfl⟩ noFill_list_add seq_list_add PySem.F.slot_list_add PySem.F.entry_list_add (PySem.F.args_list_add_2 _ _)
    (list_addW M A f.toArray o.toArray n Z dd P sl D<|by simp;lia) ⟨r,T,?_⟩
   rw[show f.toArray++o.toArray=(f++o).toArray by simp];exact⟨.ref _,_,I.LK (t':=s.toks) (Y.append v2)<|by rw[oG];lia,rfl,G.lst I.fresh<|B.append C⟩
  |_=>cases k
 |_=>cases k
def BV(d e:D):Option (D×Bool):=if d.dep<=50/\e.dep<=50 then Y (.bl<|D.P1 d e,U)else I
def DO(d e:D):Option (D×Bool):=if d.dep<=50/\e.dep<=50 then Y (.bl (!D.P1 d e),U)else I
def L4(d e:D):Option (D×Bool):=(inD d e).map λb=>(.bl b,U)
def oR(d e:D):Option (D×Bool):=(inD d e).map λb=>(.bl (!b),U)
def OJ(j:X.A.units+60<aT):AD X (aA .Eq) (rD X.K BV):=by intro c s m N x y v u Q T k l h;obtain⟨O,d,e,z,np,h1,f,i,G⟩:=h;obtain⟨g,rfl⟩:=jy i;exact WH j c s m N x y v u Q T k l ⟨O,d,e,h1,f,g,G.bl⟩
def Wz(j:X.A.units+60<aT):AD X (aA .NotEq) (rD X.K DO):=by intro c s m N x y v u Q T k l h;obtain⟨O,d,e,z,np,h1,f,i,G⟩:=h;obtain⟨g,rfl⟩:=jy i;exact WD j c s m N x y v u Q T k l ⟨O,d,e,h1,f,g,G.bl⟩
inductive BndM{α β:Type}(x:Option α)(f:α->β)(b:β):Prop where
 |mk (a:α) (_:x=Go a) (_:f a=b)
def jB{c d:Type}{x:Option c}{f:c->d}{b:d}(h:x.map f=Y b):BndM x f b:=by
 cases x with
 |none=>cases h
 |some a=>exact⟨a,rfl,kZ h⟩
def WA(j:X.A.units+60<aT):AD X (aA .In) (rD X.K L4):=by intro c s m N x y v u Q T k l h;obtain⟨O,d,e,z,np,h1,f,i,G⟩:=h;obtain⟨b,g,rfl⟩:=jB i;exact D3 U j c s m N x y v u Q T k l ⟨O,d,e,b,h1,f,g,G.bl⟩
def agl(j:X.A.units+60<aT):AD X (aA .NotIn) (rD X.K oR):=by intro c s m N x y v u Q T k l h;obtain⟨O,d,e,z,np,h1,f,i,G⟩:=h;obtain⟨b,g,rfl⟩:=jB i;exact D3 J j c s m N x y v u Q T k l ⟨O,d,e,b,h1,f,g,G.bl⟩
noncomputable def yM:D->Option (D×Bool)
 |.int i=>Y (.int (-i),U)
 |_=>I
def RC:Lq X (x6 .USub) (rD1 X.K yM):=by
 intro c s j N x v Q T g h;obtain⟨O,d,z,np,h1,f,G⟩:=h
 cases d with
 |int i=>cases f;exact VA c s j N x v Q T g ⟨i,jx h1,G.int⟩
 |_=>cases f
def AK:D->D->Option (D×Bool)
 |.tup l,.int i=>(FN l i).map λd=>(d,U)
 |.lst l,.int i=>(FN l i).map λd=>(d,U)
 |_,_=>I
def Kv{K T}{O:SS}{l:List D}{c:List V}{i:Int}{d:D}(r:YP K T O l c)(h:FN l i=Y d):∃v,FN c i=Y v/\Rep K T O d v:=by unfold FN at h ⊢;rw[r.length];obtain⟨j,h1,f⟩:=iE h;rw[h1];obtain⟨v,g,k⟩:=r.get f;exact⟨v,g,k⟩
def U0:LW X (rD X.K AK):=by
 intro f c g s E N x y v u Q T B M h A;obtain⟨O,d,e,z,np,h1,t,j,G⟩:=h
 cases d with
 |tup l=>
  cases e with
  |int i=>obtain⟨w,m,rfl⟩:=jB j;obtain⟨p,o,rfl,q,r⟩:=mr h1;obtain⟨n,hv,k⟩:=Kv r m;exact W2 f c g s E N _ _ v u Q T B M ⟨p,o,i,n,rfl,jx t,q,hv,G _ N (λ_ _ e=>e) k⟩ A
  |_=>cases j
 |lst l=>
  cases e with
  |int i=>obtain⟨w,m,rfl⟩:=jB j;obtain⟨p,o,rfl,q,r⟩:=lT h1;obtain⟨n,hv,k⟩:=Kv r m;exact Tt f c g s E N _ _ v u Q T B M ⟨p,o,i,n,rfl,jx t,q,hv,G _ N (λ_ _ e=>e) k⟩ A
  |_=>cases j
 |_=>cases j
end
noncomputable def pP:List A1->Option (List D)
 |[]=>Y []
 |.val r::os=>(pP os).map (r.1:: ·)
 |.slot _::_=>I
def nX(fs:List F):F:=λδ=>(lg (fs.map iP) δ).bind λp=>(pP p.1).bind λa=>if (IX a)<=sizeLine then Y ((.tup a,U),p.2)else I
def qz(fs:List F):F:=λδ=>(lg (fs.map iP) δ).bind λp=>(pP p.1).bind λa=>if (IX a)<=sizeLine then Y ((.lst a,J),p.2)else I
section
variable {K:jd}{T m:SS}{f:L2.St}{g e:Dn}{H H':Hp}{os:List A1}{c:List V}
def Ops.rep(E:ER K H T f g)(B:Ops K T f g H os c e H' m){j:Nat}{r:D×Bool}{v:V}(h1:os[j]?=Y (.val r))(h:c[j]?=Y v):Rep K H' (λa=>X0 f e a\/T a) r.1 v:=by
 obtain⟨d,b⟩:=r
 cases b
 .exact B.val j d v h1 h
 obtain⟨p,rfl,k,i,ok⟩:=B.tmp j d v h1 h;refine ok.rep (λz=>?_) λb _ z=>z;rcases z with z|z
 .exact B.er.nT p z k
 exact(E.dom p z).ne i
theorem vZ{O:SS}:∀{os:List A1}{c:List V}{d:List D},pP os=Y d->os.length=IX c->(∀(j:Nat)(r:D×Bool)(v:V),os[j]?=Y (.val r)->c[j]?=Y v->Rep K H' O r.1 v)->YP K H' O d c
 |[],c,d,h,n,_=>by
  cases h;have:c=[]:=by simpa using n.symm
  subst this;exact YP.nil
 |.slot i::os,c,d,h,_,_=>by cases h
 |.val r::os,c,d,h,n,k=>by
  obtain⟨l,h1,rfl⟩:=jB h
  cases c with
  |nil=>simp at n
  |cons v c=>exact YP.cons (k 0 r v C C)<|vZ h1 (by simpa using n) λj o p a b=>k (j+1) o p (by simpa using a) (by simpa using b)
end
section
variable {X:Cx}{e a b:iM}{m:kI}{n fb:FO}{fs:List F}{c:bA}
def V4{x1}(h:PA X m (tA X.K<|fs.map iP)):PX X (.Tuple m x1 c) (nX fs):=PX.imp (Wr h) λy O Q l=>by obtain⟨o,T,w,q,E,e,k⟩:=l;obtain⟨os,d,h1,e⟩:=iK e;obtain⟨u,g,e⟩:=iE e;obtain⟨i,e⟩:=jy e;obtain⟨rfl,rfl⟩:=tu e;refine⟨o,T,os,d,E,h1,λx s t B=>?_⟩;have r:=vZ g B.len λj r v a b=>B.rep E a b;exact⟨by rw[r.length];exact i,λp f=>(B.done k).tup f (B.np<|L3 f) r⟩
def V9(h:PA X m (tA X.K<|fs.map iP)):PX X (.List m c) (qz fs):=PX.imp (Wv h) λy O Q l=>by obtain⟨o,T,w,q,E,e,k⟩:=l;obtain⟨os,d,h1,e⟩:=iK e;obtain⟨u,f,e⟩:=iE e;obtain⟨g,e⟩:=jy e;obtain⟨rfl,rfl⟩:=tu e;refine⟨o,T,os,d,E,h1,λx s t B=>?_⟩;have r:=vZ f B.len λj r v a b=>B.rep E a b;exact⟨by rw[r.length];exact g,λp i=>(B.done k).lst i r⟩
def JT{g:List D}{f:List V}{d:D}(h:(IX g)=IX f)(hd:g=[d]):∃v,f=[v]:=by
 subst hd
 cases f with
 |nil=>simp at h
 |cons v r=>
  cases r with
  |nil=>exact⟨v,rfl⟩
  |cons _ _=>simp at h
noncomputable def g1(g:D->Option (D×Bool)):List D->Option (D×Bool)
 |[d]=>g d
 |_=>I
noncomputable def g2(g:D->D->Option (D×Bool)):List D->Option (D×Bool)
 |[d,e]=>g d e
 |_=>I
def qI{f:iI}{g:D->Option (D×Bool)}(h:∀(i:jw)(s:iB)(j:L2.St)(N:Hp)(x:V)(u:iI)(Q:VK)(O:SS)(d:D)(z:D×Bool),Inv X i j N s->RelV x u->(∀p,¬Ow (N p)->¬O p)->kx X.K N O d x->g d=Y z->Gen X.K N O z Q->
  af (am X.prog X.w) X.A (call f [u]) (EP X i j Q) X.xe s):lh X f (EH X.K<|g1 g):=by
 intro i s j N B y Q T r q;obtain⟨O,l,z,np,o,hv,k,G⟩:=q
 match l,k with
 |[d],k=>obtain⟨v,rfl⟩:=JT o C;obtain⟨u,rfl,t⟩:=qZ r;exact h i s j N v u Q O d z T t np (hv 0 d v C C) k G
def Qz{f:iI}{g:D->D->Option (D×Bool)}(h:∀(i:jw)(s:iB)(k:L2.St)(N:Hp)(x y:V)(j:jS)(Q:VK)(O:SS)(d e:D)(z:D×Bool),Inv X i k N s->Vals [x,y] j->(∀p,¬Ow (N p)->¬O p)->kx X.K N O d x->kx X.K N O e y->g d e=Y z->Gen X.K N O z Q->
  af (am X.prog X.w) X.A (call f j) (EP X i k Q) X.xe s):lh X f (EH X.K<|g2 g):=by
 intro i s k N u j Q T r t;obtain⟨O,o,z,np,q,hv,l,G⟩:=t;rcases o with _|⟨d,_|⟨e,_|⟨_,_⟩⟩⟩<;>try cases l
 rcases u with _|⟨x,_|⟨y,_|⟨_,_⟩⟩⟩<;>try cases q
 exact h i s k N x y j Q O d e z T r np (hv 0 d x C C) (hv 1 e y C C) l G
noncomputable def ur:D->Option (D×Bool)
 |.tup l=>Y (.int<|IX l,U)
 |.lst l=>Y (.int<|IX l,U)
 |_=>I
def age:lh X (.builtin "len") (EH X.K<|g1 ur):=qI λf s j N x u Q O d z T i np hd g G=>by
 cases d with
 |tup l=>
  cases g;obtain⟨p,h,rfl,q,r⟩:=mr hd;refine xM f s j N [_] [u] Q T (.cons i .nil) ⟨p,h,rfl,.inr q,?_⟩;rw[r.length];exact G.int
 |lst l=>
  cases g;obtain⟨p,h,rfl,q,r⟩:=lT hd;refine xM f s j N [_] [u] Q T (.cons i .nil) ⟨p,h,rfl,.inl q,?_⟩;rw[r.length];exact G.int
 |_=>cases g
noncomputable def AX:D->Option (D×Bool)
 |.int i=>Y (.int (if i<0 then -i else i),U)
 |_=>I
def afR:lh X (.builtin "abs") (EH X.K<|g1 AX):=qI λf s j N x u Q O d z T h np hd g G=>by
 cases d with
 |int i=>cases g;exact QD f s j N [x] [u] Q T (.cons h .nil) ⟨i,by rw[jx hd],G.int⟩
 |_=>cases g
noncomputable def IC:D->Option (D×Bool)
 |.int i=>Y (.int i,U)
 |.bl b=>Y (.int (if b then 1 else 0),U)
 |_=>I
def afO:lh X (.type "int") (EH X.K<|g1 IC):=qI λf s j N x u Q O d z T h np hd g G=>by
 cases d with
 |int i=>cases g;exact CV f s j N [x] [u] Q T (.cons h .nil)<|.inl ⟨i,by rw[jx hd],G.int⟩
 |bl i=>
  cases g;refine CV f s j N [x] [u] Q T (.cons h .nil)<|.inr ⟨i,by rw[Jw hd],?_⟩;have:=G.int;cases i<;>exact this
 |_=>cases g
noncomputable def nG:D->Option (D×Bool)
 |.tup l=>Y (.tup l,U)
 |.lst l=>Y (.tup l,U)
 |_=>I
def zh:lh X (.type "tuple") (EH X.K<|g1 nG):=qI λf s o N x u Q O d z T k np hd g G=>by
 cases d with
 |tup l=>
  cases g;have j:Rep X.K N O (.tup l) x:=hd.elim id λ⟨_,_,z⟩=>z.elim;obtain⟨p,h,rfl,q,r⟩:=j.tup;exact vH f s o N [_] [u] Q T (.cons k .nil) ⟨p,h,rfl,.inr ⟨q.sq,G _ N (λ_ _ e=>e) j⟩⟩
 |lst l=>
  cases g;obtain⟨p,h,rfl,q,r⟩:=lT hd;exact vH f s o N [_] [u] Q T (.cons k .nil) ⟨p,h,rfl,.inl ⟨q,λt i=>G.tup i (np t<|L3 i) r⟩⟩
 |_=>cases g
noncomputable def Gb:D->Option (D×Bool)
 |.tup l=>Y (.lst l,J)
 |.lst l=>Y (.lst l,J)
 |_=>I
def afm:lh X (.type "list") (EH X.K<|g1 Gb):=qI λf s k N x u Q O d z T j np hd g G=>by
 cases d with
 |tup l=>
  cases g;obtain⟨p,i,rfl,q,r⟩:=mr hd;exact xK f s k N [_] [u] Q T (.cons j .nil) ⟨p,i,rfl,.inr q,λt h=>G.lst h r⟩
 |lst l=>
  cases g;obtain⟨p,i,rfl,q,r⟩:=lT hd;exact xK f s k N [_] [u] Q T (.cons j .nil) ⟨p,i,rfl,.inl q,λt h=>G.lst h r⟩
 |_=>cases g
end
abbrev FT:=Dn->Option (Bool×Dn)
inductive tT(K:jd)(f:FT)(σ:L2.St)(H:Hp)(Q:Bool->Hp->Prop):Prop where
 |mk (δ:Dn) (T:SS) (b:Bool) (δ':Dn) (_:ER K H T σ δ) (_:f δ=Go (b,δ')) (_:∀H',I8 σ δ H δ' H'->ER K H' T σ δ'->Q b H')
def PTX(X:Cx)(e:iM)(f:FT):Prop:=PT X e<|tT X.K f
def PWX(X:Cx)(e:iM)(f:FT):Prop:=PW X e<|tT X.K f
noncomputable def Ik:(D×Bool)×Dn->Option (Bool×Dn)
 |((.bl b,_),a)=>Y (b,a)
 |_=>I
def fT(f:F):FT:=λδ=>(f δ).bind Ik
def xQ(h:Ik p=Y q):∃o,p=((.bl q.1,o),q.2):=by
 obtain⟨⟨d,o⟩,a⟩:=p
 cases d with
 |bl b=>cases h;exact⟨o,rfl⟩
 |_=>cases h
def Nu{K:jd}{f:F}{a:L2.St}{O:Hp}{Q:Bool->Hp->Prop}(h:tT K (fT f) a O Q):tF K f a O λx i=>∃c,x=.bl c/\Q c i:=by obtain⟨l,T,b,m,E,e,k⟩:=h;obtain⟨p,h1,j⟩:=iE e;obtain⟨o,rfl⟩:=xQ j;refine⟨l,T,_,_,E,h1,λv g P=>?_⟩;obtain⟨d,r⟩:=P.rep E;exact⟨b,r.bl,k g P.1 d⟩
section
variable {X:Cx}{e a b c:iM}{w:kI}{i fb:FO}{f g:F}{n m:FT}{l:bA}
def PT.imp'(h:PT X e t)(k:∀j O Q,p j O Q->t j O Q):PT X e p:=λd s j O Q T o=>h d s j O Q T<|k j O Q o
def PW.imp'(h:PW X e t)(k:∀j O Q,p j O Q->t j O Q):PW X e p:=λwh d s j O Q T o=>h wh d s j O Q T<|k j O Q o
def S0{r:R2}{g:D->D->Option (D×Bool)}(J:XT X.K r g){t:L2.St}{H:Hp}{Q:VK}(M:tF X.K (iT g i fb) t H Q):KD r (tO X.K i) (tO X.K fb) t H Q:=by obtain⟨U,T,P,Y,E,e,k⟩:=M;obtain⟨o,d,h1,e⟩:=iK e;obtain⟨N,q,C,e⟩:=iK e;obtain⟨x,I,e⟩:=iE e;obtain⟨y,L,e⟩:=iE e;obtain⟨z,O,e⟩:=iE e;obtain⟨rfl,rfl⟩:=jg e;refine⟨U,T,o,d,E,h1,λv F h=>⟨d,Bv T o v,N,q,h.er E,C,λu A s=>?_⟩⟩;have B:=Ops.cons E h<|Ops.cons (h.er E) s<|Ops.nil<|s.er<|h.er E;exact J x y z v u A _ Q (λp G=>B.np G) (B.view (j:=0) IR IR I) (B.view (j:=1) IR IR L) O (B.done k)
def ZM{K:jd}{g:D->D->Option (D×Bool)}:XT K (rD K g) g:=λx y z v u T O Q np h j d G=>⟨O,x,y,z,np,h,j,d,G⟩
noncomputable def uA(f g:FT):FT:=λδ=>(f δ).bind λp=>if p.1=J then g p.2 else Y (U,p.2)
noncomputable def BX(f g:FT):FT:=λd=>(f d).bind λp=>if p.1=J then Y (J,p.2)else g p.2
noncomputable def oK(f:FT):FT:=λδ=>(f δ).bind λp=>Y (!p.1,p.2)
def vh(f g:F):F:=λδ=>(f δ).bind λp=>(Ik p).bind λq=>if q.1=J then g q.2 else Y ((.bl U,U),q.2)
def fOr(f g:F):F:=λd=>(f d).bind λp=>(Ik p).bind λq=>if q.1=J then Y ((.bl J,U),q.2)else g q.2
def Xp(f:F):F:=λd=>(f d).bind λp=>(Ik p).bind λq=>Y ((.bl (!q.1),U),q.2)
def Ls.pre{K:jd}{T:SS}{h:L2.St}{δ δ1 δ2:Dn}{Q j q:Hp}{r:D×Bool}{v:V}(k:I8 h δ Q δ1 j)(P:Ls K T h δ1 j r δ2 v q):Ls K T h δ Q r δ2 v q:=by
 refine⟨k.trans P.1,?_⟩;obtain⟨d,o⟩:=r
 cases o
 .exact P.2
 obtain⟨p,h1,s,t⟩:=P.2;refine⟨p,h1,?_,t⟩
 cases u:Q p with
 |none=>rfl
 |some x=>exact absurd s<|k.dm p (by rw[u];simp)
noncomputable def Ig(t:FT)(f g:F):F:=λd=>(t d).bind λp=>if p.1=J then f p.2 else g p.2
end
inductive Out where
 |nx(δ:Dn)|rt(r:D×Bool)(δ:Dn)|bk(δ:Dn)|ct(δ:Dn)
abbrev FS:=Dn->Option Out
structure SK(A:ki)(σ:L2.St)(δ:Dn)(H:Hp)(σ':L2.St)(δ':Dn)(H':Hp):Prop where
 kp:∀a o,H a=Go o->¬X0 σ δ a->H' a=Go o
 owi:∀i a,NR σ' δ' i a->NR σ δ i a\/H a=Ix\/(A i/\∃j,A j/\NR σ δ j a)
 dm:∀a,H a≠Ix->H' a≠Ix
 as:∀i,¬A i->σ'[i]?=σ[i]?
structure LL where
 p:Nat->Prop
 st:Option L2.St
structure FI(A:ki)(L:LL)(H0:Hp)(σ:L2.St)(δ:Dn)(H:Hp):Prop where
 ow:∀i a,NR σ δ i a->L.p i\/H0 a=Ix
 dm:∀a,H0 a≠Ix->H a≠Ix
 al:∀j,A j->¬L.p j
 gh:∀z,L.st=Go z->∀i,¬A i->σ[i]?=z[i]?
def RV(K:jd)(T:SS)(f:Hp)(r:D×Bool)(c:L2.St)(b:Dn)(v:V)(e:Hp):Prop:=
 match r with
 |(d,U)=>ER K e T c b/\Rep K e (λa=>X0 c b a\/T a) d v
 |(d,J)=>∃p,v=.ref p/\f p=I/\ER K e (λa=>T a\/a=p) c b/\AM K e (λa=>X0 c b a\/T a\/a=p) d p
section
variable {A:ki}{c b m:L2.St}{δ δ1 δ2:Dn}{H l g q:Hp}{L:LL}{K:jd}{T:SS}
def SK.refl:SK A c δ H c δ H:=⟨λ_ _ e _=>e,λ_ _ z=>.inl z,λ_ z=>z,λ_ _=>rfl⟩
def SK.ow(k:SK A c δ H b δ1 g)(a:iw)(h:X0 b δ1 a):X0 c δ a\/H a=I:=by
 obtain⟨i,d,h1,o⟩:=h;rcases k.owi i a ⟨d,h1,o⟩with⟨e,f,n⟩|z|⟨_,j,_,e,f,n⟩
 .exact .inl ⟨i,e,f,n⟩
 .exact .inr z
 exact .inl ⟨j,e,f,n⟩
def SK.trans(x:SK A c δ H b δ1 g)(y:SK A b δ1 g m δ2 q):SK A c δ H m δ2 q where
 kp:=λa o e n=>y.kp a o (x.kp a o e n) λz=>(x.ow a z).elim n λz=>by rw[z]at e;cases e
 owi:=λi a z=>(y.owi i a z).elim (x.owi i a) λz=>z.elim (λz=>.inr (.inl (by
  cases h:H a with
  |none=>rfl
  |some o=>exact absurd z<|x.dm a<|by rw[h];simp))) λ⟨d,j,f,z⟩=>(x.owi j a z).elim (λz=>.inr (.inr ⟨d,j,f,z⟩)) λz=>z.elim (λz=>.inr (.inl z)) λ⟨_,k,ak,z⟩=>.inr (.inr ⟨d,k,ak,z⟩)
 dm:=λa z=>y.dm a<|x.dm a z
 as:=λi h=>(y.as i h).trans<|x.as i h
def I8.sk(k:I8 c δ H δ1 g):SK A c δ H c δ1 g:=⟨k.kp,λi a z=>.inl (k.owi i a z),k.dm,λ_ _=>rfl⟩
def FI.step(f:FI A L l c δ H)(k:SK A c δ H b δ1 g):FI A L l b δ1 g where
 ow:=λi a z=>(k.owi i a z).elim (f.ow i a) λz=>.inr (z.elim (λz=>by
  cases h:l a with
  |none=>rfl
  |some o=>exact absurd z<|f.dm a<|by rw[h];simp) λQ=>by obtain⟨_,j,d,z⟩:=Q;exact (f.ow j a z).resolve_left<|f.al j d)
 dm:=λa z=>k.dm a<|f.dm a z
 al:=f.al
 gh:=λz e i n=>(k.as i n).trans<|f.gh z e i n
def FI.fresh(f:FI A L l c δ H)(a:H p=I):l p=I:=by
 cases h:l p with
 |none=>rfl
 |some o=>exact absurd a<|f.dm p (by rw[h];simp)
end
def XW(K:jd)(A:ki)(f:Hp)(D:Ends)(e:L2.St)(d:Dn)(Q:Hp)(T:SS)(out:Out):Prop:=
 match out with
 |.nx b=>∀a c,SK A e d Q a b c->ER K c T a b->D.nx a c
 |.bk b=>∀a c,SK A e d Q a b c->ER K c T a b->D.bk a c
 |.ct b=>∀a c,SK A e d Q a b c->ER K c T a b->D.ct a c
 |.rt r b=>∀v a c,SK A e d Q a b c->RV K T f r a b v c->D.rt v c
inductive tS(K:jd)(A:ki)(L:LL)(H0:Hp)(f:FS)(D:Ends)(σ:L2.St)(H:Hp):Prop where
 |mk (δ:Dn) (T:SS) (out:Out) (_:ER K H T σ δ) (_:FI A L H0 σ δ H) (_:f δ=Go out) (_:XW K A H0 D σ δ H T out)
def L8(X:Cx)(A:ki)(L:LL)(a:Hp)(st:bi)(f:FS):Prop:=PS X st<|tS X.K A L a f
def EL(X:Cx)(A:ki)(L:LL)(a:Hp)(st:List bi)(f:FS):Prop:=D5 X st<|tS X.K A L a f
noncomputable def iX:FS:=λδ=>Y<|.nx δ
noncomputable def iG(f g:FS):FS:=λδ=>(f δ).bind λo=>match o with
 |.nx δ1=>g δ1
 |o=>Y o
noncomputable def pe(f:F):FS:=λa=>(f a).bind λp=>Y<|.nx p.2
noncomputable def kL(f:F):FS:=λδ=>(f δ).bind λp=>Y<|.rt p.1 p.2
noncomputable def qt(i:Nat):FS:=λa=>match a[i]? with
 |some (Y (d,J))=>Y<|.rt (d,J)<|a.set i I
 |some (Y (d,U))=>Y<|.rt (d,U) a
 |_=>I
noncomputable def AH(t:FT)(f g:FS):FS:=λδ=>(t δ).bind λp=>if p.1=J then f p.2 else g p.2
noncomputable def kK(i:Nat)(f:F):FS:=λδ=>(f δ).bind λp=>if i<(IX p.2)then Y (.nx<|p.2.set i<|Y p.1)else I
section
variable {X:Cx}{A:ki}{L:LL}{d:Hp}{st:bi}{l:List bi}{f g:FS}{m:F}{j:FT}{e c:iM}{i:bA}
def PS.imp'(h:PS X st t)(k:∀D b Q,o D b Q->t D b Q):PS X st o:=λa s b Q D T n=>h a s b Q D T<|k D b Q n
def D5.imp'(h:D5 X l t)(k:∀D b Q,o D b Q->t D b Q):D5 X l o:=λa s b Q D T n=>h a s b Q D T<|k D b Q n
def Wi(Q:PTX X c j)(N:EL X A L d a f)(O:EL X A L d b g):L8 X A L d (.If c a b i) (AH j f g):=PS.imp' (ZR Q N O) λD w H M=>by
 obtain⟨y,T,out,E,C,e,k⟩:=M;obtain⟨c,o,h1,e⟩:=iK e;refine⟨y,T,c,o,E,h1,λx B z=>?_⟩;have u:SK A w y H w o x:=B.sk
 have fin:∀(h:FS),h o=Y out->tS X.K A L d h D w x:=λh G=>by
  refine⟨o,T,out,z,C.step u,G,?_⟩
  cases out with
  |nx s=>exact λn p q t=>k n p (u.trans q) t
  |bk s=>exact λn p q t=>k n p (u.trans q) t
  |ct s=>exact λn p q t=>k n p (u.trans q) t
  |rt r s=>exact λv n p q R2=>k v n p (u.trans q) R2
 cases c with
 |true=>rw[iQ IR]at e;exact(show(if J=J then tS X.K A L d f D w x else _)from by rw[iQ IR];exact fin f e)
 |false=>rw[je kY]at e;exact(show(if U=J then _ else tS X.K A L d g D w x)from by rw[je kY];exact fin g e)
end
def nU{b:Type}{l:List b}{i j:Nat}{x y:b}(h:(l.set i x)[j]?=Y y):(i=j/\i<IX l/\y=x)\/(i≠j/\l[j]?=Y y):=by
 rw[yn]at h;split at h
 .rename_i a;split at h
  .rename_i c;exact .inl ⟨a,c,(kZ h).symm⟩
  cases h
 rename_i a;exact .inr ⟨a,h⟩
section
variable {K:jd}{T:SS}{f:L2.St}{l c:Dn}{H g:Hp}{x:D×Bool}{v:V}{i:Nat}
def NR.store{j:Nat}{a:iw}(h:NR (f.set i<|Y v) (l.set i<|Y x) j a):(i≠j/\NR f l j a)\/(i=j/\x.2=J/\v=.ref a):=by
 obtain⟨d,h1,m⟩:=h;rcases nU h1 with⟨e,_,q⟩|⟨ne,q⟩
 .rcases nU m with⟨_,_,k⟩|⟨b,_⟩
  .right;cases q;exact⟨e,rfl,(kZ k).symm⟩
  exact absurd e b
 rcases nU m with⟨n,_,_⟩|⟨_,k⟩
 .exact absurd n ne
 exact .inl ⟨ne,d,q,k⟩
def X0.store(h:X0 (f.set i<|Y v) (l.set i<|Y x) a):X0 f l a\/(x.2=J/\v=.ref a):=by
 obtain⟨j,d,h1,k⟩:=h;rcases NR.store ⟨d,h1,k⟩with⟨_,e,b,m⟩|⟨_,b⟩
 .exact .inl ⟨j,e,b,m⟩
 exact .inr b
def ER.store(h:ER K g (Jj T x v) f c)(E:i<IX c)(u:match x with|(d,U)=>Rep K g (λa=>X0 f c a\/T a) d v|(d,J)=>∃p,v=.ref p/\¬T p/\AM K g (λa=>X0 f c a\/T a\/a=p) d p):
  ER K g T (f.set i<|Y v) (c.set i<|Y x):=by
 have r:i<(IX f):=by rw[h.len];exact E
 have sub:∀b,g b≠I->(X0 (f.set i<|Y v) (c.set i<|Y x) b\/T b)->(X0 f c b\/Jj T x v b):=λb _ z=>by
  rcases z with z|z
  .rcases z.store with z|z
   .exact .inl z
   exact .inr (.inr z)
  exact .inr (.inl z)
 refine⟨by rw[vA,vA];exact h.len,λj d o=>?_,λj d o=>?_,λj k d e a o hk h1 n=>?_,λa z=>?_,λa z=>h.dom a<|.inl z⟩
 .rcases nU o with⟨rfl,_,q⟩|⟨ne,q⟩
  .have q:=kZ q;subst q
   exact⟨v,tx r,Rep.mono (λ_ _ e _=>e) (λb O z=>by
    rcases z with z|z
    .rcases z.store with z|z
     .exact .inl z
     exact absurd z.1 (by simp)
    exact .inr z) u⟩
  obtain⟨w,h1,n⟩:=h.val j d q;exact⟨w,by rw[nu ne];exact h1,Rep.mono (λ_ _ e _=>e) sub n⟩
 .rcases nU o with⟨rfl,_,q⟩|⟨ne,q⟩
  .have q:=kZ q;subst q;obtain⟨p,rfl,np,ok⟩:=u;refine⟨p,tx r,ok.mono (λ_ _ e _=>e) (λb O z=>?_) λ_ e=>e⟩;rcases z with z|z
   .rcases z.store with z|z
    .exact .inl z
    have:=z.2;cases this;exact .inr<|.inr C
   exact .inr (.inl z)
  obtain⟨a,h1,n⟩:=h.own j d q;exact⟨a,by rw[nu ne];exact h1,n.mono (λ_ _ e _=>e) sub λ_ e=>e⟩
 .rcases NR.store ⟨d,o,h1⟩with⟨L,y,g1,g2⟩|⟨B,g1,g2⟩
  .rcases NR.store ⟨e,hk,n⟩with⟨Q,s,g3,m⟩|⟨A,g3,m⟩
   .exact h.inj j k y s a g1 g3 g2 m
   exact absurd (bv ⟨g3,m⟩) (h.nT a ⟨j,y,g1,g2⟩)
  rcases NR.store ⟨e,hk,n⟩with⟨Q,s,g3,m⟩|⟨A,g3,m⟩
  .exact absurd (bv ⟨g1,g2⟩) (h.nT a ⟨k,s,g3,m⟩)
  exact B.symm.trans A
 rcases z.store with z|z
 .exact λt=>h.nT a z<|.inl t
 obtain⟨d,b⟩:=x
 cases b
 .exact absurd z.1 (by simp)
 obtain⟨p,rfl,np,_⟩:=u;have:=z.2;cases this;exact np
def SK.store(k:I8 f l H c g)(b:A i)(h:x.2=J->∀p,v=.ref p->H p=I):SK A f l H (f.set i<|Y v) (c.set i<|Y x) g where
 kp:=k.kp
 owi:=λj a z=>by
  rcases z.store with⟨_,z⟩|⟨_,m,n⟩
  .exact .inl (k.owi j a z)
  exact .inr (.inl<|h m a n)
 dm:=k.dm
 as:=λj d=>nu λ(e:i=j)=>d (by subst e;exact b)
end
section
variable {X:Cx}{A:ki}{L:LL}{g:Hp}{f:F}{e c:iM}{b a:bA}
def wY{K:jd}{T:SS}{k:L2.St}{n j:Dn}{Q l:Hp}{r:D×Bool}{v:V}{i:Nat}(E:ER K Q T k n)(P:Ls K T k n Q r j v l)(u:i<IX j)(t:A i):
  SK A k n Q (k.set i<|Y v) (j.set i<|Y r) l/\ER K l T (k.set i<|Y v) (j.set i<|Y r):=by
 have w:r.2=J->∀p,v=.ref p->Q p=I:=λh p hv=>by
  obtain⟨d,o⟩:=r
  cases o
  .cases h
  obtain⟨q,h1,m,_⟩:=P.2;rw[hv]at h1;cases h1;exact m
 refine⟨SK.store P.1 t w,ER.store (P.er E) u ?_⟩;obtain⟨d,o⟩:=r
 cases o
 .exact P.2.2
 obtain⟨p,rfl,m,x,s⟩:=P.2;exact⟨p,rfl,λz=>(E.dom p z).ne m,s⟩
end
abbrev Tg:=D->Dn->Option Dn
inductive tG(K:jd)(A:ki)(tg:Tg)(v:V)(σ:L2.St)(hp:Hp)(Q:L2.St->Hp->Prop):Prop where
 |mk (δ:Dn) (T:SS) (d:D) (δ':Dn) (_:ER K hp T σ δ) (_:Rep K hp (λa=>X0 σ δ a\/T a) d v) (_:tg d δ=Go δ') (_:∀σ',SK A σ δ hp σ' δ' hp->ER K hp T σ' δ'->Q σ' hp)
def Ja(X:Cx)(A:ki)(e:iM)(a:Tg):Prop:=PG X e<|tG X.K A a
noncomputable def iD(i:Nat):Tg:=λd δ=>if i<(IX δ)then Y (δ.set i<|Y (d,U))else I
noncomputable def JA:List Tg->List D->Dn->Option Dn
 |[],[],a=>Y a
 |t::b,d::ds,a=>(t d a).bind<|JA b ds
 |_,_,_=>I
def wX(a:List Tg):Tg
 |.tup ds,δ=>JA a ds δ
 |_,_=>I
inductive Lg(K:jd)(A:ki)(ts:List Tg)(vs:List V)(σ:L2.St)(hp:Hp)(Q:L2.St->Hp->Prop):Prop where
 |mk (δ:Dn) (T:SS) (ds:List D) (δ':Dn) (_:ER K hp T σ δ) (_:YP K hp (λa=>X0 σ δ a\/T a) ds vs) (_:JA ts ds δ=Go δ') (_:∀σ',SK A σ δ hp σ' δ' hp->ER K hp T σ' δ'->Q σ' hp)
section
variable {X:Cx}{A:ki}{g:bA}{e:iM}{f:kI}{t:Tg}{c:List Tg}
def PG.imp'{t d:TG}(h:PG X e t)(k:∀v b O Q,d v b O Q->t v b O Q):PG X e d:=λa s b O v u Q T r i=>h a s b O v u Q T r<|k v b O Q i
def IF.imp'{t d:K0}(h:IF X f t)(k:∀v b O Q,d v b O Q->t v b O Q):IF X f d:=λa s b O v u Q T r i=>h a s b O v u Q T r<|k v b O Q i
def Oo:IF X [] (Lg X.K A []):=IF.imp' Sn λv h O Q b=>by
 obtain⟨i,T,a,d,E,r,e,k⟩:=b
 cases a with
 |nil=>
  cases e;rw[YP]at r;exact⟨r,k h .refl E⟩
 |cons _ _=>cases e
def Ct(h1:Ja X A e t)(p:IF X f (Lg X.K A c))(u:(bf (e::f) X.env).map (·.2)=cu e X.env::(bf f X.env).map (·.2)):IF X (e::f) (Lg X.K A (t::c)):=IF.imp' (Oq h1 p u) λv O M Q w=>by
 obtain⟨N,T,h,i,E,r,e,k⟩:=w
 cases h with
 |nil=>cases e
 |cons d h=>rw[YP]at r;obtain⟨B,G,rfl,x,y⟩:=r;obtain⟨a,q,e⟩:=iE e;refine⟨B,G,rfl,N,T,d,a,E,x,q,λL l m=>⟨a,T,h,i,m,?_,e,λj o n=>k j (l.trans o) n⟩⟩;exact YP.mono (λ_ _ e _=>e) (λb s z=>z.elim (λz=>(l.ow b z).elim bg λz=>absurd z s) bv) y
def Sm{k:Nat}(o:X.calm=J)(h:IF X f (Lg X.K A c)){n:Nat}(s:(bf f X.env).length=n)(p:c.length=n)(x:(bf f X.env).findIdx? (·.1)=I):Ja X A (.Tuple f k g) (wX c):=PG.imp' (Wq o h s x) λv z O Q u=>by
 obtain⟨i,T,d,j,E,r,e,k⟩:=u
 cases d with
 |tup b=>
  obtain⟨a,y,rfl,q,m⟩:=r.tup;refine⟨a,y,rfl,q.sq,?_,i,T,b,j,E,m,e,k⟩
  have:∀(c:List Tg)(b:List D)(i:Dn),JA c b i=Y j->b.length=c.length:=by
   intro c
   induction c with
   |nil=>intro b i h;cases b with|nil=>rfl|cons _ _=>cases h
   |cons t c w=>
    intro b i h
    cases b with
    |nil=>cases h
    |cons d b=>obtain⟨l,_,h⟩:=iE h;simp[w b l h]
  rw[m.length,this c b i e,p]
 |_=>cases e
end
abbrev SB:=Nat->Prop
def K6(B:SB)(T:SS)(c:L2.St)(b:Dn):SS:=λa=>(∃i,¬B i/\NR c b i a)\/T a
def K6.own(h:K6 B T σ δ a):X0 σ δ a\/T a:=h.imp (λQ=>by obtain⟨i,_,d,h1,b⟩:=Q;exact ⟨i,d,h1,b⟩) id
structure IG(K:jd)(J:It)(ds:List D)(P O:SS)(H1:Hp):Prop where
 go:∀(i:Nat) d Hi,ds[i]?=Go d->(∀a o,H1 a=Go o->¬P a->Hi a=Go o)->J.go i Hi/\∀x H',J.yld i Hi x H'->(∀a o,Hi a=Go o->H' a=Go o)/\
  ∀O':SS,(∀b,H1 b≠Ix->O' b->O b)->(∀b,Hi b=Ix->¬O' b)->Rep K H' O' d x
 stop:∀(i:Nat) Hi,IX ds<=i->(∀a o,H1 a=Go o->¬P a->Hi a=Go o)->J.stop i Hi
abbrev B0:=Dn->Option (List D×Dn)
def tI(K:jd)(B:SB)(g:B0):TI:=λc O R=>∃e T f b,ER K O T c e/\g e=Y (f,b)/\∀Q d,I8 c e O b d->ER K d T c b->IG K Q f (K6 B T c b) (λa=>X0 c b a\/T a) d->R Q d
def Ih(X:Cx)(B:SB)(tg iter:iM)(a:B0):Prop:=PI X tg iter<|tI X.K B a
noncomputable def rk:D->Option (List D)
 |.tup l=>Y l
 |.lst l=>Y l
 |_=>I
def Iw(f:FO):B0:=λa=>(f a).bind λp=>(res p.2 p.1).bind λd=>(rk d).bind λl=>Y (l,p.2)
noncomputable def jF(f:F):B0:=λδ=>(f δ).bind λp=>match p.1.1 with
 |.lst l=>Y (l,p.2)
 |.tup l=>Y (l,p.2)
 |_=>I
noncomputable def jo(lo:Int)(n:Nat):List D:=(au n).map λ(k:Nat)=>.int (lo+k)
def yL(f:FO):B0:=λδ=>(lg [f] δ).bind λp=>match wd p.2 p.1 with
 |some [.int j]=>if -(2^62)<=j/\j<2^62 then Y (jo 0 j.toNat,p.2)else I
 |_=>I
def Lu(B:SB)(f:FO):Prop:= ∀b i a,f b=Y (.slot i,a)->B i
def DP:Lu B (iP f):=λb i a h=>by obtain⟨p,_,h⟩:=iE h;cases h
noncomputable def LM:D->Bool
 |.lst _=>J
 |_=>U
def FA(b:Bool)(K:jd)(T:Hp)(P:SS)(a:iw)(c:List V):Prop:=if b=J then ED K T P a c else EB K T P a c
def FA.mono{K T H'}{P P':SS}(q:FA b K T P a xs)(k:∀b o,T b=Y o->¬P b->H' b=Y o)(c:∀b,P' b->P b):FA b K H' P' a xs:=by
 cases b
 .exact EB.mono (K:=K) q k λb _=>c b
 exact ED.mono q k λb _=>c b
def FA.l{K T}(q:FA J K T P a xs):Bx K T a xs:=ED.sq q
def FA.t{K T}(q:FA U K T P a xs):EC K T a xs:=EB.sq (K:=K) q
def Cp{K T}(h:rk d=Y l)(r:Rep K T O d v):∃a b,v=.ref a/\FA (LM d) K T O a b/\YP K T O l b:=by
 cases d with
 |tup m=>cases h;obtain⟨a,b,rfl,q,c⟩:=r.tup;exact⟨a,b,rfl,q,c⟩
 |lst m=>cases h;obtain⟨a,b,rfl,q,c⟩:=r.lst;exact⟨a,b,rfl,q,c⟩
 |_=>cases h
def Ops.seq{K:jd}{T G:SS}{h:L2.St}{A c:Dn}{M n:Hp}{os:List A1}{y:List V}(E:ER K M T h A)(W:Ops K T h A M os y c n G){j:Nat}(h1:os[j]?=Y o)(x:y[j]?=Y v)(s:res c o=Y d)(t:rk d=Y l)(L:∀i,o=.slot i->B i):
  ∃a g,v=.ref a/\FA (LM d) K n (K6 B T h c) a g/\YP K n (λa=>X0 h c a\/T a) l g:=by
 have fin:Rep K n (λa=>X0 h c a\/T a) d v->∃a g,v=.ref a/\FA (LM d) K n (K6 B T h c) a g/\YP K n (λa=>X0 h c a\/T a) l g:=λr=>by obtain⟨a,g,rfl,q,u⟩:=Cp t r;exact⟨a,g,rfl,q.mono (λ_ _ e _=>e) λa z=>z.own,u⟩
 cases o with
 |val r=>cases s;exact fin<|W.rep E h1 x
 |slot i=>
  have hk:=W.slt j i _ h1 x
  have hd:∃f,c[i]?=Y (Y (d,f)):=by
   unfold res at s;dsimp only at s;split at s<;>cases s
   exact⟨_,by assumption⟩
  obtain⟨f,hd⟩:=hd
  cases f
  .obtain⟨w,p,N⟩:=W.er.val i _ hd;rw[hk]at p;cases p;exact fin<|Rep.mono (λ_ _ e _=>e) (λb _ z=>z.imp id<|W.tt b) N
  obtain⟨a,p,ok⟩:=W.er.own i _ hd;rw[hk]at p;cases p
  cases d with
  |lst m=>
   cases t;obtain⟨g,e,u⟩:=ok;exact⟨a,g,rfl,.inl ⟨.inl e,λz=>z.elim (λa'=>by obtain⟨k,O,Q,g1,g2⟩:=a';exact O<|W.er.inj i k _ _ a hd g1 hk g2▸L i C) λz=>W.er.nT a ⟨i,_,hd,hk⟩<|W.tt a z⟩,YP.mono (λ_ _ e _=>e) (λb _ z=>z.imp id<|W.tt b) u⟩
  |tup m=>exact ok.elim
  |_=>cases t
section
variable {X:Cx}{B:SB}{tg e:iM}{f:F}{c:FO}{g p:bA}
def PI.imp'(h:PI X tg e t)(k:∀b Q R,i b Q R->t b Q R):PI X tg e i:=λa s b Q R T d=>h a s b Q R T<|k b Q R d
def PI.or(h:PI X tg e t)(d:PI X tg e j):PI X tg e (λb Q R=>t b Q R\/j b Q R):=λa s b Q R T i=>i.elim (h a s b Q R T)<|d a s b Q R T
def ItS(b:Bool)(K:jd)(a:iw):It:=if b=J then Itl K a else Itt K a
def PH{K:jd}{P O:SS}{m:Hp}{a:iw}{k:List V}{l:List D}(q:FA b K m P a k)(r:YP K m O l k)(v:∀a,P a->O a):IG K (ItS b K a) l P O m:=by
 cases b<;>(
  refine⟨λi d Hi hd j=>?_,λi Hi w j=>?_⟩
  .have h:=FA.mono q j λ_ z=>z
   first|replace h:=h.l|replace h:=h.t
   obtain⟨x,u,A⟩:=r.get hd;refine⟨⟨k,x,h,u⟩,λy Q s=>?_⟩;obtain⟨rfl,s⟩:=s;have:=s k h;rw[u]at this;cases this;exact⟨λ_ _ e=>e,λE h1 T=>Rep.mono (λb o e n=>j b o e λz=>n<|v b z) h1 A⟩
  exact⟨k,by first|exact(FA.mono q j λ_ z=>z).l|exact(FA.mono q j λ_ z=>z).t,by rw[r.length];exact w⟩)
def AV{K:jd}{P O:SS}{b:Hp}(lo:Int)(n:Nat):IG K (LY lo n) (jo lo n) P O b:=by
 refine⟨λi d Hi hd j=>?_,λi Hi a j=>?_⟩
 .unfold jo at hd;rw[kX]at hd;obtain⟨k,h1,h⟩:=jB hd;have a:i<n:=by have:=(wJ.mp h1).1;simpa using this
  have hk:k=i:=by rw[List.getElem?_range a]at h1;exact(kZ h1).symm
  subst hk;refine⟨a,λy m l=>?_⟩;obtain⟨rfl,rfl⟩:=l;refine⟨λ_ _ e=>e,λo _ _=>?_⟩;rw[<-h];exact Rep.mkInt
 unfold jo at a;have:n<=i:=by simpa using a
 exact this
def Oi(h:PO X e c)(C:Lu B c):Ih X B tg e (Iw c):=PI.imp' (PI.or (Sk (tg:=tg) h)<|Wo h) λy M R L=>by
 obtain⟨w,T,G,Q,E,e,k⟩:=L;obtain⟨o,u,h1,e⟩:=iK e;obtain⟨d,A,e⟩:=iE e;obtain⟨l,x,e⟩:=iE e;obtain⟨rfl,rfl⟩:=jg e
 have key:∀v n,BP X.K T y w M o u v n->∃a s,v=.ref a/\FA (LM d) X.K n (K6 B T y u) a s/\R (ItS (LM d) X.K a) n:=λv n P=>by have W:=Ops.cons E P<|Ops.nil<|P.er E;obtain⟨a,s,rfl,q,O⟩:=W.seq E (j:=0) IR IR A x λi N=>C _ _ _ (N▸h1);exact⟨a,s,rfl,q,k _ n W.keep (W.er.mono (λ_ _ e _=>e) (λb _ z=>W.tt b z) λa z=>W.er.dom a<|W.tt a z) (PH q O λa z=>z.own)⟩
 cases d with
 |lst m=>exact .inl ⟨w,T,_,_,E,h1,λv n P=>let⟨a,s,e,q,r⟩:=key v n P;⟨a,e,⟨s,q.l⟩,r⟩⟩
 |tup m=>exact .inr ⟨w,T,_,_,E,h1,λv n P=>let⟨a,s,e,q,r⟩:=key v n P;⟨a,e,⟨s,q.t⟩,r⟩⟩
 |_=>cases x
end
noncomputable def nk(b:Tg)(a:FS):List D->FS
 |[],δ=>Y<|.nx δ
 |d::ds,δ=>(b d δ).bind λδ1=>(a δ1).bind λo=>match o with
  |.nx δ2=>nk b a ds δ2
  |.ct δ2=>nk b a ds δ2
  |.bk δ2=>Y<|.nx δ2
  |.rt r δ2=>Y<|.rt r δ2
def oQ(b:B0)(c:Tg)(a:FS):FS:=λδ=>(b δ).bind λp=>nk c a p.1 p.2
section
variable {X:Cx}{A:ki}{L:LL}{l:Hp}{g iter:iM}{c:List bi}{j:B0}{t:Tg}{f:FS}{h:bA}
def Sb(hp:eI (am X.prog X.w) X.A X.env X.xe)(hc:X.calm=IN)(hi:Ih X (λ_=>False) g iter j)(hg:Ja X A g t)(G:EL X A L l c f)(hs:∀x,aB iter X.env x=pure x):
  L8 X A L l (.For g iter c [] h) (oQ j t f):=PS.imp' (Wj hp hc hi hg G hs) λD M H hw=>by
 obtain⟨δ,T,out,E,hJ,e,k⟩:=hw;obtain⟨u,q,h1,e⟩:=iK e;refine⟨δ,T,u,q,E,h1,λJ Y K1 E1 ok=>?_⟩;have S:SK A M δ H M q Y:=K1.sk;refine⟨λi m s C'=>m=IX u-i/\i<=IX u/\∃p,SK A M q Y s p C'/\ER X.K C' T s p/\nk t f (u.drop i) p=Go out,⟨IX u,by simp,mD _,q,.refl,E1,by simpa using e⟩,?_⟩;rintro i m O H2 ⟨rfl,hle,I',S2,N,e2⟩;have Z:∀a o,Y a=Go o->¬K6 (λ_=>False) T M q a->H2 a=Go o:=λa o ea n=>S2.kp a o ea λ⟨i,d,z⟩=>n<|.inl ⟨i,id,d,z⟩;by_cases W:i<IX u
 .refine .inr ?_;have hd:u[i]?=Go u[i]:=jZ W;obtain⟨go,yl⟩:=ok.go i _ H2 hd Z;rw[Ac W]at e2;obtain⟨R,h3,e3⟩:=iE e2;obtain⟨o,h4,V⟩:=iE e3;refine⟨go,λs C'=>∃p,SK A M q Y s p C'/\ER X.K C' T s p/\nk t f (u.drop<|i+1) p=Go out,λs C' ⟨p,q1,q2,q3⟩=>⟨IX u-(i+1),by omega,rfl,W,p,q1,q2,q3⟩,λx C' hy=>?_⟩;obtain⟨ext,rep⟩:=yl x C' hy;have fA:ER X.K C' T O I':=N.mono (λb ob eb _=>ext b ob eb) (λ_ _ z=>z) λa z=>(N.dom a z).up<|ext a;have ie:SK A M q Y O I' C':=S2.trans (I8.ext ext).sk;have rx:=rep (λa=>X0 O I' a\/T a) (λb G z=>z.elim (λz=>(S2.ow b z).elim bg λz=>absurd z G) bv) λb G z=>z.elim (λz=>N.FF z G) λz=>(N.dom b z).ne G;refine⟨I',T,u[i],R,fA,rx,h3,λσ3 S3 E3=>?_⟩;have P:=ie.trans S3;refine⟨R,T,o,E3,(hJ.step S).step P,h4,?_⟩
  cases o with
  |nx y=>exact λB F Q U=>⟨y,P.trans Q,U,V⟩
  |ct y=>exact λB F Q U=>⟨y,P.trans Q,U,V⟩
  |bk y=>cases V;exact λB F Q U=>k B F (S.trans<|P.trans Q) U
  |rt r y=>cases V;exact λv B F Q R4=>k v B F (S.trans<|P.trans Q) R4
 refine .inl ⟨ok.stop i H2 (by omega) Z,?_⟩;rw[Ab<|by omega]at e2;cases e2;exact k O H2 (S.trans S2) N
end
noncomputable def pX(c:FT)(b:FS):Nat->FS
 |0,_=>I
 |n+1,d=>(c d).bind λp=>if p.1=J then(b p.2).bind λo=>(match o with
   |.nx a=>pX c b n a
   |.ct a=>pX c b n a
   |.bk a=>Y<|.nx a
   |.rt r a=>Y<|.rt r a)else Y (.nx p.2)
def zu(f g:FO):B0:=λδ=>(lg [f,g] δ).bind λp=>match wd p.2 p.1 with
 |some [.int i,.int j]=>if -(2^62)<=i/\i<2^62/\ -(2^62)<=j/\j<2^62 then Y (jo i (j-i).toNat,p.2)else I
 |_=>I
section
variable {X:Cx}{A:ki}{L:LL}{s:Hp}{B:SB}{t e c a b:iM}{d:List bi}{f:FT}{g:FS}{x u:FO}{l p:bA}
def afu{n:Nat}(hp:eI (am X.prog X.w) X.A X.env X.xe)(hc:PTX X c f)(hb:EL X A L s d g):L8 X A L s (.While c d [] l) (pX f g n):=PS.imp' (N8 hp hc hb) λD F H hw=>by
 obtain⟨U,T,out,E,hJ,e,k⟩:=hw;refine⟨λm i I=>∃h,SK A F U H i h I/\ER X.K I T i h/\pX f g m h=Y out,⟨n,U,.refl,E,e⟩,?_⟩;rintro m J' H2 ⟨Y',S2,E2,e2⟩
 cases m with
 |zero=>cases e2
 |succ m=>
  obtain⟨S,C,Z,M⟩:=iK e2;refine⟨Y',T,S,C,E2,Z,λR V P=>?_⟩;have O:SK A F U H J' C R:=S2.trans V.sk
  cases S with
  |false=>rw[je kY]at M;cases M;exact aao<|k J' R O P
  |true=>
   rw[iQ IR]at M;obtain⟨o,h4,N⟩:=iE M;refine aan ⟨λi I=>∃h,SK A F U H i h I/\ER X.K I T i h/\pX f g m h=Y out,λi I q=>⟨m,Aa _,q⟩,C,T,o,P,hJ.step O,h4,?_⟩
   cases o with
   |nx j=>exact λy G z Q=>⟨j,O.trans z,Q,N⟩
   |ct j=>exact λy G z Q=>⟨j,O.trans z,Q,N⟩
   |bk j=>cases N;exact λy G z Q=>k y G (O.trans z) Q
   |rt r j=>cases N;exact λv y G z W=>k v y G (O.trans z) W
def uI{K:jd}{T v:SS}{E:L2.St}{O m:Dn}{Q r:Hp}{os:List A1}{k:List V}{n:List D}(B:Ops K T E O Q os k m r v)(h:wd m os=Y n){j:Nat}{i:Int}(hd:n[j]?=Y (.int i)):k[j]?=Y (.int i):=by
 obtain⟨h1,w⟩:=pQ h;obtain⟨o,q,y⟩:=w j _ hd;have z:j<(IX k):=by have:=(wJ.mp q).1;have:=B.len;lia
 have hv:k[j]?=Y k[j]:=jZ z;have:=jx<|B.view q hv y;rw[hv,this]
end
abbrev O1:=List (D×Bool)->Option ((D×Bool)×Dn)
def Ex(K:jd)(d:O1):Sp:=λvs O Q _=>∃T a r b,ER K O T (vs.map Y) (a.map Y)/\d a=Y (r,b)/\∀v c,Ls K T (vs.map Y) (a.map Y) O r b v c->Q v c
noncomputable def jn(args:List (D×Bool))(δ:Dn):Dn:=args.zipIdx.map λp=>if p.1.2=J then(δ[p.2]?).join else Y p.1
def Sr(n np:Nat)(a:jP)(f:FS):O1:=λargs=>
 if (IX args)=np/\np<=n/\(args.zipIdx.all λp=>!(p.1.2&&a.contains p.2))=J then
  match f (args.map Y++ao (n-np) I)with
  |some (.rt r δ)=>Y (r,jn args δ)
  |some (.nx δ)=>Y ((.VP,U),jn args δ)
  |_=>I
 else I
def OG(a:List (D×Bool))(b:Dn)(i:Nat):(jn a b)[i]?=a[i]?.map λx=>if x.2=J then(b[i]?).join else Y x:=by
 unfold jn;rw[kX,G7]
 cases a[i]? with
 |none=>rfl
 |some x=>simp
def ox(h:x.join=Y p):x=Y (Y p):=by
 cases x with
 |none=>cases h
 |some y=>exact mG Y h
section
variable {K:jd}{T:SS}{A:ki}{k:List V}{f:List (D×Bool)}{H q:Hp}{m:Nat}{l:L2.St}{g:Dn}{r:D×Bool}{v:V}
def ES{b:Type}{a:List b}{m i:Nat}{y:b}:(a.map Y++ao m I)[i]?=Y (Y y)↔a[i]?=Y y:=by
 by_cases h:i<IX a
 .rw[qk<|by simpa using h,kX];cases a[i]?<;>simp
 rw[pL<|by simpa using h];constructor
 .intro e;rw[Dz]at e;split at e<;>cases e
 intro e;exact absurd (wJ.mp e).1 h
def uR{b:Type}{a:List b}{i:Nat}{y:b}:(a.map Y)[i]?=Y (Y y)↔a[i]?=Y y:=by rw[kX];cases a[i]?<;>simp
def Mf{i:Nat}{a:iw}:NR (k.map Y++ao m I) (f.map Y++ao m I) i a↔NR (k.map Y) (f.map Y) i a:=by unfold NR;simp only[ES,uR]
def FD:X0 σ b a↔ ∃i,NR σ b i a:=Iff.rfl
def OF:X0 (k.map Y++ao m I) (f.map Y++ao m I) a↔X0 (k.map Y) (f.map Y) a:=by rw[FD,FD];exact exists_congr λi=>Mf
def ER.pad(E:ER K H T (k.map Y) (f.map Y)):ER K H T (k.map Y++ao m I) (f.map Y++ao m I):=by
 have len:(IX k)=(IX f):=by simpa using E.len
 refine⟨by simp[len],λi d h=>?_,λi d h=>?_,λi j d e a h1 o p s=>?_,λa z=>E.nT a<|OF.mp z,E.dom⟩
 .obtain⟨w,c,n⟩:=E.val i d<|uR.mpr<|ES.mp h;exact⟨w,ES.mpr<|uR.mp c,Rep.mono (λ_ _ e _=>e) (λb _ z=>z.imp OF.mp id) n⟩
 .obtain⟨w,c,n⟩:=E.own i d<|uR.mpr<|ES.mp h;exact⟨w,ES.mpr<|uR.mp c,n.mono (λ_ _ e _=>e) (λb _ z=>z.imp OF.mp id) λ_ e=>e⟩
 exact E.inj i j d e a (uR.mpr<|ES.mp h1) (uR.mpr<|ES.mp o) (uR.mpr<|ES.mp p) (uR.mpr<|ES.mp s)
def JR{J:SS}(E:ER K H T (k.map Go) (f.map Go))(S:SK A (k.map Go++ao m Ix) (f.map Go++ao m Ix) H l g q)(hA:∀(i:Nat) d,f[i]?=Go (d,IN)->¬A i)
  (Q:ER K q J l g)(hT:∀b,H b≠Ix->J b->T b):ER K q J (k.map Go) (jn f g)/\(∀b,X0 (k.map Go) (jn f g) b->X0 l g b)/\I8 (k.map Go) (f.map Go) H (jn f g) q:=by
 have len:(IX k)=(IX f):=by simpa using E.len
 have s:∀(i:Nat) d w,f[i]?=Go (d,IN)->k[i]?=Go w->l[i]?=Go (Go w):=λi d w h1 p=>by rw[S.as i<|hA i d h1];exact ES.mpr p
 have t:∀(i:Nat) d b,(jn f g)[i]?=Go (Go (d,b))->(∃e,f[i]?=Go (e,IN)/\g[i]?=Go (Go (d,b)))\/(b=IP/\f[i]?=Go (d,IP)):=λi d b h=>by
  rw[OG]at h;obtain⟨⟨e,c⟩,h1,p⟩:=jB h
  cases c
  .right;have:Go (e,IP)=Go (d,b):=by simpa using p
   cases this;exact⟨rfl,h1⟩
  left;exact⟨e,h1,ox<|by simpa using p⟩
 have B:∀i a,NR (k.map Go) (jn f g) i a->NR l g i a/\NR (k.map Go) (f.map Go) i a:=λi a a'=>by
  obtain⟨d,h1,p⟩:=a'
  rcases t i d IN h1 with⟨e,u,x⟩|⟨z,_⟩
  .exact⟨⟨d,x,s i e _ u (uR.mp p)⟩,⟨e,uR.mpr u,p⟩⟩
  cases z
 have G:∀b,X0 (k.map Go) (jn f g) b->X0 l g b:=λb a'=>by
  obtain⟨i,d,h1,p⟩:=a'
  obtain⟨⟨e,I,L⟩,_⟩:=B i b ⟨d,h1,p⟩;exact⟨i,e,I,L⟩
 have C:∀b,X0 (k.map Go) (jn f g) b->X0 (k.map Go) (f.map Go) b:=λb a'=>by
  obtain⟨i,d,h1,p⟩:=a'
  obtain⟨_,⟨e,I,L⟩⟩:=B i b ⟨d,h1,p⟩;exact⟨i,e,I,L⟩
 have kp:∀a o,H a=Go o->¬X0 (k.map Go) (f.map Go) a->q a=Go o:=λa o e n=>S.kp a o e λz=>n<|OF.mp z;refine⟨⟨?_,λi d h=>?_,λi d h=>?_,λi j d e a h1 p u x=>?_,λa z=>Q.nT a<|G a z,Q.dom⟩,G,⟨kp,λi a z=>(B i a z).2,S.dm⟩⟩
 .simp[jn,len]
 .have M:i<(IX k):=by
   have:=(wJ.mp h).1;simp[jn]at this
   lia
  have hv:k[i]?=Go k[i]:=jZ M;rcases t i d IP h with⟨e,u,x⟩|⟨_,u⟩
  .obtain⟨w,y,O⟩:=Q.val i d x;rw[s i e _ u hv]at y;cases y;exact⟨_,uR.mpr hv,Rep.mono (λ_ _ e _=>e) (λb _ z=>z.imp (G b) id) O⟩
  obtain⟨w,y,O⟩:=E.val i d<|uR.mpr u;exact⟨w,y,Rep.mono (λb o e n=>kp b o e λz=>n<|.inl z) (λb D z=>z.imp (C b)<|hT b D) O⟩
 .have M:i<(IX k):=by
   have:=(wJ.mp h).1;simp[jn]at this
   lia
  have hv:k[i]?=Go k[i]:=jZ M;rcases t i d IN h with⟨e,u,x⟩|⟨z,_⟩
  .obtain⟨w,y,O⟩:=Q.own i d x;rw[s i e _ u hv]at y;have N:k[i]=V.ref w:=by simpa using y
   exact⟨w,by rw[<-N];exact uR.mpr hv,O.mono (λ_ _ e _=>e) (λb _ z=>z.imp (G b) id) λ_ e=>e⟩
  cases z
 obtain⟨_,⟨U,I,L⟩⟩:=B i a ⟨d,h1,u⟩;obtain⟨_,⟨Y,F,P⟩⟩:=B j a ⟨e,p,x⟩;exact E.inj i j U Y a I F L P
def rG(E:ER K H T (k.map Y) (f.map Y))(S:SK A (k.map Y++ao m I) (f.map Y++ao m I) H l g q)(h:∀(i:Nat) d,f[i]?=Y (d,J)->¬A i)
  (R:RV K T H r l g v q):Ls K T (k.map Y) (f.map Y) H r (jn f g) v q:=by
 obtain⟨d,b⟩:=r
 cases b
 .obtain⟨a,o⟩:=R;obtain⟨c,ow,kp⟩:=JR E S h a λ_ _ z=>z;exact⟨kp,c,Rep.mono (λ_ _ e _=>e) (λb _ z=>z.imp (ow b) id) o⟩
 obtain⟨p,rfl,j,a,ok⟩:=R;obtain⟨c,ow,kp⟩:=JR E S h a (λb n z=>z.elim id λz=>by subst z;exact absurd j n);exact⟨kp,p,rfl,j,c,ok.mono (λ_ _ e _=>e) (λb _ z=>z.imp (ow b) id) λ_ e=>e⟩
end
section
variable {P:jh}{w:iY}{K:jd}{c:mE}{base:jb}{N:ji}{m:Nat}{b:jP}{fs:FS}{vs:List V}{H:Hp}{Q:VK}{E:XK}
def JD(h:Ex K (Sr (IX N) m b fs) vs H Q E):(IX vs)=m:=by
 obtain⟨T,a,r,d,E0,e,_⟩:=h;unfold Sr at e;split at e
 .rename_i f;have:=E0.len;simp at this;rw[this];exact f.1
 cases e
def HI(h:Ex K (Sr (IX N) m b fs) vs H Q E):∃L:LL,(∀i,L.p i->i<m)/\tS K (λi=>i∈b) L H fs {nx:=λ_ k=>Q .VP k,rt:=Q} (L2.qp N vs) H:=by
 obtain⟨T,f,r,u,E0,e,t⟩:=h;unfold Sr at e;split at e
 .rename_i C;obtain⟨h1,U,B⟩:=C;have l:(IX vs)=(IX f):=by simpa using E0.len
  refine⟨⟨λi=>∃d,f[i]?=Y (d,IN),I⟩,λi ⟨d,hd⟩=>by have:=(wJ.mp hd).1;lia,?_⟩;have J:L2.qp N vs=vs.map Y++ao (IX N-m) I:=by unfold L2.qp;rw[l,h1]
  have o:∀(i:Nat) d,f[i]?=Y (d,IN)->¬(i∈b):=λi d hd O=>by
   have G:(f.zipIdx)[i]?=Y ((d,IN),i):=by rw[G7,hd];simp
   have:=kT.mp B _ (mY G);simp at this;exact this O
  rw[J]
  have A:FI (λi=>i∈b) ⟨λi=>∃d,f[i]?=Y (d,IN),I⟩ H (vs.map Y++ao (IX N-m) I) (f.map Y++ao (IX N-m) I) H:=⟨λi a z=>by obtain⟨d,M,_⟩:=Mf.mp z;exact .inl ⟨d,uR.mp M⟩,λ_ z=>z,λj I' ⟨d,hd⟩=>o j d hd I',λ_ h=>nomatch h⟩
  cases q:fs (f.map Y++ao (IX N-m) I)with
  |none=>rw[q]at e;cases e
  |some out=>
   rw[q]at e;refine⟨_,T,out,E0.pad,A,q,?_⟩
   cases out with
   |rt Y' g=>obtain⟨rfl,rfl⟩:=jg e;exact λv s k n y=>t v k<|rG E0 n o y
   |nx g=>obtain⟨rfl,rfl⟩:=jg e;exact λs k n x=>t .VP k<|rG (r:=(.VP,IP)) E0 n o ⟨x,Rep.Ey⟩
   |bk g=>cases e
   |ct g=>cases e
 cases e
def Xc{x qual:aE}{st:bi}{f:iw}{g:nK}{e:ji}{k:Nat}(F:HM K x qual st f g)(S:R1 N e (iL st))
  (n:∀(d:iI)(A:iU)(a:List dk)(s:iB)(H:Hp)(E:XK)(L:LL),(∀i,L.p i->i<IX e)->OO k (A.deeper<|bc qual (iL st) s.heap.objs.size f d)->
   EL (rE BU P w K c base N qual (iL st) f d A a s H E).FG (λi=>i∈b) L H (lQ st) fs):BF P w K c base BU (k+1) f g e (Ex K<|Sr (IX N) (IX e) b fs):=
 F.ok S (λvs H Q E h=>JD h) λd A a s H vs Q E l h=>let⟨L,h1,j⟩:=HI h;⟨_,n d A a s H E L h1 l,j⟩
end
noncomputable def zj(a:Dn):A1->Option (D×Bool)
 |.val r=>Y (r.1,U)
 |.slot i=>(a[i]?).join
def jM(δ:Dn):List A1->Option (List<|D×Bool)
 |[]=>Y []
 |o::os=>(zj δ o).bind λa=>(jM δ os).bind λl=>Y (a::l)
@[simp] def aab(o:A1)(a:D×Bool):List Nat:=match o with
 |.slot i=>if a.2=J then[i]else[]
 |.val _=>[]
noncomputable def jf:List A1->List (D×Bool)->List Nat
 |[],_=>[]
 |_::_,[]=>[]
 |o::os,a::as=>aab o a++jf os as
@[simp] def wb1(o:A1)(a:D×Bool)(x:Sl)(b:Dn):Dn:=match o with
 |.slot i=>if a.2=J then b.set i x else b
 |.val _=>b
noncomputable def wb:List A1->List (D×Bool)->Dn->Dn->Dn
 |[],_,_,δ=>δ
 |_::_,[],_,δ=>δ
 |_::_,_::_,[],δ=>δ
 |o::os,a::as,x::outs,δ=>wb os as outs<|wb1 o a x δ
def iN(a:O1)(fs:List FO):F:=λδ=>(lg fs δ).bind λp=>(jM p.2 p.1).bind λargs=>if(jf p.1 args).Nodup then(a args).bind λq=>Y (q.1,wb p.1 args q.2 p.2)else I
def qi{δ:Dn}:∀{os:List A1}{as:List (D×Bool)},jM δ os=Y as->IX as=os.length/\∀(j:Nat) a,as[j]?=Y a->∃o,os[j]?=Y o/\zj δ o=Y a:=by
 intro k
 induction k with
 |nil=>intro as h;cases h;exact⟨rfl,λj d h=>by simp at h⟩
 |cons o os i=>
  intro as h;unfold jM at h;obtain⟨d,h1,h⟩:=iE h;obtain⟨l,c,h⟩:=iE h;cases h;obtain⟨f,g⟩:=i c;refine⟨by simp[f],λj e b=>?_⟩
  cases j with
  |zero=>simp at b;subst b;exact⟨o,rfl,h1⟩
  |succ j=>obtain⟨m,n,p⟩:=g j e (by simpa using b);exact⟨m,by simpa using n,p⟩
theorem uO:∀{os:List A1}{as:List (D×Bool)}{j i:Nat}{d:D},os[j]?=Y (.slot i)->as[j]?=Y (d,J)->i∈jf os as
 |[],_,_,_,_,h,_=>by simp at h
 |_::_,[],_,_,_,_,h=>by simp at h
 |o::os,(e,b)::as,0,i,d,h1,a=>by simp at h1 a;obtain⟨rfl,rfl⟩:=a;subst h1;simp[jf]
 |o::os,(e,b)::as,j+1,i,d,h1,a=>by
  have c:=uO (os:=os) (as:=as) (j:=j) (i:=i) (d:=d) (by simpa using h1) (by simpa using a)
  cases o with
  |val r=>simpa[jf]using c
  |slot k=>
   cases b
   .simpa[jf]using c
   simp[jf,c]
theorem Cz:∀{os:List A1}{as:List (D×Bool)}{i:Nat},i∈jf os as->∃(j:Nat)(d:D),os[j]?=Y (.slot i)/\as[j]?=Y (d,J)
 |[],_,_,h=>by simp[jf]at h
 |o::_,[],_,h=>by cases o<;>simp[jf]at h
 |o::os,(e,b)::as,i,h=>by
  have a:i∈jf os as->∃(j:Nat)(d:D),(o::os)[j]?=Y (.slot i)/\((e,b)::as)[j]?=Y (d,J):=λh=>by obtain⟨j,d,h1,c⟩:=Cz h;exact⟨j+1,d,by simpa using h1,by simpa using c⟩
  cases o with
  |val r=>exact a (by simpa[jf]using h)
  |slot k=>
   cases b
   .exact a (by simpa[jf]using h)
   simp[jf]at h;rcases h with rfl|h
   .exact⟨0,e,rfl,rfl⟩
   exact a h
theorem CB:∀{os:List A1}{as:List (D×Bool)}{j k i:Nat}{d e:D},(jf os as).Nodup->os[j]?=Y (.slot i)->as[j]?=Y (d,J)->os[k]?=Y (.slot i)->as[k]?=Y (e,J)->j=k
 |[],_,_,_,_,_,_,_,h,_,_,_=>by simp at h
 |_::_,[],_,_,_,_,_,_,_,h,_,_=>by simp at h
 |o::os,(n,b)::as,j,k,i,d,e,a,h1,c,f,g=>by
  cases j with
  |zero=>
   cases k with
   |zero=>rfl
   |succ k=>simp at h1 c;obtain⟨rfl,rfl⟩:=c;subst h1;have:=uO (os:=os) (as:=as) (j:=k) (by simpa using f) (by simpa using g);simp[jf]at a;exact absurd this a.1
  |succ j=>
   cases k with
   |zero=>simp at f g;obtain⟨rfl,rfl⟩:=g;subst f;have:=uO (os:=os) (as:=as) (j:=j) (by simpa using h1) (by simpa using c);simp[jf]at a;exact absurd this a.1
   |succ k=>
    have l:(jf os as).Nodup:=by
     cases o with
     |val r=>simpa[jf]using a
     |slot m=>
      cases b
      .simpa[jf]using a
      simp[jf]at a;exact a.2
    have:=CB (os:=os) (as:=as) (j:=j) (k:=k) l (by simpa using h1) (by simpa using c) (by simpa using f) (by simpa using g)
    lia
theorem Ap:∀{os:List A1}{as:List (D×Bool)}{a δ:Dn}{i:Nat},i∉jf os as->(wb os as a δ)[i]?=δ[i]?
 |[],_,_,_,_,_=>by simp[wb]
 |o::_,[],_,_,_,_=>by cases o<;>simp[wb]
 |o::os,(e,b)::as,[],_,_,_=>by cases o<;>cases b<;>simp[wb]
 |o::os,(e,b)::as,x::a,δ,i,h=>by
  cases o with
  |val r=>simp only[wb];exact Ap (by simpa[jf]using h)
  |slot k=>
   cases b with
   |true=>simp[jf]at h;rw[wb,Ap h.2];exact nu<|tD h.1
   |false=>simp only[wb];exact Ap (by simpa[jf]using h)
theorem Aq:∀{os:List A1}{as:List (D×Bool)}{a δ:Dn},(wb os as a δ).length=IX δ
 |[],_,_,_=>by simp[wb]
 |o::_,[],_,_=>by cases o<;>simp[wb]
 |o::os,(e,b)::as,[],_=>by cases o<;>cases b<;>simp[wb]
 |o::os,(e,b)::as,x::a,δ=>by
  cases o with
  |val r=>simp only[wb];exact Aq
  |slot k=>
   cases b with
   |true=>simp only[wb];rw[Aq];exact vA
   |false=>simp only[wb];exact Aq
theorem Jv:∀{os:List A1}{as:List (D×Bool)}{a δ:Dn}{i j:Nat}{d:D}{x:Sl},(jf os as).Nodup->os[j]?=Y (.slot i)->as[j]?=Y (d,J)->a[j]?=Y x->i<IX δ->(wb os as a δ)[i]?=Y x
 |[],_,_,_,_,_,_,_,_,h,_,_,_=>by simp at h
 |o::_,[],_,_,_,_,_,_,_,_,h,_,_=>by simp at h
 |o::os,(e,b)::as,[],_,_,_,_,_,_,_,_,h,_=>by simp at h
 |o::os,(e,b)::as,y::a,δ,i,0,d,x,c,h1,f,g,l=>by simp at h1 f g;obtain⟨rfl,rfl⟩:=f;subst h1;subst g;simp[jf]at c;rw[wb,Ap c.1];exact tx l
 |o::os,(e,b)::as,y::a,δ,i,j+1,d,x,c,h1,f,g,l=>by
  have n:(jf os as).Nodup:=by
   cases o with
   |val r=>simpa[jf]using c
   |slot m=>
    cases b
    .simpa[jf]using c
    simp[jf]at c;exact c.2
  cases o with
  |val r=>simp only[wb];exact Jv n (by simpa using h1) (by simpa using f) (by simpa using g) l
  |slot k=>
   cases b with
   |true=>simp only[wb];exact Jv n (by simpa using h1) (by simpa using f) (by simpa using g) (by show i<(δ.set k y).length;rw[vA];exact l)
   |false=>simp only[wb];exact Jv n (by simpa using h1) (by simpa using f) (by simpa using g) l
section
variable {K:jd}{T u:SS}{l:L2.St}{δ f:Dn}{H m s:Hp}{os:List A1}{vs:List V}{c:List (D×Bool)}{g:Dn}{r:D×Bool}{v:V}
noncomputable def Tc(T:SS)(l:L2.St)(f:Dn)(vs:List V)(c:List (D×Bool)):SS:=λa=>T a\/(X0 l f a/\¬X0 (vs.map Y) (c.map Y) a)
def xk(B:Ops K T l δ H os vs f m u)(p:jM f os=Y c){j:Nat}{d:D}(h:c[j]?=Y (d,J)):∃(i:Nat)(a:iw),os[j]?=Y (.slot i)/\f[i]?=Y (Y (d,J))/\vs[j]?=Y (.ref a)/\l[i]?=Y (Y<|.ref a):=by
 obtain⟨w,q⟩:=qi p;obtain⟨o,h1,b⟩:=q j _ h
 cases o with
 |val r=>cases b
 |slot i=>
  have e:f[i]?=Y (Y (d,J)):=ox b;have t:j<(IX vs):=by have:=(wJ.mp h1).1;have:=B.len;lia
  have hv:vs[j]?=Y vs[j]:=jZ t;have k:=B.slt j i _ h1 hv;obtain⟨a,n,_⟩:=B.er.own i d e;rw[k]at n;have:vs[j]=V.ref a:=by simpa using n
  exact⟨i,a,h1,e,by rw[hv,this],by rw[k,this]⟩
def FY(B:Ops K T l δ H os vs f m u)(n:jM f os=Y c){j:Nat}{a:iw}(h:NR (vs.map Y) (c.map Y) j a):∃(i:Nat)(d:D),os[j]?=Y (.slot i)/\c[j]?=Y (d,J)/\NR l f i a:=by obtain⟨d,h1,k⟩:=h;have e:=uR.mp h1;obtain⟨i,b,o,p,q,t⟩:=xk B n e;have:=uR.mp k;rw[q]at this;cases this;exact⟨i,d,o,e,d,p,t⟩
def J7(B:Ops K T l δ H os vs f m u)(k:jM f os=Y c)(h:X0 (vs.map Y) (c.map Y) a):X0 l f a:=by obtain⟨j,d,h1,b⟩:=h;obtain⟨i,_,_,_,e,n,o⟩:=FY B k ⟨d,h1,b⟩;exact⟨i,e,n,o⟩
def xN(E:ER K H T l δ)(B:Ops K T l δ H os vs f m u)(n:jM f os=Go c)(nd:(jf os c).Nodup):ER K m (Tc T l f vs c) (vs.map Go) (c.map Go):=by
 obtain⟨F,Y⟩:=qi n
 have sub:∀b,(X0 (vs.map Go) (c.map Go) b\/Tc T l f vs c b)->X0 l f b\/T b:=λb z=>by
  rcases z with z|z|z
  .exact .inl (J7 B n z)
  .exact .inr z
  exact .inl z.1
 refine⟨by simp[F,B.len],λj d h=>?_,λj d h=>?_,λj k d e a h1 p x y=>?_,λa z t=>?_,λa z=>?_⟩
 .have h:=uR.mp h;obtain⟨o,h1,p⟩:=Y j _ h;have D:j<(IX vs):=by have:=(wJ.mp h1).1;have:=B.len;lia
  have hv:vs[j]?=Go vs[j]:=jZ D;refine⟨_,uR.mpr hv,?_⟩
  cases o with
  |val q=>
   have:q.1=d:=by cases p;rfl
   subst this;exact Rep.mono (λ_ _ e _=>e) (λb _ z=>sub b z)<|B.rep E h1 hv
  |slot i=>
   have x:f[i]?=Go (Go (d,IP)):=ox p;have y:=B.slt j i _ h1 hv;obtain⟨w,Q,R⟩:=B.er.val i d x;rw[y]at Q;have:vs[j]=w:=by simpa using Q
   rw[this];exact Rep.mono (λ_ _ e _=>e) (λb _ z=>(sub b z).imp id<|B.tt b) R
 .obtain⟨i,a,O,A,C,I⟩:=xk B n<|uR.mp h;obtain⟨b,L,U⟩:=B.er.own i d A;rw[I]at L;cases L;exact⟨a,uR.mpr C,U.mono (λ_ _ e _=>e) (λb _ z=>(sub b z).imp id<|B.tt b) λ_ e=>e⟩
 .obtain⟨i,S,O,A,G,C,I⟩:=FY B n ⟨d,h1,x⟩;obtain⟨P,V,g1,g2,J,M,N⟩:=FY B n ⟨e,p,y⟩;have:=B.er.inj i P G J a C M I N;subst this;exact CB nd O A g1 g2
 .rcases t with t|t
  .exact B.er.nT a (J7 B n z) (B.tt a t)
  exact t.2 z
 rcases z with z|z
 .exact B.er.dom a (B.tt a z)
 exact B.er.HQ z.1
def Kr{T' Td:SS}(E:ER K H T l δ)(B:Ops K T l δ H os vs f m u)(N:jM f os=Go c)(nd:(jf os c).Nodup)(kC:I8 (vs.map Go) (c.map Go) m g s)
  (Y:ER K s Td (vs.map Go) g)(t1:∀b,Tc T l f vs c b->Td b)(t2:∀b,T' b->Td b)(t3:∀b,m b≠Ix->T' b->T b):
  ER K s T' l (wb os c g f)/\(∀b,X0 l (wb os c g f) b->X0 (vs.map Go) g b\/Tc T l f vs c b)/\I8 l f m (wb os c g f) s:=by
 obtain⟨hl,hg⟩:=qi N;have ol:(IX g)=(IX c):=by have:=Y.len;have:=B.len;simp at*;lia
 have R:∀(i:Nat)(x:Sl),(wb os c g f)[i]?=Go x->(i∉jf os c/\f[i]?=Go x)\/∃(j:Nat)(d:D),os[j]?=Go (.slot i)/\c[j]?=Go (d,IN)/\g[j]?=Go x:=λi x h=>by
  by_cases A:i∈jf os c
  .right;obtain⟨j,d,h1,p⟩:=Cz A;have hj:j<(IX g):=by have:=(wJ.mp p).1;lia
   have X:g[j]?=Go g[j]:=jZ hj;have hi:i<(IX f):=by have:=(wJ.mp h).1;rwa [Aq]at this
   have:=Jv (δ:=f) nd h1 p X hi;rw[h]at this;cases this;exact⟨j,d,h1,p,X⟩
  left;rw[Ap A]at h;exact⟨A,h⟩
 have I:∀{i:Nat}{a:iw},i∉jf os c->NR l f i a->¬X0 (vs.map Go) (c.map Go) a:=λ{i a} A ⟨e,q,C'⟩ ⟨j,d,h1,p⟩=>by obtain⟨P,d2,g1,g2,S,G,g4⟩:=FY B N ⟨d,h1,p⟩;have:=B.er.inj i P e S a q G C' g4;subst this;exact A<|uO g1 g2
 have U:∀i a,NR l (wb os c g f) i a->NR l f i a/\(X0 (vs.map Go) g a\/Tc T l f vs c a):=λi a a'=>by
  obtain⟨d,h1,p⟩:=a'
  rcases R i _ h1 with⟨A,y⟩|⟨j,e,g1,g2,G⟩
  .exact⟨⟨d,y,p⟩,.inr<|.inr ⟨⟨i,d,y,p⟩,I A ⟨d,y,p⟩⟩⟩
  obtain⟨P,b,q,C',J,L⟩:=xk B N g2;rw[g1]at q;cases q;rw[p]at L;cases L;exact⟨⟨e,C',p⟩,.inl ⟨j,d,G,uR.mpr J⟩⟩
 have W:∀b,X0 l (wb os c g f) b->X0 (vs.map Go) g b\/Tc T l f vs c b:=λb ⟨i,d,h1,p⟩=>(U i b ⟨d,h1,p⟩).2
 have F:∀b,X0 l (wb os c g f) b->X0 l f b:=λb a'=>by
  obtain⟨i,d,h1,p⟩:=a'
  obtain⟨⟨e,q,C'⟩,_⟩:=U i b ⟨d,h1,p⟩;exact⟨i,e,q,C'⟩
 have kp:∀a o,m a=Go o->¬X0 l f a->s a=Go o:=λa o e n=>kC.kp a o e λz=>n<|J7 B N z
 have O:∀b,(X0 l (wb os c g f) b\/T' b)->X0 (vs.map Go) g b\/Td b:=λb z=>by
  rcases z with z|z
  .exact(W b z).imp id (t1 b)
  exact .inr (t2 b z)
 refine⟨⟨by rw[Aq];exact B.er.len,λi d h=>?_,λi d h=>?_,λi k d e a h1 p y h4=>?_,λa z t=>?_,λa z=>Y.dom a<|t2 a z⟩,W,⟨kp,λi a z=>(U i a z).1,kC.dm⟩⟩
 .rcases R i _ h with⟨A,y⟩|⟨j,e,g1,g2,G⟩
  .obtain⟨w,Q,M⟩:=B.er.val i d y;exact⟨w,Q,Rep.mono (λb o e n=>kp b o e λz=>n<|.inl z) (λb V z=>z.imp (F b) λz=>B.tt b<|t3 b V z) M⟩
  obtain⟨P,b,q,C',J,L⟩:=xk B N g2;rw[g1]at q;cases q;obtain⟨w,Q,M⟩:=Y.val j d G;have:=uR.mp Q;rw[J]at this;cases this;exact⟨_,L,Rep.mono (λ_ _ e _=>e) (λb _ z=>O b z) M⟩
 .rcases R i _ h with⟨A,y⟩|⟨j,e,g1,g2,G⟩
  .obtain⟨a,Q,M⟩:=B.er.own i d y;exact⟨a,Q,M.mono (λb o e n=>kp b o e λz=>n<|.inl z) (λb V z=>z.imp (F b) λz=>B.tt b<|t3 b V z) λo e=>kC.kp a o e<|I A ⟨d,y,Q⟩⟩
  obtain⟨P,b,q,C',J,L⟩:=xk B N g2;rw[g1]at q;cases q;obtain⟨a,Q,M⟩:=Y.own j d G;have:=uR.mp Q;rw[J]at this;cases this;exact⟨_,L,M.mono (λ_ _ e _=>e) (λb _ z=>O b z) λ_ e=>e⟩
 .obtain⟨⟨Z,q,C'⟩,_⟩:=U i a ⟨d,h1,y⟩;obtain⟨⟨S,J,L⟩,_⟩:=U k a ⟨e,p,h4⟩;exact B.er.inj i k Z S a q J C' L
 exact B.er.nT a (F a z) (B.tt a<|t3 a (B.er.FF<|F a z) t)
def qf(E:ER K H T l δ)(B:Ops K T l δ H os vs f m u)(k:jM f os=Y c)(o:(jf os c).Nodup)(P:Ls K (Tc T l f vs c) (vs.map Y) (c.map Y) m r g v s):
  Ls K T l δ H r (wb os c g f) v s:=by
 obtain⟨d,b⟩:=r
 cases b
 .obtain⟨kC,h,w⟩:=P;obtain⟨i,ow,j⟩:=Kr (T':=T) E B k o kC h (λ_ z=>z) (λ_ z=>.inl z) λ_ _ z=>z;refine⟨B.keep.trans j,i,Rep.mono (λ_ _ e _=>e) (λb _ z=>?_) w⟩;rcases z with z|z
  .exact ow b z
  exact .inr (.inl z)
 obtain⟨kC,p,rfl,n,h,ok⟩:=P;obtain⟨i,ow,j⟩:=Kr (T':=λa=>T a\/a=p) E B k o kC h (λ_ z=>.inl z) (λb z=>z.elim (λz=>.inl (.inl z)) .inr) (λb t z=>z.elim id λz=>by subst z;exact absurd n t);refine⟨B.keep.trans j,p,rfl,?_,i,ok.mono (λ_ _ e _=>e) (λb _ z=>?_) λ_ e=>e⟩
 .cases q:H p with
  |none=>rfl
  |some x=>exact absurd n<|B.keep.dm p (by rw[q];simp)
 rcases z with z|z|z
 .exact(ow b z).imp id .inl
 .exact .inr (.inl<|.inl z)
 exact .inr (.inr z)
end
section
variable {X:Cx}{e:iM}{b:kI}{fs:List FO}{a p:bA}{k:Nat}{f:iw}{g:nK}{d:ji}{c:O1}{x:aE}
def RW(F:BF X.prog X.w X.K X.mg X.base BU k f g d (Ex X.K c))(L:OO k X.A)(C:Gl X x)(I:X.mg x=Go (.ref f))(hk:ce X.K (.ref f)=IN)(y:Binds X.K g d [])
  (u:PA X (e::b) (tA X.K fs))(G:(x==("__debug__":aE))=IP)(z:aj (e::b) X.env=(IP,bh e X.env)::aj b X.env)(s:(aO a<|aj b X.env).any (·.1)=IP):
  PX X (.Call (.Name x p) (e::b) [] a) (iN c fs):=PX.imp (Su F L C I hk y (.nil) UP u G z s) λN H Q O=>by
 obtain⟨J,T,Y,M,E,e,k⟩:=O;obtain⟨os,j,h1,e⟩:=iK e;obtain⟨h,l,e⟩:=iE e;dsimp only at e;split at e
 .rename_i m;obtain⟨r,i,t,e⟩:=iK e;obtain⟨rfl,rfl⟩:=jg e;refine⟨J,T,os,j,E,h1,λn q U B=>?_⟩;show Ex X.K c (n++[]) q Q E0;rw[wN];exact⟨Tc T N j n h,h,r,i,xN E B l m,t,λv o P=>k v o<|qf E B l m P⟩
 cases e
end
structure HY(A:ki)(d:iw)(σ:L2.St)(δ:Dn)(H:Hp)(σ':L2.St)(δ':Dn)(H':Hp):Prop where
 kp:∀a o,H a=Go o->¬X0 σ δ a->a≠d->H' a=Go o
 owi:∀i a,NR σ' δ' i a->NR σ δ i a\/H a=Ix\/(A i/\∃j,A j/\NR σ δ j a)
 dm:∀a,H a≠Ix->H' a≠Ix
 as:∀i,¬A i->σ'[i]?=σ[i]?
section
variable {A:ki}{d:iw}{c b f:L2.St}{δ δ1 δ2:Dn}{H g l:Hp}
def SK.Jb(k:SK A c δ H b δ1 g):HY A d c δ H b δ1 g:=⟨λa o e n _=>k.kp a o e n,k.owi,k.dm,k.as⟩
def HY.ow(k:HY A d c δ H b δ1 g)(a:iw)(h:X0 b δ1 a):X0 c δ a\/H a=I:=by
 obtain⟨i,e,h1,o⟩:=h;rcases k.owi i a ⟨e,h1,o⟩with⟨e,m,n⟩|z|⟨_,j,_,e,m,n⟩
 .exact .inl ⟨i,e,m,n⟩
 .exact .inr z
 exact .inl ⟨j,e,m,n⟩
def HY.trans(x:HY A d c δ H b δ1 g)(y:HY A d b δ1 g f δ2 l):HY A d c δ H f δ2 l where
 kp:=λa o e n p=>y.kp a o (x.kp a o e n p) (λz=>(x.ow a z).elim n λz=>by rw[z]at e;cases e) p
 owi:=λi a z=>(y.owi i a z).elim (x.owi i a) λz=>z.elim (λz=>.inr (.inl (by
  cases h:H a with
  |none=>rfl
  |some o=>exact absurd z<|x.dm a<|by rw[h];simp))) λ⟨m,j,q,z⟩=>(x.owi j a z).elim (λz=>.inr (.inr ⟨m,j,q,z⟩)) λz=>z.elim (λz=>.inr (.inl z)) λ⟨_,k,ak,z⟩=>.inr (.inr ⟨m,k,ak,z⟩)
 dm:=λa z=>y.dm a<|x.dm a z
 as:=λi h=>(y.as i h).trans<|x.as i h
end
noncomputable def xg(p:(Int->Bool)×Nat)(d:D):(Int->Bool)×Nat:=match d with
 |.int k=>(λa=>p.1 a||decide (a=k),if p.1 k then p.2 else p.2+1)
 |_=>p
def ou(l:List D):(Int->Bool)×Nat:=l.foldl xg (λ_=>U,0)
def Co(l:List D)(k:Int):ou (l++[.int k])=((λa=>(ou l).1 a||decide (a=k)),if(ou l).1 k then(ou l).2 else(ou l).2+1):=by unfold ou;rw[G6];rfl
def RM:∀(l:List D)(p:(Int->Bool)×Nat),(l.foldl xg p).2<=p.2+(IX l):=by
 intro b
 induction b with
 |nil=>intro p;exact jT _
 |cons d l a=>
  intro p;have:=a<|xg p d
  have h:(xg p d).2<=p.2+1:=by
   unfold xg;split
   .dsimp only;split<;>lia
   lia
  simp
  lia
def AtD(S:Option Bool)(K:jd)(T:Hp)(O:SS)(d:iw)(a:List D):Prop:=match S with
 |some U=>∃c,T d=Y (.lst c)/\YP K T O a c
 |some J=>T d=Y (.set (ou a).1 (ou a).2)
 |none=>∃b,AN K (T d) .set [] a b/\YP K T O a b
structure BS(S:Option Bool)(K:jd)(d:iw)(T:SS)(σ:L2.St)(δ:Dn)(acc:List D)(H:Hp):Prop where
 er:ER K H T σ δ
 td:T d
 at':AtD S K H (λa=>X0 σ δ a\/T a) d acc
abbrev FB:=List D->Dn->Option (List D×Dn)
inductive FE(S:Option Bool)(K:jd)(A:ki)(d:iw)(f:FB)(σ:L2.St)(H:Hp)(N:L2.St->Hp->Prop):Prop where
 |mk (δ:Dn) (T:SS) (acc g0:List D) (δ':Dn) (_:BS S K d T σ δ acc H) (_:f acc δ=Go (g0,δ')) (_:∀σ' H',HY A d σ δ H σ' δ' H'->BS S K d T σ' δ' g0 H'->N σ' H')
noncomputable def jN(f:F):FB:=λacc δ=>(f δ).bind λp=>if (IX acc)<sizeLine then Y (acc++[p.1.1],p.2)else I
noncomputable def kr(b:Tg)(ti:FT)(a:FB):List D->FB
 |[],acc,δ=>Y (acc,δ)
 |x::xs,acc,δ=>(b x δ).bind λδ1=>(ti δ1).bind λp=>(if p.1=J then a acc p.2 else Y (acc,p.2)).bind λq=>kr b ti a xs q.1 q.2
def Cb(c:B0)(d:Tg)(ti:FT)(b:FB):FB:=λa e=>(c e).bind λp=>kr d ti b p.1 a p.2
section
variable {K:jd}{A:ki}{d:iw}{T:SS}{f r:L2.St}{j s:Dn}{p:List D}{H q:Hp}
def BS.step(b:BS S K d T f j p H)(k:SK A f j H r s q)(t:ER K q T r s):BS S K d T r s p q:=by
 refine⟨t,b.td,?_⟩;have h:=b.at'
 have m:∀{l:List D}{i:List V},YP K H (λa=>X0 f j a\/T a) l i->YP K q (λa=>X0 r s a\/T a) l i:=λg=>by
  refine YP.mono (λb o e n=>k.kp b o e λz=>n<|.inl z) (λc u z=>?_) g;rcases z with z|z
  .exact(k.ow c z).elim bg λz=>absurd z u
  exact .inr z
 rcases S with _|_|_
 .obtain⟨v,h1,g⟩:=h;exact⟨v,h1.keep λo e=>k.kp d o e λz=>b.er.nT d z b.td,m g⟩
 .obtain⟨i,h1,g⟩:=h;exact⟨i,k.kp d _ h1 λz=>b.er.nT d z b.td,m g⟩
 exact k.kp d _ h λz=>b.er.nT d z b.td
def J2(hg:∀v f H Q,tG K A tg v f H Q->g v f H Q)(hi:∀f H Q,tT K ft f H Q->ti f H Q)(hb:∀f H N,FE S K A d fb f H N->tb f H N)
  (b:BS S K d T f j p H)(P O:SS)(ok:IG K J' ds P O q)(s1:∀a o,q a=Y o->¬P a->H a=Y o)(s0:∀a,q a≠I->X0 f j a\/a=d->P a)(s2:∀a,q a≠I->(X0 f j a\/T a)->O a)(s3:∀a,q a≠I->H a≠I)(e:kr tg ft fb ds p j=Y (g0,B))
  (k:∀E t,HY A d f j H E B t->BS S K d T E B g0 t->N E t):JC J' g ti tb f H N:=by
 refine⟨λi m l w=>m=IX ds-i/\i<=IX ds/\∃h G,HY A d f j H l h w/\BS S K d T l h G w/\kr tg ft fb (ds.drop i) G h=Y (g0,B),⟨IX ds,by simp,mD _,j,p,SK.refl.Jb,b,by simpa using e⟩,?_⟩;rintro i m l w ⟨rfl,hle,h,G,Y',I',e2⟩
 have hO:∀a,q a≠I->(X0 l h a\/T a)->O a:=λa W z=>by
  rcases z with z|z
  .exact(Y'.ow a z).elim (λz=>s2 a W<|.inl z) λz=>absurd z<|s3 a W
  exact s2 a W (.inr z)
 have aM:∀a o,q a=Y o->¬P a->w a=Y o:=λa o V n=>Y'.kp a o (s1 a o V n) (λz=>n<|s0 a (by rw[V];simp)<|.inl z) λz=>n<|s0 a (by rw[V];simp)<|.inr z;by_cases F:i<IX ds
 .refine .inr ?_;have hd:ds[i]?=Y ds[i]:=jZ F;obtain⟨go,yl⟩:=ok.go i _ w hd aM;rw[Ac F]at e2;obtain⟨C,h3,e3⟩:=iE e2;obtain⟨c,u,h4,e4⟩:=iK e3;obtain⟨y,M,D,e5⟩:=iK e4;refine⟨go,λx t hy=>?_⟩;obtain⟨ext,rep⟩:=yl x t hy;have fA:ER K t T l h:=I'.er.mono (λb ob eb _=>ext b ob eb) (λ_ _ z=>z) λa z=>(I'.er.dom a z).up<|ext a;have SX:SK A l h w l h t:=(I8.ext ext).sk;have R:=I'.step SX fA;have ie:HY A d f j H l h t:=Y'.trans SX.Jb;have rx:=rep (λa=>X0 l h a\/T a) hO λb hb z=>z.elim (λz=>I'.er.FF z hb) λz=>(I'.er.dom b z).ne hb;refine hg _ _ _ _ ⟨h,T,ds[i],C,fA,rx,h3,λU S3 Z=>?_⟩;have B3:=R.step S3 Z;have cV:=ie.trans S3.Jb;refine hi _ _ _ ⟨C,T,c,u,Z,h4,λH4 K4 E4=>?_⟩;have S4:SK A U C t U u H4:=K4.sk;have X:=B3.step S4 E4;have L:=cV.trans S4.Jb
  cases c with
  |false=>rw[je kY]at D;obtain⟨rfl,rfl⟩:=jg D;exact aao ⟨IX ds-(i+1),by lia,rfl,F,u,G,L,X,e5⟩
  |true=>rw[iQ IR]at D;exact aan<|hb _ _ _ ⟨u,T,G,y,M,X,D,λσ5 H5 S5 B5=>⟨IX ds-(i+1),by lia,rfl,F,M,y,L.trans S5,B5,e5⟩⟩
 refine .inl ⟨ok.stop i w (by lia) aM,?_⟩;rw[Ab<|by lia]at e2;obtain⟨rfl,rfl⟩:=jg e2;exact k l w Y' I'
end
section
variable {X:Cx}{A:ki}{d:iw}{b:iM}{f:F}
def PB.imp'{code:dq Unit}{t e:TB}(h:PB X code t)(k:∀c Q N,e c Q N->t c Q N):PB X code e:=λa s c Q N T g=>h a s c Q N T<|k c Q N g
def Sw{S:Option Bool}{e:iM}{depth:Nat}{c:oT}{r:B0}{u:Tg}{s:FT}{q:FB}(M:X.xe=λ_ _=>False)(hc:X.calm=IN)
  (hl:(∃b g l p,e=.ListComp b g l p)\/(∃b g l p,e=.SetComp b g l p))(hg:(bS e)[depth+1]?=Go c)(Y:c.is_async=0)(j7:∀t,(bS e)[depth+1+1]?=Go t->t.is_async=0)
  (hs:∀x,aB c.iter X.env x=pure x)(pi:Ih X (λ_=>False) c.target c.iter r)(pg:Ja X A c.target u)(G:IE X c.ifs (tT X.K s))(pb:PB X (jG e (depth+1) (.ref d) X.env) (FE S X.K A d q)):
  PB X (jG e depth (.ref d) X.env) (FE S X.K A d<|Cb r u s q):=PB.imp' (Wy M hc hl hg Y j7 hs pi pg G pb) λw H N D=>by
 obtain⟨v,T,Q,P,F,B,e,k⟩:=D;obtain⟨U,j,h1,e⟩:=iK e;refine⟨v,T,U,j,B.er,h1,λJ I L C ok=>?_⟩;have n:SK A w v H w j I:=L.sk;exact J2 (λ_ _ _ _ h=>h) (λ_ _ _ h=>h) (λ_ _ _ h=>h) (B.step n C) _ _ ok (λa o e _=>e) (λa _ z=>z.elim (λa'=>by obtain⟨i,x,z⟩:=a';exact .inl ⟨i,id,x,z⟩) λz=>.inr (z▸B.td)) (λa _ z=>z) (λa z=>z) e λm E O y=>k m E (n.Jb.trans O) y
end
def jv(caps:jP)(k:Nat)(fi:B0)(tg:Tg)(ti:FT)(a:FB):F:=λδ=>(fi δ).bind λp=>(jM p.2<|caps.map .slot).bind λargs=>if(jf (caps.map .slot) args).Nodup then(kr tg ti a p.1 []<|args.map Y++ao k I).bind λq=>Y ((.lst q.1,J),wb (caps.map .slot) args (jn args q.2) p.2)else I
noncomputable def sQ(a:jP)(k:Nat)(b:L2.St):L2.St:=(a.map λj=>(b[j]?).join)++ao k I
def o0(S:Option Bool):HO:=match S with
 |some U=>.lst []
 |some J=>.set (λ_=>U) 0
 |none=>.V0 []
noncomputable def qS(S:Option Bool)(Q:VK):VK:=match S with
 |some U|none=>Q
 |some J=>λx b=>∃S n,∃a,x=.ref a/\b a=Y (.set S n)/\Q (.int n) b
def rS(S:Option Bool)(a:List D):D×Bool:=match S with
 |some U=>(.lst a,J)
 |none=>(.Q2 .set [] a,J)
 |some J=>(.int (ou a).2,U)
def IK(S:Option Bool)(b:jP)(k:Nat)(d:B0)(e:Tg)(f:FT)(c:FB):F:=λδ=>(d δ).bind λp=>(jM p.2<|b.map .slot).bind λa=>if(jf (b.map .slot) a).Nodup then(kr e f c p.1 []<|a.map Y++ao k I).bind λq=>Y (rS S q.1,wb (b.map .slot) a (jn a q.2) p.2)else I
def yV{S:Option Bool}{K:jd}{f:jP}{k:Nat}{fi:B0}{tg:Tg}{ti:FT}{fb:FB}{p:L2.St}{H:Hp}{Q:VK}(h:tF K (IK S f k fi tg ti fb) p H Q):
  tI K (λi=>i∉f) fi p H λJ' q=>Fh (o0 S) J' (tG K (λi=>IX f<=i) tg) (tT K ti) (λd=>FE S K (λi=>IX f<=i) d fb) (sQ f k) p q (qS S Q):=by
 obtain⟨δ,T,rr,δr,E,e,kq⟩:=h;obtain⟨ds,s,h1,e⟩:=iK e;obtain⟨g,t,e⟩:=iE e;dsimp only at e t;split at e
 case isFalse=>cases e
 rename_i Y;obtain⟨m,δ',h2,e⟩:=iK e;obtain⟨rfl,rfl⟩:=jg e;refine⟨δ,T,ds,s,E,h1,λJ' q D A ok d hd=>?_⟩;obtain⟨hl,hg⟩:=qi t;have dM:(IX g)=(IX f):=by simpa using hl
 let C:List V:=f.map λj=>((p[j]?).join).getD .VP
 have there:∀(i j:Nat),f[i]?=Go j->∃v,p[j]?=Go (Go v):=λi j l=>by
  have hi:i<(IX g):=by have:=(wJ.mp l).1;lia
  obtain⟨o,u,q2⟩:=hg i _ (jZ hi);rw[kX,l]at u;cases u;have O:=ox q2;generalize g[i]=y at O;obtain⟨x,b⟩:=y
  cases b
  .obtain⟨v,h,_⟩:=A.val j x O;exact⟨v,h⟩
  obtain⟨a,h,_⟩:=A.own j x O;exact⟨_,h⟩
 have Z:∀(i j:Nat),f[i]?=Go j->∃v,C[i]?=Go v/\p[j]?=Go (Go v):=λi j l=>by obtain⟨v,hv⟩:=there i j l;refine⟨v,?_,hv⟩;show(f.map λj=>((p[j]?).join).getD .VP)[i]?=Go v;rw[kX,l];simp[hv]
 have aq:sQ f k p=C.map Go++ao k Ix:=by
  unfold sQ
  congr 1
  apply ym;intro i;show _=((f.map λj=>((p[j]?).join).getD .VP).map Go)[i]?;rw[kX,kX,kX]
  cases l:f[i]? with
  |none=>rfl
  |some j=>obtain⟨v,hv⟩:=there i j l;simp[hv]
 have I:Ops K T p s q (f.map A1.slot) C s q T:=by
  refine⟨by simp[C],.refl,A,λ_ z=>z,λj x v l=>?_,λj x v l=>?_,λj i v l hv=>?_⟩
  .rw[kX]at l;obtain⟨_,_,z⟩:=jB l;cases z
  .rw[kX]at l;obtain⟨_,_,z⟩:=jB l;cases z
  rw[kX]at l;obtain⟨c,X,z⟩:=jB l;cases z;obtain⟨v',u,q2⟩:=Z j i X;rw[hv]at u;cases u;exact q2
 have L:=xN A I t Y
 have W:∀(i:Nat) x,g[i]?=Go (x,J)->¬(IX f<=i):=λi x B=>by
  have:=(wJ.mp B).1
  lia
 rw[aq];have B:=md (o:=o0 S) hd
 have nz:∀a,q a≠Ix->upd q d (o0 S) a≠Ix:=λa z=>by
  cases U:q a with
  |none=>exact absurd U z
  |some o=>rw[B a o U];simp
 have b0:BS S K d (λa=>Tc T p s C g a\/a=d) (C.map Go++ao k Ix) (g.map Go++ao k Ix) [] (upd q d<|o0 S):=by
  refine⟨(L.pad).mono (λb o eb _=>B b o eb) (λb hb z=>z.elim id λz=>by subst z;exact absurd hd hb) λa z=>?_,.inr IR,?_⟩
  .rcases z with z|z
   .exact(L.dom a z).up (B a)
   subst z;rw[jk];rcases S with _|_|_<;>trivial
  rcases S with _|_|_
  .exact⟨[],⟨rfl,[],jk,.nil⟩,YP.nil⟩
  .exact⟨[],jk,YP.nil⟩
  exact jk
 refine J2 (λ_ _ _ _ h=>h) (λ_ _ _ h=>h) (λ_ _ _ h=>h) b0 _ _ ok (λa o N _=>B a o N) (λa R z=>?_) (λa R z=>?_) nz h2 λσ' G M w=>?_
 .rcases z with z|z
  .obtain⟨j,x,g1,g2⟩:=OF.mp z;obtain⟨i,_,u,_,O⟩:=FY I t ⟨x,g1,g2⟩;refine .inl ⟨i,λn=>n ?_,O⟩;rw[kX]at u;obtain⟨c,X,e⟩:=jB u;cases e;exact mY X
  subst z;exact absurd hd R
 .rcases z with z|z|z
  .exact .inl (J7 I t<|OF.mp z)
  .rcases z with z|z
   .exact .inr z
   exact .inl z.1
  subst z;exact absurd hd R
 have F:SK (λi=>IX f<=i) (C.map Go++ao k Ix) (g.map Go++ao k Ix) q σ' δ' G:=
  ⟨λa o N n=>M.kp a o (B a o N) n (by intro z;subst z;rw[N]at hd;cases hd),λi a z=>(M.owi i a z).imp id λz=>z.imp (λz=>by
   cases U:q a with
   |none=>rfl
   |some o=>exact absurd z<|nz a<|by rw[U];simp) id,λa z=>M.dm a<|nz a z,M.as⟩
 rcases S with _|_|_
 .obtain⟨us,hy,ry⟩:=w.at';have P:=rG (r:=(.Q2 .set [] m,J)) (v:=.ref d) L F W ⟨d,rfl,hd,w.er,us,hy,YP.mono (λ_ _ e _=>e) (λb _ z=>z) ry⟩;exact kq (.ref d) G<|(qf A I t Y P).pre D
 .obtain⟨ys,hy,ry⟩:=w.at';have P:=rG (r:=(.lst m,J)) (v:=.ref d) L F W ⟨d,rfl,hd,w.er,ys,hy,YP.mono (λ_ _ e _=>e) (λb _ z=>z) ry⟩;exact kq (.ref d) G<|(qf A I t Y P).pre D
 have P:=rG (r:=(.int (ou m).2,IP)) (v:=.int (ou m).2) L F W ⟨w.er.mono (λ_ _ e _=>e) (λb _ z=>.inl z) λa z=>w.er.dom a<|.inl z,Rep.mkInt⟩;exact⟨_,_,d,rfl,w.at',kq (.int (ou m).2) G<|(qf A I t Y P).pre D⟩
def Gn{K:jd}{a:jP}{k:Nat}{c:B0}{e:Tg}{ti:FT}{b:FB}{f:L2.St}{T:Hp}{Q:VK}(h:tF K (jv a k c e ti b) f T Q):
  Uw (tI K (λi=>i∉a) c) (tG K (λi=>IX a<=i) e) (tT K ti) (λd=>FE U K (λi=>IX a<=i) d b) (sQ a k) f T Q:=yV (S:=U) h
section
variable {X:Cx}{elt:iM}{c:oT}{rest:oU}{scope:ju}{pos i3 py:bA}{N':ji}{caps:jP}{k:Nat}{fi:B0}{tg:Tg}{ti:FT}{fb:FB}{A:ki}{L:LL}{H0:Hp}
structure B1(X:Cx)(N':ji)(scope:ju)(caps:jP)(k:Nat):Prop where
 cell:∀y∈scope.names,y.2=.cell->scope.names.lookup y.1=Go .cell
 kind:scope.kind=.function
 names:∀y∈scope.names,y.2=.local->scope.names.lookup y.1=Go .local
 free:∀y∈scope.names,y.2=.free->X.env.scope.names.lookup y.1=Go .cell\/X.env.scope.names.lookup y.1=Go .free
 len:(IX caps)+k=IX N'
 caps:∀(i j:Nat)(x:aE),caps[i]?=Go j->N'[i]?=Go x->X.N[j]?=Go x/\scope.names.lookup x=Go .free
def B1.KI(T:B1 X N' scope caps k):B8 X N' scope (sQ caps k):=by
 refine⟨T.cell,T.kind,T.names,T.free,λd=>by simp[sQ,T.len],λd i v x h1 f=>?_⟩;unfold sQ at h1;by_cases b:i<IX caps
 .rw[qk<|by simpa using b,kX,jZ b]at h1;obtain⟨g,h⟩:=T.caps i caps[i] x (jZ b) f;refine⟨h,caps[i],g,?_⟩;have a:(d[caps[i]]?).join=Y v:=by simpa using h1
  cases e:d[caps[i]]? with
  |none=>rw[e]at a;cases a
  |some y=>rw[e]at a;exact mG Y a
 rw[pL<|by simpa using b,Dz]at h1;split at h1<;>cases h1
def R3(O:B1 X N' scope caps k)(l:X.calm=J)(j:c.is_async=0)(n:∀e,rest[0]?=Y e->e.is_async=0)
  (m:∀x,aB c.iter X.env x=pure x)(q:Ih X (λi=>i∉caps) c.target c.iter fi)
  (p:∀(cl:kj)(O:iw)(r:iB)(f:Hp)(fp:la)(a:jw),let b:=X.comp N' scope cl O r f fp a
   Ja b (λi=>IX caps<=i) c.target tg/\IE b c.ifs (tT X.K ti)/\∀d,PB b (jG (.ListComp elt (c::rest) scope pos) 0 (.ref d) b.env)<|FE U X.K (λi=>IX caps<=i) d fb):
  PX X (.ListComp elt (c::rest) scope pos) (jv caps k fi tg ti fb):=PX.imp (D1 (o:=.lst []) (fp:=c.iter.pos) (new:=p8 []) (g:=tG X.K (λi=>IX caps<=i) tg) (ti:=tT X.K ti) (tb:=λd=>FE U X.K (λi=>IX caps<=i) d fb) O.KI l j n m q p (λ_ _ _ k=>nq<|k _ λ_=>⟨mD _,[],0,.nil,kF _ rfl⟩) (.inl ⟨_,_,_,_,rfl⟩) (hev:=by cases c;rfl)) λs T Q h=>Gn h
def N5{y:aE}{i:Nat}(m:cH (.ListComp elt (c::rest) scope pos) (Y<|.Name y py) i3.line X.env=pure IN)
  (C:B1 X N' scope caps k)(u:X.calm=IN)(t:c.is_async=0)(N:∀h,rest[0]?=Y h->h.is_async=0)
  (z:∀x,aB c.iter X.env x=pure x)(Q:Ih X (λi=>i∉caps) c.target c.iter fi)(n:PG X (.Name y py) (Ga i))(s:A i)
  (O:∀(cl:kj)(C:iw)(G:iB)(l:Hp)(o:la)(a:jw),let b:=X.comp N' scope cl C G l o a
   Ja b (λi=>IX caps<=i) c.target tg/\IE b c.ifs (tT X.K ti)/\∀d,PB b (jG (.ListComp elt (c::rest) scope pos) 0 (.ref d) b.env)<|FE U X.K (λi=>IX caps<=i) d fb):
  L8 X A L H0 (.Assign [.Name y py] (.ListComp elt (c::rest) scope pos) i3) (kK i<|jv caps k fi tg ti fb):=PS.imp' (Ob (g:=tG X.K (λi=>IX caps<=i) tg) (ti:=tT X.K ti) (tb:=λd=>FE U X.K (λi=>IX caps<=i) d fb) m C.KI u t N z Q n O) λD M H B=>by
 obtain⟨J,T,out,E,fi,e,k⟩:=B;obtain⟨r,f,q,e⟩:=iK e;obtain⟨w,rfl⟩:=jy e;refine Gn ⟨J,T,r,f,E,q,λv j P=>?_⟩;obtain⟨h1,p⟩:=wY (A:=A) E P w s;exact k _ j h1 p
end
section
variable {K:jd}{T:SS}{d:L2.St}{c:Dn}{H:Hp}{i:Nat}{l m:List D}{a:iw}{g:List V}
def NR.BG{j:Nat}{b:iw}(hd:c[i]?=Y (Y (k,J)))(h:NR d (c.set i<|Y (d',J)) j b):NR d c j b:=by
 obtain⟨e,h1,f⟩:=h;rcases nU h1 with⟨rfl,_,_⟩|⟨_,q⟩
 .exact⟨_,hd,f⟩
 exact⟨e,q,f⟩
def ER.BG(E:ER K H T d c)(hd:c[i]?=Y (Y (N,IN)))(t:d[i]?=Y (Y<|.ref a))(r:AM K (upd H a o) (λb=>X0 d c b\/T b) d' a):
  ER K (upd H a o) T d (c.set i<|Y (d',IN))/\I8 d c H (c.set i<|Y (d',IN)) (upd H a o):=by
 have U:i<(IX c):=(wJ.mp hd).1;have v:X0 d c a:=⟨i,_,hd,t⟩
 have B:∀b,X0 d (c.set i<|Y (d',IN)) b->X0 d c b:=λb a'=>by
  obtain⟨j,e,h1,s⟩:=a'
  obtain⟨L,x,y⟩:=NR.BG hd ⟨e,h1,s⟩;exact⟨j,L,x,y⟩
 have kp:∀b u,H b=Y u->¬(X0 d c b\/T b)->upd H a o b=Y u:=λb u e n=>by rw[jq<|by intro z;subst z;exact n<|.inl v];exact e
 have I:∀b,H b≠Ix->upd H a o b≠Ix:=λb z=>by
  by_cases C:b=a
  .subst C;rw[jk];simp
  rw[jq C];exact z
 have sub:∀b,(X0 d (c.set i<|Y (d',IN)) b\/T b)->X0 d c b\/T b:=λb z=>z.imp (B b) id;refine⟨⟨by rw[vA];exact E.len,λj e h=>?_,λj e h=>?_,λj k e f b h hk h1 s=>?_,λb z=>E.nT b<|B b z,λb z=>by have ne:b≠a:=λe=>E.nT a v<|e▸z;rw[jq ne];exact E.dom b z⟩,⟨λb u e n=>by rw[jq<|by intro z;subst z;exact n v];exact e,λj b z=>NR.BG hd z,I⟩⟩
 .rcases nU h with⟨_,_,q⟩|⟨_,q⟩
  .cases q
  obtain⟨w,p,A⟩:=E.val j e q;exact⟨w,p,Rep.mono kp (λb _ z=>sub b z) A⟩
 .rcases nU h with⟨rfl,_,q⟩|⟨ne,q⟩
  .cases q;exact⟨a,t,r.mono (λ_ _ e _=>e) (λb _ z=>sub b z) λ_ e=>e⟩
  obtain⟨b,p,A⟩:=E.own j e q;refine⟨b,p,A.mono kp (λb _ z=>sub b z) λu G=>?_⟩;rw[jq]
  .exact G
  intro z;subst z;exact ne<|E.inj i j _ _ _ hd q t p
 obtain⟨O,x,y⟩:=NR.BG hd ⟨e,h,h1⟩;obtain⟨Q,J,M⟩:=NR.BG hd ⟨f,hk,s⟩;exact E.inj j k O Q b x J y M
def ER.write(E:ER K H T d c)(hd:c[i]?=Y (Y (.lst l,J)))(f:d[i]?=Y (Y<|.ref a))(r:YP K H (λb=>X0 d c b\/T b) m g):
  ER K (upd H a<|.lst g) T d (c.set i<|Y (.lst m,J))/\I8 d c H (c.set i<|Y (.lst m,J)) (upd H a<|.lst g):=
 E.BG hd f ⟨g,jk,YP.mono (λb o e n=>by rw[jq<|by intro z;subst z;exact n<|.inl ⟨i,_,hd,f⟩];exact e) (λ_ _ z=>z) r⟩
end
noncomputable def nY(i:Nat)(f:F):F:=λa=>match a[i]? with
 |some (Y (.lst _,J))=>(f a).bind λp=>match p.2[i]? with
  |some (Y (.lst l,J))=>if (IX l)<sizeLine then Y ((.VP,U),p.2.set i<|Y (.lst<|l++[p.1.1],J))else I
  |_=>I
 |_=>I
def Bb(i:Nat)(f:FO):F:=λa=>match a[i]? with
 |some (Y (.lst _,J))=>(f a).bind λp=>match res p.2 p.1,p.2[i]? with
  |some (.int k),Y (Y (.lst l,J))=>if -(2^63)<=k/\k<2^63 then(DL (IX l) k).bind λj=>(l[j]?).bind λd=>Y ((d,U),p.2.set i<|Y (.lst<|l.eraseIdx j,J))else I
  |_,_=>I
 |_=>I
def wc(i:Nat)(f:F)(g:FO):FS:=λa=>(f a).bind λp=>match p.2[i]? with
 |some (Y _)=>(g p.2).bind λq=>match res q.2 q.1,q.2[i]? with
  |some (.int k),Y (Y (.lst l,J))=>(DL (IX l) k).bind λj=>Y<|.nx<|q.2.set i<|Y (.lst<|l.set j p.1.1,J)
  |_,_=>I
 |_=>I
section
variable {X:Cx}{e c:iM}{f:F}{k:FO}{b m a g:bA}{i:Nat}{x:aE}{A:ki}{L:LL}{n:Hp}
theorem YP.erase{K T}{O:SS}:∀{l:List D}{o:List V}(j:Nat),YP K T O l o->YP K T O (l.eraseIdx j) (o.eraseIdx j)
 |[],o,j,h=>by rw[YP]at h;subst h;simp[YP]
 |d::l,o,0,h=>by rw[YP]at h;obtain⟨v,r,rfl,h1,p⟩:=h;exact p
 |d::l,o,j+1,h=>by rw[YP]at h;obtain⟨v,r,rfl,h1,p⟩:=h;exact YP.cons h1<|YP.erase j p
end
noncomputable def NM(b:Tg)(f:F):FS:=λc=>(f c).bind λp=>(b p.1.1 p.2).bind λa=>Y<|.nx a
section
variable {X:Cx}{A:ki}{L:LL}{m:Hp}{a b h e:iM}{fs:List F}{f:F}{t:Tg}{c l k pt d:bA}{x y:aE}{i j:Nat}{kt k2}
def R6{id:String}{p:bA}{n:kI}{o:List FO}{g:List D->Option (D×Bool)}{z:aE}(s:lh X (.builtin id) (EH X.K g))(v:Gl X z)(w:X.mg z=I)(hv:aF z=Y (.builtin id))(r:PA X (e::n) (tA X.K o))(B:z≠"__name__")(T:(z==("__debug__":aE))=U)
  (u:aj (e::n) X.env=(U,bh e X.env)::aj n X.env)(q:(aO c<|aj n X.env).any (·.1)=U):PX X (.Call (.Name z p) (e::n) [] c) (jc g o):=pxn<|AE s v w hv r B T u q
def RX{id:String}{p:bA}{n:kI}{o:List FO}{g:List D->Option (D×Bool)}{z:aE}(s:lh X (.type id) (EH X.K g))(v:Gl X z)(w:X.mg z=I)(hv:aF z=Y (.type id))(r:PA X (e::n) (tA X.K o))(B:z≠"__name__")(T:(z==("__debug__":aE))=U)
  (u:aj (e::n) X.env=(U,bh e X.env)::aj n X.env)(q:(aO c<|aj n X.env).any (·.1)=U):PX X (.Call (.Name z p) (e::n) [] c) (jc g o):=pxn<|rn s v w hv r B T u q
end
def XE:aF "len"=Y (.builtin "len"):=by decide+kernel
def XF:aF "abs"=Y (.builtin "abs"):=by decide+kernel
noncomputable def se(N:ji)(c scope:ju)(b:ji)(a:jP)(k:Nat):Bool:=
 (scope.names.all λy=>y.2 != .cell||scope.names.lookup y.1==Y .cell)&&decide (scope.kind=.function)&&(scope.names.all λy=>y.2 != .local||scope.names.lookup y.1==Y .local)&&
 (scope.names.all λy=>y.2 != .free||(c.names.lookup y.1==Y .cell||c.names.lookup y.1==Y .free))&&decide (IX a+k=IX b)&&
 ((a.zip b).all λp=>N[p.1]?==Y p.2&&scope.names.lookup p.2==Y .free)
def Bm(n:X.N=N)(q:X.env.scope=sc)(h:se N sc scope c a k=J):B1 X c scope a k:=by
 subst n;subst q;unfold se at h;simp only[lR,kT,oW]at h;obtain⟨⟨⟨⟨⟨h1,d⟩,f⟩,g⟩,l⟩,m⟩:=h;refine⟨λy b e=>?_,d,λy b e=>?_,λy b e=>?_,l,λi j x o r=>?_⟩
 .have:=h1 y b;rw[e]at this;simpa using this
 .have:=f y b;rw[e]at this;simpa using this
 .have:=g y b;rw[e]at this;simpa using this
 have p:(j,x)∈a.zip c:=by
  have:(a.zip c)[i]?=Y (j,x):=by rw[EO];exact⟨o,r⟩
  exact mY this
 have:=m _ p;simpa using this
noncomputable def jD:FT:=λδ=>Y (J,δ)
inductive Ty where
 |int|bool|str|tuple|list|dict
noncomputable def Ty.n:Ty->String
 |.int=>"int"|.bool=>"bool"|.str=>"str"|.tuple=>"tuple"|.list=>"list"|.dict=>"dict"
noncomputable def Fp:D->Ty->Bool
 |.bl _,.bool=>J
 |.bl _,.int=>J
 |.int _,.int=>J
 |.str _,.str=>J
 |.tup _,.tuple=>J
 |.lst _,.list=>J
 |.Q2 .dct _ _,.dict=>J
 |_,_=>U
noncomputable def tyD:D->String
 |.VP=>"NoneType"|.bl _=>"bool"|.int _=>"int"|.str _=>"str"|.tup _=>"tuple"|.lst _=>"list"|.Q2 .dct _ _=>"dict"|.Q2 .set _ _=>"set"|.Q2 _ _ _=>"NoneType"
section
variable {X:Cx}{b:jw}{c:L2.St}{H:Hp}{s:iB}
def F4(K:jd)(d:D)(t:Ty):dZ K (.type<|tyD d) (.type t.n)=Y (Fp d t):=by
 cases d with
 |Q2 k _ _=>cases k<;>cases t<;>with_unfolding_all rfl
 |_=>cases t<;>with_unfolding_all rfl
def D2(T:Inv X b c H s)(h:AN X.K (H a) k l i us)(hk:k=.dct\/k=.set:=by first|exact .inl rfl|exact .inr C):s.TypeIs (.ref a) (tyD<|.Q2 k l i):=by
 cases k with
 |dct=>
  rcases h with⟨d,e,_⟩|⟨d,e,_⟩
  .obtain⟨_,_,i,_,o,g,j,h1,f,_⟩:=(show T2 X.prog X.w H s.heap a (.dK d)from T.hok a _ e)
   exact⟨o,h1,f.1⟩
  obtain⟨_,_,p,_,o,g,j,h1,f,_⟩:=(show T2 X.prog X.w H s.heap a (.dT d)from T.hok a _ e)
  exact⟨o,h1,f.1⟩
 |set=>
  obtain⟨_,m,e,_⟩:=h;obtain⟨g,n,t,h1,_⟩:=(show T2 X.prog X.w H s.heap a (.V0 m)from T.hok a _ e)
  exact⟨_,h1,rfl⟩
 |exc Q=>rcases hk with z|z<;>cases z
 |_=>exact h.elim
def pO{K H}(h:kx K H O (.Q2 k g f) v):Iz (λa d=>AN K (H a) k g f d) (YP K H O f) v:=by
 rcases h with h|⟨a,rfl,h⟩
 .obtain⟨a,d,e,q,r⟩:=h.Q2;exact⟨a,d,e,q.2,r⟩
 obtain⟨d,e,r⟩:=h;exact⟨a,d,rfl,e,r⟩
end
def aaI{K:jd}{T:Nat}(h:∀n∈["int","bool","str","tuple","list","dict"],dZ K (.ref T) (.type n)=Y U)(t:Ty){a b:List D}:dZ K (.ref T) (.type t.n)=Y (Fp (.Q2 (.exc T) a b) t):=by
 cases t<;>exact h _ (by simp[Ty.n])
section
variable {X:Cx}{c:jw}{f:L2.St}{H:Hp}{s:iB}
def acw(T:Inv X c f H s)(hd:kx X.K H O d x)(g:RelV x u)(h:∀m,Q (.bool<|Fp d t) {s with toks:=m}):
  af (am X.prog X.w) A (call (.builtin "isinstance") [u,.type t.n]) Q E s:=by
 cases d with
 |VP=>have:=Nm hd;subst this;cases g;exact rO PySem.W.kitx_none T.F1 bD (F4 X.K .VP t) (λz=>nomatch z) h
 |bl b=>have:=Jw hd;subst this;cases g;exact rO PySem.W.kitx_bool T.F1 bD (F4 X.K (.bl b) t) (λz=>nomatch z) h
 |int b=>have:=jx hd;subst this;obtain⟨m,rfl⟩:=g;exact rO PySem.W.kitx_int T.F1 bD (F4 X.K (.int b) t) (λz=>nomatch z) h
 |str b=>have:=Ar hd;subst this;obtain⟨m,rfl⟩:=g;exact rO PySem.W.kitx_str T.F1 bD (F4 X.K (.str b) t) (λz=>nomatch z) h
 |tup l=>obtain⟨a,y,rfl,q,_⟩:=mr hd;cases g;obtain⟨j,_,⟨o,h1,i,_⟩,_⟩:=T.tuple q;exact rO PySem.W.kitx_tuple T.F1 ⟨o,h1,i⟩ (F4 X.K (.tup l) t) (λz=>nomatch z) h
 |lst l=>obtain⟨a,y,rfl,q,_⟩:=lT hd;cases g;obtain⟨j,_,⟨o,n,h1,i,_⟩,_⟩:=T.list q;exact rO PySem.W.kitx_list T.F1 ⟨o,h1,i⟩ (F4 X.K (.lst l) t) (λz=>nomatch z) h
 |Q2 k p r=>
  obtain⟨a,B,rfl,q,_⟩:=pO hd;cases g
  cases k with
  |dct=>exact rO PySem.W.kitx_dict T.F1 (D2 T q) (F4 X.K (.Q2 .dct p r) t) (λz=>nomatch z) h
  |set=>exact rO PySem.W.kitx_set T.F1 (D2 T q) (F4 X.K (.Q2 .set p r) t) (λz=>nomatch z) h
  |exc N=>obtain⟨_,o,e,h1,i,v⟩:=q;exact rO (i a) T.F1 (show T2 X.prog X.w H s.heap a (.AL o<|.own 0)from T.hok a _ e).1 (aaI v t) (λz=>nomatch z) h
  |_=>exact q.elim
end
def Gd(a:List Ty)(d:D):Option (D×Bool):=Y (.bl<|a.any<|Fp d,U)
section
variable {X:Cx}{e:iM}{c:FO}{b p a:bA}{z:aE}
def Wa{t:Ty}(L:PO X e c)(J:Gl X "isinstance")(M:X.mg "isinstance"=Ix)(y:Gl X z)(f:X.mg z=Ix)(Y:aF z=Go (.type t.n))(N:z≠"__name__")(k4:(z==("__debug__":aE))=IP)(hv:aF "isinstance"=Go (.builtin "isinstance"))
  (s1:aj [e,.Name z a] X.env=(IP,bh e X.env)::aj [.Name z a] X.env)(s2:aj [.Name z a] X.env=(IP,bh (.Name z a) X.env)::aj [] X.env)(w:(aO b<|aj [.Name z a] X.env).any (·.1)=IP):
  PX X (.Call (.Name "isinstance" p) [e,.Name z a] [] b) (qy (Gd [t]) c):=by
 have G:lh X (.builtin "isinstance") (λm H Q=>∃(O:SS)(d:D)(x:V),m=[x,.ty t.n]/\kx X.K H O d x/\Q (.bl<|Fp d t) H):=by intro l s W H m us Q I r h;obtain⟨O,d,x,rfl,hd,q⟩:=h;obtain⟨u,w',rfl,F,P⟩:=Fc r;cases P;exact acw I hd F λtk=>⟨.bl _,H,I.tok _,rfl,q⟩
 refine PX.imp (AE G J M hv (pv L (pv (Sv (v:=.ty t.n) y f Y IR N k4) ug s2) s1) (by decide) (by decide) s1 w) λW H Q U=>?_;obtain⟨R,T,rr,S,E,e,k⟩:=U;obtain⟨o,g,h1,e⟩:=iK e;obtain⟨x,A,e⟩:=iE e;obtain⟨zz,C,e⟩:=iE e;cases C;obtain⟨rfl,rfl⟩:=jg e;refine⟨R,T,o,g,E,h1,λv Z i=>?_⟩;have B:=Ops.cons E i<|Ops.nil<|i.er E;refine⟨_,x,v,rfl,B.view (j:=0) IR IR A,?_⟩;have:=(B.done k).bl;simpa using this
end
noncomputable def pE:List D->Option (List Bool)
 |[]=>Y []
 |.bl b::l=>(pE l).map (b:: ·)
 |_::_=>I
def vg:D->Option (D×Bool)
 |.lst l=>(pE l).map λbs=>(.bl<|bs.all id,U)
 |_=>I
def ID:D->Option (D×Bool)
 |.lst l=>(pE l).map λbs=>(.bl<|bs.any id,U)
 |_=>I
theorem zi{K T}{O:SS}:∀{l:List D}{bs:List Bool}{e:List V}{d:jS},pE l=Y bs->YP K T O l e->Vals e d->LSm.BoolsAre d bs
 |[],bs,e,d,h,r,v=>by
  cases h;rw[YP]at r;subst r;cases v;exact .nil
 |.bl b::l,bs,e,d,h,r,v=>by
  obtain⟨f,h1,rfl⟩:=jB h;rw[YP]at r;obtain⟨x,j,rfl,g,i⟩:=r;have:=g.bl;subst this
  cases v with
  |cons a c=>cases a;exact .cons b<|zi h1 i c
 |.VP::l,_,_,_,h,_,_=>by cases h
 |.int _::l,_,_,_,h,_,_=>by cases h
 |.str _::l,_,_,_,h,_,_=>by cases h
 |.tup _::l,_,_,_,h,_,_=>by cases h
 |.lst _::l,_,_,_,h,_,_=>by cases h
 |.Q2 _ _ _::l,_,_,_,h,_,_=>by cases h
section
variable {X:Cx}
def aek{h a:jb}{o:el}(hk:∀b x,b∉[h.objs.size]->(h.push o).get? b=Y x->a.get? b=Y x)(b:iw)(x:el)(e:h.get? b=Y x):a.get? b=Y x:=
 hk b x (λz=>by have:=EU.mp z;subst this;exact absurd (kH e)<|qo _) (jX _ e)
def Kq(q:Bool)(B:X.calm=J):lh X (.builtin (if q then "all" else "any")) (EH X.K<|g1 (if q then vg else ID)):=qI λm s M H x u Q O d z N C np hd j G=>by
 cases d with
 |lst l=>
  cases q<;>(
   obtain⟨bs,y,rfl⟩:=jB j;obtain⟨p,T,rfl,q,r⟩:=lT hd;cases C;obtain⟨a,v,c,_⟩:=N.list q;have are:=zi y r v;have k:X.A.in1.handled=I:=N.ok.hd B;have f:p<s.heap.objs.size:=by obtain⟨_,e,_⟩:=c.isList;exact kH e
   first|refine call_all_walk (Aj c.isList ⟨s.heap.objs.size,[s.heap.objs.size,p],[s.heap.objs.size],a.toArray.size,_,_,λi=>(bs[i]?).getD J,rfl,Walks.list k _ p (kz f) a.toArray,⟨⟨_,kF _ rfl,rfl,rfl⟩,c.isList.push _⟩,λi w E o n h g=>?_,λt L hk=>?_⟩)|refine call_any_walk<|Aj c.isList ⟨s.heap.objs.size,[s.heap.objs.size,p],[s.heap.objs.size],a.toArray.size,_,_,λi=>(bs[i]?).getD U,rfl,Walks.list k _ p (kz f) a.toArray,⟨⟨_,kF _ rfl,rfl,rfl⟩,c.isList.push _⟩,λi w E o n h g=>?_,λt L hk=>?_⟩
   .obtain⟨b,e,rfl⟩:=are.get i w (by simpa using h);dsimp only at g;rw[e]at g;exact tw g
   rw[kR,are.length];(first|rw[LSm.range_all]|rw[LSm.range_any])
   exact⟨.bl _,H,N.kept<|aek hk,rfl,G.bl⟩)
 |_=>cases q<;>cases j
def afQ(a:X.calm=J):lh X (.builtin "all") (EH X.K<|g1 vg):=Kq J a
def afP(a:X.calm=J):lh X (.builtin "any") (EH X.K<|g1 ID):=Kq U a
def P6:=gI λi j=>Y<|.int (if j>i then j else i)
def P5:=gI λi j=>Y<|.int (if j<i then j else i)
def afl(c:X.calm=J):lh X (.builtin "max") (EH X.K<|g2 P6):=Qz λa s k N x y h Q O d e z T r np h1 b g G=>by obtain⟨i,j,w,rfl,rfl,f,rfl⟩:=zJ g;cases f;exact agc c a s k N [x,y] h Q T r ⟨i,j,by rw[jx h1,jx b],G.int⟩
def aeW(c:X.calm=J):lh X (.builtin "min") (EH X.K<|g2 P5):=Qz λa s k N x y h Q O d e z T r np h1 b g G=>by obtain⟨i,j,w,rfl,rfl,f,rfl⟩:=zJ g;cases f;exact agb c a s k N [x,y] h Q T r ⟨i,j,by rw[jx h1,jx b],G.int⟩
def Az{lo:Int}{n:Nat}{a:nE}(h:i6 (λi v=>∃t,v=.int (lo+(i:Int)*1) t) a n):Vals ((au n).map λ(k:Nat)=>V.int<|lo+k) a.toList:=by
 have key:∀(l:jS)(m:Nat),(∀(j:Nat) v,l[j]?=Y v->∃t,v=.int (lo+((m+j:Nat):Int)) t)->Vals ((bM m<|IX l).map λ(k:Nat)=>V.int<|lo+k) l:=by
  intro l
  induction l with
  |nil=>intro m _;exact .nil
  |cons v l d=>intro m hv;obtain⟨t,e⟩:=hv 0 v C;refine .cons ⟨t,by simpa using e⟩<|d (m+1) λj w c=>?_;obtain⟨f,b⟩:=hv (j+1) w (by simpa using c);exact⟨f,by rw[b];congr 2;first|done|lia⟩
 have:=key a.toList 0 λj v hv=>by obtain⟨t,e⟩:=h.2 j v (by simpa using hv);exact⟨t,by rw[e];congr 1⟩
 rw[lS,h.1,<-List.range_eq_range']at this;exact this
def aeQ{K T}(lo:Int)(n:Nat):YP K T O (jo lo n) ((au n).map λ(k:Nat)=>V.int<|lo+k):=by
 unfold jo
 induction(au n)with
 |nil=>exact YP.nil
 |cons k l a=>exact YP.cons Rep.mkInt a
end
def BR(lo a:Int):Prop:= -(2^62)<=lo/\lo<2^62/\ -(2^62)<=a/\a<2^62/\(a-lo).toNat<=2^24
instance(lo hi:Int):Decidable (BR lo hi):=by unfold BR;infer_instance
noncomputable def Ia(lo a:Int):List V:=(au (a-lo).toNat).map λ(k:Nat)=>V.int<|lo+k
def BR.small{lo a:Int}(h:BR lo a):sn lo a 1=J:=small_one h.1 h.2.1 h.2.2.1 h.2.2.2.1
def JJ(lo a:Int):eJ lo a 1=((a-lo).toNat:Nat):=by rw[xc];split<;>lia
section
variable {c:jh}{w:iY}{A:iU}{E:jr}{s:iB}
def ae8{Q:List iI->iB->Prop}{r:iw}{lo n:Int}{t u v:oC}(T:A.handled=I)(x:z8 s.heap r lo n 1 t u v)(ok:BR lo n)
  (N:∀(g:jb) k (d:nE),(∀b o,s.heap.get? b=Y o->g.get? b=Y o)->i6 (λi v=>∃t,v=.int (lo+(i:Int)*1) t) d (n-lo).toNat->Q d.toList {s with heap:=g,toks:=k}):
  af (am c w) A (fx<|.ref r) Q E s:=by
 unfold fx;refine iz<|G5<|sH F.entry_proto_collect ?_;rw[rN F.plain_proto_collect _];refine iz (m:=p8 [])<|nq ?_;refine iJ ⟨vV F.plain_list_iadd _,sH F.entry_list_iadd ?_⟩;rw[rN F.plain_list_iadd _];have z:=kF s.heap (o:=({cls:=.type "list",data:=.seq ([]:List iI).toArray}:el)) C
 let R:io->iB->Prop:=λr j=>∃(g:jb)(k:Nat)(d:nE)(l:Nat),r=.ok (.ret<|.ref s.heap.objs.size)/\j={s with heap:=g,toks:=k}/\(∀b o,s.heap.get? b=Y o->g.get? b=Y o)/\
  g.get? s.heap.objs.size=Y {cls:=.type "list",dict:=I,data:=.seq d l,slots:= #[]}/\i6 (λi v=>∃t,v=.int (lo+(i:Int)*1) t) d (n-lo).toNat
 have fin:∀{r j},R r j->∃v,r=.ok (.ret v)/\af (am c w) A (match v with
   |Value.ref a=>do
    match(<-load a).data with
     |Data.seq xs _=>pure xs.toList
     |_=>lf "internal:collect"
   |_=>lf "internal:collect") Q E j:=λ{r j} O=>by
  obtain⟨g,k,d,l,rfl,rfl,hk,p,y⟩:=O;exact⟨_,rfl,iz (m:=load s.heap.objs.size)<|DG p<|iJ<|N g k d hk y⟩
 refine nQ (wpAny_extend_range (A:=A) (R:=R) (s:={s with heap:=s.heap.push {cls:=.type "list",data:=.seq ([]:List iI).toArray}}) T (jX _ x) ok.small (JJ lo n) ok.2.2.2.2 _ _ 0 z λg k B l hk p y=>⟨g,k,B,l,rfl,rfl,λb o e=>hk b o (kz<|kH e)<|jX _ e,p,y⟩) (λf j h=>?_) λe j h=>?_
 .cases f with
  |done f=>obtain⟨v,hv,q⟩:=fin h;cases hv;exact q
  |again l=>exact⟨h.1,ql h.2 λr L x=>by obtain⟨v,rfl,q⟩:=fin x;exact q⟩
 obtain⟨v,hv,_⟩:=fin h;cases hv
def ad8{Q₁:jr}{r:iw}{lo g:Int}{t u v:oC}(p:A.handled=I)(l:z8 s.heap r lo g 1 t u v)(ok:BR lo g)
  (h:∀(d:jb) k (a:nE),(∀b o,s.heap.get? b=Y o->d.get? b=Y o)->i6 (λi v=>∃t,v=.int (lo+(i:Int)*1) t) a (g-lo).toNat->Q₁ (.ref d.objs.size) {s with heap:=d.push {cls:=.type "tuple",data:=.seq a},toks:=k}):
  b4 (am c w) A (.call (.builtin "tuple.__new__") ⟨[.type "tuple",.ref r],[]⟩) (k9 Q₁ E) s:=by
 refine tR ?_;refine iz (m:=cM "tuple.__new__" _)<|vw (F.newCall_tuple_1 _)<|iJ ⟨vV F.plain_tuple_new _,sH F.entry_tuple_new ?_⟩;rw[rN F.plain_tuple_new _];have z:=sub_tuple_self;have j:=init_tuple_lookup;have q:=madeHere_tuple;have y:s.TypeIs (.ref r) "range":=⟨_,l,rfl⟩
 have f:A.in1.handled=I:=p
 wp_walk using tZ y,ae8 f l ok
 intro d k a hk n;have x:a.size<=sizeLine:=by rw[n.1,kD];have:=ok.2.2.2.2;omega
 refine iz (m:=aH a.toList.toArray) ?_;unfold aH;refine nq ?_ (by show a.toList.toArray.size<=sizeLine;simpa using x);refine iJ ?_;have e:a.toList.toArray=a:=by simp
 rw[e];exact h d k a hk n
def ady{Q:jr}{r:iw}{lo g:Int}{t u v:oC}(k:A.handled=I)(m:z8 s.heap r lo g 1 t u v)(ok:BR lo g)
  (h:∀(f:jb) j (e:nE),(∀b o,s.heap.get? b=Y o->f.get? b=Y o)->i6 (λi v=>∃t,v=.int (lo+(i:Int)*1) t) e (g-lo).toNat->Q (.ref f.objs.size) {s with heap:=f.push {cls:=.type "tuple",data:=.seq e},toks:=j}):
  af (am c w) A (call (.type "tuple") [.ref r]) Q E s:=by
 refine callType_codes (Q₁:=λobj a=>a.TypeIs obj "tuple"/\Q obj a) Rr (F.typeCall_tuple_1 _) MP
  (ad8 k m ok λf j e l n=>⟨⟨_,kF _ rfl,rfl⟩,h f j e l n⟩) λobj a d=>?_
 exact⟨d.1,F.args_object_init_2 obj _,object_init_meets Rr.init.lookup Rr.made (by decide) c w A.in1 _ a ⟨d.1,rfl,d.2⟩⟩
end
section
variable {X:Cx}
def CU:lh X (.type "range") (λc O Q=>∃i j,c=[.int i,.int j]/\∀r,O r=I->Q (.ref r) (upd O r<|.rng i j)):=by intro a s k O c g Q T r h;obtain⟨i,j,rfl,h⟩:=h;obtain⟨u,f,rfl,⟨t,rfl⟩,⟨d,rfl⟩⟩:=Fc r;exact z0 ⟨.ref _,_,T.laid (o:=.rng i j) (λb o e=>jX _ e) (jT _) ⟨_,_,_,kF _ rfl⟩,rfl,h _ T.fresh⟩
def adz(i:X.calm=J):lh X (.type "list") (λf O Q=>∃r lo a,f=[.ref r]/\O r=Y (.rng lo a)/\BR lo a/\∀l,O l=I->Q (.ref l) (upd O l<|.lst<|Ia lo a)):=by intro d s q O f p Q T g h;obtain⟨r,lo,a,rfl,j,ok,h⟩:=h;obtain⟨u,rfl,k⟩:=qZ g;cases k;obtain⟨t,u,v,er⟩:=T.hok r _ j;refine call_list_range (A:=X.A) (T.ok.hd i) er ok.small (JJ lo a) ok.2.2.2.2 λn o b c kp e items=>?_;have m:=Az items;refine⟨.ref _,_,T.laid kp (jT _) (show T2 X.prog X.w _ _ _ (.lst<|Ia lo a)from⟨?_,b.toList,c,m,by simpa using e⟩),rfl,h _ T.fresh⟩;have:=ok.2.2.2.2;simp only[Ia,jU,eL,kD];omega
def adU(k:X.calm=J):lh X (.type "tuple") (λi O Q=>∃r lo c,i=[.ref r]/\O r=Y (.rng lo c)/\BR lo c/\∀l,O l=I->Q (.ref l) (upd O l<|.tup<|Ia lo c)):=by intro d s x O i y Q T j h;obtain⟨r,lo,c,rfl,m,ok,h⟩:=h;obtain⟨u,rfl,n⟩:=qZ j;cases n;obtain⟨t,u,v,er⟩:=T.hok r _ m;refine ady (A:=X.A) (T.ok.hd k) er ok λg q a kp items=>?_;have p:=Az items;have f:Inv X d x O {s with heap:=g,toks:=q}:=T.kept kp;refine⟨.ref _,_,f.laid (λb o e=>jX _ e) (jT _) (show T2 X.prog X.w _ _ _ (.tup<|Ia lo c)from⟨?_,a.toList,p,by have:=DQ.new g a;simpa using this⟩),rfl,h _ f.fresh⟩;have:=ok.2.2.2.2;simp only[Ia,jU,eL,kD];omega
def Je(mk:List D->D)(o:Bool):List D->Option (D×Bool)
 |[.int j]=>if BR 0 j then Y (mk<|jo 0 j.toNat,o)else I
 |[.int i,.int j]=>if BR i j then Y (mk<|jo i (j-i).toNat,o)else I
 |_=>I
def JK{K T}(lo a:Int):YP K T O (jo lo (a-lo).toNat) (Ia lo a):=aeQ lo _
variable {a b:iM}{n m:FO}{p g d f:bA}
def Fe(h:upd T r o l=I):T l=I:=by
 by_cases e:l=r
 .subst e;rw[jk]at h;cases h
 rwa [jq e]at h
def C2{K:jd}{T o:SS}{s:L2.St}{r c:Dn}{Q l:Hp}{os:List A1}{k:List V}{e:List D}(B:Ops K T s r Q os k c l o)(h:wd c os=Y e){is:iF}(hd:e=is.map .int):k=is.map .int:=by
 obtain⟨h1,t⟩:=pQ h;apply ym;intro j;by_cases q:j<IX is
 .rw[uI B h (j:=j) (i:=is[j])<|by rw[hd];simp];simp[q]
 have u:=B.len;subst hd;simp at h1;rw[gi<|by lia,gi<|by simp;lia]
def V6{T:String}{z:aE}{mk:List D->D}{o:Bool}(hT:(T="list"/\mk=.lst/\o=IN)\/(T="tuple"/\mk=.tup/\o=IP))(U:X.calm=IN)(Y:Gl X z)(hm:X.mg z=Ix)(hv:aF z=Go (.type T))(hn:z≠"__name__")(k4:(z==("__debug__":aE))=IP)
  (J:Gl X "range")(G:X.mg "range"=Ix)(N:PA X [a,b] (tA X.K [n,m]))
  (s1:aj [.Call (.Name "range" g) [a,b] [] f] X.env=(IP,bh (.Call (.Name "range" g) [a,b] [] f) X.env)::aj [] X.env)(s2:aj [a,b] X.env=(IP,bh a X.env)::aj [b] X.env)
  (M:(aO d<|aj [] X.env).any (·.1)=IP)(O:(aO f<|aj [b] X.env).any (·.1)=IP):
  PX X (.Call (.Name z p) [.Call (.Name "range" g) [a,b] [] f] [] d) (jc (Je mk o) [n,m]):=by
 have t:∀{w c:Dn}{os:List A1},lg [n,m] w=Go (os,c)->os.length=2:=λ{w c os} h1=>by unfold lg at h1;obtain⟨p,q1,h1⟩:=iE h1;obtain⟨q,v,h1⟩:=iE h1;unfold lg at v;obtain⟨p3,q3,v⟩:=iE v;obtain⟨q4,F,v⟩:=iE v;unfold lg at F;cases F;obtain⟨rfl,rfl⟩:=jg h1;cases v;rfl
 rcases hT with⟨rfl,rfl,rfl⟩|⟨rfl,rfl,rfl⟩
 .refine PX.imp (rn (adz U) Y hm hv (pv (rn CU J G DE N (by decide) (by decide) s2 O) ug s1) hn k4 s1 M) λZ H Q C=>?_;obtain⟨w,T,S,L,E,e,k⟩:=C;obtain⟨os,c,h1,e⟩:=iK e;obtain⟨R,y,e⟩:=iE e;obtain⟨W,h,e⟩:=iE e;obtain⟨rfl,rfl⟩:=jg e;refine⟨w,T,os,c,E,h1,λV x P B=>?_⟩;unfold Je at h;split at h
  .obtain⟨s,_⟩:=pQ y;have:=t h1;simp at s;omega
  .rename_i i j;obtain⟨ok,rfl⟩:=jy h;refine⟨i,j,C2 B y (is:=[i,j]) IR,λr A=>⟨r,i,j,rfl,jk,ok,λl s=>?_⟩⟩;have I:∀a u,x a=Go u->upd (upd x r<|.rng i j) l (.lst<|Ia i j) a=Go u:=λa u e=>md s a u<|md A a u e;exact(B.done k) l _ (Fe s) I ⟨Ia i j,jk,JK i j⟩
  cases h
 refine PX.imp (rn (adU U) Y hm hv (pv (rn CU J G DE N (by decide) (by decide) s2 O) ug s1) hn k4 s1 M) λZ H Q C=>?_;obtain⟨w,T,S,L,E,e,k⟩:=C;obtain⟨os,c,h1,e⟩:=iK e;obtain⟨R,y,e⟩:=iE e;obtain⟨W,h,e⟩:=iE e;obtain⟨rfl,rfl⟩:=jg e;refine⟨w,T,os,c,E,h1,λV x P B=>?_⟩;unfold Je at h;split at h
 .obtain⟨s,_⟩:=pQ y;have:=t h1;simp at s;omega
 .rename_i i j;obtain⟨ok,rfl⟩:=jy h;refine⟨i,j,C2 B y (is:=[i,j]) IR,λr A=>⟨r,i,j,rfl,jk,ok,λl s=>?_⟩⟩;have I:∀a u,x a=Go u->upd (upd x r<|.rng i j) l (.tup<|Ia i j) a=Go u:=λa u e=>md s a u<|md A a u e;exact(B.done k) _ _ I (Rep.HU ⟨jk,B.np<|L3<|Fe s⟩<|JK i j)
 cases h
end
def Src(h:jb)(it l:iw)(i:Nat)(a:nE):Prop:=(h.IsListIter it l i/\h.IsList l a)\/(h.IsTupleIter it l i/\h.IsTuple l a)
section
variable {prog:jh}{w:iY}{A:iU}{E:jr}{s:iB}{it l:iw}{i:Nat}{xs:nE}
def Src.ne(x:Src h it l i xs):l≠it:=by intro e;subst e;rcases x with⟨⟨o,h1,b,a⟩,c,g1,g2,n,g3⟩|⟨⟨o,h1,b,a⟩,c,g1,g2,n,g3⟩<;>(rw[h1]at g1;cases g1;rw[a]at g3;cases g3)
def Src.lt(x:Src h it l i xs):it<h.objs.size/\l<h.objs.size:=by rcases x with⟨⟨o,h1,_⟩,a,g1,_⟩|⟨⟨o,h1,_⟩,a,g1,_⟩<;>exact⟨kH h1,kH g1⟩
def Src.keep(x:Src h it l i xs)(c:∀o,h.get? it=Y o->h'.get? it=Y o)(d:∀o,h.get? l=Y o->h'.get? l=Y o):Src h' it l i xs:=by
 rcases x with⟨⟨o,h1,r⟩,a,g1,b⟩|⟨⟨o,h1,r⟩,a,g1,b⟩
 .exact .inl ⟨⟨o,c _ h1,r⟩,a,d _ g1,b⟩
 exact .inr ⟨⟨o,c _ h1,r⟩,a,d _ g1,b⟩
def Cj{Q:jr}(c:s.heap.IsTupleIter it l i)(q:s.heap.IsTuple l xs)(n:∀x,xs[i]?=Y x->∀b,b.IsTupleIter it l (i+1)->aL it s.heap b->Q x {s with heap:=b})
  (g:xs[i]?=I->A.handled=I/\∀b e,ee it s.heap b->(∃o,b.get? e=Y o/\o.cls=.type "StopIteration")->E (.ref e) {s with heap:=b}):af (am prog w) A (aW<|.ref it) Q E s:=by
 obtain⟨o,d,p,hd⟩:=id c;obtain⟨t,k,_,r,j⟩:=q;unfold aW;refine iz<|wM (name:=bz "__next__") c.typeIs MO<|oF MO c.typeIs F.entry_tuple_iterator_next ?_<|F.args_tuple_iterator_next_1 _;refine iz (m:=gC (.ref it) 0)<|oo d hd (x:=.ref l) C ?_;show af _ _ (if(ca l==ay)=J then _ else _) _ _ s;rw[je (by show ¬(ca l==ay)=J;exact kY)];refine iz (m:=gC (.ref it) 1)<|oo d hd (x:=.int i 0) C ?_;refine iz (m:=seqItems?<|.ref l)<|tP k j ?_
 cases f:xs[i]? with
 |some x=>simp only[yq,f];refine iz<|vU d hd (by simp)<|iJ ⟨x,rfl,iJ<|n x f _ ⟨_,tY _ d (Dt<|vp hd _),(Ds ..).trans p,?_⟩ (sG ..)⟩;rw[vp hd];simp[cE]
 |none=>
  obtain⟨h,g⟩:=g f;simp only[yq,f];refine iz<|vz<|iz<|vU d hd (by simp) ?_;refine iz (m:=hH (.type "StopIteration") []) ?_;simp -iota only[hH];refine iz<|nq (iz (m:=f3 _ _)<|vw (a:=ay) (by first|rfl|(simp -iota;rfl)) ?_) (by size_fits);refine nq ?_ (by size_fits);simp -iota only[wl];refine iz<|G4 ?_
  first|rw[show A.in1.handled=I from h]|rw[h]
  exact iz<|iJ<|G3<|g _ _ (((sG ..).extBut.push _).push _) ⟨_,kF _ rfl,rfl⟩
def Src.item{x:iI}{Q:jr}(st:Src s.heap it l i xs)(g:xs[i]?=Y x)(h:∀c,Src c it l (i+1) xs->aL it s.heap c->Q x {s with heap:=c}):
  af (am prog w) A (aW<|.ref it) Q E s:=by
 have ne:=st.ne;rcases st with⟨a,b⟩|⟨a,b⟩
 .exact wpAny_nextOf_list_item a b g λc f d=>h c (.inl ⟨f,b.extBut d.extBut ne⟩) d
 exact Cj a b (λj e c f d=>by rw[g]at e;cases e;exact h c (.inr ⟨f,b.extBut d.extBut ne⟩) d) λe=>by rw[g]at e;cases e
def Src.stop{Q:jr}(f:A.handled=I)(st:Src s.heap it l i xs)(g:xs[i]?=I)
  (d:∀c e,ee it s.heap c->(∃o,c.get? e=Y o/\o.cls=.type "StopIteration")->E (.ref e) {s with heap:=c}):af (am prog w) A (aW<|.ref it) Q E s:=by
 rcases st with⟨a,b⟩|⟨a,b⟩
 .exact wpAny_nextOf_list_end f a b g d
 exact Cj a b (λx e=>by rw[g]at e;cases e) λ_=>⟨f,d⟩
def Src.new(a:s.heap.IsList l xs\/s.heap.IsTuple l xs)(d:∀c,Src c s.heap.objs.size l 0 xs->c.objs.size=s.heap.objs.size+1->(∀b o,s.heap.get? b=Y o->c.get? b=Y o)->Q (.ref s.heap.objs.size) {s with heap:=c}):
  af (am prog w) A (db<|.ref l) Q E s:=by
 rcases a with a|a
 .exact Aj a (d _ (.inl ⟨⟨_,kF _ rfl,rfl,rfl⟩,a.push _⟩) (oX ..) λb o e=>jX _ e)
 exact Hu a (d _ (.inr ⟨⟨_,kF _ rfl,rfl,rfl⟩,a.push _⟩) (oX ..) λb o e=>jX _ e)
end
section
variable {f:jh}{w:iY}{A:iU}{E:jr}{s:iB}{e it l:iw}{i:Nat}{c:Int}{h:nE}
def af6{x old:iI}{Q:jr}(he:eh s.heap e it c old)(st:Src s.heap it l i h)(hx:h[i]?=Go x)(U:e≠it)(dJ:e≠l)
  (hQ:∀L,gV L e it (c+1) x s.heap.objs.size->Src L it l (i+1) h->L.get? s.heap.objs.size=Go {cls:=.type "tuple",data:=.seq #[.int c s.toks,x]}->L.objs.size=s.heap.objs.size+1->
   (∀b o,b≠e->b≠it->s.heap.get? b=Go o->L.get? b=Go o)->Q (.ref s.heap.objs.size) {s with heap:=L,toks:=s.toks+1}):
  af (am f w) A (bb.«enumerate.__next__» ⟨[.ref e],[]⟩) (λfin s'=>∃v,fin=.done (.ret v)/\Q v s') E s:=by
 obtain⟨C,g,d,k,os⟩:=s;refine iz (m:=gC (.ref e) 2)<|oo he IR (x:=.ref it) IR<|iz<|st.item hx λj I G=>?_;replace G:aL it C j:=G;have R:eh j e it c old:=(G.2 e U).trans he;refine iz (m:=gC (.ref e) 3)<|oo (s:=⟨j,g,d,k,os⟩) R IR (x:=cE c) IR ?_;refine iz (m:=gC (.ref e) 4)<|oo (s:=⟨j,g,d,k,os⟩) R IR (x:=.none) IR ?_;refine iz (m:=mkInt c)<|wpAny_mkInt (s:=⟨j,g,d,k,os⟩) ?_;refine iz (m:=lw (.ref e) 3<|cE<|c+1)<|vo (s:=⟨j,g,d,k+1,os⟩) R (by simp) λp P T=>?_;replace T:aL e j p:=T;replace P:eh p e it (c+1) old:=P;refine iz (m:=lw (.ref e) 4 .none)<|vo (s:=⟨p,g,d,k+1,os⟩) P (by simp) λa K O=>?_;replace O:aL e p a:=O;replace K:eh a e it (c+1) old:=K;refine iz (m:=newTuple [.int c k,x])<|Dr (s:=⟨a,g,d,k+1,os⟩) ?_;have H:a.objs.size=C.objs.size:=by rw[O.1,T.1,G.1]
 have N:eh (a.push {cls:=.type "tuple",data:=.seq #[.int c k,x]}) e it (c+1) old:=jX _ K;have W:e<C.objs.size:=kH he;have y:(a.push {cls:=.type "tuple",data:=.seq #[.int c k,x]}).get? C.objs.size=Go {cls:=.type "tuple",data:=.seq #[.int c k,x]}:=by rw[<-H];exact kF _ rfl
 have up:∀b o,b≠e->b≠it->C.get? b=Go o->(a.push {cls:=.type "tuple",data:=.seq #[.int c k,x]}).get? b=Go o:=λb o B D q=>jX _ (O.extBut b o B<|T.extBut b o B<|G.extBut b o D q);have z:Src (a.push {cls:=.type "tuple",data:=.seq #[.int c k,x]}) it l (i+1) h:=I.keep (λo q=>jX _ (O.extBut _ o U.symm (T.extBut _ o U.symm q))) λo q=>jX _ (O.extBut _ o dJ.symm (T.extBut _ o dJ.symm q));have X:(a.push {cls:=.type "tuple",data:=.seq #[.int c k,x]}).objs.size=C.objs.size+1:=by rw[oX,H]
 rw[H];generalize (a.push {cls:=.type "tuple",data:=.seq #[.int c k,x]})=n at N y up z X;refine iz (m:=bx<|.ref e) ?_;unfold bx;refine iz<|oo (s:=⟨n,g,d,k+1,os⟩) N IR (x:=.none) IR<|iJ ?_;simp -iota;refine iz<|vz<|iz<|oo (s:=⟨n,g,d,k+1,os⟩) N IR (x:=old) IR<|iz<|vo (s:=⟨n,g,d,k+1,os⟩) N (by simp) λr F Y=>?_;replace Y:aL e n r:=Y;replace F:eh r e it (c+1) x:=F;refine iz (m:=bw (.ref e)<|.ref C.objs.size) ?_;unfold bw;refine iz<|vo (s:=⟨r,g,d,k+1,os⟩) F (by simp) λt V M=>?_;replace M:aL e r t:=M;replace V:gV t e it (c+1) x C.objs.size:=V;refine vo (s:=⟨t,g,d,k+1,os⟩) V (by simp) λu S J=>?_;replace J:aL e t u:=J;replace S:gV u e it (c+1) x C.objs.size:=S;have all:∀b o,b≠e->n.get? b=Go o->u.get? b=Go o:=λb o B q=>J.extBut b o B<|M.extBut b o B<|Y.extBut b o B q;refine iz<|Dq<|iJ ⟨_,rfl,hQ u S (z.keep (λo q=>all _ o U.symm q) λo q=>all _ o dJ.symm q) (all _ _ (qm W) y) ?_ λb o B D q=>all b o B<|up b o B D q⟩;rw[J.1,M.1,Y.1,X]
def yC{x old:iI}{Q:ET}(m:eh s.heap e it c old)(st:Src s.heap it l i h)(r:h[i]?=Y x)(p:e≠it)(n:e≠l)
  (q:∀g,gV g e it (c+1) x s.heap.objs.size->Src g it l (i+1) h->g.get? s.heap.objs.size=Y {cls:=.type "tuple",data:=.seq #[.int c s.toks,x]}->g.objs.size=s.heap.objs.size+1->
   (∀b o,b≠e->b≠it->s.heap.get? b=Y o->g.get? b=Y o)->Q (Y<|.ref s.heap.objs.size) {s with heap:=g,toks:=s.toks+1}):
  af (am f w) A (cJ<|.ref e) Q E s:=by
 have j:s.TypeIs (.ref e) "enumerate":=⟨_,m,rfl⟩
 unfold cJ
 exact iz (vT (wM (name:=bz "__next__") j Dp (oF Dp j MN
  (af6 m st r p n λg a b c d k=>iJ<|q g a b c d k) (MM _))))
def zo{old:iI}{Q:ET}(p:A.handled=I)(g:eh s.heap e it c old)(st:Src s.heap it l i h)(r:h[i]?=I)
  (k:∀a,ee it s.heap a->Q I {s with heap:=a}):af (am f w) A (cJ<|.ref e) Q E s:=by
 have d:s.TypeIs (.ref e) "enumerate":=⟨_,g,rfl⟩
 unfold cJ;refine iz<|vT<|wM (name:=bz "__next__") d Dp<|oF Dp d MN ?_<|MM _;refine iz (m:=gC (.ref e) 2)<|oo g C (x:=.ref it) C<|iz<|st.stop p r ?_;rintro a x j ⟨o,q,n⟩;exact iz<|yk (T:="StopIteration") (b:=J) ⟨o,q,n⟩ Dm<|iJ<|k _ j
end
section
variable {X:Cx}{d:jw}{g:L2.St}{H:Hp}{s:iB}{f:jb}
def Cg{t':Nat}{ch:la}{a:iw}{o:HO}(N:Inv X d g H s)(j:∀b∈ch,uG X d H b)(k:∀b u,b∉ch->s.heap.get? b=Y u->f.get? b=Y u)(p:s.heap.objs.size<=a)(new:T2 X.prog X.w (upd H a o) f a o):
  Inv X d g (upd H a o) {s with heap:=f,toks:=t'}:=by
 have L:=N.hok.fresh p;have l:∀b u,H b=Y u->b∉ch:=λb u e z=>by have:=(j b z).1;rw[this]at e;cases e
 have up:∀b u,H b=Y u->upd H a o b=Y u:=λb u e=>by rw[jq<|mK e L];exact e
 have M:∀b u,s.heap.get? b=Y u->H b=I->upd H a o b=I:=λb u e n=>by rw[jq λz=>by subst z;exact absurd (kH e)<|M3.mpr p];exact n
 refine N.step (g':=s.gens) (d':=s.drawn) (ch:=ch) (λb i=>?_) (λb u _ _ h e _=>k b u h e) (λb u _ _ h e _=>⟨u.slots,k b u h e⟩) (λb u _ e n=>M b u e n)
  (λb u h e=>⟨u,k b u h e⟩) (λb Q e=>up b _ e) (λb _ _ e=>up b _ e) (λb G e=>⟨#[],by rw[up b _ e];simp⟩) (λm E=>?_) (λb u e=>?_) N.bare
 .obtain⟨_,f1,T,y,A,B⟩:=j b i;exact⟨y,f1,A,B⟩
 .obtain⟨u,x,t,O,r⟩:=E;exact⟨u,x,t,k _ u (λz=>(j _ z).2.1 C) O,r⟩
 by_cases i:b=a
 .subst i;rw[jk]at e;cases e;exact new
 rw[jq i]at e;refine(N.hok b u e).A6 (λc v h q=>k c v ?_ q) (λc q=>up c _ q) (λc Q q=>up c _ q) λc _ _ q=>up c _ q;rcases h with z|z
 .rw[z];exact l b u e
 exact l c _ z
def Ci{t':Nat}{ch:la}(T:Inv X d g H s)(h:∀b∈ch,uG X d H b)(k:∀b u,b∉ch->s.heap.get? b=Y u->f.get? b=Y u):Inv X d g H {s with heap:=f,toks:=t'}:=by
 have i:∀b u,H b=Y u->b∉ch:=λb u e z=>by have:=(h b z).1;rw[this]at e;cases e
 refine T.step (g':=s.gens) (d':=s.drawn) (ch:=ch) (λb w=>?_) (λb u _ _ a e _=>k b u a e) (λb u _ _ a e _=>⟨u.slots,k b u a e⟩) (λb u _ e n=>n)
  (λb u a e=>⟨u,k b u a e⟩) (λb A e=>e) (λb _ _ e=>e) (λb Q e=>⟨#[],by rw[e];simp⟩) (λm x=>?_) (λb u e=>?_) T.bare
 .obtain⟨_,f1,B,o,p,t⟩:=h b w;exact⟨o,f1,p,t⟩
 .obtain⟨u,l,j,y,r⟩:=x;exact⟨u,l,j,k _ u (λz=>(h _ z).2.1 C) y,r⟩
 refine(T.hok b u e).A6 (λc v a q=>k c v ?_ q) (λc q=>q) λc A q=>q;rcases a with z|z
 .rw[z];exact i b u e
 exact i c _ z
end
def DZ(b:Bool)(K:jd)(T:Hp)(l:iw)(a:List V):Prop:=if b=J then Bx K T l a else EC K T l a
def HL(b:Bool)(h:jb)(it l:iw)(i:Nat):Prop:=if b=J then h.IsListIter it l i else h.IsTupleIter it l i
def HL.keep(x:HL b h it l i)(k:∀o,h.get? it=Y o->h'.get? it=Y o):HL b h' it l i:=by
 cases b
 .exact PySem.Heap.IsTupleIter.at (show h.IsTupleIter it l i from x) k
 exact PySem.Heap.IsListIter.at (show h.IsListIter it l i from x) k
def HL.obj(x:HL b h it l i):∃o,h.get? it=Y o/\∀v,o.data≠ .cell v:=by
 cases b<;>(obtain⟨o,e,c,d⟩:=x;exact⟨o,e,λv z=>by rw[d]at z;cases z⟩)
section
variable {X:Cx}{d:jw}{e:L2.St}{H:Hp}{s:iB}
def uK(T:Inv X d e H s)(q:DZ b X.K H l xs)(t:HL b s.heap it l i):∃a,Vals xs a/\Src s.heap it l i a.toArray:=by
 cases b
 .obtain⟨a,v,p,_⟩:=T.tuple q;exact⟨a,v,.inr ⟨t,p⟩⟩
 obtain⟨a,v,p,_⟩:=T.list q;exact⟨a,v,.inl ⟨t,p.isList⟩⟩
def DN(T:Inv X d e H s)(q:DZ b X.K H l xs)(a:DZ b X.K H l c):xs=c:=by
 cases b
 .exact T.BI q a
 exact T.BY q a
def Iu(t:HL b h it l i)(k:Src h it l i xs)(n:Src j it l p xs)(m:∀o,h.get? l=Y o->j.get? l=Y o):HL b j it l p:=by
 cases b
 .rcases n with⟨a,c⟩|⟨a,_⟩
  .rcases k with⟨⟨o,h1,f,_⟩,_⟩|⟨_,o,h1,f,_⟩
   .obtain⟨g,g1,g2,_⟩:=t;rw[h1]at g1;cases g1;rw[f]at g2;injection g2 with g2;exact absurd g2 (by decide)
   obtain⟨g,g1,g2,_⟩:=c;rw[m _ h1]at g1;cases g1;rw[f]at g2;injection g2 with g2;exact absurd g2 (by decide)
  exact a
 rcases n with⟨a,_⟩|⟨a,c⟩
 .exact a
 rcases k with⟨_,o,h1,f,_⟩|⟨⟨o,h1,f,_⟩,_⟩
 .obtain⟨g,g1,g2,_⟩:=c;rw[m _ h1]at g1;cases g1;rw[f]at g2;injection g2 with g2;exact absurd g2 (by decide)
 obtain⟨g,g1,g2,_⟩:=t;rw[h1]at g1;cases g1;rw[f]at g2;injection g2 with g2;exact absurd g2 (by decide)
end
def LZ(b:Bool)(K:jd)(l:iw)(c:Int):It:=⟨λi Q=>∃a x,DZ b K Q l a/\a[i]?=Y x,
 λi Q x d=>∃(T:iw)(y:V),x=.ref T/\Q T=I/\d=upd Q T (.tup [.int<|c+i,y])/\∀a,DZ b K Q l a->a[i]?=Y y,λi Q=>∃a,DZ b K Q l a/\(IX a)<=i⟩
def afB{P:jh}{w:iY}{K:jd}{m:kI}{k1}{Y:bA}(b:Bool)(e it l:iw)(c:Int)(h9:e≠it):
  Turn P w K (.Tuple m k1 Y) (LZ b K l c) [e,it] e (λi h=>(∃old,eh h e it (c+i) old)/\HL b h it l i) where
 mem:=by simp
 obj:=λi h st a B=>by
  obtain⟨⟨old,f⟩,st⟩:=st;have y3:a=e\/a=it:=by simpa using B
  rcases y3 with rfl|rfl
  .exact⟨_,f,λv z=>by have z':gj _=eU v:=z;cases z'⟩
  exact st.obj
 keep:=λi h h' st k=>by obtain⟨⟨old,f⟩,st⟩:=st;exact⟨⟨old,k e (by simp) _ f⟩,st.keep λo q=>k it (by simp) o q⟩
 item:=by
  intro X G M T S i g s Z H E I r st J;subst G M T;obtain⟨⟨old,f⟩,st⟩:=st;obtain⟨xs,x,C,N⟩:=J;obtain⟨U,D,d⟩:=uK I C st;obtain⟨u,hu,ru⟩:=D.get N
  have Q:e≠l:=λz=>by subst z;have V:=(r e<|by simp).1;rcases d with⟨_,o,h1,A,_⟩|⟨_,o,h1,A,_⟩<;>(have F:s.heap.get? e=_:=f;rw[h1]at F;cases F;injection A with A;exact absurd A<|by decide)
  refine yC f d (x:=u) (by simpa using hu) h9 Q λh' ho t hT hsz kp=>⟨.ref s.heap.objs.size,rfl,?_⟩
  refine wpAny_letOwnedTupleGo_enum ho λj n O=>?_;have p:e<s.heap.objs.size:=kH f
  have R:∀a o,a∉[e,it]->s.heap.get? a=Go o->j.get? a=Go o:=λa o L q=>by have W:a≠e:=λz=>L (by simp[z]);have n2:a≠it:=λz=>L (by simp[z]);exact O.extBut a o W<|kp a o W n2 q
  have cU:j.get? s.heap.objs.size=Go {cls:=.type "tuple",data:=.seq #[.int (c+i) s.toks,u]}:=O.extBut _ _ (qm p) hT
  have I1:Inv X g Z (upd H s.heap.objs.size<|.tup [.int<|c+i,x]) {s with heap:=j,toks:=s.toks+1}:=
   Cg I r R (jT _) (show T2 X.prog X.w _ _ _ (.tup [.int<|c+i,x])from⟨by show 2<=sizeLine;decide,[.int (c+i) s.toks,u],.cons ⟨_,rfl⟩<|.cons ru .nil,_,cU,rfl,⟨0,rfl⟩,rfl⟩)
  have y:HL b j it l (i+1):=by refine Iu st d (t.keep (λo q=>O.extBut _ o h9.symm q) λo q=>O.extBut _ o Q.symm q) λo q=>R l o ?_ q;have:=d.ne;simp;exact⟨Q.symm,this⟩
  refine⟨.ref s.heap.objs.size,_,I1,rfl,⟨_,x,rfl,I.fresh,rfl,λys hy=>by rw[DN I hy C];exact N⟩,⟨⟨u,?_⟩,y⟩,λa B=>?_⟩
  .have e1:c+((i+1:Nat):Int)=c+i+1:=by lia
   show eh j e it (c+((i+1:Nat):Int)) u;rw[e1];exact n
  have V:=(r a B).1;rw[jq]
  .exact V
  intro z;have j7:a=e\/a=it:=by simpa using B
  rcases j7 with rfl|rfl
  .exact absurd z (kz p)
  exact absurd z (kz d.lt.1)
 done:=by intro X G M T S i g s Z H E I r st J;subst G M T;obtain⟨⟨old,f⟩,st⟩:=st;obtain⟨xs,C,N⟩:=J;obtain⟨U,D,d⟩:=uK I C st;have hl:=D.length;exact zo (I.ok.hd S) f d (by simp;lia) λh' eb=>⟨rfl,Ci (t':=s.toks) I r λa o L q=>eb a o (λz=>L<|by simp[z]) q⟩
 self:=λ_ _ _ _ _ st h=>by obtain⟨⟨old,f⟩,_⟩:=st;exact pp f h
def Av{K T}(q:FA b K T P a xs):DZ b K T a xs:=by
 cases b
 .exact q.t
 exact q.l
def Ly{K:jd}{P O:SS}{h:Hp}{a:iw}{g:List V}{l:List D}{b:Bool}{c:Int}(q:FA b K h P a g)(r:YP K h O l g)(w:∀a,P a->O a):
  IG K (LZ b K a c) (l.zipIdx.map λp=>.tup [.int<|c+p.2,p.1]) P O h:=by
 have sq:∀Hi,(∀a o,h a=Y o->¬P a->Hi a=Y o)->DZ b K Hi a g:=λHi f=>Av<|q.mono f λ_ z=>z;refine⟨λi d Hi hd f=>?_,λi Hi B f=>⟨g,sq Hi f,by rw[r.length];simpa using B⟩⟩;rw[kX]at hd;obtain⟨⟨Q,j⟩,h1,t⟩:=jB hd;rw[G7]at h1;obtain⟨G,u,v⟩:=jB h1;obtain⟨rfl,rfl⟩:=tu v;obtain⟨x,s,E⟩:=r.get u;refine⟨⟨g,x,sq Hi f,s⟩,λy N C=>?_⟩;obtain⟨T,z,rfl,m,rfl,k⟩:=C;have k:=k g<|sq Hi f;rw[s]at k;cases k;have ext:=md (o:=.tup [.int<|c+i,x]) m;refine⟨ext,λL h1 M=>?_⟩;subst t;refine Rep.HU ⟨jk,M T m⟩<|YP.cons ?_<|YP.cons (Rep.mono (λb o e n=>ext b o<|f b o e λz=>n<|w b z) (λb A z=>h1 b A z) E) YP.nil;simp;exact Rep.mkInt
open AutoSeq1 (wpAny_loadPart')
section
variable {f:jh}{w:iY}{A:iU}{E:jr}{s:iB}
def W7{T a:String}{self:iI}{rz:jS}{kw:List (aE×iI)}(h:n5 (.type T) "__init__"=pure (Y<|.builtin "object.__init__"))(i:Bind.madeBy (.type T)=pure (Y a))(e:(Y a !=Y "object.__new__")=J):
  l8 (bb.«object.__init__» ⟨self::rz,kw⟩) (λ_ R s=>s.TypeIs self T/\R (.ok<|.ret .none) s):=by
 refine Meets.of_wp λf w A R s d=>?_;obtain⟨g,c⟩:=d;by_cases b:(!rz.isEmpty||!kw.isEmpty)=J
 .unfold bb.«object.__init__»;simp only[b,nr]
  repeat (any_goals (first|assumption|wp_step))
  exact⟨_,rfl,c⟩
 unfold bb.«object.__init__»;simp only[b,mn];exact iJ ⟨_,rfl,c⟩
def afo{T b:String}{q:bb}{a:jS}{kw:List (aE×iI)}{S:PySem.Spec}{Q:jr}(i:TypeCalled T b "object.__init__")(C:(Y b !=Y "object.__new__")=J)(N:xt T ⟨a,kw⟩=pure ())
  (x:cM b ⟨.type T::a,kw⟩=pure ())(o:∀obj,f8 "object.__init__" ⟨obj::a,kw⟩)(j:lA v9 b=Y q)(g:l8 (q ⟨.type T::a,kw⟩) S)
  (h:S A.in1 (k9 (λobj d=>d.TypeIs obj T/\Q obj d) E) s):af (am f w) A (call (.type T) a kw) Q E s:=by
 obtain⟨c,M,u⟩:=i.mro;have n:=i.made;have G:=i.sub;refine yu<|tR ?_;show af _ _ (z7 (.type T) _) _ _ _;refine iJ ⟨G2 _ (by decide+kernel),sH F.entry_type_call ?_⟩;rw[G1 (G0 T a kw)<|units_type_call_type T a kw];have h1:=i.notType;have O:=i.canCreate
 repeat (any_goals (first|assumption|wp_step))
 refine ql (Dl i.plain j<|vw x<|g f w A.in1 _ s h) λr d p=>?_
 cases r with
 |error e=>exact p
 |ok z=>
  cases z with
  |ret obj=>
   obtain⟨t,v⟩:=p;have H:=i.init.lookup;have L:=i.init.bind obj
   repeat (any_goals (first|assumption|wp_step))
   have B:=W7 (self:=obj) (rz:=a) (kw:=kw) i.init.lookup i.made C;refine ql (Dl i.init.plain MP<|i.init.check _ _ _ _ _ _ _ _ t (o obj) (B f w A.in1 (k9 (λr k=>r=.none/\Q obj k) E) d ⟨t,rfl,v⟩)) λl k m=>?_
   cases l with
   |error e=>exact m
   |ok y=>
    cases y with
    |ret r=>
     obtain⟨rfl,v⟩:=m
     repeat (any_goals (first|assumption|wp_step))
    |_=>exact m.elim
  |_=>exact p.elim
def aep(a b:iI):xt "enumerate" ⟨[a],[("start",b)]⟩=pure ():=by kernel_rfl
def aeF(a b:iI):cM "enumerate.__new__" ⟨[.type "enumerate",a],[("start",b)]⟩=pure ():=by kernel_rfl
def aeq(o a b:iI):f8 "object.__init__" ⟨[o,a],[("start",b)]⟩:=by unfold f8;rw[signature?_of (id:="object.__init__") (n:=['_','_','t','i','n','i','_','_']) (o:=['t','c','e','j','b','o']) (by kernel_rfl) F.owner_object];kernel_rfl
noncomputable def uW(it:iw)(c:Int):Obj:={cls:=.type "enumerate",data:=.fields #[.none,.bool U,.ref it,cE c,.none,.none]}
def af5(l:iw)(i:nE)(c:Int)(t:oC)(k:bu c=J):l8 (bb.«enumerate.__new__» ⟨[.type "enumerate",.ref l],[("start",.int c t)]⟩) (λ_ R s=>(s.heap.IsList l i\/s.heap.IsTuple l i)/\
  ∀e,Src e s.heap.objs.size l 0 i->e.objs.size=s.heap.objs.size+1->(∀b o,s.heap.get? b=Y o->e.get? b=Y o)->R (.ok<|.ret<|.ref e.objs.size) {s with heap:=e.push (uW s.heap.objs.size c)}):=
 .of_wp λf w A R s h=>by
  obtain⟨m,g,d,p,os⟩:=s;obtain⟨j,h⟩:=h;have n:=sub_enumerate
  wp_walk
  refine wpAny_stack_any λst=>iJ ?_;generalize Builtin.SmallTypes.calledThroughType.match_1 _ _ _ _=b;cases b<;>(wp_walk using Src.new j;intro e a b c;wp_walk;exact⟨_,rfl,h e a b c⟩)
def afn(g:s.heap.IsList l xs\/s.heap.IsTuple l xs)(e:bu c=J)
  (h:∀d,Src d s.heap.objs.size l 0 xs->d.objs.size=s.heap.objs.size+1->(∀b o,s.heap.get? b=Y o->d.get? b=Y o)->Q (.ref d.objs.size) {s with heap:=d.push (uW s.heap.objs.size c)}):
  af (am f w) A (call (.type "enumerate") [.ref l] [("start",.int c t)]) Q E s:=
 afo F.called_enumerate (by decide) (aep _ _) (aeF _ _) (λobj=>aeq obj _ _) F.entry_enumerate_new (af5 l xs c t e) ⟨g,λd a b c=>⟨⟨_,kF _ rfl,rfl⟩,h d a b c⟩⟩
end
section
variable {X:Cx}{g:jw}{i:L2.St}{H:Hp}{s:iB}{m:kI}{y:Nat}{n:bA}
def TZ{R:It->Hp->Prop}{E:jr}{b:Bool}{l:iw}{Q:List V}{j:jS}{h':jb}{c:Int}(T:Inv X g i H s)(t:DZ b X.K H l Q)(k:Src h' s.heap.objs.size l 0 j.toArray)(h:h'.objs.size=s.heap.objs.size+1)
  (kp:∀b o,s.heap.get? b=Y o->h'.get? b=Y o)(r:R (LZ b X.K l c) H):af (am X.prog X.w) X.A (db<|.ref h'.objs.size) (PIE X g i (.Tuple m y n) R) E {s with heap:=h'.push (uW s.heap.objs.size c)}:=by
 have q:eh (h'.push<|uW s.heap.objs.size c) h'.objs.size s.heap.objs.size c .none:=kF _ rfl;refine pp q ?_;have d:Inv X g i H {s with heap:=h'.push (uW s.heap.objs.size c)}:=T.kept (t':=s.toks) λb o e=>jX _ (kp b o e);have v:h'.objs.size≠s.heap.objs.size:=by rw[h];exact Nat.succ_ne_self _
 refine⟨h'.objs.size,[h'.objs.size,s.heap.objs.size],_,_,H,rfl,d,afB b h'.objs.size s.heap.objs.size l c v,⟨⟨.none,by simpa using q⟩,?_⟩,λa x=>?_,r⟩
 .have u:=k.keep (h':=h'.push<|uW s.heap.objs.size c) (λo e=>jX _ e) (λo e=>jX _ e)
  cases b
  .rcases u with⟨_,o,h1,f,_⟩|⟨a,_⟩
   .obtain⟨_,_,p,_⟩:=d.tuple t;obtain⟨B,g1,g2,_⟩:=p;rw[h1]at g1;cases g1;rw[f]at g2;injection g2 with g2;exact absurd g2 (by decide)
   exact a
  rcases u with⟨a,_⟩|⟨_,o,h1,f,_⟩
  .exact a
  obtain⟨_,_,p,_⟩:=d.list t;obtain⟨B,g1,g2,_⟩:=p.isList;rw[h1]at g1;cases g1;rw[f]at g2;injection g2 with g2;exact absurd g2 (by decide)
 have z:a=h'.objs.size\/a=s.heap.objs.size:=by simpa using x
 rcases z with rfl|rfl
 .exact T.I9 (by rw[h];exact tX _) (T.hok.fresh<|by rw[h];exact tX _)
 exact T.I9 (jT _) (T.hok.fresh<|jT _)
def U2(K:jd)(c:Int)(d:TA):TI:=λi H R=>d i H λe a=>∃b l f,e=[.ref l]/\DZ b K a l f/\R (LZ b K l c) a
def HH(T:Inv X g i H s)(q:DZ b X.K H l xs):∃a,Vals xs a/\(s.heap.IsList l a.toArray\/s.heap.IsTuple l a.toArray):=by
 cases b
 .obtain⟨a,v,p,_⟩:=T.tuple q;exact⟨a,v,.inr p⟩
 obtain⟨a,v,p,_⟩:=T.list q;exact⟨a,v,.inl p.isList⟩
def T8:aF "enumerate"=Y (.type "enumerate"):=by decide+kernel
def zB{M:fW}{A:iU}{E:jr}{s:iB}{b:dk}{c:bA}{T:String}{e:iM}{j:List qs}{Q:jr}
  (h:af M A (g8<|aO c<|aj [e] b) (λw d=>af M A (evalAll ((eE c<|c5 j b).map (·.2))) (λo f=>af M A (call (.type T) w (((eE c<|c5 j b).filterMap (·.1)).zip o)) Q E f) E d) E s)
  (u:aO c (aj [e] b)=(U,bh e b)::aO c (aj [] b))(q:(aO c<|aj [e] b).any (·.1)=U)(p:(eE c<|c5 j b).all (·.1.isSome)=J)(l:(eE c<|c5 j b).any (·.1.isNone)=U):
  af M A (callWith c (.type T) [] (aO c<|aj [e] b)<|eE c<|c5 j b) Q E s:=by
 have t:af M A (evalArgs (.type T) J (aO c<|aj [e] b)<|eE c<|c5 j b) (λa d=>af M A (call (.type T) ([]++a.pos) a.kw) Q E d) E s:=by rw[u]at h ⊢;exact evalArgs_kwB p h
 unfold callWith;refine iz<|mF<|nQ t (λa d k=>iz<|ud ?_) λ_ _ x=>x;simp only[q,l,Bool.or_false];exact iz<|iJ<|iz<|nQ k (λr f v=>iz<|mF<|wpAny_point<|iJ v) λ_ _ x=>x
def Om{a:iM}{k:TA}{p d M kp:bA}{c:Int}{z:Nat}(L:Gl X "enumerate")(Q:X.mg "enumerate"=Ix)(B:PA X [a] k)(C:bu c=IN)
  (E:aO d (aj [a] X.env)=(IP,bh a X.env)::aO d (aj [] X.env))(w:(aO d<|aj [a] X.env).any (·.1)=IP):
  PI X (.Tuple m y n) (.Call (.Name "enumerate" p) [a] [⟨Y "start",.Constant (.int c) z M,kp⟩] d) (U2 X.K c k):=by
 intro g s i H R I h;refine vB<|qx I L Q T8<|zB (Q1 (B d g s i H _ I h) ?_) E w IR IR;rintro us s1 ⟨vs,H1,r,N,b,l,xs,hv,j,q⟩;subst hv;obtain⟨u,rfl,U⟩:=qZ N;cases U;refine kws_cons<|Q1 (Ox g s1 i H1 (λv o=>v=.int c/\o=H1) r ⟨rfl,rfl⟩) λv s2 ⟨x,H2,f,Y',T,A⟩=>kws_nil ?_;subst T;subst A;obtain⟨t,rfl⟩:=Y';obtain⟨J,_,O⟩:=HH f j;exact afn O C λD e G kp=>TZ f j e G kp q
noncomputable def Ei(c:Int)(f:F):B0:=λa=>(f a).bind λp=>match p.1.1 with
 |.tup l=>Y (l.zipIdx.map λq=>.tup [.int<|c+q.2,q.1],p.2)
 |.lst l=>Y (l.zipIdx.map λq=>.tup [.int<|c+q.2,q.1],p.2)
 |_=>I
def SD{K:jd}{T:SS}{i:L2.St}{d c:Dn}{H:Hp}{r:D×Bool}{f:F}{Q:List V->Hp->Prop}(E:ER K H T i d)(h:f d=Y (r,c))(k:∀v l,I8 i d H c l->ER K l T i c->Rep K l (λa=>X0 i c a\/T a) r.1 v->Q [v] l):tA K [iP f] i H Q:=by
 refine⟨d,T,[.val r],c,E,?_,λu o w B=>?_⟩
 .show((iP f d).bind λp=>(lg [] p.2).bind λq=>Y (p.1::q.1,q.2))=_;simp only[iP,h,fY,lg]
 have t:=B.len;rcases u with _|⟨v,_|⟨_,_⟩⟩<;>try cases t
 exact k v o B.keep (B.er.mono (λ_ _ e _=>e) (λb _ z=>B.tt b z) λa z=>B.er.dom a<|B.tt a z)<|B.rep E (j:=0) C C
def Qn{K:jd}{B:SB}{c:Int}{f:F}{i:L2.St}{H:Hp}{R:It->Hp->Prop}(A:tI K B (Ei c f) i H R):U2 K c (tA K [iP f]) i H R:=by
 obtain⟨L,T,w,r,E,e,k⟩:=A;obtain⟨⟨⟨d,o⟩,h⟩,h1,e⟩:=iE e;refine SD E h1 λv j u t Q=>?_
 have key:∀{l},rk d=Y l->Y (l.zipIdx.map λq=>D.tup [.int<|c+q.2,q.1],h)=Y (w,r)->∃b a p,[v]=[V.ref a]/\DZ b K j a p/\R (LZ b K a c) j:=λx e=>by obtain⟨rfl,rfl⟩:=jg e;obtain⟨a,p,rfl,q,O⟩:=Cp x Q;have q:=q.mono (λ_ _ e _=>e) (P':=K6 B T i h) λa z=>z.own;exact⟨_,a,p,rfl,Av q,k _ j u t (Ly q O λa z=>z.own)⟩
 cases d with
 |tup l=>exact key C e
 |lst l=>exact key C e
 |_=>cases e
def afx{B:SB}{a:iM}{f:F}{p b q kp:bA}{c:Int}{z:Nat}(k:Gl X "enumerate")(l:X.mg "enumerate"=I)(e:PX X a f)(h:bu c=J)(s0:aj [a] X.env=(U,bh a X.env)::aj [] X.env)
  (j:aO b (aj [a] X.env)=(U,bh a X.env)::aO b (aj [] X.env))(d:(aO b<|aj [a] X.env).any (·.1)=U):
  Ih X B (.Tuple m y n) (.Call (.Name "enumerate" p) [a] [⟨Y "start",.Constant (.int c) z q,kp⟩] b) (Ei c f):=PI.imp' (Om k l (uh (PX.po e) zF s0) h j d) λi H R o=>Qn o
end
section
variable {j:jh}{w:iY}{A:iU}{E:jr}{s:iB}{z TI TO f d n l:iw}{k:Nat}{i g:nE}{x y a b:iI}
def Vi{Q:jr}(D:l7 z TI TO f d n l)(hz:en s.heap z TI TO .none)(t6:cf s.heap TI (.ref f) (.ref d))(ah:cf s.heap TO a b)(h1:Src s.heap f n k i)(h2:Src s.heap d l k g)
  (hQ:∀x y,i[k]?=Go x->g[k]?=Go y->∀G,en G z TI TO (cE s.heap.objs.size)->cf G TO x y->Src G f n (k+1) i->Src G d l (k+1) g->cf G s.heap.objs.size x y->(∀c o,c≠z->c≠TO->c≠f->c≠d->s.heap.get? c=Go o->G.get? c=Go o)->Q (.ref s.heap.objs.size) {s with heap:=G})
  (hE:i[k]?=Ix\/g[k]?=Ix->A.handled=Ix/\∀G e,(∀c o,c≠z->c≠TO->c≠f->c≠d->s.heap.get? c=Go o->G.get? c=Go o)->(∃o,G.get? e=Go o/\o.cls=.type "StopIteration")->E (.ref e) {s with heap:=G}):
  af (am j w) A (bb.«zip.__next__» ⟨[.ref z],[]⟩) (λfin s'=>∃v,fin=.done (.ret v)/\Q v s') E s:=by
 have L:∀{h:jb}{e:iw}{oe:el}{f0:iI},en h z TI TO f0->h.get? e=Go oe->oe.cls=.type "StopIteration"->e≠z:=λhzz cI K q=>by subst q;have V:_=_:=hzz;rw[cI]at V;cases V;injection K with K;exact absurd K (by decide)
 refine iz (m:=gC (.ref z) 2)<|oo hz IR (x:=.bool IP) IR<|iz (m:=gC (.ref z) 3)<|oo hz IR (x:=.ref TI) IR<|iz<|tP t6 IR<|iz (m:=bx<|.ref z) ?_;unfold bx;refine iz<|oo hz IR (x:=.none) IR<|iJ ?_;simp -iota only[nr];refine iz<|vz<|iz<|oo hz IR (x:=.ref TO) IR<|iz<|vo hz (by simp) λH dB R=>?_;replace dB:en H z TI TO .ellipsis:=dB;refine iz ?_;simp -iota only[kl,List.zipIdx_nil,Af,nb];have c1:Src H f n k i:=h1.keep (λo e=>R.extBut _ o D.i1z e) λo e=>R.extBut _ o D.l1z e
 cases hx:i[k]? with
 |none=>obtain⟨hh,hE⟩:=hE<|.inl hx;refine iz<|iz<|Dk<|iz (m:=aW<|.ref f)<|c1.stop (s:={s with heap:=H}) hh hx ?_;rintro r e U ⟨oe,cI,K⟩;have M:en r z TI TO .ellipsis:=U _ _ D.i1z.symm dB;exact vo (s:={s with heap:=r}) M (by simp) λt _ T=>hE t e (λc o O _ d3 _ q=>T.extBut _ _ O (U _ _ d3 (R.extBut _ _ O q))) ⟨oe,T.extBut _ _ (L M cI K) cI,K⟩
 |some x=>
  refine iz<|iz<|Dk<|iz (m:=aW<|.ref f)<|c1.item (s:={s with heap:=H}) hx λr X U=>iJ ?_;have B:cf r TO a b:=U.extBut _ _ D.TOi1 (R.extBut _ _ D.TOz ah);refine iz<|tP (s:={s with heap:=r}) B IR<|iz<|ML (s:={s with heap:=r}) B λt cS T=>iz<|Dq<|iJ ?_;replace cS:cf t TO x b:=cS;have c2:Src t d l k g:=h2.keep (λo e=>T.extBut _ o D.TOi2.symm (U.extBut _ o D.i12.symm (R.extBut _ o D.i2z e))) λo e=>T.extBut _ o D.l2TO (U.extBut _ o D.l2i1 (R.extBut _ o D.l2z e))
  cases hy:g[k]? with
  |none=>obtain⟨hh,hE⟩:=hE<|.inr hy;refine iz<|iz<|Dk<|iz (m:=aW<|.ref d)<|c2.stop (s:={s with heap:=t}) hh hy ?_;rintro u e P ⟨oe,cI,K⟩;have dA:en u z TI TO .ellipsis:=P _ _ D.i2z.symm (T.extBut _ _ D.TOz.symm (U.extBut _ _ D.i1z.symm dB));exact vo (s:={s with heap:=u}) dA (by simp) λp _ F=>hE p e (λc o O d2 d3 d4 q=>F.extBut _ _ O (P _ _ d4 (T.extBut _ _ d2 (U.extBut _ _ d3 (R.extBut _ _ O q))))) ⟨oe,F.extBut _ _ (L dA cI K) cI,K⟩
  |some y=>
   refine iz<|iz<|Dk<|iz (m:=aW<|.ref d)<|c2.item (s:={s with heap:=t}) hy λu c2₄ P=>iJ ?_;have C:cf u TO x b:=P.extBut _ _ D.TOi2 cS;refine iz<|tP (s:={s with heap:=u}) C IR<|iz<|ML (s:={s with heap:=u}) C λp bN F=>iz<|Dq<|iJ<|iJ ?_;replace bN:cf p TO x y:=bN;refine iz<|tP (s:={s with heap:=p}) bN IR<|iz<|Dr (s:={s with heap:=p}) ?_;have hsz:p.objs.size=s.heap.objs.size:=by rw[F.1,P.1,T.1,U.1,R.1]
   have N:en p z TI TO .ellipsis:=F.extBut _ _ D.TOz.symm (P.extBut _ _ D.i2z.symm (T.extBut _ _ D.TOz.symm (U.extBut _ _ D.i1z.symm dB)));have hk₅:∀c o,c≠z->c≠TO->c≠f->c≠d->s.heap.get? c=Go o->p.get? c=Go o:=λc o O d2 d3 d4 e=>F.extBut _ _ d2 (P.extBut _ _ d4 (T.extBut _ _ d2 (U.extBut _ _ d3 (R.extBut _ _ O e))));have Z:Src p f n (k+1) i:=X.keep (λo e=>F.extBut _ o D.TOi1.symm (P.extBut _ o D.i12 (T.extBut _ o D.TOi1.symm e))) λo e=>F.extBut _ o D.l1TO (P.extBut _ o D.l1i2 (T.extBut _ o D.l1TO e));have c2₅:Src p d l (k+1) g:=c2₄.keep (λo e=>F.extBut _ o D.TOi2.symm e) λo e=>F.extBut _ o D.l2TO e;have S:z<p.objs.size:=kH N;refine iz (m:=bw (.ref z)<|.ref p.objs.size) ?_;unfold bw;have hz₆:en (p.push {cls:=.type "tuple",data:=.seq #[x,y]}) z TI TO .ellipsis:=jX _ N;refine iz<|vo (s:={s with heap:=p.push {cls:=.type "tuple",data:=.seq #[x,y]}}) hz₆ (by simp) λW fV ck=>?_;replace fV:en W z TI TO (cE p.objs.size):=fV;refine vo (s:={s with heap:=W}) fV (by simp) λI eM Y=>?_;replace eM:en I z TI TO (cE p.objs.size):=eM;have up:∀c o,c≠z->p.get? c=Go o->I.get? c=Go o:=λc o O e=>Y.extBut _ _ O (ck.extBut _ _ O (jX _ e));have J:cf I p.objs.size x y:=Y.extBut _ _ (qm S) (ck.extBut _ _ (qm S) (kF _ rfl));rw[hsz]at eM J;refine iJ ⟨_,rfl,?_⟩;show Q (.ref p.objs.size) _;rw[hsz];exact hQ x y hx hy I eM (up _ _ D.TOz bN) (Z.keep (λo e=>up _ o D.i1z e) λo e=>up _ o D.l1z e) (c2₅.keep (λo e=>up _ o D.i2z e) λo e=>up _ o D.l2z e) J λc o O d2 d3 d4 e=>up c o O<|hk₅ c o O d2 d3 d4 e
def AA{Q:ET}(D:l7 z TI TO f d n l)(t:en s.heap z TI TO .none)(M:cf s.heap TI (.ref f) (.ref d))(N:cf s.heap TO a b)(h1:Src s.heap f n k i)(L:Src s.heap d l k g)
  (O:∀x y,i[k]?=Y x->g[k]?=Y y->∀h,en h z TI TO (cE s.heap.objs.size)->cf h TO x y->Src h f n (k+1) i->Src h d l (k+1) g->cf h s.heap.objs.size x y->(∀c o,c≠z->c≠TO->c≠f->c≠d->s.heap.get? c=Y o->h.get? c=Y o)->Q (Y<|.ref s.heap.objs.size) {s with heap:=h})
  (m:i[k]?=I\/g[k]?=I->A.handled=I/\∀h,(∀c o,c≠z->c≠TO->c≠f->c≠d->s.heap.get? c=Y o->h.get? c=Y o)->Q I {s with heap:=h}):
  af (am j w) A (cJ<|.ref z) Q E s:=by
 have p:s.TypeIs (.ref z) "zip":=⟨_,t,rfl⟩
 unfold cJ
 exact iz (vT (wM (name:=bz "__next__") p F.slot_zip_next (oF F.slot_zip_next p F.entry_zip_next
  (Vi D t M N h1 L (λx y q r h a1 u v B C H=>iJ<|O x y q r h a1 u v B C H) λq=>⟨(m q).1,λh e hk ⟨o,J',G⟩=>iz<|yk (T:="StopIteration") (b:=J) ⟨o,J',G⟩ Dm<|iJ<|(m q).2 _ hk⟩) (F.args_zip_next_1 _))))
end
def Rt(j c:iw)(l i:nE):l8 (bb.«zip.__new__» ⟨[.type "zip",.ref j,.ref c],[]⟩) (λ_ R s=>(s.heap.IsList j l\/s.heap.IsTuple j l)/\(s.heap.IsList c i\/s.heap.IsTuple c i)/\
  ∀h1 a,Src h1 s.heap.objs.size j 0 l->h1.objs.size=s.heap.objs.size+1->(∀b o,s.heap.get? b=Y o->h1.get? b=Y o)->Src a h1.objs.size c 0 i->a.objs.size=h1.objs.size+1->(∀b o,h1.get? b=Y o->a.get? b=Y o)->
   R (.ok<|.ret<|.ref ((a.push {cls:=.type "tuple",data:=.seq #[.ref s.heap.objs.size,.ref h1.objs.size]}).push {cls:=.type "tuple",data:=.seq #[.none,.none]}).objs.size)
    {s with heap:=((a.push {cls:=.type "tuple",data:=.seq #[.ref s.heap.objs.size,.ref h1.objs.size]}).push {cls:=.type "tuple",data:=.seq #[.none,.none]}).push {cls:=.type "zip",data:=.fields #[.none,.bool U,.bool U,.ref a.objs.size,.ref (a.push {cls:=.type "tuple",data:=.seq #[.ref s.heap.objs.size,.ref h1.objs.size]}).objs.size]}}):=
 .of_wp λm w A R s h=>by
  obtain⟨y,g,d,x,os⟩:=s;obtain⟨v,u,h⟩:=h;have z:=sub_zip
  wp_walk using Src.new v
  intro h1 a1 n k
  have f:h1.IsList c i\/h1.IsTuple c i:=by
   rcases u with⟨o,e,r⟩|⟨o,e,r⟩
   .exact .inl ⟨o,k _ _ e,r⟩
   exact .inr ⟨o,k _ _ e,r⟩
  wp_walk using Src.new (s:=⟨h1,g,d,x,os⟩) f
  intro a p q t
  wp_walk
  exact⟨_,rfl,h h1 a a1 n k p q t⟩
def ItZ(c d:Bool)(K:jd)(e f:iw):It:=⟨λi Q=>∃a b x y,DZ c K Q e a/\DZ d K Q f b/\a[i]?=Y x/\b[i]?=Y y,
 λi Q x g=>∃(T:iw)(u v:V),x=.ref T/\Q T=I/\g=upd Q T (.tup [u,v])/\∀a b,DZ c K Q e a->DZ d K Q f b->a[i]?=Y u/\b[i]?=Y v,
 λi Q=>∃a b,DZ c K Q e a/\DZ d K Q f b/\(IX a<=i\/(IX b)<=i)⟩
structure ZA(z TI TO i1 i2:iw):Prop where
 a1:TI≠z
 a2:TO≠z
 a3:i1≠z
 a4:i2≠z
 a5:TI≠TO
 a6:TI≠i1
 a7:TI≠i2
 a8:TO≠i1
 a9:TO≠i2
 a10:i1≠i2
def wZ{b:Bool}{K:jd}{Q:Hp}{l:iw}{m:List V}{X:Cx}{c:jw}{p:L2.St}{s:iB}(T:Inv X c p Q s)(k:X.K=K)(q:DZ b K Q l m){h:la}(i:∀a∈h,uG X c Q a):l∉h:=by
 subst k;intro j;have d:=(i l j).1
 have base:∀o,X.K.lookup l=Y o->False:=λo e=>by
  have g:=T.mod.kin l o e;rcases(i l j).2.2.2.1 with z|z
  .exact T.ok.noex l o g z
  have:=(T.ok.bs l o g).1;exact absurd (kH this)<|M3.mpr z
 cases b
 .rcases q with(q|⟨o,q⟩)|⟨o,f,n,e,_⟩
  .rw[d]at q;cases q
  .rw[d]at q;cases q
  exact base o e
 rcases q with(q|⟨o,q⟩)|⟨o,f,n,e,_⟩
 .rw[d]at q;cases q
 .rw[d]at q;cases q
 exact base o e
def Nq{P:jh}{w:iY}{K:jd}{Y:kI}{k1}{pos:bA}(b1 b2:Bool)(z TI TO m n J M:iw)(D:ZA z TI TO m n):
  Turn P w K (.Tuple Y k1 pos) (ItZ b1 b2 K J M) [z,TI,TO,m,n] z (λi h=>en h z TI TO .none/\cf h TI (.ref m) (.ref n)/\(∃a b,cf h TO a b)/\HL b1 h m J i/\HL b2 h n M i) where
 mem:=by simp
 obj:=λi h st a G=>by
  obtain⟨l,p,⟨u,v,t⟩,s1,C⟩:=st;simp at G;rcases G with rfl|rfl|rfl|rfl|rfl
  .exact⟨_,l,λv e=>by have U:gj _=eU v:=e;cases U⟩
  .exact⟨_,p,λv e=>by have U:xz _ _=eU v:=e;cases U⟩
  .exact⟨_,t,λv e=>by have U:xz _ _=eU v:=e;cases U⟩
  .exact s1.obj
  exact C.obj
 keep:=λi h h' st k=>by obtain⟨l,p,⟨u,v,t⟩,s1,C⟩:=st;exact⟨k z (by simp) _ l,k TI (by simp) _ p,⟨u,v,k TO (by simp) _ t⟩,s1.keep λo q=>k m (by simp) o q,C.keep λo q=>k n (by simp) o q⟩
 item:=by
  intro X hP hw L hc i B s σ H E I A st hg;obtain⟨l,p,⟨a0,b0,t⟩,s1,C⟩:=st;obtain⟨xs,ys,x,y,T,Q,hx,hy⟩:=hg;have d:=wZ I L T A;have f:=wZ I L Q A;simp at d f;subst hP hw L;obtain⟨cz,Z,F⟩:=uK I T s1;obtain⟨b9,W,N⟩:=uK I Q C;obtain⟨u,hu,ru⟩:=Z.get hx;obtain⟨v,hv,rv⟩:=W.get hy;have AP:l7 z TI TO m n J M:=⟨D.a1,D.a2,D.a3,D.a4,D.a5,D.a6,D.a7,D.a8,D.a9,D.a10,d.1,d.2.2.1,d.2.2.2.1,d.2.2.2.2,f.1,f.2.2.1,f.2.2.2.1,f.2.2.2.2⟩
  refine AA AP l p t F N (λx' y' q r h' z' t1 c1 c2 hT kp=>?_) λq=>absurd q (by simp[hu,hv]);obtain rfl:u=x':=by simpa[hu]using q
  obtain rfl:v=y':=by simpa[hv]using r
  refine⟨.ref s.heap.objs.size,rfl,?_⟩;refine wpAny_letOwnedTupleGo_zip (s:={s with heap:=h'}) z' λO z'' j=>?_;replace j:aL z h' O:=j
  have V:∀a o,a∉[z,TI,TO,m,n]->s.heap.get? a=Go o->O.get? a=Go o:=λa o g q=>by simp at g;exact j.extBut a o g.1<|kp a o g.1 g.2.2.1 g.2.2.2.1 g.2.2.2.2 q
  have lt:∀{c o},s.heap.get? c=Go o->s.heap.objs.size≠c:=λe=>qm<|kH e;have cU:cf O s.heap.objs.size u v:=j.extBut _ _ (lt l) hT
  have I1:Inv X B σ (upd H s.heap.objs.size<|.tup [x,y]) {s with heap:=O}:=
   Cg (t':=s.toks) I A V (jT _) (show T2 X.prog X.w _ _ _ (.tup [x,y])from⟨by show 2<=sizeLine;decide,[u,v],.cons ru<|.cons rv .nil,_,cU,rfl,⟨0,rfl⟩,rfl⟩)
  have R:HL b1 O m J (i+1):=Iu s1 F (c1.keep (λo q=>j.extBut _ o D.a3 q) λo q=>j.extBut _ o d.1 q) λo q=>V J o (by simp;exact d) q;have S:HL b2 O n M (i+1):=Iu C N (c2.keep (λo q=>j.extBut _ o D.a4 q) λo q=>j.extBut _ o f.1 q) λo q=>V M o (by simp;exact f) q;refine⟨.ref s.heap.objs.size,_,I1,rfl,⟨_,x,y,rfl,I.fresh,rfl,λcW ys' q1 q2=>by rw[DN I q1 T,DN I q2 Q];exact⟨hx,hy⟩⟩,⟨z'',j.extBut _ _ D.a1 (kp _ _ D.a1 D.a5 D.a6 D.a7 p),⟨u,v,j.extBut _ _ D.a2 t1⟩,R,S⟩,λa G=>?_⟩;have n0:=(A a G).1;rw[jq]
  .exact n0
  intro e;simp at G;rcases G with rfl|rfl|rfl|rfl|rfl
  .exact lt l e.symm
  .exact lt p e.symm
  .exact lt t e.symm
  .exact absurd e (kz F.lt.1)
  exact absurd e (kz N.lt.1)
 done:=by
  intro X hP hw L hc i B s σ H E I A st hg;obtain⟨l,p,⟨a0,b0,t⟩,s1,C⟩:=st;obtain⟨xs,ys,T,Q,hend⟩:=hg;have d:=wZ I L T A;have f:=wZ I L Q A;simp at d f;subst hP hw L;obtain⟨cz,Z,F⟩:=uK I T s1;obtain⟨b9,W,N⟩:=uK I Q C;have e1:=Z.length;have e2:=W.length;have AP:l7 z TI TO m n J M:=⟨D.a1,D.a2,D.a3,D.a4,D.a5,D.a6,D.a7,D.a8,D.a9,D.a10,d.1,d.2.2.1,d.2.2.2.1,d.2.2.2.2,f.1,f.2.2.1,f.2.2.2.1,f.2.2.2.2⟩
  refine AA AP l p t F N (λx y q r=>?_) λ_=>⟨I.ok.hd hc,λh' kp=>⟨rfl,Ci (t':=s.toks) I A λa o g q=>?_⟩⟩
  .have z1:=(Me.mp q).1;have z2:=(Me.mp r).1;simp at z1 z2;omega
  simp at g;exact kp a o g.1 g.2.2.1 g.2.2.2.1 g.2.2.2.2 q
 self:=λ_ _ _ _ _ st h=>re st.1 h
def PF{K:jd}{P O:SS}{g:Hp}{a1 r:iw}{f h:List V}{A B:List D}{s t:Bool}(l:FA s K g P a1 f)(L:YP K g O A f)(m:FA t K g P r h)(Q:YP K g O B h)(C:∀a,P a->O a):
  IG K (ItZ s t K a1 r) ((A.zip B).map λp=>.tup [p.1,p.2]) P O g:=by
 have sq:∀{b:Bool}{a:iw}{f:List V},FA b K g P a f->∀Hi,(∀a o,g a=Go o->¬P a->Hi a=Go o)->DZ b K Hi a f:=λq Hi c=>Av<|q.mono c λ_ z=>z;refine⟨λi d Hi hd c=>?_,λi Hi N c=>⟨f,h,sq l Hi c,sq m Hi c,by rw[L.length,Q.length];simp at N;lia⟩⟩;rw[kX]at hd;obtain⟨⟨X,Z⟩,h1,G⟩:=jB hd;obtain⟨J,M⟩:=EO.mp h1;obtain⟨x,H,Y⟩:=L.get J;obtain⟨y,I,F⟩:=Q.get M;refine⟨⟨f,h,x,y,sq l Hi c,sq m Hi c,H,I⟩,λv S k=>?_⟩;obtain⟨T,u,w,rfl,E,rfl,U⟩:=k;obtain⟨g1,g2⟩:=U f h (sq l Hi c)<|sq m Hi c;rw[H]at g1;cases g1;rw[I]at g2;cases g2;have ext:=md (o:=.tup [x,y]) E;refine⟨ext,λW h1 R=>?_⟩;subst G;exact Rep.HU ⟨jk,R T E⟩<|YP.cons (Rep.mono (λb o e n=>ext b o<|c b o e λz=>n<|C b z) (λb j z=>h1 b j z) Y)<|YP.cons (Rep.mono (λb o e n=>ext b o<|c b o e λz=>n<|C b z) (λb j z=>h1 b j z) F) YP.nil
section
variable {X:Cx}{d:kI}{n:Nat}{r:bA}
def XC:aF "zip"=Y (.type "zip"):=by decide+kernel
def acy(K:jd)(g:TA):TI:=λk T R=>g k T λh a=>∃e f b c i j,h=[.ref b,.ref c]/\DZ e K a b i/\DZ f K a c j/\R (ItZ e f K b c) a
def J9(T:Inv X pins σ Q s)(f:DZ b X.K Q l xs)(c:Src s.heap it l i g):HL b s.heap it l i:=by
 cases b
 .rcases c with⟨_,o,h1,e,_⟩|⟨a,_⟩
  .obtain⟨_,_,p,_⟩:=T.tuple f;obtain⟨h,g1,g2,_⟩:=p;rw[h1]at g1;cases g1;rw[e]at g2;injection g2 with g2;exact absurd g2 (by decide)
  exact a
 rcases c with⟨a,_⟩|⟨_,o,h1,e,_⟩
 .exact a
 obtain⟨_,_,p,_⟩:=T.list f;obtain⟨h,g1,g2,_⟩:=p.isList;rw[h1]at g1;cases g1;rw[e]at g2;injection g2 with g2;exact absurd g2 (by decide)
def Wn{a b:iM}{L:TA}{p j:bA}(hg:Gl X "zip")(hm:X.mg "zip"=I)(t:PA X [a,b] L)(hs:aj [a,b] X.env=(IP,bh a X.env)::aj [b] X.env)(f7:(aO j<|aj [b] X.env).any (·.1)=IP):
  PI X (.Tuple d n r) (.Call (.Name "zip" p) [a,b] [] j) (acy X.K L):=by
 intro i s0 O Q R z h;refine vB<|qx z hg hm XC<|DD (Q1 (t j i s0 O Q _ z h) ?_) hs f7;rintro us s ⟨vs,H',I',r1,G,J',C',E,xs,ys,hv,B,A,q⟩;subst hv;obtain⟨u,v,rfl,ru,rv⟩:=Fc r1;cases ru;cases rv;obtain⟨P,_,U⟩:=HH I' B;obtain⟨M,_,N⟩:=HH I' A;refine callType_new F.called_zip (by decide) (F.typeCall_zip_2 _ _) (F.newCall_zip_2 _ _) (λobj=>F.args_object_init_3 obj _ _) F.entry_zip_new (Rt C' E P.toArray M.toArray) ⟨U,N,λh1 f Y z1 n D z2 y=>?_⟩;generalize k:({cls:=.type "tuple",data:=.seq #[.ref s.heap.objs.size,.ref h1.objs.size]}:el)=g;generalize l:({cls:=.type "tuple",data:=.seq #[.none,.none]}:el)=o4;have z3:(f.push g).objs.size=f.objs.size+1:=oX ..;have z4:((f.push g).push o4).objs.size=f.objs.size+2:=by rw[oX,z3]
 generalize m:({cls:=.type "zip",data:=.fields #[.none,.bool IP,.bool IP,.ref f.objs.size,.ref (f.push g).objs.size]}:el)=o5;have g5:(((f.push g).push o4).push o5).get? ((f.push g).push o4).objs.size=Go o5:=kF _ (by rw[<-m];rfl);have Z:(((f.push g).push o4).push o5).get? (f.push g).objs.size=Go o4:=jX _ (kF _ (by rw[<-l];rfl));have W:(((f.push g).push o4).push o5).get? f.objs.size=Go g:=jX _ (jX _ (kF _ (by rw[<-k];rfl)));have kp:∀c o,f.get? c=Go o->(((f.push g).push o4).push o5).get? c=Go o:=λc o e=>jX _ (jX _ (jX _ e));have x:en (((f.push g).push o4).push o5) ((f.push g).push o4).objs.size f.objs.size (f.push g).objs.size .none:=by show _=_;rw[g5,<-m]
 have t6:cf (((f.push g).push o4).push o5) f.objs.size (.ref s.heap.objs.size) (.ref h1.objs.size):=by show _=_;rw[W,<-k]
 have T:cf (((f.push g).push o4).push o5) (f.push g).objs.size .none .none:=by show _=_;rw[Z,<-l]
 have w:Inv X i O H' {s with heap:=((f.push g).push o4).push o5}:=I'.kept (t':=s.toks) λc o e=>kp c o<|y c o<|n c o e;have S:=Y.keep (h':=((f.push g).push o4).push o5) (λo e=>kp _ o (y _ o e)) λo e=>kp _ o (y _ o e);have V:=D.keep (h':=((f.push g).push o4).push o5) (λo e=>kp _ o e) λo e=>kp _ o e;refine⟨⟨_,x,rfl⟩,re (s:={s with heap:=((f.push g).push o4).push o5}) x ?_⟩;refine⟨((f.push g).push o4).objs.size,[((f.push g).push o4).objs.size,f.objs.size,(f.push g).objs.size,s.heap.objs.size,h1.objs.size],_,_,H',rfl,w,Nq G J' _ _ _ _ _ C' E ⟨?_,?_,?_,?_,?_,?_,?_,?_,?_,?_⟩,⟨x,t6,⟨_,_,T⟩,J9 w B S,J9 w A V⟩,λa t=>?_,q⟩
 case refine_11=>
  have le:s.heap.objs.size<=a:=by simp only[oq,sD,or_false]at t;rcases t with rfl|rfl|rfl|rfl|rfl<;>lia
  exact I'.I9 le<|I'.hok.fresh le
 all_goals lia
def Iv(f g:FO):B0:=λa=>(f a).bind λp=>(g p.2).bind λq=>(res q.2 p.1).bind λx=>(res q.2 q.1).bind λy=>(rk x).bind λl=>(rk y).bind λm=>Y ((l.zip m).map λp=>.tup [p.1,p.2],q.2)
def vF(f g:F):B0:=λδ=>(f δ).bind λp=>(g p.2).bind λq=>(rk p.1.1).bind λl=>(rk q.1.1).bind λm=>Y ((l.zip m).map λp=>.tup [p.1,p.2],q.2)
def Oh{B:SB}{a b:iM}{f g:FO}{p c:bA}(hg:Gl X "zip")(hm:X.mg "zip"=Ix)(ha:PO X a f)(hb:PO X b g)(I:Lu B f)(L:Lu B g)(w:aj [a,b] X.env=(IP,bh a X.env)::aj [b] X.env)(G:aj [b] X.env=(IP,bh b X.env)::aj [] X.env)(J:(aO c<|aj [b] X.env).any (·.1)=IP):
  Ih X B (.Tuple d n r) (.Call (.Name "zip" p) [a,b] [] c) (Iv f g):=PI.imp' (Wn hg hm (uh ha (uh hb zF G) w) w J) λσ H R F=>by
 obtain⟨δ,T,ds,δ',E,e,k⟩:=F;obtain⟨K,δ1,h1,e⟩:=iK e;obtain⟨P,t,h,e⟩:=iK e;obtain⟨x,M,e⟩:=iE e;obtain⟨y,N,e⟩:=iE e;obtain⟨l,U,e⟩:=iE e;obtain⟨m,Y,e⟩:=iE e;obtain⟨rfl,rfl⟩:=jg e;dsimp only at h;refine⟨δ,T,[K,P],t,E,?_,λS O T1 W=>?_⟩
 .simp only[lg,h1,h,fY]
 have D:=W.len;rcases S with _|⟨v,_|⟨u,_|⟨_,_⟩⟩⟩<;>try cases D
 obtain⟨a1,V,rfl,A,q⟩:=W.seq E (j:=0) IR IR M U λi o=>I _ _ _ (o▸h1);obtain⟨Q,Z,rfl,C,s⟩:=W.seq E (j:=1) IR IR N Y λi o=>L _ _ _ (o▸h);exact⟨_,_,a1,Q,V,Z,rfl,Av A,Av C,k _ O W.keep (W.er.mono (λ_ _ e _=>e) (λb _ z=>W.tt b z) λa z=>W.er.dom a<|W.tt a z) (PF A q C s λa z=>z.own)⟩
end
end PX
namespace TS
def Ask(M:fW)(A:iU)(G:iB->Prop)(it:Nat->et)(d:mo)(N:Nat)(lt:Nat->Nat->Bool):Prop:= ∀i j,i<N->j<N->∀s,G s->∀a,af M A (wP d (it i).1 (it j).1) (λb c=>G c/\b=lt i j) a s
structure Cs where
 M:fW
 A:iU
 E:iI->iB->Prop
 G:iB->Prop
 it:Nat->et
 lt:Nat->Nat->Bool
 κ:mo
 N:Nat
 as:∀i j,lt i j=IN->lt j i=IP
 tr:∀{i j k},lt j i=IP->lt k j=IP->lt k i=IP
 ask:Ask M A G it κ N lt
section
variable {X:Cs}{α β:Type}{f:α->StateT sV dq β}{Q:β->sV->Prop}{st:sV}
def wp(X:Cs){α:Type}(m:StateT sV dq α)(Q:α->sV->Prop)(st:sV):Prop:= ∀s,X.G s->af X.M X.A (m.run st) (λr a=>X.G a/\Q r.1 r.2) X.E s
def iO{a:β}(h:Q a st):wp X (pure a) Q st:=λs g=>by rw[GZ];exact iJ ⟨g,h⟩
def kQ{m:StateT sV dq α}(h:wp X m (λa c=>wp X (f a) Q c) st):wp X (m>>=f) Q st:=λs g=>by rw[StateT.run_bind];exact iz<|nQ (h s g) (λr d b=>b.2 d b.1) λ_ _ e=>e
def Js{m:StateT sV dq α}{Q b:α->sV->Prop}(h:wp X m Q st)(i:∀a c,Q a c->b a c):wp X m b st:=λs g=>nQ (h s g) (λr _ d=>⟨d.1,i _ _ d.2⟩) λ_ _ e=>e
def jA{c:Prop}[Decidable c]{t e:StateT sV dq β}(h1:c->wp X t Q st)(a: ¬c->wp X e Q st):wp X (if c then t else e) Q st:=by split<;>simp_all
def pN{f:sV->StateT sV dq β}(h:wp X (f st) Q st):wp X (get>>=f) Q st:=kQ λs g=>by rw[StateT.run_get];exact iJ ⟨g,h⟩
def vX{g:sV->sV}{f:PUnit->StateT sV dq β}(h:wp X (f ⟨⟩) Q (g st)):wp X (modify g>>=f) Q st:=kQ λs g=>by rw[StateT.run_modify];exact iJ ⟨g,h⟩
def Jt{m:dq α}(h:∀s,X.G s->af X.M X.A m (λa b=>X.G b/\wp X (f a) Q st) X.E s):wp X (liftM m>>=f) Q st:=kQ λs g=>by show af X.M X.A ((StateT.lift m:StateT sV dq α).run st) _ X.E s;rw[StateT.run_lift];exact iz<|nQ (h s g) (λa b c=>iJ c) λ_ _ e=>e
def uH{x:String}{f:Unit->StateT sV dq β}(h:wp X (f ()) Q st):wp X (liftM (rule x)>>=f) Q st:=Jt λs g=>vz ⟨g,h⟩
def RB{e:Nat}{g:Nat->α->StateT sV dq (ForInStep α)}{T:Nat->α->sV->Prop}{O:α->sV->Prop}
  (m:∀i c st,i<e->T i c st->wp X (g i c) (λr b=>match r with|.done d=>O d b|.yield d=>T (i+1) d b) st)(l:∀c st,T e c st->O c st):
  ∀(n a:Nat)(c:α)(st:sV),a+n=e->T a c st->wp X (fI (bM a n 1) c g) O st:=by
 intro p
 induction p with
 |zero=>intro a c st rfl h;exact iO<|l _ _ h
 |succ n o=>
  intro a c st q h;rw[zZ,Af];refine kQ<|Js (m a c st (by lia) h) λr b k=>?_
  cases r with
  |done j=>exact iO k
  |yield j=>exact o _ j b (by lia) k
def nh{g:Nat->α->StateT sV dq (ForInStep α)}(T:Nat->α->sV->Prop)(O:α->sV->Prop){a b:Nat}{c:α}(h:T a c st)
  (l:∀i c st,i<a+(b-a)->T i c st->wp X (g i c) (λr e=>match r with|.done d=>O d e|.yield d=>T (i+1) d e) st)
  (j:∀c st,T (a+(b-a)) c st->O c st)(k:∀c st,O c st->wp X (f c) Q st):wp X (fI [a:b] c g>>=f) Q st:=by
 refine kQ<|Js ?_ k;rw[Std.Legacy.Range.forIn_eq_forIn_range'];exact RB l j _ _ _ _ (by simp) h
noncomputable abbrev ar(X:Cs)(l:jP):Array Keyed:=(l.map X.it).toArray
def mI{l:jP}{i x:Nat}{f:et->StateT sV dq β}(e:l[i]?=Y x)(h:wp X (f<|X.it x) Q st):wp X (elem' (ar X l) i>>=f) Q st:=kQ (by rw[elem'_eq,show(ar X l)[i]?=Y (X.it x) by simp[e]];exact iO h)
def E8{i j:Nat}{f:Option Bool->StateT sV dq β}(hk:kindOf st=X.κ)(k:i<X.N)(l:j<X.N)(h:∀b,X.lt i j=b->wp X (f<|Y b) Q st):wp X (lt' (X.it i) (X.it j)>>=f) Q st:=kQ (by rw[lt'_eq];refine pN ?_;rw[hk];refine Jt λs g=>vT<|nQ (X.ask i j k l s g λ_ _=>False) (λb m c=>?_) λe m d=>d.elim;obtain⟨a,rfl⟩:=c;exact⟨a,iO<|h _ rfl⟩)
structure Rp(X:Cs)(q:Array (Nat×Nat×Nat))(L:jP)(st:sV):Prop where
 a:eW st=ar X L
 k:kindOf st=X.κ
 f:fH st=Ix
 q:pendingOf st=q
 p:L.Perm (au X.N)
def Rp.n{q:Array (Nat×Nat×Nat)}{L:jP}(R:Rp X q L st){i x:Nat}(e:L[i]?=Y x):x<X.N:=by simpa using R.p.mem_iff.mp<|mY e
def E9{q:Array (Nat×Nat×Nat)}{L:jP}(R:Rp X q L st){i j x y:Nat}{f:Option Bool->StateT sV dq β}(c:L[i]?=Y x)(d:L[j]?=Y y)(h:∀b,X.lt x y=b->wp X (f<|Y b) Q st):wp X (ltAt' i j>>=f) Q st:=kQ (by rw[ltAt'_eq];refine pN ?_;rw[R.a];exact mI c<|mI d<|by rw[<-bind_pure (lt' _ _)];exact E8 R.k (R.n c) (R.n d) λb e=>iO<|h b e)
def aeA{α:Type}(T A R:List α){d:Nat}(hd:d=(IX A) / 2):mirror (T++(A++R)).toArray (IX T) (IX T+IX A) d=(T++(A.reverse++R)).toArray:=by
 have hd:d=(IX T+IX A-IX T) / 2:=by lia
 subst hd;apply Array.ext_getElem?;intro k;rw[getElem?_mirror_all<|by simp];simp;by_cases h1:k<IX T
 .rw[je<|by lia,qk h1,qk h1]
 obtain⟨k,rfl⟩:=Nat.exists_eq_add_of_le<|ms h1;rw[pL (by lia) (l₂:=A.reverse++R),Dj];by_cases a:k<IX A
 .rw[iQ<|by lia,pL<|by lia,qk<|by lia,qk<|by simpa using a,List.getElem?_reverse a]
  congr 1;lia
 rw[je<|by lia,pL<|by lia,Dj,pL<|by lia,pL<|by simpa using a,Di]
def aeG{α:Type}(R:List α)(x:α):∀(A T:List α){i:Nat},i=IX T+IX A->bubble (T++(A++x::R)).toArray i (IX A)=(T++(x::(A++R))).toArray:=by
 intro c
 induction c with
 |nil=>intro T i h;exact C
 |cons a A b=>
  intro T i h;have:=b (T++[a]) (i:=i) (by simp at h ⊢;lia);rw[mX,bubble_succ,show T++(a::A++x::R)=T++[a]++(A++x::R) by simp,this];have e:i-IX A=IX T+1:=by simp at h;lia
  rw[e,j0];simp[Array.swapIfInBounds]
variable {q:Array (Nat×Nat×Nat)}{T A R:jP}{i j x:Nat}
def Nf{b:Cc}{L a:jP}(S:Rp X q L st)(e:b=ar X a)(p:a.Perm L):Rp X q a (setArr st b):=⟨e,S.k,S.f,S.q,p.trans S.p⟩
def HA{f:Unit->StateT sV dq β}(S:Rp X q (T++(A++R)) st)(c:i=IX T)(e:j=IX T+IX A)(h:∀b,Rp X q (T++(A.reverse++R)) b->wp X (f ()) Q b):wp X (x4 i j>>=f) Q st:=by rw[reverseSlice'_eq];subst c e;refine vX<|h _ (Nf S ?_<|((zY A).append_right R).append_left T);have:=aeA (T.map X.it) (A.map X.it) (R.map X.it) (d:=(IX T+IX A-IX T) / 2) (by simp);simpa[ar,S.a]using this
def Vx{f:Unit->StateT sV dq β}(S:Rp X q (T++(A++x::R)) st)(c:i=IX T+IX A)(d:j=IX T)(h:∀b,Rp X q (T++(x::(A++R))) b->wp X (f ()) Q b):wp X (moveDown' i j>>=f) Q st:=by rw[moveDown'_eq];subst c d;refine vX<|h _ (Nf S ?_<|Rq.symm.append_left T);have:=aeG (R.map X.it) (X.it x) (A.map X.it) (T.map X.it) (i:=IX T+IX A) (by simp);simpa[ar,S.a]using this
end
abbrev Cs.le(X:Cs)(i j:Nat):Prop:=X.lt j i=U
section
variable {X:Cs}{o:Type}{Q:o->sV->Prop}{st:sV}{q:Array (Nat×Nat×Nat)}{T A B D R L:jP}{i j x y:Nat}{r:Nat->Nat->Prop}
def Jd(h:i=IX T+IX A):(T++(A++x::R))[i]?=Y x:=by subst h;simp
def ix1(h:i=IX T+IX A+1):(T++(A++x::y::R))[i]?=Y y:=by subst h;rw[<-qO,pL<|by simp];simp
def Fq(u:D.Pairwise r)(h:∀z∈D,r z y):(D++[y]).Pairwise r:=sP.mpr ⟨u,MK _ _,λa c b d=>EU.mp d▸h a c⟩
def F3(e:∀{a b c},r a b->r b c->r a c)(u:(D++[x]).Pairwise r)(h:r x y):∀z∈D++[x],r z y:=λz d=>by
 rcases pk.mp d with d|d
 .exact e ((sP.mp u).2.2 z d x ky) h
 rw[EU.mp d];exact h
def Nj{g:Nat->Option (Option Nat)×Nat->StateT sV dq (ForInStep<|Option (Option Nat)×Nat)}{f:Option (Option Nat)×Nat->StateT sV dq o}{lo n m:Nat}
  (p:∀i n,g i (I,n)=(ltAt' (lo+n) (lo+n-1)>>=λx=>match x with|some b=>if b=J then pure (.done (I,n))else pure (.yield (I,n+1))|_=>pure<|.done (Y I,n)))
  (S:Rp X q (T++(A++x::R)) st)(v:(IX T)=lo)(t:n=IX A+1)(a:m=n+R.length)(u:(A++[x]).Pairwise X.le)
  (h:∀A x R,Rp X q (T++(A++x::R)) st->m=IX A+1+R.length->(A++[x]).Pairwise X.le->(∀y l,R=y::l->X.lt y x=J)->wp X (f (I,IX A+1)) Q st):wp X (fI [n:m] (I,n) g>>=f) Q st:=by
 refine nh (λi c s=>s=st/\c=(I,i)/\∃A x R,Rp X q (T++(A++x::R)) st/\i=IX A+1/\m=i+R.length/\(A++[x]).Pairwise X.le)
  (λc s=>s=st/\∃A x R,Rp X q (T++(A++x::R)) st/\c=(I,IX A+1)/\m=IX A+1+R.length/\(A++[x]).Pairwise X.le/\∀y l,R=y::l->X.lt y x=J) ⟨rfl,rfl,A,x,R,S,t,a,u⟩ ?_ ?_ ?_
 .rintro i c s d ⟨rfl,rfl,A,x,R,S,rfl,h1,u⟩;rw[p];obtain⟨y,l,rfl⟩:=tN (l:=R) (by lia);refine E9 S (ix1<|by lia) (Jd<|by lia) λb e=>?_
  cases b
  .exact iO ⟨rfl,rfl,A++[x],y,l,by simpa using S,by simp,by simp at h1;lia,Fq u<|F3 X.tr u e⟩
  exact iO ⟨rfl,A,x,_,S,rfl,h1,u,λ_ _ k=>by cases k;exact e⟩
 .rintro c s ⟨rfl,rfl,A,x,R,S,d,h1,u⟩;exact⟨rfl,A,x,R,S,by rw[d],by lia,u,λy l e=>by subst e;simp at h1;lia⟩
 rintro c s ⟨rfl,A,x,R,S,rfl,a,u,e⟩;exact h A x R S a u e
def Ng{c:Prop}[Decidable c]{k:StateT sV dq o}(S:Rp X q (T++(A++R)) st)(e:i=IX T)(f:j=IX T+IX A)(d: ¬c->IX A=1)(h:∀b,Rp X q (T++(A.reverse++R)) b->wp X k Q b):wp X (if c then x4 i j>>=λ_=>k else k) Q st:=jA (λ_=>HA S e f h) λz=>h _ (by obtain⟨a,rfl⟩:=X7.mp<|d z;exact S)
def dnT(d:(A++B).Pairwise λa b=>X.le b a)(u:B.Pairwise X.le):(A++B.reverse).Pairwise λa b=>X.le b a:=by rw[sP]at d ⊢;exact⟨d.1,Hz.mpr u,λa c b e=>d.2.2 a c b<|Jo.mp e⟩
def Cs.rf(X:Cs)(i:Nat):X.le i i:=j3.mpr λh=>k6<|h.symm.trans<|X.as i i h
def Ut{k m:StateT sV dq o}(P:sV->Prop)(b:(∀a,P a->wp X k Q a)->wp X m Q st)(hk:∀a,P a->wp X k Q a):wp X m Q st:=b hk
def Ni{lo m:Nat}{Q:Option Nat->sV->Prop}(S:Rp X q (T++x::R) st)(p:(IX T)=lo)(f:m=1+R.length)(h:∀A R g,Rp X q (T++(A++R)) g->A≠[]->A.Pairwise X.le->m=IX A+R.length->Q (Y<|IX A) g):wp X (countRun' lo m) Q st:=by
 have fin:∀A x R g,Rp X q (T++(A++x::R)) g->m=IX A+1+R.length->(A++[x]).Pairwise X.le->Q (Y<|IX A+1) g:=λA x R g S f u=>by simpa using h (A++[x]) R g (by simpa using S) (by simp) u (by simpa using f)
 have ge:∀{a b c},X.le b a->X.le c b->X.le c a:=λh1 t=>X.tr t h1;rw[countRun'_eq];dsimp only;refine Nj (λ_ _=>rfl) (A:=[]) S p IR f (by simp) λA x R S f u O=>?_;refine jA (λ_=>iO<|fin A x R _ S f u) λN=>?_;obtain⟨y,l,rfl⟩:=tN (l:=R) (by simp at N;lia);apply Ut λg=>Rp X q (T++((A++[x]).reverse++y::l)) g/\∀z∈A++[x],X.le y z
 .intro F;have w:=X.as _ _ (O y l IR);refine jA (λh1=>?_) λh1=>F _ ?_
  .obtain⟨a,A,rfl⟩:=tN (l:=A)<|Nat.lt_of_succ_lt_succ h1;refine E9 S (x:=a) (y:=x) (Jd (A:=[])<|by simpa using p.symm) (Jd<|by simp;lia) λb e=>?_
   cases b
   .refine HA (A:=a::A++[x]) (by simpa using S) p.symm (by simp;lia) λg n=>F _ ⟨n,λz k=>X.tr (X.tr w e) ?_⟩;rcases oq.mp k with rfl|k
    .exact X.rf _
    exact(zP.mp u).1 z k
   exact iO<|fin _ x _ _ S f u
  obtain rfl:=zW (l:=A) (by simpa using h1);exact⟨S,by simpa using w⟩
 rintro st ⟨S,d⟩;have t:(IX A)+2<=m:=by simp at f;lia
 dsimp only
 refine uH (nh (λi c s=>∃C B x R,c=(I,i,IX B)/\Rp X q (T++(C++(B++x::R))) s/\i=IX C+IX B+1/\m=i+R.length/\(C++(B++[x])).Pairwise (λa b=>X.le b a)/\(B++[x]).Pairwise X.le)
  (λc s=>∃C B x R,c=(I,IX C+IX B+1,IX B)/\Rp X q (T++(C++(B++x::R))) s/\m=IX C+IX B+1+R.length/\(C++(B++[x])).Pairwise (λa b=>X.le b a)/\(B++[x]).Pairwise X.le) ⟨(A++[x]).reverse,[],y,l,rfl,S,by simp,by simp at f ⊢;lia,?_,by simp⟩ ?_ ?_ ?_)
 .exact Fq (Hz.mpr u) λz k=>d z<|Jo.mp k
 .rintro i c s v ⟨C,B,x,R,rfl,S,rfl,f,d,u⟩;obtain⟨y,l,rfl⟩:=tN (l:=R) (by lia);rw[<-qO]at S;refine E9 S (ix1<|by simp;lia) (Jd<|by simp;lia) λb e=>?_
  cases b
  .refine E9 S (Jd<|by simp;lia) (ix1<|by simp;lia) λb M=>?_
   cases b
   .refine iO ⟨C,B++[x],y,l,by simp,by simpa using S,by simp;lia,by simp at f;lia,?_,Fq u<|F3 X.tr u e⟩;rw[<-qO]at d ⊢;rw[<-qO];exact Fq d<|F3 (r:=λa b=>X.le b a) ge d M
   exact iO ⟨C,B,x,_,rfl,by simpa using S,f,d,u⟩
  refine Ng (T:=T++C) (A:=B++[x]) (by simpa using S) (by simp;lia) (by simp;lia) (λz=>by simp at z ⊢;exact z) λg n=>iO ⟨C++(B++[x]).reverse,[],y,l,rfl,by simpa using n,by simp;lia,by simp at f;lia,Fq (dnT d u) λz k=>?_,by simp⟩;rw[<-qO]at d;exact F3 (r:=λa b=>X.le b a) ge d (X.as _ _ e) z (by simpa[or_comm]using k)
 .rintro c s ⟨C,B,x,R,rfl,S,v,f,d,u⟩;exact⟨C,B,x,R,by rw[v],S,by lia,d,u⟩
 rintro c s ⟨C,B,x,R,rfl,S,f,d,u⟩;refine Ng (T:=T++C) (A:=B++[x]) (by simpa using S) (by simp;lia) (by simp;lia) (λz=>by simp at z ⊢;exact z) λg n=>?_;refine HA (T:=T) (A:=C++(B++[x]).reverse) (by simpa using n) p.symm (by simp;lia) λg n=>?_;have u:=Hz.mpr<|dnT d u;rcases zV (C++(B++[x]).reverse).reverse with e|⟨E,G,e⟩
 .simp at e
 rw[e,Dh]at n u;have k:=mG ef e;simp at k;exact Nj (λ_ _=>rfl) (A:=E) (x:=G) (R:=R) (by simpa using n) p (by dsimp only;lia) (by dsimp only;lia) u λA x R S f u _=>iO<|fin A x R _ S f u
end
section
variable {X:Cs}{g:Type}{Q:g->sV->Prop}{st:sV}{q:Array (Nat×Nat×Nat)}{T A B D R L:jP}{i j x y:Nat}{p:Nat->Bool}
abbrev Mo(X:Cs)(p:Nat->Bool):Prop:= ∀a b,X.le a b->p b=J->p a=J
abbrev Lo(p:Nat->Bool)(A:jP)(a:Nat):Prop:= ∀i,i<a->p (A.getD i 0)=J
abbrev Hi(p:Nat->Bool)(A:jP)(a:Nat):Prop:= ∀i,a<=i->i<IX A->p (A.getD i 0)=U
def Pa:Mo X λz=>!X.lt x z:=λa b h c=>by simp at c ⊢;exact X.tr h c
def Z7:Mo X λz=>X.lt z x:=λa b h c=>by
 cases e:X.lt a x
 .exact k6<|(X.tr e h).symm.trans c
 exact e
def upD(u:A.Pairwise X.le)(b:i<=j)(h:j<IX A):X.le (A.getD i 0) (A.getD j 0):=by
 have a:i<(IX A):=by lia
 simp only[sA,jZ h,jZ a];rcases jp b with e|rfl
 .exact Ro.mp u i j a h e
 exact X.rf _
def FW(u:A.Pairwise X.le)(m:Mo X p)(h:i<IX A)(e:p (A.getD i 0)=J):Lo p A (i+1):=λj a=>m _ _ (upD u (by lia) h) e
def F9(u:A.Pairwise X.le)(m:Mo X p)(e:p (A.getD i 0)=U):Hi p A i:=λj a h=>by
 cases c:p (A.getD j 0)with
 |false=>rfl
 |true=>exact(m _ _ (upD u a h) c).symm.trans e
def J5(h:Lo p A i):∀z∈A.take i,p z=J:=λz a=>by obtain⟨k,hk,rfl⟩:=GY a;have hk:=uc▸hk;have:=h k (by lia);simpa[show k<(IX A) by lia]using this
def Kb(h:Hi p A i):∀z∈A.drop i,p z=U:=λz a=>by obtain⟨k,hk,rfl⟩:=GY a;simp at hk;have:=h (i+k) (by lia) (by lia);simpa[show i+k<(IX A) by lia]using this
def ixD(a:(IX T)=j)(h:i<IX A):(T++(A++R))[j+i]?=Y (A.getD i 0):=by subst a;rw[pL<|by lia,Dj,qk h];simp[h]
def acx(u:A.Pairwise X.le)(h1:∀z∈A.take i,(!X.lt y z)=J)(e:∀z∈A.drop i,(!X.lt y z)=U):(A.take i++y::A.drop i).Pairwise X.le:=by
 rw[<-vS i A,sP]at u;refine sP.mpr ⟨u.1,zP.mpr ⟨λz f=>X.as _ _ (by simpa using e z f),u.2.1⟩,λa d b c=>?_⟩;rcases oq.mp c with rfl|c
 .simpa using h1 a d
 exact u.2.2 a d b c
def Vy{lo n k:Nat}{Q:Bool->sV->Prop}(S:Rp X q (T++(A++R)) st)(M:(IX T)=lo)(E:(IX A)=k)(O:0<k)(o:n<=k+R.length)(hk:k<=n)(u:A.Pairwise X.le)
  (h:∀A R w,Rp X q (T++(A++R)) w->IX A=n->A.Pairwise X.le->Q J w):wp X (binarySort' lo n k) Q st:=by
 rw[binarySort'_eq,show max k 1=k by lia];dsimp only;refine nh (λk c s=>c=(I,())/\∃A R,Rp X q (T++(A++R)) s/\(IX A)=k/\A.Pairwise X.le/\n<=k+R.length) (λc s=>c=(I,())/\∃A R,Rp X q (T++(A++R)) s/\(IX A)=n/\A.Pairwise X.le) ⟨rfl,A,R,S,E,u,o⟩ ?_ ?_ ?_
 .rintro k c s m ⟨rfl,A,R,S,rfl,u,o⟩;obtain⟨y,l,rfl⟩:=tN (l:=R) (by lia)
  refine nh (λi c r=>r=s/\∃a b,c=(I,a,b)/\a<=b/\b<=IX A/\b<=a+(IX A-i)/\Lo (λz=>!X.lt y z) A a/\Hi (λz=>!X.lt y z) A b)
   (λc r=>r=s/\∃a b,c=(I,a,b)/\a<=IX A/\Lo (λz=>!X.lt y z) A a/\Hi (λz=>!X.lt y z) A a) ⟨rfl,0,IX A,rfl,by lia,by lia,by lia,λi h=>by lia,λi h N=>by lia⟩ ?_ ?_ ?_
  .rintro i c _ m ⟨rfl,a,b,rfl,h1,t,v,d,f⟩;dsimp only;refine jA (λe=>iO ⟨rfl,a,b,rfl,by lia,d,(show a=b by lia)▸f⟩) λe=>?_;refine E9 S (Jd<|by lia) (ixD M<|by lia) λc e=>?_
   cases c
   .exact iO ⟨rfl,_,b,rfl,by lia,by lia,by lia,FW u Pa (by lia)<|by rw[e];rfl,f⟩
   exact iO ⟨rfl,a,_,rfl,by lia,by lia,by lia,d,F9 u Pa<|by rw[e];rfl⟩
  .rintro c _ ⟨rfl,a,b,rfl,h1,t,v,d,f⟩;exact⟨rfl,a,b,rfl,by lia,d,(show a=b by lia)▸f⟩
  rintro c _ ⟨rfl,a,b,rfl,h1,t,v⟩;refine Vx (T:=T++A.take a) (A:=A.drop a) (by rw[qO,<-qO (A.take a),vS];exact S) (by simp;lia) (by simp;lia) λr G=>iO ⟨rfl,A.take a++y::A.drop a,l,by simpa using G,by simp;lia,acx u (J5 t)<|Kb v,by simp at o;lia⟩
 .rintro c s ⟨rfl,A,R,S,m,u,o⟩;exact⟨rfl,A,R,S,by lia,u⟩
 rintro c s ⟨rfl,A,R,S,m,u⟩;exact iO<|h A R s S m u
noncomputable def Tz:Bool->et->Array et->Nat->Nat->Nat->StateT sV dq (Option Nat):=sortPriv%PySem.Builtin.gallop
noncomputable def Pb:Array et->Array et->StateT sV dq (Array et):=sortPriv%PySem.Builtin.mergeLo
noncomputable def Pc:Array et->Array et->StateT sV dq (Array et):=sortPriv%PySem.Builtin.mergeHi
noncomputable def RK:Nat->StateT sV dq Unit:=sortPriv%PySem.Builtin.setMinGallop
def Zk{k:Nat->Nat->StateT sV dq g}{m:StateT sV dq g}(P:Nat->Nat->Prop)(c:(∀a b,P a b->wp X (k a b) Q st)->wp X m Q st)(hk:∀a b,P a b->wp X (k a b) Q st):wp X m Q st:=c hk
noncomputable abbrev gp(X:Cs)(left:Bool)(x z:Nat):Bool:=if left=J then X.lt z x else !X.lt x z
def DK{left:Bool}{base:Nat}{f:Option Bool->StateT sV dq g}(hk:kindOf st=X.κ)(k:∀z∈A,z<X.N)(c:x<X.N)(l:(IX T)=base)(a:i<IX A)(h:∀b,gp X left x (A.getD i 0)=b->wp X (f<|Y b) Q st):
  wp X ((elem' (ar X<|T++(A++R)) (base+i)>>=λz=>if left=J then lt' z (X.it x)else lt' (X.it x) z>>=λr=>pure<|q7 (λx=>!x) r)>>=f) Q st:=by
 have d:A.getD i 0<X.N:=k _ (by simp[a]);refine kQ<|mI (ixD l a) ?_
 cases left
 .exact E8 hk c d λb e=>iO<|h (!b)<|mG not e
 rw[iQ C,<-bind_pure (lt' _ _)];exact E8 hk d c λb e=>iO<|h b e
def yw{left:Bool}{base n hint:Nat}{Q:Option Nat->sV->Prop}(hk:kindOf st=X.κ)(t:∀z∈A,z<X.N)(w:x<X.N)(u:A.Pairwise X.le)(G:L=T++(A++R))(v:(IX T)=base)(H:(IX A)=n)(C:hint<n)
  (h:∀r,r<=n->(∀z∈A.take r,gp X left x z=IN)->(∀z∈A.drop r,gp X left x z=U)->Q (Y r) st):wp X (Tz left (X.it x) (ar X L) base n hint) Q st:=by
 subst G
 have m:Mo X (gp X left x):=by
  cases left
  .exact Pa
  exact Z7
 apply Zk λa b=>a<=b/\b<=n/\Lo (gp X left x) A a/\Hi (gp X left x) A b
 .intro F;refine DK hk t w v (H▸C) λb e=>?_;refine jA (λz=>?_) λz=>?_
  .subst z
   refine nh (λi c s=>st=s/\∃a b,c=(Ix,a,b)/\a<b/\i<b/\hint+a<n/\Lo (gp X left x) A (hint+a+1)) (λc s=>st=s/\∃a b,c=(Ix,a,b)/\a<b/\hint+a<n/\Lo (gp X left x) A (hint+a+1)/\(n-hint<=b\/Hi (gp X left x) A (hint+b)))
    ⟨rfl,0,1,rfl,by lia,by lia,C,FW u m (H▸C) e⟩ ?_ ?_ ?_
   .rintro i c _ E ⟨rfl,a,b,rfl,h1,o,l,f⟩;dsimp only;refine jA (λz=>iO ⟨rfl,a,b,rfl,h1,l,f,.inl z⟩) λz=>DK hk t w v (by lia) λc e=>?_
    cases c
    .exact iO ⟨rfl,a,b,rfl,h1,l,f,.inr<|F9 u m e⟩
    exact iO ⟨rfl,_,_,rfl,by lia,by lia,by lia,FW u m (by lia) e⟩
   .rintro c _ ⟨rfl,a,b,rfl,h1,o,l,f⟩;exact⟨rfl,a,b,rfl,h1,l,f,.inl<|by lia⟩
   rintro c _ ⟨rfl,a,b,rfl,h1,l,f,k⟩;dsimp only;generalize I:hint+a+1=c at*;generalize O:hint+min b (n-hint)=d;refine F c d ⟨by lia,by lia,f,λi J M=>?_⟩;rcases k with k|k
   .lia
   exact k i (by lia) M
  refine nh (λi c s=>st=s/\∃a b,c=(Ix,a,b)/\a<b/\i<b/\a<=hint/\Hi (gp X left x) A (hint-a)) (λc s=>st=s/\∃a b,c=(Ix,a,b)/\a<b/\a<=hint/\Hi (gp X left x) A (hint-a)/\(hint<b\/Lo (gp X left x) A (hint-b+1)))
   ⟨rfl,0,1,rfl,by lia,by lia,by lia,F9 u m<|by simpa[z]using e⟩ ?_ ?_ ?_
  .rintro i c _ E ⟨rfl,a,b,rfl,h1,o,l,f⟩;dsimp only;refine jA (λz=>iO ⟨rfl,a,b,rfl,h1,l,f,.inl z⟩) λz=>DK hk t w v (by lia) λc e=>?_
   cases c
   .exact iO ⟨rfl,_,_,rfl,by lia,by lia,by lia,F9 u m e⟩
   exact iO ⟨rfl,a,b,rfl,h1,l,f,.inr<|FW u m (by lia) e⟩
  .rintro c _ ⟨rfl,a,b,rfl,h1,o,l,f⟩;exact⟨rfl,a,b,rfl,h1,l,f,.inl<|by lia⟩
  rintro c _ ⟨rfl,a,b,rfl,h1,l,f,k⟩;dsimp only;generalize O:hint-a=d at*;generalize I:hint+1-min b (hint+1)=c;refine F c d ⟨by lia,by lia,λi J=>?_,f⟩;rcases k with k|k
  .lia
  exact k i (by lia)
 rintro a b ⟨h1,o,l,f⟩;refine nh (λi c s=>st=s/\∃a b,c=(Ix,a,b)/\a<=b/\b<=n/\b<=a+(n-i)/\Lo (gp X left x) A a/\Hi (gp X left x) A b) (λc s=>st=s/\∃a,c=(Ix,a,a)/\a<=n/\Lo (gp X left x) A a/\Hi (gp X left x) A a) ⟨rfl,a,b,rfl,h1,o,by lia,l,f⟩ ?_ ?_ ?_
 .rintro i c _ E ⟨rfl,a,b,rfl,h1,o,l,f,k⟩;refine jA (λz=>?_) λz=>DK hk t w v (by dsimp only at z ⊢;lia) λc e=>?_
  .have:a=b:=by dsimp only at z;lia
   subst this;exact iO ⟨rfl,a,rfl,o,f,k⟩
  dsimp only at z
  cases c
  .exact iO ⟨rfl,a,_,rfl,by dsimp only;lia,by dsimp only;lia,by dsimp only;lia,f,F9 u m e⟩
  exact iO ⟨rfl,_,b,rfl,by dsimp only;lia,o,by dsimp only;lia,FW u m (by dsimp only;lia) e,k⟩
 .rintro c _ ⟨rfl,a,b,rfl,h1,o,l,f,k⟩;have:a=b:=by lia
  subst this;exact⟨rfl,a,rfl,o,f,k⟩
 rintro c _ ⟨rfl,a,rfl,o,f,k⟩;exact iO<|h a o (J5 f)<|Kb k
end
section
variable {X:Cs}{β:Type}{Q:β->sV->Prop}{st:sV}{pq:Array (Nat×Nat×Nat)}{q r L Z a b o k:jP}{i j x y:Nat}{le:Nat->Nat->Prop}{out:Cc}
structure MG(le:Nat->Nat->Prop)(Z a b o:jP):Prop where
 s:o.Pairwise le
 c:∀x∈o,∀y∈a++b,le x y
 p:(o++(a++b)).Perm Z
 ua:a.Pairwise le
 ub:b.Pairwise le
def MG.put(m:MG le Z (k++a) b o)(h:∀x∈k,∀y∈b,le x y):MG le Z a b (o++k):=by
 have f:=sP.mp m.ua;refine⟨sP.mpr ⟨m.s,f.1,λx e y d=>m.c x e y<|by simp[d]⟩,λx e y d=>?_,by simpa using m.p,f.2.1,m.ub⟩;rcases pk.mp e with e|e
 .refine m.c x e y ?_;simp at d ⊢;exact .inr d
 rcases pk.mp d with d|d
 .exact f.2.2 x e y d
 exact h x e y d
def Mg(X:Cs)(le:Nat->Nat->Prop)(Z a b:jP)(out:Cc):Prop:= ∃o,out=ar X o/\MG le Z a b o
def Rs(X:Cs)(Z:jP)(out:Cc):Prop:= ∃o,out=ar X o/\o.Pairwise X.le/\o.Perm Z
def Mg.sw(m:Mg X le Z a b out):Mg X le Z b a out:=by obtain⟨o,e,m⟩:=m;exact⟨o,e,m.s,λx d y f=>m.c x d y<|by simpa[or_comm]using f,(Ur.append_left o).trans m.p,m.ub,m.ua⟩
def Mg.put(m:Mg X le Z a b out){a':jP}{c:Cc}(e:a=k++a')(h:∀x∈k,∀y∈b,le x y)(d:c=out++ar X k):Mg X le Z a' b c:=by obtain⟨o,rfl,m⟩:=m;exact⟨o++k,by simpa[ar]using d,(e▸m).put h⟩
def Mg.a1(m:Mg X le Z (q.drop i) b out)(c:i<IX q)(h:∀y∈b,le q[i] y):Mg X le Z (q.drop<|i+1) b (out.push<|X.it q[i]):=m.put (k:=[q[i]]) (Ac c) (by simpa using h) (by simp[ar])
def Mg.ak(m:Mg X le Z (q.drop i) b out)(h:∀x∈(q.drop i).take j,∀y∈b,le x y):Mg X le Z (q.drop<|i+j) b (out++(ar X q).extract i (i+j)):=m.put (by rw[<-List.drop_drop,vS]) h (by simp[ar])
def Mg.fin(m:Mg X X.le Z (q.drop i) (r.drop j) out)(h:∀x∈q.drop i,∀y∈r.drop j,X.le x y):Rs X Z (out++(ar X q).extract i (ar X q).size++(ar X r).extract j (ar X r).size):=by obtain⟨o,e,m⟩:=((m.put (k:=q.drop i) (a':=[]) (by simp) h C).sw).put (k:=r.drop j) (a':=[]) (by simp) (by simp) C;exact⟨o,by rw[<-e];simp[ar,dE],m.s,by simpa using m.p⟩
def Mg.end(m:Mg X X.le Z (q.drop i) (r.drop j) out)(h:(IX q)<=i\/(IX r)<=j):Rs X Z (out++(ar X q).extract i (ar X q).size++(ar X r).extract j (ar X r).size):=m.fin λx c y d=>by
 rcases h with h|h
 .rw[Ab h]at c;cases c
 rw[Ab h]at d;cases d
def Mg.hd(m:Mg X le Z (q.drop i) b out)(f:∀{a b c},le a b->le b c->le a c)(e:i<IX q)(h:le x q[i]):∀y∈q.drop i,le x y:=λy d=>by
 obtain⟨o,_,m⟩:=m;have:=m.ua;rw[Ac e]at this d;rcases oq.mp d with rfl|d
 .exact h
 exact f h ((zP.mp this).1 y d)
def L5{P:d->Prop}{f:α->β->d}{T:α->β->Prop}{c:d}(x:∃a b,c=f a b/\T a b)(h:∀a b,T a b->P (f a b)):P c:=by obtain⟨_,_,rfl,i⟩:=x;exact h _ _ i
def eX4{P:g->Prop}{f:α->β->l->m->g}{T:α->β->l->m->Prop}{c:g}(x:∃a b d e,c=f a b d e/\T a b d e)(h:∀a b c d,T a b c d->P (f a b c d)):P c:=by obtain⟨_,_,_,_,rfl,i⟩:=x;exact h _ _ _ _ i
def Ln{P:l->Prop}{f:α->β->m->n->ζ->l}{T:α->β->m->n->ζ->Prop}{c:l}(x:∃a b d e g,c=f a b d e g/\T a b d e g)(h:∀a b c d e,T a b c d e->P (f a b c d e)):P c:=by obtain⟨_,_,_,_,_,rfl,i⟩:=x;exact h _ _ _ _ _ i
def Lm{P:l->Prop}{f:α->β->m->n->ζ->η->l}{T:α->β->m->n->ζ->η->Prop}{c:l}(x:∃a b d e g k,c=f a b d e g k/\T a b d e g k)(h:∀a b c d e g,T a b c d e g->P (f a b c d e g)):P c:=by obtain⟨_,_,_,_,_,_,rfl,i⟩:=x;exact h _ _ _ _ _ _ i
def L7{a b c d e P:Prop}(h:a->b->c->d->e->P)(x:a/\b/\c/\d/\e):P:=h x.1 x.2.1 x.2.2.1 x.2.2.2.1 x.2.2.2.2
def DJ{f:Unit->StateT sV dq β}{n:Nat}(S:Rp X pq L st)(h:∀c,Rp X pq L c->wp X (f ()) Q c):wp X (RK n>>=f) Q st:=vX (g:=λs=>SortSt.mk' (kindOf s) (eW s) (pendingOf s) n<|fH s)<|h _ ⟨S.a,S.k,S.f,S.q,S.p⟩
def Ju{e:Type}{k:e->Nat->StateT sV dq β}{m:StateT sV dq β}(P:e->Nat->sV->Prop)(f:(∀c n d,P c n d->wp X (k c n) Q d)->wp X m Q st)(hk:∀c n d,P c n d->wp X (k c n) Q d):wp X m Q st:=f hk
def Nh{k:Nat->StateT sV dq β}{m:StateT sV dq β}(P:Nat->sV->Prop)(d:(∀n c,P n c->wp X (k n) Q c)->wp X m Q st)(hk:∀n c,P n c->wp X (k n) Q c):wp X m Q st:=d hk
def Zj{Q:Array et->sV->Prop}(S:Rp X pq L st)(u1:q.Pairwise X.le)(u2:r.Pairwise X.le)(J:∀z∈q,z<X.N)(M:∀z∈r,z<X.N)(h1:0<IX q)(h2:0<IX r)(hd:∀y∈q,X.le r[0] y)(top:∀x∈r,X.le x q[IX q-1])
  (h:∀out s,Rp X pq L s->Rs X (q++r) out->Q out s):wp X (Pb (ar X q)<|ar X r) Q st:=by
 have sq:(ar X q).size=(IX q):=by simp
 have sr:(ar X r).size=(IX r):=by simp
 have K:Mg X X.le (q++r) (q.drop 0) (r.drop 1) #[X.it r[0]]:=Mg.sw<|Mg.a1 (q:=r) (i:=0) (out:= #[]) ⟨[],rfl,.nil,by simp,by simpa using Ur,by simpa using u2,by simpa using u1⟩ h2 hd
 have last:∀{out i j},Mg X X.le (q++r) (q.drop i) (r.drop j) out->i+1=IX q->Rs X (q++r) (out++(ar X r).extract j (ar X r).size++(ar X q).extract i (ar X q).size):=λ{_ i j} m e=>m.sw.fin λx H y w=>by
  have hi:i<(IX q):=by lia
  rw[Ac hi,Ab<|by lia,EU]at w;have:=top x<|Dg H;simpa only[w,<-e,j0]using this
 refine uH<|mI (x:=r[0]) (by simp) ?_;refine jA (λe=>iO<|h _ _ S (K.end<|.inr<|by simp at e;lia)) λe=>jA (λp=>iO<|h _ _ S (last K<|by simpa using p)) λp=>pN ?_
 let I:=λ(c:Nat) out d f s=>Rp X pq L s/\Mg X X.le (q++r) (q.drop d) (r.drop f) out/\d+1<IX q/\f<IX r/\c<=d+f
 refine nh (λi c s=>∃out d f B,c=(Ix,out,d,f,B)/\I (i+1) out d f s) (λc s=>∃out t,c=(Go out,t)/\Rp X pq L s/\Rs X (q++r) out) ⟨_,0,1,_,rfl,S,K,by simp at p;lia,by simp at e;lia,by lia⟩ ?_ ?_ ?_
 .intro i c s _ h;apply eX4 h;clear h;intro out d f B D;refine nh (λj c s=>∃out d f ac v,c=(Ix,out,d,f,ac,v)/\I (i+1+j) out d f s) (λc s=>(∃out t,c=(Go out,t)/\Rp X pq L s/\Rs X (q++r) out)\/∃out d f ac v,c=(Ix,out,d,f,ac,v)/\I (i+1) out d f s) ⟨_,_,_,_,_,rfl,D⟩ ?_ ?_ ?_
  .intro j c s _ h;apply Ln h;clear h;refine λout d f ac v=>L7 λS m C n E=>?_;dsimp only;refine mI (x:=r[f]) (by simp) (mI (x:=q[d]) (by simp)<|E8 S.k (M _ (by simp)) (J _ (by simp)) λb e=>?_)
   cases b
   .have l:=m.a1 (by lia)<|m.sw.hd X.tr n e;exact mI (x:=q[d]) (by simp)<|jA (λe=>iO<|.inl ⟨_,_,rfl,S,last l<|by simpa using e⟩) λe=>jA (λ_=>iO<|.inr ⟨_,_,_,_,_,rfl,S,l,by simp at e;lia,n,by lia⟩) λ_=>iO ⟨_,_,_,_,_,rfl,S,l,by simp at e;lia,n,by lia⟩
   have l:=(m.sw.a1 n<|m.hd X.tr (by lia)<|X.as _ _ e).sw;exact mI (x:=r[f]) (by simp)<|jA (λe=>iO<|.inl ⟨_,_,rfl,S,l.end<|.inr<|by simp at e;lia⟩) λe=>jA (λ_=>iO<|.inr ⟨_,_,_,_,_,rfl,S,l,C,by simp at e;lia,by lia⟩) λ_=>iO ⟨_,_,_,_,_,rfl,S,l,C,by simp at e;lia,by lia⟩
  .refine λc s h=>aR ?_;obtain⟨_,d,f,_,_,_,S,m,C,n,E⟩:=h;lia
  intro c s z;refine z.elim (λh=>?_) λh=>?_
  .apply L5 h;exact λout _ U=>iO ⟨out,_,rfl,U⟩
  apply Ln h;clear h z;refine λout d f ac v D=>uH<|nh (λj c s=>∃out d f B ac v,c=(Ix,out,d,f,B,ac,v)/\I (i+1+j) out d f s) (λc s=>(∃out t,c=(Go out,t)/\Rp X pq L s/\Rs X (q++r) out)\/∃out d f B ac v,c=(Ix,out,d,f,B,ac,v)/\I (i+2) out d f s) ⟨_,_,_,_,_,_,rfl,D⟩ ?_ ?_ ?_
  .intro j c s _ h;apply Lm h;clear h;refine λout d f B ac v=>L7 λS m C n E=>?_;dsimp only;apply Nh λ_ s=>Rp X pq L s
   .intro F;refine jA (λ_=>?_) λ_=>?_
    .generalize B-1=g;exact F g s S
    exact F B s S
   intro g s S;refine DJ S λs S=>mI (x:=r[f]) (by simp)<|kQ<|yw (T:=q.take d) (A:=q.drop d) (R:=[]) S.k (λz Y=>J z<|Dg Y) (M _ (by simp)) (u1.sublist<|GX _ _) (by simp) (by simp;lia) (by simp) (by simp;lia) λk _ P V=>?_;dsimp only;apply Ju λout d s=>Rp X pq L s/\Mg X X.le (q++r) (q.drop d) (r.drop f) out/\d+1<IX q/\i+1+j<=d+f/\∀y∈q.drop d,X.le r[f] y
   .intro F;have mk:=m.ak (j:=k) λx H y w=>m.sw.hd (x:=x) X.tr n (by simpa using P x H) y w;have u:∀y∈q.drop (d+k),X.le r[f] y:=λy w=>X.as _ _ (by simpa using V y<|by simpa using w);refine jA (λe=>?_) λe=>?_
    .refine jA (λG=>iO<|.inl ⟨_,_,rfl,S,last mk<|by simpa using G⟩) λG=>jA (λp=>iO<|.inl ⟨_,_,rfl,S,mk.end<|.inl<|by simp at p;lia⟩) λp=>?_;generalize out++(ar X q).extract d (d+k)=out at mk ⊢;generalize W:d+k=ic at mk u G p ⊢;exact F out ic s ⟨S,mk,by simp at G p;lia,by lia,u⟩
    rw[show k=0 by lia]at u;exact F out d s ⟨S,m,C,E,u⟩
   refine λout d s=>L7 λS m C E u=>?_;have l:=(m.sw.a1 n u).sw;refine mI (x:=r[f]) (by simp)<|jA (λe=>iO<|.inl ⟨_,_,rfl,S,l.end<|.inr<|by simp at e;lia⟩) λe=>mI (x:=q[d]) (by simp)<|kQ<|yw (T:=r.take<|f+1) (A:=r.drop<|f+1) (R:=[]) S.k (λz Y=>M z<|Dg Y) (J _ (by simp)) (u2.sublist<|GX _ _) (by simp) (by simp;lia) (by simp) (by simp at e ⊢;lia) λO _ P V=>?_;dsimp only;apply Ju λout f s=>Rp X pq L s/\Mg X X.le (q++r) (q.drop d) (r.drop f) out/\f<IX r/\i+1+j<d+f/\∀y∈r.drop f,X.le q[d] y
   .intro F;have mk:=(l.sw.ak (j:=O) λx H y w=>l.hd X.tr (by lia) (X.as _ _ (P x H)) y w).sw;have u:∀y∈r.drop (f+1+O),X.le q[d] y:=λy w=>V y (by simpa using w);refine jA (λ_=>?_) λe3=>?_
    .refine jA (λp=>iO<|.inl ⟨_,_,rfl,S,mk.end<|.inr<|by simp at p;lia⟩) λp=>?_;generalize out.push (X.it r[f])++(ar X r).extract (f+1) (f+1+O)=out at mk ⊢;generalize W:f+1+O=ic at mk u p ⊢;exact F out ic s ⟨S,mk,by simp at p;lia,by lia,u⟩
    rw[show O=0 by lia]at u;exact F _ _ s ⟨S,l,by simp at e;lia,by lia,u⟩
   refine λout f s=>L7 λS m n E u=>?_;have l:=m.a1 (by lia) u;exact mI (x:=q[d]) (by simp)<|jA (λe=>iO<|.inl ⟨_,_,rfl,S,last l<|by simpa using e⟩) λe=>jA (λ_=>iO<|.inr ⟨_,_,_,_,_,_,rfl,S,l,by simp at e;lia,n,by lia⟩) λ_=>iO ⟨_,_,_,_,_,_,rfl,S,l,by simp at e;lia,n,by lia⟩
  .refine λc s h=>aR ?_;obtain⟨_,d,f,_,_,_,_,S,m,C,n,E⟩:=h;lia
  intro c s z;refine z.elim (λh=>?_) λh=>?_
  .apply L5 h;exact λout _ U=>iO ⟨out,_,rfl,U⟩
  apply Lm h;clear h z;exact λ_ _ _ _ _ _ h=>DJ h.1 λs S=>iO ⟨_,_,_,_,rfl,S,h.2⟩
 .refine λc s h=>aR ?_;obtain⟨_,d,f,_,_,S,m,C,n,E⟩:=h;lia
 intro c s x;apply L5 x;exact λ_ _ m=>iO<|h _ _ m.1 m.2
end
section
variable {X:Cs}{u:Type}{Q:u->sV->Prop}{st:sV}{l:Array (Nat×Nat×Nat)}{q r L Z a b o k:jP}{i j x y n:Nat}{out:Cc}
theorem ss1(n:Nat):n+1-1=n:=rfl
abbrev Cs.ge(X:Cs)(i j:Nat):Prop:=X.le j i
def Mg.h1(m:Mg X X.ge Z (q.take<|n+1).reverse b out)(c:n<IX q)(h:∀y∈b,X.le y q[n]):Mg X X.ge Z (q.take n).reverse b (out.push<|X.it q[n]):=m.put (k:=[q[n]]) (by rw[GW];simp[c]) (by simpa using h) (by simp[ar])
def Mg.hk(m:Mg X X.ge Z (q.take n).reverse b out)(c:i<=n)(h:∀x∈(q.take n).drop i,∀y∈b,X.le y x):Mg X X.ge Z (q.take i).reverse b (out++((ar X q).extract i n).reverse):=m.put (k:=((q.take n).drop i).reverse) (by rw[<-List.reverse_append,<-d6 c,<-fK,d6 c,vS]) (by simpa using h) (by simp[ar,List.extract_eq_drop_take'])
def Mg.LO(m:Mg X X.ge Z (q.take i).reverse (r.take j).reverse out)(h:∀x∈q.take i,∀y∈r.take j,X.le x y):Rs X Z ((ar X q).extract 0 i++(ar X r).extract 0 j++out.reverse):=by obtain⟨o,e,m⟩:=(m.sw.put (k:=(r.take j).reverse) (a':=[]) (by simp) (by simpa using λx c y d=>h y d x c) C).sw.put (k:=(q.take i).reverse) (a':=[]) (by simp) (by simp) C;refine⟨o.reverse,?_,Hz.mpr m.s,(zY o).trans<|by simpa using m.p⟩;have:=mG Array.reverse e;simpa[ar,List.extract_eq_take_drop]using this
def Mg.IQ(m:Mg X X.ge Z (q.take i).reverse (r.take j).reverse out)(h:i=0\/j=0):Rs X Z ((ar X q).extract 0 i++(ar X r).extract 0 j++out.reverse):=m.LO λx c y d=>by
 rcases h with rfl|rfl
 .cases c
 cases d
def Mg.Ll(m:Mg X X.ge Z (q.take<|n+1).reverse b out)(d:n<IX q)(h:X.le q[n] x):∀y∈(q.take<|n+1).reverse,X.le y x:=λy c=>by
 obtain⟨o,_,m⟩:=m;have:=m.ua;rw[show(q.take<|n+1).reverse=q[n]::(q.take n).reverse by rw[GW];simp[d]]at this c;rcases oq.mp c with rfl|c
 .exact h
 exact X.tr ((zP.mp this).1 y c) h
def aX7{a b c d e f g P:Prop}(h:a->b->c->d->e->f->g->P)(x:a/\b/\c/\d/\e/\f/\g):P:=L7 (λa b c d e=>h a b c d e.1 e.2.1 e.2.2) x
def aX6{a b c d e f P:Prop}(h:a->b->c->d->e->f->P)(x:a/\b/\c/\d/\e/\f):P:=L7 (λa b c d e=>h a b c d e.1 e.2) x
def Zl{Q:Array et->sV->Prop}(S:Rp X l L st)(u1:q.Pairwise X.le)(u2:r.Pairwise X.le)(hq:∀z∈q,z<X.N)(hr:∀z∈r,z<X.N)(h1:0<IX q)(h2:0<IX r)(hd:∀y∈q,X.le r[0] y)(top:∀x∈r,X.le x q[IX q-1])
  (h:∀out s,Rp X l L s->Rs X (q++r) out->Q out s):wp X (Pc (ar X q)<|ar X r) Q st:=by
 have sq:(ar X q).size=(IX q):=by simp
 have sr:(ar X r).size=(IX r):=by simp
 have V:Mg X X.ge (q++r) (q.take<|IX q-1).reverse (r.take<|IX r).reverse #[X.it q[IX q-1]]:=Mg.h1 (out:= #[]) ⟨[],rfl,.nil,by simp,by simpa[jl h1]using(zY q).append (zY r),by simpa[jl h1,Hz]using u1,by simpa[Hz]using u2⟩ (by lia) (by simpa using top)
 have last:∀{out i},Mg X X.ge (q++r) (q.take i).reverse (r.take 1).reverse out->Rs X (q++r) ((ar X r).extract 0 1++(ar X q).extract 0 i++out.reverse):=λm=>m.sw.LO λx D y Y=>by obtain⟨b,r,rfl⟩:=tN h2;simp at D;subst D;exact hd y<|vR Y
 refine uH<|mI (x:=q[IX q-1]) (by simp) ?_;rw[sq,sr];refine jA (λe=>iO<|h _ _ S (V.IQ<|.inl<|by simpa using e)) λe=>jA (λB=>iO<|h _ _ S ?_) λB=>pN ?_
 .have B:(IX r)=1:=by simpa using B
  rw[B]at V ⊢;exact last V
 let I:=λ(c:Nat) out d f s=>Rp X l L s/\Mg X X.ge (q++r) (q.take d).reverse (r.take f).reverse out/\0<d/\d<=IX q/\1<f/\f<=IX r/\c+d+f<=IX q+IX r
 refine nh (λi c s=>∃d f out O,c=(Ix,d,f,out,O)/\I (i+1) out d f s) (λc s=>∃out t,c=(Go out,t)/\Rp X l L s/\Rs X (q++r) out) ⟨_,_,_,_,rfl,S,V,by simp at e;lia,by lia,by simp at B;lia,by lia,by lia⟩ ?_ ?_ ?_
 .intro i c s _ h;apply eX4 h;clear h;intro d f out O i0;refine nh (λj c s=>∃d f out ac w,c=(Ix,d,f,out,ac,w)/\I (i+1+j) out d f s) (λc s=>(∃out t,c=(Go out,t)/\Rp X l L s/\Rs X (q++r) out)\/∃d f out ac w,c=(Ix,d,f,out,ac,w)/\I (i+1) out d f s) ⟨_,_,_,_,_,rfl,i0⟩ ?_ ?_ ?_
  .intro j c s _ h;apply Ln h;clear h;refine λd f out ac w=>aX7 λS m G J C E M=>?_;obtain⟨n,rfl⟩:∃n,d=n+1:=⟨d-1,by lia⟩
   obtain⟨p,rfl⟩:∃n,f=n+1:=⟨f-1,by lia⟩
   dsimp only[ss1];refine mI (x:=r[p]) (by simp)<|mI (x:=q[n]) (by simp)<|E8 S.k (hr _ (by simp)) (hq _ (by simp)) λb e=>?_
   cases b
   .have v:=(m.sw.h1 (by lia)<|m.Ll (by lia) e).sw;refine mI (x:=r[p]) (by simp)<|jA (λe=>?_) λe=>jA (λ_=>iO<|.inr ⟨_,_,_,_,_,rfl,S,v,G,J,by simp at e;lia,by lia,by lia⟩) λ_=>iO ⟨_,_,_,_,_,rfl,S,v,G,J,by simp at e;lia,by lia,by lia⟩;obtain rfl:p=1:=by simpa using e
    exact iO<|.inl ⟨_,_,rfl,S,last v⟩
   have v:=m.h1 (by lia)<|m.sw.Ll (by lia)<|X.as _ _ e;exact mI (x:=q[n]) (by simp)<|jA (λe=>iO<|.inl ⟨_,_,rfl,S,v.IQ<|.inl<|by simpa using e⟩) λe=>jA (λ_=>iO<|.inr ⟨_,_,_,_,_,rfl,S,v,by simp at e;lia,by lia,C,E,by lia⟩) λ_=>iO ⟨_,_,_,_,_,rfl,S,v,by simp at e;lia,by lia,C,E,by lia⟩
  .refine λc s h=>aR ?_;obtain⟨_,_,_,_,_,_,S,m,G,J,C,E,M⟩:=h;lia
  intro c s z;refine z.elim (λh=>?_) λh=>?_
  .apply L5 h;exact λout _ hs=>iO ⟨out,_,rfl,hs⟩
  apply Ln h;clear h z;refine λd f out ac w i0=>uH<|nh (λj c s=>∃d f out O ac w,c=(Ix,d,f,out,O,ac,w)/\I (i+1+j) out d f s) (λc s=>(∃out t,c=(Go out,t)/\Rp X l L s/\Rs X (q++r) out)\/∃d f out O ac w,c=(Ix,d,f,out,O,ac,w)/\I (i+2) out d f s) ⟨_,_,_,_,_,_,rfl,i0⟩ ?_ ?_ ?_
  .intro j c s _ h;apply Lm h;clear h;refine λd f out O ac w=>aX7 λS m G J C E M=>?_;obtain⟨p,rfl⟩:∃n,f=n+1:=⟨f-1,by lia⟩
   dsimp only[ss1];apply Nh λ_ s=>Rp X l L s
   .intro F;refine jA (λ_=>?_) λ_=>?_
    .generalize O-1=g;exact F g s S
    exact F O s S
   intro g s S;refine DJ S λs S=>mI (x:=r[p]) (by simp)<|kQ<|yw (T:=[]) (A:=q.take d) (R:=q.drop d) S.k (λz hz=>hq z<|vR hz) (hr _ (by simp)) (u1.sublist<|yt _ _) (by simp) IR (by simp;lia) (by lia) λk hk t1 t2=>?_;dsimp only;apply Ju λout d s=>Rp X l L s/\Mg X X.ge (q++r) (q.take d).reverse (r.take<|p+1).reverse out/\0<d/\d<=IX q/\i+1+j+d+p<IX q+IX r/\∀y∈q.take d,X.le y r[p]
   .intro F;have mk:=m.hk hk λx D y Y=>m.sw.Ll (x:=x) (by lia) (X.as _ _ (by simpa using t2 x D)) y Y;have U:∀y∈q.take k,X.le y r[p]:=λy Y=>by simpa using t1 y (by rwa [fK,d6 hk])
    refine jA (λe=>?_) λe=>?_
    .refine jA (λH=>iO<|.inl ⟨_,_,rfl,S,mk.IQ<|.inl<|by simpa using H⟩) λH=>?_;generalize out++((ar X q).extract k d).reverse=out at mk ⊢;generalize ea:k=ic at mk U H ⊢;exact F out ic s ⟨S,mk,by simp at H;lia,by lia,by lia,U⟩
    obtain rfl:k=d:=by lia
    exact F out _ s ⟨S,m,G,J,by lia,U⟩
   refine λout P s=>aX6 λS m G J M U=>?_;have v:=(m.sw.h1 (by lia)<|by simpa using U).sw;obtain⟨n,rfl⟩:∃n,P=n+1:=⟨P-1,by lia⟩
   dsimp only[ss1];refine mI (x:=r[p]) (by simp)<|jA (λe=>?_) λe=>mI (x:=q[n]) (by simp)<|kQ<|yw (T:=[]) (A:=r.take p) (R:=r.drop p) S.k (λz hz=>hr z<|vR hz) (hq _ (by simp)) (u2.sublist<|yt _ _) (by simp) IR (by simp;lia) (by lia) λK bL t1 t2=>?_
   .obtain rfl:p=1:=by simpa using e
    exact iO<|.inl ⟨_,_,rfl,S,last v⟩
   dsimp only;apply Ju λout f s=>Rp X l L s/\Mg X X.ge (q++r) (q.take<|n+1).reverse (r.take f).reverse out/\1<f/\f<=IX r/\i+1+j+(n+1)+f<IX q+IX r/\∀y∈r.take f,X.le y q[n]
   .intro F;have mk:=(v.sw.hk bL λx D y Y=>v.Ll (x:=x) (by lia) (t2 x D) y Y).sw;have W:∀y∈r.take K,X.le y q[n]:=λy Y=>X.as _ _ (t1 y<|by rwa [fK,d6 bL]);refine jA (λ_=>?_) λe3=>?_
    .refine jA (λH=>?_) λH=>jA (λB=>iO<|.inl ⟨_,_,rfl,S,mk.IQ<|.inr<|by simpa using B⟩) λB=>?_
     .obtain rfl:K=1:=by simpa using H
      exact iO<|.inl ⟨_,_,rfl,S,last mk⟩
     generalize out.push (X.it r[p])++((ar X r).extract K p).reverse=out at mk ⊢;generalize ea:K=ic at mk W H B ⊢;exact F out ic s ⟨S,mk,by simp at H B;lia,by lia,by lia,W⟩
    obtain rfl:K=p:=by lia
    exact F _ _ s ⟨S,v,by simp at e;lia,by lia,M,W⟩
   refine λout f s=>aX6 λS m C E M U=>?_;have v:=m.h1 (by lia) (by simpa using U);exact mI (x:=q[n]) (by simp)<|jA (λe=>iO<|.inl ⟨_,_,rfl,S,v.IQ<|.inl<|by simpa using e⟩) λe=>jA (λ_=>iO<|.inr ⟨_,_,_,_,_,_,rfl,S,v,by simp at e;lia,by lia,C,E,by lia⟩) λ_=>iO ⟨_,_,_,_,_,_,rfl,S,v,by simp at e;lia,by lia,C,E,by lia⟩
  .refine λc s h=>aR ?_;obtain⟨_,_,_,_,_,_,_,S,m,G,J,C,E,M⟩:=h;lia
  intro c s z;refine z.elim (λh=>?_) λh=>?_
  .apply L5 h;exact λout _ hs=>iO ⟨out,_,rfl,hs⟩
  apply Lm h;exact λ_ _ _ _ _ _ h=>DJ h.1 λs S=>iO ⟨_,_,_,_,rfl,S,h.2⟩
 .refine λc s h=>aR ?_;obtain⟨_,_,_,_,_,S,m,G,J,C,E,M⟩:=h;lia
 intro c s x;apply L5 x;exact λ_ _ m=>iO<|h _ _ m.1 m.2
end
section
variable {X:Cs}{t:Type}{Q:t->sV->Prop}{st:sV}{d:Array (Nat×Nat×Nat)}{T A B R L:jP}{i j x y n s:Nat}{o C:List (List Nat)}{r w:List (Nat×Nat×Nat)}
def Qf{c:Type}:∀(m K T R:List c)(j a:Nat),a+j=IX T->K.length=IX m->(m.zipIdx j).foldl (λ(x:Array c) (p:c×Nat)=>x.setIfInBounds (a+p.2) p.1) (T++(K++R)).toArray=(T++(m++R)).toArray:=by
 intro f
 induction f with
 |nil=>intro K T R j a h b;rw[zW b];rfl
 |cons y m e=>intro K T R j a h b;obtain⟨k,K,rfl⟩:=tN (l:=K) (by simp[b]);rw[kl,vQ];have:=e K (T++[y]) R (j+1) a (by simp;lia) (by simpa using b);simpa[h]using this
def Rn(X:Cs):Nat->List (List Nat)->List (Nat×Nat×Nat)->Prop
 |_,[],[]=>True
 |s,A::o,p::r=>p.1=s/\p.2.1=IX A/\A≠[]/\A.Pairwise X.le/\Rn X (s+IX A) o r
 |_,_,_=>False
theorem Rn.cut:∀{r:List (Nat×Nat×Nat)}{s:Nat}{o:List (List Nat)},Rn X s o (r++w)->∃a L2,o=a++L2/\Rn X (s+IX a.flatten) L2 w/\∀M q,Rn X (s+IX a.flatten) M q->Rn X s (a++M) (r++q)
 |[],s,o,h=>⟨[],o,rfl,h,λ_ _ h=>h⟩
 |p::r,s,[],h=>h.elim
 |p::r,s,A::o,h=>by
  obtain⟨h1,b,c,f,g⟩:=h;obtain⟨a,L2,rfl,k,l⟩:=Rn.cut g;have e:s+(A::a).flatten.length=s+IX A+(IX a.flatten):=by simp;lia
  exact⟨A::a,L2,rfl,e▸k,λM q h=>⟨h1,b,c,f,l M q<|e▸h⟩⟩
def Vw{s:sV}{f:PUnit->StateT sV dq t}(h:wp X (f ⟨⟩) Q s):wp X (set s>>=f) Q st:=kQ λ_ g=>by rw[StateT.run_set];exact iJ ⟨g,h⟩
def upA(u:A.Pairwise X.le)(v:B.Pairwise X.le)(h:∀a∈A,∀b∈B,X.le a b):(A++B).Pairwise X.le:=sP.mpr ⟨u,v,h⟩
def Vf(a:L=T++(A++R))(b:i=IX T)(c:j=IX T+IX A):(ar X L).extract i j=ar X A:=by subst a b c;simp
def Us{Q:Bool->sV->Prop}(S:Rp X d (o.flatten++R) st)(hr:Rn X 0 o d.toList)(hi:i+1<d.size)(h:∀b8 cw ir,Rp X cw (ir.flatten++R) b8->Rn X 0 ir cw.toList->cw.size+1=d.size->IX ir.flatten=IX o.flatten->Q IN b8):wp X (mergeAt' i) Q st:=by
 obtain⟨d⟩:=d
 obtain⟨H,⟨Y,D,K⟩,⟨sb,F,eu⟩,U,rfl,rfl⟩:∃H x y U,d=H++x::y::U/\(IX H)=i:=by have hi:i+1<(IX d):=hi;exact⟨d.take i,d[i],d[i+1],d.drop<|i+2,by simp,by simp;lia⟩
 obtain⟨L1,L2,rfl,h2,h3⟩:=Rn.cut hr
 obtain⟨A,B,L2,rfl⟩:∃A B L,L2=A::B::L:=by
  match L2,h2 with
  |A::B::L,_=>exact⟨A,B,L,rfl⟩
  |[A],h=>exact h.2.2.2.2.elim
  |[],h=>exact h.elim
 obtain⟨O,Z,a1,P,hb,cK,b1,V,h4⟩:=h2;dsimp only at O Z hb cK;obtain⟨κ',a',p',g,f'⟩:=st;have e1:a'=_:=S.a;have e2:p'=_:=S.q;subst e1 e2;rw[show(L1++A::B::L2).flatten++R=L1.flatten++(A++(B++(L2.flatten++R))) by simp]at S ⊢
 have fin:∀b8 M,Rp X (H++(Y,D+F,K)::U).toArray (L1.flatten++(M++(L2.flatten++R))) b8->M.Perm (A++B)->M.Pairwise X.le->Q IN b8:=λb8 M J em u=>by have em:=em.length_eq;rw[oG,<-Z,<-cK]at em;refine h _ (H++(Y,D+F,K)::U).toArray (L1++M::L2) (by simpa using J) (h3 _ _ ⟨O,em.symm,λe=>a1 ?_,u,by rwa [em,Z,cK,<-yj]⟩) (by simp;lia) (by simp;lia);exact zW (by rw[e]at em;simp at em;lia)
 have ep:∀z,((H++(Y,D,K)::(sb,F,eu)::U).toArray.setIfInBounds (IX H) z).eraseIdxIfInBounds (IX H+1)=(H++z::U).toArray:=λz=>by simp[List.eraseIdx_append];intro;lia
 clear h h3 h4 hr;generalize L1.flatten=T at*;generalize L2.flatten++R=R at*;have hN:∀z,z∈A\/z∈B->z<X.N:=λz l=>by simpa using S.p.mem_iff.mp<|pd _ (by rcases l with h|h<;>simp[h])
 obtain⟨y,B',eB⟩:=List.exists_cons_of_ne_nil b1
 have hy:∀z∈B,X.le y z:=λz l=>by
  rw[eB]at V l;rcases oq.mp l with rfl|l
  .exact X.rf _
  exact(zP.mp V).1 z l
 refine pN ?_;dsimp only;rw[show(H++(Y,D,K)::(sb,F,eu)::U).toArray[IX H]?=Go (Y,D,K) by simp,show(H++(Y,D,K)::(sb,F,eu)::U).toArray[IX H+1]?=Go (sb,F,eu) by simp];dsimp only;rw[ep];refine Vw<|mI (x:=y) (by rw[eB];exact Jd<|by lia)<|kQ<|yw S.k (λz h=>hN z<|.inl h) (hN y<|.inr<|by simp[eB]) P IR (by lia) Z.symm (by have:=M1.mpr a1;lia) λk hk t1 t2=>?_;have S2:Rp X (H++(Y,D+F,K)::U).toArray (T++(A++(B++R))) (SortSt.mk' κ' (ar X<|T++(A++(B++R))) (H++(Y,D+F,K)::U).toArray g f'):=⟨rfl,S.k,S.f,rfl,S.p⟩
 have done:(∀a∈A,X.le a y)->Q IN (SortSt.mk' κ' (ar X<|T++(A++(B++R))) (H++(Y,D+F,K)::U).toArray g f'):=λz=>fin _ (A++B) (by simpa using S2) (.refl _) (upA P V λa O b hb=>X.tr (z a O)<|hy b hb);rw[Z]at hk;obtain⟨v,E,rfl,rfl⟩:∃v E,A=v++E/\(IX v)=k:=⟨A.take k,A.drop k,by simp,by simp;lia⟩
 have t1:∀z∈v,X.le z y:=λz l=>by simpa using t1 z (by simpa using l)
 have t2:∀z∈E,X.le y z:=λz l=>X.as _ _ (by simpa using t2 z<|by simpa using l);rw[oG]at Z hb;dsimp only;rcases zV E with e|⟨A3,x,e⟩
 .subst e;rw[iQ<|by simp[Z]];exact iO<|done (by simpa using t1)
 rw[Dh]at e;have l1:0<(IX E):=by simp[e]
 rw[je<|by simp;lia];refine mI (x:=x) (by rw[e,show T++(v++(A3++[x])++(B++R))=T++((v++A3)++x::(B++R)) by simp];exact Jd (by have:=mG ef e;simp at this ⊢;lia))<|kQ<|yw (T:=T++(v++E)) (R:=R) S.k (λz h=>hN z<|.inr h) (hN x<|.inl<|by simp[e]) V (by rw[<-qO]) (by simp;lia) cK.symm (by have:=M1.mpr b1;lia) λk2 bL t3 t4=>?_;rw[cK]at bL;obtain⟨I',G,rfl,rfl⟩:∃I' G,B=I'++G/\(IX I')=k2:=⟨B.take k2,B.drop k2,by simp,by simp;lia⟩
 have v3:∀z∈I',X.le z x:=λz l=>X.as _ _ (by simpa using t3 z<|by simpa using l);have v4:∀z∈G,X.le x z:=λz l=>by simpa using t4 z (by simpa using l)
 have lx:∀a∈v++E,X.le a x:=by rw[e,<-qO]at P ⊢;exact F3 X.tr P<|X.rf x
 cases I' with
 |nil=>exact iO<|done λa O=>X.tr (lx a O)<|v4 y (by simp[show G=y::B' from eB])
 |cons b I'=>
  obtain rfl:b=y:=(vP eB).1;refine jA (λc=>by simp at c) λ_=>?_;rw[Vf (A:=E) (T:=T++v) (R:=b::I'++G++R) (by simp) (by simp;lia)<|by simp;lia,Vf (A:=b::I') (T:=T++(v++E)) (R:=G++R) (by simp) (by simp;lia)<|by simp;lia]
  have W:∀out s,Rp X (H++(Y,D+F,K)::U).toArray (T++(v++E++(b::I'++G++R))) s->Rs X (E++b::I') out->Q (fH s).isNone (setArr s<|out.toList.zipIdx.foldl (λa x=>a.setIfInBounds (Y+IX v+x.2) x.1)<|eW s):=λout s J ho=>by
   obtain⟨M,rfl,u,hp⟩:=ho;rw[J.f,J.a];refine fin _ (v++(M++G)) ⟨?_,J.k,J.f,J.q,gm ?_ J.p⟩ ?_ ?_
   .have:=Qf (M.map X.it) ((E++b::I').map X.it) ((T++v).map X.it) ((G++R).map X.it) 0 (Y+IX v) (by simp;lia) (by simpa using hp.length_eq.symm);simpa[ar]using this
   .simpa using(((hp.append_right<|G++R).append_left v).append_left T)
   .simpa using((hp.append_right G).append_left v)
   rw[sP]at P V;refine upA P.1 (upA u V.2.1 λa O c m=>?_) λa O c m=>?_
   .rcases pk.mp (hp.mem_iff.mp O)with O|O
    .exact X.tr (lx a<|by simp[O]) (v4 c m)
    exact V.2.2 a O c m
   have m:c∈E\/c∈b::I'++G:=by
    rcases pk.mp m with m|m
    .rcases pk.mp (hp.mem_iff.mp m)with m|m
     .exact .inl m
     exact .inr (DI _ m)
    exact .inr (pd _ m)
   rcases m with m|m
   .exact P.2.2 a O c m
   exact X.tr (t1 a O) (hy c m)
  have hd:∀z∈E,X.le (b::I')[0] z:=t2;have top:∀z∈b::I',X.le z E[IX E-1]:=λz l=>by subst e;simpa using v3 z l
  have l2:0<(b::I').length:=by simp
  have h3:∀z∈E,z<X.N:=λz l=>hN z<|.inl (by simp[l]);have h4:∀z∈b::I',z<X.N:=λz l=>hN z<|.inr<|DI _ l;have u1:=(sP.mp P).2.1;have u2:=(sP.mp V).1;exact jA (λc=>kQ<|Zj S2 u1 u2 h3 h4 l1 l2 hd top λout s J ho=>vX<|pN<|iO<|W out s J ho) λc=>kQ<|Zl S2 u1 u2 h3 h4 l1 l2 hd top λout s J ho=>vX<|pN<|iO<|W out s J ho
end
section
variable {X:Cs}{st:sV}{b:Array (Nat×Nat×Nat)}{A L:jP}
theorem Rn.mod{w:Nat}:∀{c:List (Nat×Nat×Nat)}{s:Nat}{a:List (List Nat)}(i:Nat),Rn X s a c->Rn X s a (c.modify i λx=>(x.1,x.2.1,w))
 |[],s,a,i,h=>by cases i<;>exact h
 |p::c,s,[],i,h=>h.elim
 |p::c,s,A::a,0,h=>h
 |p::c,s,A::a,i+1,h=>⟨h.1,h.2.1,h.2.2.1,h.2.2.2.1,Rn.mod i h.2.2.2.2⟩
theorem Rn.le:∀{c:List (Nat×Nat×Nat)}{s:Nat}{a:List (List Nat)},Rn X s a c->IX c<=IX a.flatten
 |[],s,a,h=>mD _
 |p::c,s,[],h=>h.elim
 |p::c,s,A::a,h=>by have:=Rn.le h.2.2.2.2;have:=M1.mpr h.2.2.1;simp at*;omega
theorem Rn.push{A:jP}{w:Nat}:∀{d:List (Nat×Nat×Nat)}{s:Nat}{c:List (List Nat)},Rn X s c d->A≠[]->A.Pairwise X.le->Rn X s (c++[A]) (d++[(s+IX c.flatten,IX A,w)])
 |[],s,[],h,a,u=>⟨rfl,rfl,a,u,trivial⟩
 |[],s,A::c,h,a,u=>h.elim
 |p::d,s,[],h,a,u=>h.elim
 |p::d,s,B::c,h,a,u=>⟨h.1,h.2.1,h.2.2.1,h.2.2.2.1,by simpa[yj]using Rn.push (w:=w) h.2.2.2.2 a u⟩
def RA{Q:Unit->sV->Prop}(S:Rp X #[] L st)(h:∀E b L,Rp X b L E->L.Pairwise X.le->Q () E):wp X sortRuns' Q st:=by
 have I:(eW st).size=X.N:=by rw[S.a];simpa using S.p.length_eq
 have w:∀{b L st},Rp X b L st->IX L=X.N:=λS=>by simpa using S.p.length_eq
 rw[sortRuns'_eq];refine pN ?_;rw[I];dsimp only;refine nh (λi c s=>∃b,∃g:List (List Nat),∃R,c=(Ix,IX g.flatten)/\Rp X b (g.flatten++R) s/\Rn X 0 g b.toList/\i<=IX g.flatten) (λc s=>c.1=Ix/\∃b g,Rp X b g.flatten s/\Rn X 0 g b.toList) ⟨#[],[],L,rfl,S,trivial,mD _⟩ ?_ ?_ ?_
 .rintro i c s t ⟨b,g,R,rfl,S,d,o⟩;have r:=w S;dsimp only;refine jA (λe=>?_) λe=>?_
  .obtain rfl:R=[]:=zW (by simp at r e;omega);exact iO ⟨rfl,b,g,by simpa using S,d⟩
  obtain⟨x,R,rfl⟩:=tN (l:=R) (by simp at r e;omega);refine kQ<|Ni S C (by simp at r ⊢;omega) λA R s S a1 u M=>?_;apply Nh λn s=>∃A R,n=IX A/\Rp X b (g.flatten++(A++R)) s/\A≠[]/\A.Pairwise X.le
  .intro F;have T:=M1.mpr a1;refine jA (λe=>?_) λe=>?_
   .refine uH (kQ<|Vy S C C T (by simp at r;omega) (by omega) u λA R s S o u=>jA (λc=>by simp at c) λ_=>?_);generalize J:min (X.N-IX g.flatten) (minRun' X.N X.N 0)=n at o ⊢;exact F n s ⟨A,R,o.symm,S,by intro z;subst z;simp at o e;omega,u⟩
   exact F (IX A) s ⟨A,R,rfl,S,a1,u⟩
  rintro _ s ⟨A,R,rfl,S,a1,u⟩;refine pN ?_;apply Ut λs=>∃b m,Rp X b (m.flatten++(A++R)) s/\Rn X 0 m b.toList/\(IX m.flatten)=IX g.flatten
  .intro F;rw[S.q]
   cases b.back? with
   |none=>exact F s ⟨b,g,S,d,rfl⟩
   |some z=>
    refine nh (λ_ c s=>c=(Ix,())/\∃b m,Rp X b (m.flatten++(A++R)) s/\Rn X 0 m b.toList/\(IX m.flatten)=IX g.flatten) (λc s=>c=(Ix,())/\∃b m,Rp X b (m.flatten++(A++R)) s/\Rn X 0 m b.toList/\(IX m.flatten)=IX g.flatten) ⟨rfl,b,g,S,d,rfl⟩ ?_ (λ_ _ h=>h) ?_
    .rintro j c s _ ⟨rfl,b,m,S,d,o⟩;refine pN ?_;rw[S.q]
     cases H:(if b.size>1 then b[b.size-2]? else Ix)with
     |none=>exact iO ⟨rfl,b,m,S,d,o⟩
     |some z=>
      refine jA (λ_=>iO ⟨rfl,b,m,S,d,o⟩) λ_=>kQ<|Us S d ?_ λs v y S d _ O=>jA (λc=>by simp at c) λ_=>iO ⟨rfl,v,y,S,d,O.trans o⟩;split at H
      .omega
      cases H
    rintro c s ⟨rfl,b,m,S,d,o⟩;exact vX<|F _ ⟨_,m,⟨S.a,S.k,S.f,rfl,S.p⟩,by rw[S.q,Array.toList_modify];exact d.mod _,o⟩
  rintro s ⟨b,m,S,d,o⟩;refine vX<|iO ⟨_,m++[A],R,?_,⟨by simpa using S.a,S.k,S.f,rfl,by simpa using S.p⟩,?_,?_⟩
  .rw[List.flatten_append,oG,o];simp
  .rw[S.q,eF,<-o,<-d1 (IX m.flatten)];exact d.push a1 u
  have:=M1.mpr a1;simp at*;omega
 .rintro c s ⟨b,g,R,rfl,S,d,o⟩;have r:=w S;obtain rfl:R=[]:=zW (by simp at r o;omega);exact⟨rfl,b,g,by simpa using S,d⟩
 rintro⟨_,c⟩ s ⟨rfl,b,g,S,d⟩;have r:=w S;have G:=d.le;refine nh (λi c s=>c=(Ix,())/\∃b g,Rp X b g.flatten s/\Rn X 0 g b.toList/\(b.size<=1\/b.size+i<=X.N)) (λc s=>c=(Ix,())/\∃b g,Rp X b g.flatten s/\Rn X 0 g b.toList/\b.size<=1) ⟨rfl,b,g,S,d,.inr<|by rw[lS]at G;omega⟩ ?_ ?_ ?_
 .rintro i c s _ ⟨rfl,b,g,S,d,t⟩;refine pN ?_;rw[S.q];refine jA (λe=>iO ⟨rfl,b,g,S,d,e⟩) λe=>kQ<|Us (R:=[]) (by simpa using S) d ((λc:Bool=>show(if c=IN then b.size-2-1 else b.size-2)+1<b.size by split<;>omega) _) λs v y S d I _=>jA (λc=>by simp at c) λ_=>iO ⟨rfl,v,y,by simpa using S,d,.inr<|by omega⟩
 .rintro c s ⟨rfl,b,g,S,d,t⟩;exact⟨rfl,b,g,S,d,by omega⟩
 rintro c s ⟨rfl,b,g,S,d,t⟩;refine iO<|h s b _ S ?_;obtain⟨C'⟩:=b
 match C',g,d,t with
 |[],[],_,_=>exact .nil
 |[p],[A],d,_=>simpa using d.2.2.2.1
 |p::[],A::B::g,d,_=>exact d.2.2.2.2.elim
 |[],A::g,d,_=>exact d.elim
 |p::C',[],d,_=>exact d.elim
 |p::U'::C',g,d,t=>simp at t
end
end TS
namespace PX
open L2 PySem.SeqAt
open PySem.AutoSeq1 (wpAny_loadPart')
open PySem.MeetsSeq PySem.MeetsSeq2 PySem.MeetsSeq3
noncomputable def ma(op:cc)(i j:Int):Bool:=match op with
 |.Lt=>decide (i<j)|.LtE=>decide (i<=j)|.Gt=>decide (i>j)|_=>decide<|i>=j
def zb(a:cc):Prop:=a=.Lt\/a=.LtE\/a=.Gt\/a=.GtE
def Uq(op:cc)(A:iU)(s:iB)(y x:iI)(b:Bool):Prop:= ∀(a:jh)(w:iY)(E:jr)(Q:jr),Q (.bool b) s->af (am a w) A (richCompare op y x) Q E s
def Ri(op:cc)(A:iU)(s:iB)(fin:Bool):List (iI×iI)->Bool->Prop
 |[],r=>r=fin
 |(y,x)::rest,r=>∃e,EqAt A s y x e/\(if e=J then Ri op A s fin rest r else Uq op A s y x r)
def Fg{op:cc}{f:bb}(N:op=.Lt/\f=bb.«tuple.__lt__»\/op=.LtE/\f=bb.«tuple.__le__»)(l b:iw)(items j:nE)(n E:Nat)(dd u:Option iw)(Q t:zN)(r:Bool):
  l8 (f ⟨[.ref l,.ref b],[]⟩) (λA R s=>s.heap.get? l=Y {cls:=.type "tuple",dict:=dd,data:=.seq items n,slots:=Q}/\s.heap.get? b=Y {cls:=.type "tuple",dict:=u,data:=.seq j E,slots:=t}/\
   Ri op A.in1 s (ma op items.size j.size) (items.toList.zip j.toList) r/\R (.ok<|.ret<|.bool r) s):=by
 rcases N with⟨h1,rfl⟩|⟨h1,rfl⟩
 all_goals
  refine .of_wp λc w A R s h=>?_;obtain⟨p,g,d,q,os⟩:=s;obtain⟨B,v,a,h⟩:=h;have O:=AutoSeq1.sub_tuple_tuple
  wp_walk using ci B,ci v,yi _ (λi b m=>b.1=I/\m=⟨p,g,d,q,os⟩/\Ri op A.in1 ⟨p,g,d,q,os⟩ (ma op items.size j.size) i r) _
  case turn=>
   rintro⟨y,x⟩ i b m ⟨o,rfl,e,z,a⟩;refine iz<|z c w _ _ ?_
   cases e with
   |true=>
    simp at a
    wp_walk
    exact⟨rfl,rfl,a⟩
   |false=>
    simp at a;subst h1;have k:=a c w
    wp_walk using k
    exact⟨_,rfl,by simpa using h⟩
  case fin=>
   rintro⟨T,L⟩ m ⟨o,rfl,a⟩;subst h1;simp only at o;subst o;have a:r=_:=a;rw[a]at h
   wp_walk
   exact⟨_,rfl,by simpa[sa,ma]using h⟩
  case h=>exact⟨rfl,rfl,a⟩
section
variable {A:iU}{s:iB}{l b:iw}{items a:nE}{r:Bool}
def NV(z:op=.Lt\/op=.LtE)(y:s.heap.IsTuple l items)(v:s.heap.IsTuple b a)(m:A.units<aT)(o:Ri op A.in1 s (ma op items.size a.size) (items.toList.zip a.toList) r):Uq op A s (.ref l) (.ref b) r:=λq w E Q h=>by
 obtain⟨⟨u,dd,j,t⟩,d,k,n,hd⟩:=id y;obtain⟨⟨B,i,data2,f⟩,e,g,p,c⟩:=id v;simp only at k hd g c;subst k hd g c;rcases z with rfl|rfl
 .exact MJ (op:=.Lt) ⟨_,d,rfl⟩ ⟨_,e,rfl⟩ PySem.F.slot_tuple_lt PySem.F.entry_tuple_lt (PySem.F.args_tuple_lt_2 _ _) (Fg (.inl ⟨rfl,rfl⟩) l b items a n p dd i t f r) ⟨d,e,o,show ey r≠gc/\Q (.bool r) s from⟨(λx=>nomatch x),h⟩⟩ m
 exact MJ (op:=.LtE) ⟨_,d,rfl⟩ ⟨_,e,rfl⟩ PySem.F.slot_tuple_le PySem.F.entry_tuple_le (PySem.F.args_tuple_le_2 _ _) (Fg (.inr ⟨rfl,rfl⟩) l b items a n p dd i t f r) ⟨d,e,o,show ey r≠gc/\Q (.bool r) s from⟨(λx=>nomatch x),h⟩⟩ m
end
mutual
noncomputable def oN(a:cc):D->D->Option Bool
 |.int i,e=>match e with|.int j=>Y (ma a i j)|_=>I
 |.tup l,e=>match e with|.tup m=>if a=.Lt\/a=.LtE then oM a l m else I|_=>I
 |_,_=>I
noncomputable def oM(a:cc):List D->List D->Option Bool
 |[],m=>Y<|ma a 0<|IX m
 |x::l,e=>match e with|[]=>Y (ma a ((x::l).length) 0)|y::m=>if D.P1 x y=J then oM a l m else oN a x y
end
def rV(c:cc)(a b k:Int):ma c (a+k) (b+k)=ma c a b:=by
 cases c<;>simp[ma]
section
variable {X:Cx}{c:jw}{f:L2.St}{H:Hp}{s:iB}
def Fv(b:zb op):Uq op A s (.int i t) (.int j u) (ma op i j):=λa w E Q h=>by
 rcases b with rfl|rfl|rfl|rfl
 .exact(u3 h:af (am a w) A (aA .Lt _ _) Q E s)
 .exact(u4 h:af (am a w) A (aA .LtE _ _) Q E s)
 .exact(u5 h:af (am a w) A (aA .Gt _ _) Q E s)
 exact(u6 h:af (am a w) A (aA .GtE _ _) Q E s)
def NW(ho:zb op)(I:Inv X c f H s):∀(n:Nat)(d e:D)(v u:V)(a b:iI)(O B:SS)(A:iU)(r:Bool),kx X.K H O d v->kx X.K H B e u->RelV v a->RelV u b->d.dep<=n->e.dep<20000->A.units+n<aT->oN op d e=Y r->Uq op A s a b r:=by
 intro n
 induction n with
 |zero=>
  intro d e v u a b O B A r hd T G J M Z hA g
  cases d with
  |int i=>
   cases e with
   |int j=>have:=jx hd;subst this;have:=jx T;subst this;obtain⟨t,rfl⟩:=G;obtain⟨t',rfl⟩:=J;simp only[oN]at g;rw[<-kZ g];exact Fv ho
   |_=>cases g
  |tup l=>rw[D.dep]at M;lia
  |_=>cases g
 |succ n ih=>
  intro d e v u a b O B A r hd T G J M Z hA g
  cases d with
  |int i=>
   cases e with
   |int j=>have:=jx hd;subst this;have:=jx T;subst this;obtain⟨t,rfl⟩:=G;obtain⟨t',rfl⟩:=J;simp only[oN]at g;rw[<-kZ g];exact Fv ho
   |_=>cases g
  |tup l=>
   cases e with
   |tup m=>
    simp only[oN]at g;split at g
    case isFalse=>cases g
    rename_i N;rw[D.dep]at M Z;obtain⟨p,E,rfl,q,z⟩:=mr hd;obtain⟨p2,L,rfl,q2,o⟩:=mr T;cases G;cases J;obtain⟨h,Q,pl,_⟩:=I.tuple q;obtain⟨w,C,i4,_⟩:=I.tuple q2;have R:A.in1.units=A.units+1:=rfl
    have key:∀(l m:List D)(E L:List V)(h w:jS)(k:Int),D.NL l+1<=n+1->D.NL m<20000->YP X.K H O l E->YP X.K H B m L->Vals E h->Vals L w->oM op l m=Y r->Ri op A.in1 s (ma op (h.length+k)<|w.length+k) (h.zip w) r:=by
     intro l
     induction l with
     |nil=>
      intro m E L h w k F P z o Q C g;rw[YP]at z;subst z;cases Q;simp only[oM]at g;have e1:=o.length;have e2:=C.length;show r=_;rw[rV,<-kZ g]
      congr 1
      lia
     |cons x l U'=>
      intro m E L h w k F P z o Q C g;rw[YP]at z;obtain⟨vx,xr,rfl,g1,g2⟩:=z
      cases Q with
      |cons a1 Y'=>
       cases m with
       |nil=>
        rw[YP]at o;subst o;cases C;simp only[oM]at g;have e1:=g2.length;have e2:=Y'.length;rw[gY];show r=_;rw[rV,<-kZ g]
        congr 1
        simp;lia
       |cons y m=>
        rw[YP]at o;obtain⟨vy,yr,rfl,S,g4⟩:=o
        cases C with
        |cons b1 b2=>
         simp only[oM]at g;rw[D.NL]at F P;rw[tM];refine⟨D.P1 x y,Bf I n x y vx vy _ _ O B A.in1 (.inl g1) (.inl S) a1 b1 (by lia) (by lia) (by rw[R];lia),?_⟩
         cases W:D.P1 x y with
         |true=>
          rw[W,iQ IR]at g;rw[iQ IR];have:=U' m xr yr _ _ (k+1) (by lia) (by lia) g2 g4 Y' b2 g;simp only[mX];have e:∀a:Nat,(((a+1:Nat):Int)+k)=(a:Int)+(k+1):=λa=>by lia
          rw[e,e];exact this
         |false=>rw[W,je kY]at g;rw[je kY];exact ih x y vx vy _ _ O B A.in1 r (.inl g1) (.inl S) a1 b1 (by lia) (by lia) (by rw[R];lia) g
    have:=key l m E L h w 0 (by lia) (by lia) z o Q C g;refine NV N pl i4 (by lia) ?_;simpa using this
   |_=>cases g
  |_=>cases g
def mC(a:cc)(d e:D):Option (D×Bool):=if d.dep<=50/\e.dep<=50 then(oN a d e).map λb=>(.bl b,U)else I
def SJ(b:zb op)(l:X.A.units+60<aT):AD X (aA op) (rD X.K<|mC op):=by
 intro c s f H x y v u Q T j k h;obtain⟨O,d,e,z,np,h1,g,a,G⟩:=h;unfold mC at a;split at a
 .rename_i hd;obtain⟨r,i,rfl⟩:=jB a;have:=NW b T 50 d e x y v u O O X.A r h1 g j k hd.1 (by lia) (by lia) i X.prog X.w X.xe (EP X c f Q) ⟨.bl r,H,T,rfl,G.bl⟩;rcases b with rfl|rfl|rfl|rfl<;>exact this
 cases a
end
open TS
section
variable {b:jh}{w:iY}{A:iU}{E:jr}{s:iB}
noncomputable def qr(h:jb)(a:iw)(c:jS):Heap:=((h.update a<|aV λ_=> #[]).push<|br "tuple" c.toArray 0).push<|br "list" #[] 0
noncomputable def PJ(a:jS)(i:Nat):Keyed:=(a.getD i ay,a.getD i ay)
def vD{a:iw}{c:jS}{n:Nat}{P:ut->iB->Prop}{κ:mo}{lt:Nat->Nat->Bool}(r:s.heap.get? a=Y (br "list" c.toArray n))(z:(IX c)<=sizeLine)(as:∀i j,lt i j=IN->lt j i=U)(G:∀{i j k},lt j i=U->lt k j=U->lt k i=U)
  (hk:2<=IX c->af (am b w) A (keyKind' c.toArray) (λg d=>d={s with heap:=qr s.heap a c}/\g=κ) (λ_ _=>False) {s with heap:=qr s.heap a c})
  (ask:2<=IX c->Ask (am b w) A (λd=>d={s with heap:=qr s.heap a c}) (PJ c) κ (IX c) lt)
  (h:∀p:List Nat,p.Perm (au<|IX c)->p.Pairwise (λi j=>lt j i=U)->P (.done<|.ret .none) {s with heap:=(qr s.heap a c).update a (aV λ_=>(p.map λi=>c.getD i ay).toArray)}):
  af (am b w) A (bb.«list.sort» ⟨[.ref a],[]⟩) P E s:=by
 rw[list_sort_plain];have M:a<s.heap.objs.size:=kH r;refine iz<|GU r IR<|iz<|vO r IR ?_ (by rw[kR];exact z)<|mD _;obtain⟨t,C⟩:∃t,(s.heap.update a<|aV λ_=>(#[]:Array iI)).get? a=Y (br "list" #[] t):=⟨_,yh r λ_=> #[]⟩
 refine iz<|zU C IR<|iz<|Dr ?_ (by show (IX c)<=_;exact z);refine iz<|Df ?_<|mD _;refine mF ?_;have q:(qr s.heap a c).get? a=Y (br "list" #[] t):=jX _ (jX _ C);show af (am b w) A _ P E {s with heap:=qr s.heap a c};dsimp only;by_cases l:c.toArray.size<2
 .rw[iQ l,iQ l];refine iz<|iJ ?_;rw[GZ];refine iz<|iJ ?_;dsimp only;refine iz<|zU q IR<|iz<|vO q IR ?_ (mD _) ?_
  .simp only[yo,kW];refine iJ ?_;have y:(IX c)<2:=by simpa using l
   have:=h (au<|IX c) (vN _) (by rw[Ro];intro i j m O N;simp at m O;lia)
   have e:((c.toArray.zip c.toArray).map (·.2))=((au<|IX c).map λi=>c.getD i ay).toArray:=by
    apply vu
    .simp
    intro i h1 I;have m:i<(IX c):=by simpa using h1
    simp[m]
   rw[e];exact this
  rw[mL,mA];simp;lia
 rw[je l,je l];have y:2<=(IX c):=by simpa using l
 refine iz<|nQ (hk y) (λg d v=>?_) λ_ _ x=>x.elim;obtain⟨rfl,rfl⟩:=v;refine iz (nQ (RA (X:=⟨_,A,E,λd=>d={s with heap:=qr s.heap a c},PJ c,lt,g,IX c,as,G,ask y⟩) (L:=au<|IX c) ⟨?_,rfl,rfl,rfl,.refl _⟩ (Q:=λ_ o=>∃p,(eW o).map (·.2)=(p.map λi=>c.getD i ay).toArray/\fH o=Ix/\p.Perm (au<|IX c)/\p.Pairwise λi j=>lt j i=U) (λo _ p R u=>⟨p,?_,R.f,R.p,u⟩) _ rfl) ?_ λ_ _ e=>e)
 .show c.toArray.zip c.toArray=_;apply vu
  .simp
  intro i h1 I;have m:i<(IX c):=by simpa using h1
  simp[PJ,m]
 .rw[R.a];simp[PJ]
 rintro⟨⟨⟩,o⟩ d ⟨rfl,B,out,J,H,u⟩;dsimp only;have T:(IX B)=(IX c):=by simpa using H.length_eq
 refine iz<|zU q IR<|iz<|vO q IR ?_ (mD _) ?_
 .rw[J];simp;rw[out];exact iJ<|h B H u
 rw[out,kR,jU,T];lia
end
mutual
noncomputable def cT:D->D->Ordering
 |.int i,e=>match e with|.int j=>if i<j then .lt else if i=j then .eq else .gt|_=>.lt
 |.tup l,e=>match e with|.int _=>.gt|.tup m=>cL l m|_=>.lt
 |_,e=>match e with|.int _=>.gt|.tup _=>.gt|_=>.eq
noncomputable def cL:List D->List D->Ordering
 |[],m=>match m with|[]=>.eq|_::_=>.lt
 |x::l,m=>match m with|[]=>.gt|y::m=>match cT x y with
  |.lt=>.lt
  |.gt=>.gt
  |.eq=>cL l m
end
mutual
theorem Ks:∀x:D,cT x x=.eq
 |.int i=>by simp[cT]
 |.tup l=>by simp only[cT];exact Ku l
 |.VP=>by simp[cT]
 |.bl _=>by simp[cT]
 |.str _=>by simp[cT]
 |.lst _=>by simp[cT]
 |.Q2 _ _ _=>by simp[cT]
theorem Ku:∀l:List D,cL l l=.eq
 |[]=>by simp[cL]
 |x::l=>by simp only[cL,Ks x];exact Ku l
end
mutual
theorem sf:∀x y:D,cT y x=(cT x y).swap
 |.int i,.int j=>by
  simp only[cT,cT];by_cases h1:i<j
  .rw[iQ h1,je<|by lia,je<|by lia];rfl
  rw[je h1];by_cases a:i=j
  .rw[iQ a,je<|by lia,iQ a.symm];rfl
  rw[je a,iQ<|by lia];rfl
 |.tup l,.tup m=>by simp only[cT,cT];exact Kt l m
 |.int _,.tup _=>by simp[cT]
 |.int _,.VP=>by simp[cT]
 |.int _,.bl _=>by simp[cT]
 |.int _,.str _=>by simp[cT]
 |.int _,.lst _=>by simp[cT]
 |.int _,.Q2 _ _ _=>by simp[cT]
 |.tup _,.int _=>by simp[cT]
 |.tup _,.VP=>by simp[cT]
 |.tup _,.bl _=>by simp[cT]
 |.tup _,.str _=>by simp[cT]
 |.tup _,.lst _=>by simp[cT]
 |.tup _,.Q2 _ _ _=>by simp[cT]
 |.VP,y=>by cases y<;>simp[cT]
 |.bl _,y=>by cases y<;>simp[cT]
 |.str _,y=>by cases y<;>simp[cT]
 |.lst _,y=>by cases y<;>simp[cT]
 |.Q2 _ _ _,y=>by cases y<;>simp[cT]
theorem Kt:∀l m:List D,cL m l=(cL l m).swap
 |[],[]=>by simp[cL]
 |[],_::_=>by simp[cL]
 |_::_,[]=>by simp[cL]
 |x::l,y::m=>by
  simp only[cL,cL,sf x y];cases h:cT x y<;>simp[Ordering.swap]
  exact Kt l m
end
def Pm(h1:cT x y≠ .gt)(a:cT y x≠ .gt):cT x y=.eq:=by
 rw[sf x y]at a
 cases h:cT x y with
 |lt=>rw[h]at a;exact absurd C a
 |eq=>rfl
 |gt=>exact absurd h h1
mutual
theorem xP:∀x y z:D,cT x y≠ .gt->cT y z≠ .gt->cT x z≠ .gt
 |.int i,y,z,h1,d=>by
  cases z with
  |int k=>
   cases y with
   |int j=>
    simp only[cT]at h1 d ⊢
    have a:i<=j:=by
     by_cases a:i<j
     .lia
     rw[je a]at h1;by_cases b:i=j
     .lia
     rw[je b]at h1;exact absurd C h1
    have b:j<=k:=by
     by_cases a:j<k
     .lia
     rw[je a]at d;by_cases b:j=k
     .lia
     rw[je b]at d;exact absurd C d
    by_cases c:i<k
    .rw[iQ c];simp
    rw[je c,iQ<|by lia];simp
   |_=>simp[cT]at d
  |_=>simp[cT]
 |.tup l,y,z,h1,d=>by
  cases y with
  |int j=>simp[cT]at h1
  |tup m=>
   cases z with
   |int k=>simp[cT]at d
   |tup n=>simp only[cT]at h1 d ⊢;exact Gs l m n h1 d
   |_=>simp[cT]
  |_=>cases z<;>simp_all [cT]
 |.VP,y,z,h1,d=>by cases y<;>cases z<;>simp_all [cT]
 |.bl _,y,z,h1,d=>by cases y<;>cases z<;>simp_all [cT]
 |.str _,y,z,h1,d=>by cases y<;>cases z<;>simp_all [cT]
 |.lst _,y,z,h1,d=>by cases y<;>cases z<;>simp_all [cT]
 |.Q2 _ _ _,y,z,h1,d=>by cases y<;>cases z<;>simp_all [cT]
 termination_by x y z=>sizeOf x+sizeOf y+sizeOf z
theorem Gs:∀l m n:List D,cL l m≠ .gt->cL m n≠ .gt->cL l n≠ .gt
 |[],m,n,_,_=>by cases n<;>simp[cL]
 |x::l,[],n,h1,_=>by simp[cL]at h1
 |x::l,y::m,[],_,a=>by simp[cL]at a
 |x::l,y::m,z::n,h1,a=>by
  have a1:cT x y≠ .gt:=λh=>by simp only[cL,h]at h1;exact h1 C
  have c:cT y z≠ .gt:=λh=>by simp only[cL,h]at a;exact a C
  have g:=xP x y z a1 c;simp only[cL]
  cases b:cT x z with
  |lt=>simp
  |gt=>exact absurd b g
  |eq=>
   have f:cT z x≠ .gt:=by rw[sf x z,b];simp[Ordering.swap]
   have d:cT x y=.eq:=Pm a1<|xP y z x c f;have e:cT y z=.eq:=Pm c<|xP z x y f a1;simp only[cL,d]at h1;simp only[cL,e]at a;exact Gs l m n h1 a
 termination_by l m n=>sizeOf l+sizeOf m+sizeOf n
end
def A5(x y:D):Bool:=cT x y== .lt
def Il:A5 x y=J↔cT x y=.lt:=by simp[A5]
def rp:A5 x y=U↔cT x y≠ .lt:=by simp[A5]
def Rk:A5 y x=U↔cT x y≠ .gt:=by rw[rp,sf x y];cases cT x y<;>simp
def XN(x y:D)(h:A5 x y=J):A5 y x=U:=by rw[Rk,Il.mp h];simp
def Zo(h1:A5 y x=U)(a:A5 z y=U):A5 z x=U:=Rk.mpr<|xP _ _ _ (Rk.mp h1) (Rk.mp a)
mutual
noncomputable def D.pr:D->Bool
 |.int _=>J
 |.tup l=>D.Fo l
 |_=>U
noncomputable def D.Fo:List D->Bool
 |[]=>J
 |x::l=>D.pr x&&D.Fo l
end
mutual
theorem IS:∀x y:D,D.pr x=J->D.pr y=J->D.P1 x y=(cT x y== .eq)
 |.int i,.int j,_,_=>by
  simp only[D.P1,cT];by_cases h:i=j
  .subst h;simp
  rw[je h];by_cases a:i<j<;>simp[h,a]
 |.int _,.tup _,_,_=>by simp[D.P1,cT]
 |.tup _,.int _,_,_=>by simp[D.P1,cT]
 |.tup l,.tup m,h1,a=>by simp only[D.P1,cT];rw[D.pr]at h1 a;exact Kh l m h1 a
 |.VP,_,h,_=>by simp[D.pr]at h
 |.bl _,_,h,_=>by simp[D.pr]at h
 |.str _,_,h,_=>by simp[D.pr]at h
 |.lst _,_,h,_=>by simp[D.pr]at h
 |.Q2 _ _ _,_,h,_=>by simp[D.pr]at h
 |_,.VP,_,h=>by simp[D.pr]at h
 |_,.bl _,_,h=>by simp[D.pr]at h
 |_,.str _,_,h=>by simp[D.pr]at h
 |_,.lst _,_,h=>by simp[D.pr]at h
 |_,.Q2 _ _ _,_,h=>by simp[D.pr]at h
theorem Kh:∀l m:List D,D.Fo l=J->D.Fo m=J->D.A9 l m=(cL l m== .eq)
 |[],[],_,_=>by simp[D.A9,cL]
 |[],_::_,_,_=>by simp[D.A9,cL]
 |_::_,[],_,_=>by simp[D.A9,cL]
 |x::l,y::m,h1,a=>by rw[D.Fo,lR]at h1 a;simp only[D.A9,cL];rw[IS x y h1.1 a.1,Kh l m h1.2 a.2];cases cT x y<;>simp
end
mutual
theorem qg:∀x y:D,D.pr x=J->D.pr y=J->cT x y=.eq->x=y
 |.int i,.int j,_,_,h=>by
  simp only[cT]at h;by_cases h1:i<j
  .rw[iQ h1]at h;cases h
  rw[je h1]at h;by_cases c:i=j
  .rw[c]
  rw[je c]at h;cases h
 |.tup l,.tup m,a,b,h=>by simp only[cT]at h;rw[D.pr]at a b;rw[Gu l m a b h]
 |.int _,.tup _,_,_,h=>by simp[cT]at h
 |.tup _,.int _,_,_,h=>by simp[cT]at h
 |.VP,_,a,_,_=>by simp[D.pr]at a
 |.bl _,_,a,_,_=>by simp[D.pr]at a
 |.str _,_,a,_,_=>by simp[D.pr]at a
 |.lst _,_,a,_,_=>by simp[D.pr]at a
 |.Q2 _ _ _,_,a,_,_=>by simp[D.pr]at a
 |_,.VP,_,a,_=>by simp[D.pr]at a
 |_,.bl _,_,a,_=>by simp[D.pr]at a
 |_,.str _,_,a,_=>by simp[D.pr]at a
 |_,.lst _,_,a,_=>by simp[D.pr]at a
 |_,.Q2 _ _ _,_,a,_=>by simp[D.pr]at a
theorem Gu:∀l m:List D,D.Fo l=J->D.Fo m=J->cL l m=.eq->l=m
 |[],[],_,_,_=>rfl
 |[],_::_,_,_,h=>by simp[cL]at h
 |_::_,[],_,_,h=>by simp[cL]at h
 |x::l,y::m,a,b,h=>by
  rw[D.Fo,lR]at a b;simp only[cL]at h
  cases e:cT x y with
  |eq=>rw[e]at h;rw[qg x y a.1 b.1 e,Gu l m a.2 b.2 h]
  |lt=>rw[e]at h;cases h
  |gt=>rw[e]at h;cases h
end
mutual
theorem uZ:∀x y:D,D.pr x=J->D.pr y=J->∀b,oN .Lt x y=Y b->b=A5 x y
 |.int i,.int j,_,_,b,h=>by
  simp only[oN]at h;rw[<-kZ h,A5];simp only[cT,ma];by_cases h1:i<j
  .simp[h1]
  rw[je h1];by_cases a:i=j<;>simp[h1,a]
 |.int _,.tup _,_,_,b,h=>by simp[oN]at h
 |.tup _,.int _,_,_,b,h=>by simp[oN]at h
 |.tup l,.tup m,h1,a,b,h=>by simp only[oN]at h;rw[iQ<|.inl trivial]at h;rw[D.pr]at h1 a;rw[A5];simp only[cT];exact Kn l m h1 a b h
 |.VP,_,h,_,_,_=>by simp[D.pr]at h
 |.bl _,_,h,_,_,_=>by simp[D.pr]at h
 |.str _,_,h,_,_,_=>by simp[D.pr]at h
 |.lst _,_,h,_,_,_=>by simp[D.pr]at h
 |_,.VP,_,h,_,_=>by simp[D.pr]at h
 |_,.bl _,_,h,_,_=>by simp[D.pr]at h
 |_,.str _,_,h,_,_=>by simp[D.pr]at h
 |_,.lst _,_,h,_,_=>by simp[D.pr]at h
theorem Kn:∀l m:List D,D.Fo l=J->D.Fo m=J->∀b,oM .Lt l m=Y b->b=(cL l m== .lt)
 |[],[],_,_,b,h=>by simp only[oM]at h;rw[<-kZ h];simp[ma,cL]
 |[],_::_,_,_,b,h=>by simp only[oM]at h;rw[<-kZ h];simp[ma,cL]<;>lia
 |_::_,[],_,_,b,h=>by simp only[oM]at h;rw[<-kZ h];simp[ma,cL]<;>lia
 |x::l,y::m,h1,a,b,h=>by
  rw[D.Fo,lR]at h1 a;simp only[oM]at h;rw[IS x y h1.1 a.1]at h;simp only[cL]
  cases c:cT x y with
  |eq=>rw[c]at h;simp at h;exact Kn l m h1.2 a.2 b h
  |lt=>rw[c]at h;simp at h;have:=uZ x y h1.1 a.1 b h;rw[this,A5,c]
  |gt=>rw[c]at h;simp at h;have:=uZ x y h1.1 a.1 b h;rw[this,A5,c]
end
section
variable {a:Type}(lt:a->a->Bool)
noncomputable def Ej(x:a):List a->List a
 |[]=>[x]
 |y::l=>if lt y x=J then y::Ej x l else x::y::l
def nN:List a->List a
 |[]=>[]
 |x::l=>Ej lt x<|nN l
theorem uQ(x:a):∀l:List a,(Ej lt x l).Perm (x::l)
 |[]=>vN _
 |y::l=>by
  rw[Ej];split
  .exact((uQ x l).cons y).trans (gn x y l)
  exact vN _
theorem kJ:∀l:List a,(nN lt l).Perm l
 |[]=>vN _
 |x::l=>(uQ lt x _).trans<|(kJ l).cons x
end
def PL{x:D}:∀{l:List D},(l.Pairwise λx y=>A5 y x=U)->(Ej A5 x l).Pairwise λx y=>A5 y x=U:=by
 intro d
 induction d with
 |nil=>intro _;exact MK _ _
 |cons y l c=>
  intro h;have h:=zP.mp h;rw[Ej]
  cases b:A5 y x
  .refine zP.mpr ⟨λz a=>?_,zP.mpr h⟩;rcases oq.mp a with rfl|a
   .exact b
   exact Zo b (h.1 z a)
  refine zP.mpr ⟨λz a=>?_,c h.2⟩;rcases oq.mp ((uQ A5 x l).mem_iff.mp a)with rfl|a
  .exact XN _ _ b
  exact h.1 z a
theorem ot:∀l:List D,(nN A5 l).Pairwise λx y=>A5 y x=U
 |[]=>cb
 |x::l=>PL<|ot l
def NA{l m:List D}(h:∀x∈m,D.pr x=J)(a:l.Perm m)(c:l.Pairwise λx y=>A5 y x=U):l=nN A5 m:=
 ac8 (λx y d e h1 b=>qg x y (h x<|a.mem_iff.mp d) (h y<|(kJ A5 m).mem_iff.mp e)<|Pm (Rk.mp h1)<|Rk.mp b) c (ot m) (a.trans (kJ A5 m).symm)
def afE{a:List D}{p:jP}(pr:∀x∈a,D.pr x=J)(d:p.Perm (au<|IX a))(f:p.Pairwise λi j=>A5 (a.getD j .VP) (a.getD i .VP)=U):p.map (λi=>a.getD i .VP)=nN A5 a:=by
 have e:(au<|IX a).map (λi=>a.getD i .VP)=a:=by apply ym;intro i;by_cases c:i<IX a<;>simp[c]
 have b:=d.map λi=>a.getD i .VP;rw[e]at b;exact NA pr b<|oP.mpr f
noncomputable def lW:D->Option Nat
 |.int _=>Y 0
 |.tup (.int _::_)=>Y 1
 |.tup (.tup _::_)=>Y 2
 |_=>I
noncomputable def J8:Nat->mo
 |0=>wL
 |1=>z9 J
 |_=>z9 U
structure D7(k:Nat)(l:List D):Prop where
 hd:∀x∈l,lW x=Go k
 pr:∀x∈l,D.pr x=IN
 dp:∀x∈l,x.dep<=50
 cm:∀x∈l,∀y∈l,(oN .Lt x y).isSome=IN
def nF(l:List D):Bool:=IX l<=1||match l with
 |[]=>J
 |x::_=>(lW x).isSome&&(l.all λy=>lW y==lW x&&D.pr y&&decide (y.dep<=50))&&l.all λy=>l.all λz=>(oN .Lt y z).isSome
def Cm(h:nF l=J):(IX l)<=1\/∃k,D7 k l:=by
 unfold nF at h;rw[vM]at h;rcases h with h|h
 .left;simpa using h
 right
 cases l with
 |nil=>exact⟨0,λx a=>absurd a sD,λx a=>absurd a sD,λx a=>absurd a sD,λx a=>absurd a sD⟩
 |cons x m=>simp only[lR,kT,oW]at h;obtain⟨⟨h1,c⟩,d⟩:=h;obtain⟨k,hk⟩:=Mb.mp h1;refine⟨k,λy b=>?_,λy b=>(c y b).1.2,λy b=>(c y b).2,λy b z e=>d y b z e⟩;have:=(c y b).1.1;rw[hk]at this;simpa using this
section
variable {X:Cx}{d:jw}{f:L2.St}{H:Hp}{s:iB}
def uJ(v:Vals xs a)(b:i<a.length):RelV (xs.getD i .VP) (a.getD i ay):=by
 have e:=v.length;have h:xs[i]?=Y xs[i]:=jZ (by omega);obtain⟨w,c,j⟩:=v.get h;have h1:xs.getD i .VP=xs[i]:=by simp[show i<xs.length by omega]
 have g:a.getD i ay=w:=by rw[jZ b]at c;have:=kZ c;simp[b,this]
 rw[h1,g];exact j
def uM(r:YP X.K H O ds xs)(a:i<ds.length):Rep X.K H O (ds.getD i .VP) (xs.getD i .VP):=by
 have e:=r.length;have hd:ds[i]?=Y ds[i]:=jZ a;obtain⟨v,b,g⟩:=r.get hd;have h1:ds.getD i .VP=ds[i]:=by simp[a]
 have c:xs.getD i .VP=v:=by rw[jZ<|by lia]at b;have:=kZ b;simp[show i<xs.length by lia,this]
 rw[h1,c];exact g
def AO{ds:List D}{i:Nat}(a:i<IX ds):ds.getD i .VP∈ds:=by simp[a]
theorem F7(I:Inv X d f H s){A:iU}{b:Bool}{O z:SS}(hA:A.units+60<aT){r:Bool}{Q:sY}(n:Q r s):∀(l m:List D)(u v:List V)(g o:jS)(k:Int)(i:Nat),D.NL l<=50->D.NL m<=50->
  ((b&&i==0)=J->∀x y l' m',l=x::l'->m=y::m'->(∃a,x=.int a)/\∃c,y=.int c)->YP X.K H O l u->YP X.K H z m v->Vals u g->Vals v o->oM .Lt l m=Go r->
  ∀fin:Bool,fin=ma .Lt (g.length+k) (o.length+k)->PySem.W.KatLex X.prog X.w A b fin Q (g.zip o) i s
 |[],m,u,v,g,o,k,i,_,_,_,p,q,v1,v2,j,fin,hf=>by
  rw[YP]at p;subst p;cases v1;simp only[oM]at j;have U':=q.length;have Y:=v2.length;show Q fin s;rw[hf,rV];rw[<-kZ j]at n;have:ma .Lt ((([]:List iI).length:Nat):Int) (o.length:Int)=ma .Lt 0 (m.length:Int):=by congr 1;lia
  rw[this];exact n
 |x::l,[],u,v,g,o,k,i,_,_,_,p,q,v1,v2,j,fin,hf=>by
  rw[YP]at q;subst q;cases v2;simp only[oM]at j;have U':=p.length;have Y:=v1.length;rw[gY];show Q fin s;rw[hf,rV];rw[<-kZ j]at n;have:ma .Lt (g.length:Int) ((([]:List iI).length:Nat):Int)=ma .Lt (((x::l).length:Nat):Int) 0:=by congr 1;lia
  rw[this];exact n
 |x::l,y::m,u,v,g,o,k,i,J',N,hb,p,q,v1,v2,j,fin,hf=>by
  rw[YP]at p q;obtain⟨L,R,rfl,g1,g2⟩:=p;obtain⟨T,S,rfl,C,P⟩:=q
  cases v1 with
  |cons a1 G=>
   cases v2 with
   |cons B M=>
    simp only[oM]at j;rw[D.NL]at J' N;rw[tM];refine PySem.W.kat_cons<|Bf I 50 x y L T _ _ O z A (.inl g1) (.inl C) a1 B (by lia) (by lia) (by lia) X.prog X.w _ _ ?_
    cases E:D.P1 x y with
    |true=>
     rw[E,iQ IR]at j;refine PySem.W.kat_yes<|F7 I hA n l m R S _ _ (k+1) (i+1) (by lia) (by lia) (λh=>by simp at h) g2 P G M j fin ?_;rw[hf];simp only[mX];have e:∀a:Nat,(((a+1:Nat):Int)+k)=(a:Int)+(k+1):=λa=>by lia
     rw[e,e]
    |false=>
     rw[E,je kY]at j;refine PySem.W.kat_no ?_
     cases F:(b&&i==0)with
     |true=>obtain⟨⟨a,rfl⟩,c,rfl⟩:=hb F x y l m IR IR;have:=g1.int;subst this;have:=C.int;subst this;obtain⟨t,rfl⟩:=a1;obtain⟨Z,rfl⟩:=B;simp only[oN]at j;rw[<-kZ j]at n;exact oneLt_int n
     |false=>exact PySem.W.kat_one _ _ (NW (.inl IR) I 50 x y L T _ _ O z A r (.inl g1) (.inl C) a1 B (by lia) (by lia) (by lia) j X.prog X.w _ _ n)
def aaS(I:Inv X d f H s){O:SS}{u:List D}{N:List V}{e:jS}{A:iU}(hA:A.units+60<aT)(rr:YP X.K H O u N)(v:Vals N e){k:Nat}(B:D7 k u):
  Ask (am X.prog X.w) A (λT=>T=s) (PJ e) (J8 k) e.length (λi j=>A5 (u.getD i .VP)<|u.getD j .VP):=by
 intro i j hi hj T v7 E';subst v7;have e1:=rr.length;have e2:=v.length;have J:u.getD i .VP∈u:=AO (by lia);have M:u.getD j .VP∈u:=AO (by lia);have ri:=uM rr (i:=i) (by lia);have rj:=uM rr (i:=j) (by lia);have vi:=uJ v hi;have vj:=uJ v hj;obtain⟨b,E⟩:=Mb.mp<|B.cm _ J _ M;have i8:=uZ _ _ (B.pr _ J) (B.pr _ M) b E;have r:=B.hd _ J;have g:=B.hd _ M;have di:=B.dp _ J;have dj:=B.dp _ M;show af _ _ (wP (J8 k) (e.getD i ay)<|e.getD j ay) _ _ _;dsimp only;rw[<-i8];generalize u.getD i .VP=x at*;generalize u.getD j .VP=y at*;generalize N.getD i .VP=vx at*;generalize N.getD j .VP=vy at*;generalize e.getD i ay=a at*;generalize e.getD j ay=c at*
 have C:∀(l m:List D)(G:Bool),x=.tup l->y=.tup m->(G=IN->∀x y Z m',l=x::Z->m=y::m'->(∃a,x=.int a)/\∃c,y=.int c)->af (am X.prog X.w) A (wP (z9 G) a c) (λY U=>U=T/\Y=b) E' T:=λl m G P R hh=>by subst P R;obtain⟨p,us,rfl,q,r1⟩:=ri.tup;obtain⟨p2,ws,rfl,q2,r2⟩:=rj.tup;cases vi;cases vj;obtain⟨S,w1,⟨o,ho,hc,n,hd⟩,_⟩:=I.tuple q.sq;obtain⟨L,w2,⟨o2,s9,aw,n2,F⟩,_⟩:=I.tuple q2.sq;simp only[oN]at E;rw[iQ<|.inl trivial]at E;rw[D.dep]at di dj;refine PySem.W.kat_lt ho hd s9 F ?_;have:=F7 I (b:=G) hA (Q:=λY U=>U=T/\Y=b) ⟨rfl,rfl⟩ l m us ws S L 0 0 (by lia) (by lia) (λh=>hh<|by simpa using h) r1 r2 w1 w2 E (decide<|S.toArray.size<L.toArray.size) (by simp[ma]);simpa using this
 match k,r,g with
 |0,r,g=>
  cases x with
  |int ix=>
   cases y with
   |int iy=>have:=ri.int;subst this;have:=rj.int;subst this;obtain⟨t,rfl⟩:=vi;obtain⟨t',rfl⟩:=vj;simp only[oN]at E;rw[<-kZ E];show af _ _ (wP wL _ _) _ _ _;rw[keyLt'_oneType];exact oneLt_int ⟨rfl,rfl⟩
   |tup m=>cases m with
    |nil=>simp[lW]at g
    |cons z m=>cases z<;>simp[lW]at g
   |_=>simp[lW]at g
  |tup m=>cases m with
   |nil=>simp[lW]at r
   |cons z m=>cases z<;>simp[lW]at r
  |_=>simp[lW]at r
 |1,r,g=>
  cases x with
  |tup l=>
   cases y with
   |tup m=>
    refine C l m IN IR IR λ_ x y Z m' P R=>?_;subst P R;refine⟨?_,?_⟩
    .cases x with
     |int a=>exact⟨a,rfl⟩
     |_=>simp[lW]at r
    cases y with
    |int a=>exact⟨a,rfl⟩
    |_=>simp[lW]at g
   |_=>simp[lW]at g
  |_=>simp[lW]at r
 |(n+2),r,g=>
  cases x with
  |tup l=>
   cases y with
   |tup m=>exact C l m IP IR IR λh=>absurd h kY
   |_=>simp[lW]at g
  |_=>simp[lW]at r
end
open PySem.W
section
variable {X:Cx}{c:jw}{y:L2.St}{H:Hp}{s:iB}
def Gh(I:Inv X c y H s){O:SS}{T:iI}(P:D->Prop)(t:∀x v u,P x->Rep X.K H O x v->RelV v u->Looks (am X.prog X.w) s.heap (v8 u) T):∀{ds:List D}{b:List V}{a:jS},YP X.K H O ds b->Vals b a->
  (∀d∈ds,∃x l,d=.tup (x::l)/\P x)->∃fs,KatTups s.heap a fs/\(IX fs)=IX a/\∀f∈fs,Looks (am X.prog X.w) s.heap (v8 f) T:=by
 intro E
 induction E with
 |nil=>intro b a r v _;rw[YP]at r;subst r;cases v;exact⟨[],KatTups.nil,rfl,λf A=>absurd A sD⟩
 |cons d ds C'=>
  intro b a r v h;rw[YP]at r;obtain⟨W,Z,rfl,g1,g2⟩:=r
  cases v with
  |cons a1 j=>
   obtain⟨fs,L,Q,G⟩:=C' g2 j λd hd=>h d<|kO _ hd;obtain⟨x,l,rfl,J⟩:=h d ky;obtain⟨p,S,rfl,q,i⟩:=g1.tup;cases a1;obtain⟨Y,N,⟨o,B,z,n,hd⟩,_⟩:=I.tuple q.sq;rw[YP]at i;obtain⟨M,yr,rfl,m,R⟩:=i
   cases N with
   |cons k U'=>
    rename_i f F;refine⟨f::fs,KatTups.cons B z hd (by simp) L,by simp[Q],λg e=>?_⟩;rcases oq.mp e with rfl|e
    .exact t x M _ J m k
    exact G g e
def WX(I:Inv X c y H s){O:SS}{ds:List D}{J:List V}{b:jS}{A:iU}(f:YP X.K H O ds J)(v:Vals J b){k:Nat}(B:D7 k ds)(N:2<=b.length):
  af (am X.prog X.w) A (keyKind' b.toArray) (λL s'=>s'=s/\L=J8 k) (λ_ _=>False) s:=by
 have R:=f.length;have S:=v.length
 match k,B with
 |0,B=>
  refine kas_kind (T:=.type "int") N (λu F=>?_) IR IR ⟨rfl,rfl⟩;obtain⟨i,Q,e⟩:=GY F;have G:=uM f (i:=i) (by lia);have E:=uJ v Q;have hd:=B.hd _ (AO (ds:=ds) (i:=i)<|by lia);have:b.getD i ay=u:=by simp[Q,e]
  rw[this]at E
  cases h:ds.getD i .VP with
  |int a=>rw[h]at G;have:=G.int;rw[this]at E;obtain⟨t,rfl⟩:=E;exact Looks.of_pure IR
  |tup l=>
   rw[h]at hd
   cases l with
   |nil=>simp[lW]at hd
   |cons z m=>cases z<;>simp[lW]at hd
  |_=>rw[h]at hd;simp[lW]at hd
 |1,B=>
  obtain⟨fs,f1,M,g⟩:=Gh I (T:=.type "int") (λx=>∃a,x=.int a) (λx P u j C r=>by
   obtain⟨a,rfl⟩:=j;have:=C.int;subst this;obtain⟨t,rfl⟩:=r
   exact Looks.of_pure IR) f v λd hd=>by
    have:=B.hd d hd
    cases d with
    |tup l=>
     cases l with
     |nil=>simp[lW]at this
     |cons z m=>
      cases z with
      |int a=>exact⟨_,m,rfl,a,rfl⟩
      |_=>simp[lW]at this
    |_=>simp[lW]at this
  exact kat_kind f1 (by lia) g IR ⟨rfl,rfl⟩
 |(n+2),B=>
  obtain⟨fs,f1,M,g⟩:=Gh I (T:=.type "tuple") (λx=>∃a,x=.tup a) (λx P u j C r=>by
   obtain⟨a,rfl⟩:=j;obtain⟨p,us,rfl,q,Z⟩:=C.tup;cases r;obtain⟨W,w1,⟨o,Y,U,n,hd⟩,_⟩:=I.tuple q.sq;have:Looks (am X.prog X.w) s.heap (v8<|.ref p) o.cls:=(Looks.ld Y).andThen .now
   rw[U]at this;exact this) f v λd hd=>by
    have:=B.hd d hd
    cases d with
    |tup l=>
     cases l with
     |nil=>simp[lW]at this
     |cons z m=>
      cases z with
      |tup a=>exact⟨_,m,rfl,a,rfl⟩
      |_=>simp[lW]at this
    |_=>simp[lW]at this
  exact kat_kind f1 (by lia) g IR ⟨rfl,rfl⟩
def kM(l:List D):Option (D×Bool):=if nF l=J/\(IX l)<=sizeLine then Y (.lst<|nN A5 l,J)else I
def rW(d:D):Option (D×Bool):=(rk d).bind kM
def Nn{b:List V}{a:jS}(v:Vals b a):∀(p:jP),(∀i∈p,i<IX a)->Vals (p.map λi=>b.getD i .VP) (p.map λi=>a.getD i ay):=by
 intro f
 induction f with
 |nil=>intro _;exact .nil
 |cons i p e=>intro h;exact .cons (uJ v<|h i ky)<|e λj d=>h j<|kO _ d
def NS{O:SS}{a:List D}{b:List V}(r:YP X.K H O a b):∀(p:jP),(∀i∈p,i<IX a)->YP X.K H O (p.map λi=>a.getD i .VP) (p.map λi=>b.getD i .VP):=by
 intro f
 induction f with
 |nil=>intro _;exact YP.nil
 |cons i p e=>intro h;exact YP.cons (uM r<|h i ky)<|e λj d=>h j<|kO _ d
def aeM{b:List D}{n:Nat}(e:n=IX b)(h1:(IX b)<=1){p:jP}(a:p.Perm (au n)):p.map (λi=>b.getD i .VP)=nN A5 b:=by
 subst e
 match b,h1,a with
 |[],_,a=>
  have:p=[]:=by simpa using a.length_eq
  subst this;rfl
 |[d],_,a=>
  have e:(IX p)=1:=by simpa using a.length_eq
  match p,e,a with
  |[i],_,a=>
   have:i=0:=by have:=a.mem_iff.mp<|EU.mpr C;simpa using this
   subst this;rfl
def uL(hu:X.A.units+62<aT)(I:Inv X c y H s){O:SS}{f:List D}{M:List V}{a:jS}{x:iI}{Q:VK}{z:D×Bool}(u:YP X.K H O f M)(v:Vals M a)(hg:kM f=Go z)(G:Gen X.K H O z Q)
  (hc:∀(Y:List iI->iB->Prop)(E':jr)(N:iU),N.handled=X.A.handled->(∀(h':jb)(d:Nat),(∀b o,s.heap.get? b=Go o->h'.get? b=Go o)->Y a {s with heap:=h',toks:=d})->af (am X.prog X.w) N (fx x) Y E' s):
  af (am X.prog X.w) X.A (call (.builtin "sorted") [x]) (EP X c y Q) X.xe s:=by
 unfold kM at hg;obtain⟨⟨L,hz⟩,rfl⟩:=jy hg;have r:=u.length;have e2:=v.length;refine Calls.call_function_entry Gc At AC (args_sorted1 _) ?_;unfold bb.«sorted»;refine iz (m:=checkCount "sorted" 1 1 _)<|iJ ?_;refine iz<|hc _ _ _ rfl λh1 d S=>?_;refine iz<|Df ?_ (by lia);have t:(h1.push<|br "list" a.toArray 0).get? h1.objs.size=Go (br "list" a.toArray 0):=kF _ rfl;have C:Inv X c y H {s with heap:=h1,toks:=d}:=I.kept S
 have keep:∀b o,h1.get? b=Go o->(qr (h1.push<|br "list" a.toArray 0) h1.objs.size a).get? b=Go o:=λb o l=>by have R:b≠h1.objs.size:=kz<|kH l;refine jX _ (jX _ ?_);rw[GS _ _ _ _ R];exact jX _ l
 have U:Inv X c y H {s with heap:=qr (h1.push<|br "list" a.toArray 0) h1.objs.size a,toks:=d}:=C.kept keep;have Z:∀i∈au a.length,i<a.length:=λi q=>by simpa using q
 refine iz<|mF<|oF (s:={s with heap:=h1.push<|br "list" a.toArray 0,toks:=d}) wE ⟨_,t,rfl⟩ u7 ?body<|args_list_sort _
 case body=>
  have fin:∀p:List Nat,p.Perm (au a.length)->p.map (λi=>f.getD i .VP)=nN A5 f->EP X c y Q (.ref h1.objs.size) {s with heap:=(qr (h1.push<|br "list" a.toArray 0) h1.objs.size a).update h1.objs.size<|aV λ_=>(p.map λi=>a.getD i ay).toArray,toks:=d}:=λp e T=>by
   have F:∀i∈p,i<a.length:=λi q=>by simpa using e.mem_iff.mp q
   have J:∃n,(qr (h1.push<|br "list" a.toArray 0) h1.objs.size a).get? h1.objs.size=Go (br "list" #[] n):=by
    obtain⟨r,W⟩:∃r,((h1.push<|br "list" a.toArray 0).update h1.objs.size<|aV λ_=>(#[]:Array iI)).get? h1.objs.size=Go (br "list" #[] r):=⟨_,yh t λ_=> #[]⟩
    exact⟨r,jX _ (jX _ W)⟩
   obtain⟨n,J⟩:=J;obtain⟨E,P⟩:∃E,((qr (h1.push<|br "list" a.toArray 0) h1.objs.size a).update h1.objs.size<|aV λ_=>(p.map λi=>a.getD i ay).toArray).get? h1.objs.size=Go (br "list" (p.map λi=>a.getD i ay).toArray E):=⟨_,yh J λ_=>(p.map λi=>a.getD i ay).toArray⟩
   have g:∀b o,h1.get? b=Go o->((qr (h1.push<|br "list" a.toArray 0) h1.objs.size a).update h1.objs.size<|aV λ_=>(p.map λi=>a.getD i ay).toArray).get? b=Go o:=λb o l=>by rw[GS _ _ _ _ (kz<|kH l)];exact keep b o l
   have pl:p.length=a.length:=by simpa using e.length_eq
   refine⟨.ref h1.objs.size,_,C.laid (t':=d) g (jT _) (show T2 X.prog X.w _ _ _ (.lst<|p.map λi=>M.getD i .VP)from⟨by rw[jU];lia,_,E,Nn v p F,P⟩),rfl,?_⟩;refine G.lst C.fresh ?_;rw[<-T];exact NS u p λi q=>by have:=F i q;lia
  rcases Cm L with hlen|⟨k,B⟩
  .refine vD (κ:=general') (lt:=λ_ _=>IP) (s:={s with heap:=h1.push<|br "list" a.toArray 0,toks:=d}) t (by lia) (λ_ _ _=>rfl) (λ_ _=>rfl) (λh=>by lia) (λh=>by lia) λp e _=>⟨_,rfl,iJ ⟨_,rfl,fin p e ?_⟩⟩
   exact aeM (by lia) hlen e
  refine vD (κ:=J8 k) (lt:=λi j=>A5 (f.getD i .VP)<|f.getD j .VP) (s:={s with heap:=h1.push<|br "list" a.toArray 0,toks:=d}) t (by lia) (λ_ _=>XN _ _) Zo (λh=>WX U u v B h) (λ_=>aaS (A:=X.A.in1.in1) U (by show X.A.units+1+1+60<aT;lia) u v B) λp e T=>⟨_,rfl,iJ ⟨_,rfl,fin p e<|afE B.pr (by rw[show f.length=a.length by lia];exact e) T⟩⟩
def xJ(j:X.A.units+62<aT):lh X (.builtin "sorted") (EH X.K<|g1 rW):=qI λc s y H x u Q O d z N t np hd a G=>by
 obtain⟨l,g,a⟩:=iE a
 have M:l.length<=sizeLine:=by unfold kM at a;exact(jy a).1.2
 cases d with
 |lst m=>
  cases g;obtain⟨p,J,rfl,q,r⟩:=lT hd;cases t;obtain⟨i,v,T,_⟩:=N.list q;have E:=r.length;have L:=v.length;obtain⟨o,h,f,n,hd⟩:=T.isList;refine uL j N r v a G λC B w _ e=>GR p (.inl IR) h f hd (λb k=>by simpa using e b s.toks k) (by rw[kR];lia)
 |tup m=>
  cases g;obtain⟨p,J,rfl,q,r⟩:=mr hd;cases t;obtain⟨i,v,⟨o,h,f,n,hd⟩,_⟩:=N.tuple q;have E:=r.length;have L:=v.length;refine uL j N r v a G λC B w _ e=>GR p (.inr IR) h f hd (λb k=>by simpa using e b s.toks k) (by rw[kR];lia)
 |_=>cases g
def afS:aF "sorted"=Y (.builtin "sorted"):=by decide+kernel
end
def ad0:aF "isinstance"=Y (.builtin "isinstance"):=by decide+kernel
structure Tx(mg:mE):Prop where
 n_len:mg "len"=Ix
 n_abs:mg "abs"=Ix
 n_int:mg "int"=Ix
 n_tuple:mg "tuple"=Ix
 n_list:mg "list"=Ix
 n_range:mg "range"=Ix
 n_isinstance:mg "isinstance"=Ix
 n_bool:mg "bool"=Ix
 n_max:mg "max"=Ix
 n_min:mg "min"=Ix
 n_all:mg "all"=Ix
 n_any:mg "any"=Ix
 n_sorted:mg "sorted"=Ix
 n_enumerate:mg "enumerate"=Ix
 n_zip:mg "zip"=Ix
 n_set:mg "set"=Ix
def afL{K:jd}{T:Hp}{O:SS}:∀a:List Int,YP K T O (a.map .int) (a.map V.int):=by
 intro c
 induction c with
 |nil=>exact YP.nil
 |cons n a b=>exact YP.cons Rep.mkInt<|b
def pY(e d:cc)(a b c:FO):F:=λδ=>(a δ).bind λp=>(b p.2).bind λq=>match res q.2 p.1,res q.2 q.1 with
 |some (.int i),Y (.int j)=>if ma e i j=J then(c q.2).bind λr=>match res r.2 r.1 with
   |some (.int k)=>Y ((.bl<|ma d j k,U),r.2)
   |_=>I
  else Y ((.bl U,U),q.2)
 |_,_=>I
section
variable {X:Cx}{a b c:iM}{m l g:FO}{n:bA}{d f:cc}
def zH(h:zb d):AD X (aA d) (IJ λi j=>.bl (ma d i j)):=by
 rcases h with rfl|rfl|rfl|rfl
 .exact Z0
 .exact Z1
 .exact Z2
 exact Z3
def CT(A:tF X.K (pY d f m l g) σ H' Q):HF (IJ λi j=>.bl (ma d i j)) (IJ λi j=>.bl (ma f i j)) (tO X.K m) (tO X.K l) (tO X.K g) σ H' Q:=by
 obtain⟨M,T,F,N,E,e,k⟩:=A;unfold pY at e;obtain⟨x,p,h1,e⟩:=iK e;obtain⟨G,q,y,e⟩:=iK e;refine⟨M,T,x,p,E,h1,λv U h=>⟨p,Bv T x v,G,q,h.er E,y,λu Y o=>?_⟩⟩;have B:=Ops.cons E h<|Ops.cons (h.er E) o<|Ops.nil<|o.er<|h.er E;dsimp only at e;split at e
 .rename_i i j C I;have hv:=jx<|B.view (j:=0) IR IR C;have t:=jx<|B.view (j:=1) IR IR I;refine⟨i,j,hv,t,ma d i j,rfl,?_⟩;by_cases c:ma d i j=IN
  .rw[iQ c]at e ⊢;obtain⟨J,r,z,e⟩:=iK e;dsimp only at e;split at e
   .rename_i O L;obtain⟨rfl,rfl⟩:=jg e;refine⟨q,_,J,r,o.er<|h.er E,z,λw D P3=>?_⟩;have s:=Ops.cons E h<|Ops.cons (h.er E) o<|Ops.cons (o.er<|h.er E) P3<|Ops.nil<|P3.er<|o.er<|h.er E;exact⟨j,O,t,jx<|s.view (j:=2) IR IR L,(s.done k).bl⟩
   cases e
  rw[je c]at e ⊢;obtain⟨rfl,rfl⟩:=jg e;exact(B.done k).bl
 cases e
end
noncomputable def Le(x:V)(c:Bool):Bool:=match x with
 |.bl b=>b==c
 |_=>U
noncomputable def gIs:D->D->Option (D×Bool)
 |.bl b,.bl c=>Y (.bl<|b==c,U)
 |_,.bl _=>Y (.bl U,U)
 |.VP,.VP=>Y (.bl J,U)
 |_,.VP=>Y (.bl U,U)
 |_,_=>I
noncomputable def yN:D->D->Option (D×Bool)
 |.bl b,.bl c=>Y (.bl (!(b==c)),U)
 |_,.bl _=>Y (.bl J,U)
 |.VP,.VP=>Y (.bl U,U)
 |_,.VP=>Y (.bl J,U)
 |_,_=>I
section
variable {X:Cx}
def Jx(a:RelV x v)(c:Bool):plainIs v (.bool c)=J/\(v== .bool c)=Le x c:=by
 cases x<;>first
  |(cases a;exact⟨rfl,rfl⟩)
  |(obtain⟨t,rfl⟩:=a;exact⟨rfl,rfl⟩)
  |(rename_i b;cases a;refine⟨rfl,?_⟩;cases b<;>cases c<;>rfl)
def OM:AD X (aA .Is) (λx y O Q=>∃c,y=.bl c/\Q (.bl<|Le x c) O):=by intro a s f O x y v u Q T d e h;obtain⟨c,rfl,q⟩:=h;cases e;obtain⟨h1,b⟩:=Jx d c;exact wpAny_is_plain h1<|Et T q (by rw[b])
def Cu:AD X (aA .IsNot) (λx y O Q=>∃c,y=.bl c/\Q (.bl (!Le x c)) O):=by intro a s f O x y v u Q T d e h;obtain⟨c,rfl,q⟩:=h;cases e;obtain⟨h1,b⟩:=Jx d c;exact wpAny_isNot_plain h1<|Et T q (by rw[b])
def As{K T}(h:kx K T O (.bl b) v):v=.bl b:=h.elim (λh=>h.bl) λ⟨_,_,h⟩=>h.elim
def yx{K T}(h:kx K T O .VP v):v=.VP:=h.elim (λh=>h.VP) λ⟨_,_,h⟩=>h.elim
def Nl{K T}(h:kx K T O d v)(f:∀b,d≠ .bl b)(c:Bool):Le v c=U:=by
 cases d with
 |bl b=>exact absurd C<|f b
 |VP=>rw[yx h];rfl
 |int i=>rw[jx h];rfl
 |str x=>
   rcases h with h|⟨a,_,h⟩
   .rw[h.str];rfl
   exact h.elim
 |tup l=>
   rcases h with h|⟨a,_,h⟩
   .rw[Rep]at h;obtain⟨a,e,rfl,_⟩:=h;rfl
   exact h.elim
 |lst l=>
   rcases h with h|⟨a,rfl,h⟩
   .rw[Rep]at h;obtain⟨a,e,rfl,_⟩:=h;rfl
   rfl
 |Q2 _ _ _=>
   rcases h with h|⟨a,rfl,h⟩
   .rw[Rep]at h;obtain⟨a,e,rfl,_⟩:=h;rfl
   rfl
def aeB{K T}(h:kx K T O d v)(e:d≠ .VP):v≠ .VP:=by
 cases d with
 |bl b=>rw[As h];intro z;cases z
 |VP=>exact absurd C e
 |int i=>rw[jx h];intro z;cases z
 |str x=>
   rcases h with h|⟨a,_,h⟩
   .rw[h.str];intro z;cases z
   exact h.elim
 |tup l=>
   rcases h with h|⟨a,_,h⟩
   .rw[Rep]at h;obtain⟨a,c,rfl,_⟩:=h;intro z;cases z
   exact h.elim
 |lst l=>
   rcases h with h|⟨a,rfl,h⟩
   .rw[Rep]at h;obtain⟨a,c,rfl,_⟩:=h;intro z;cases z
   intro z;cases z
 |Q2 _ _ _=>
   rcases h with h|⟨a,rfl,h⟩
   .rw[Rep]at h;obtain⟨a,c,rfl,_⟩:=h;intro z;cases z
   intro z;cases z
def SO(n:Bool):AD X (aA (if n then .IsNot else .Is)) (rD X.K (if n then yN else gIs)):=by
 intro a s j N x y v u Q T g i h;obtain⟨O,d,e,z,np,h1,o,l,G⟩:=h
 cases e with
 |bl c=>
  have f:=As o;by_cases k:∃b,d=.bl b
  .obtain⟨b,rfl⟩:=k;cases n<;>cases l<;>(first|refine OM a s j N x y v u Q T g i ⟨c,f,?_⟩|refine Cu a s j N x y v u Q T g i ⟨c,f,?_⟩)<;>(rw[As h1];exact G.bl)
  have p:∀b,d≠ .bl b:=λb z=>k ⟨b,z⟩;have m:z=(.bl n,U):=by cases n<;>cases d<;>first|exact absurd C (p _)|(cases l;rfl)
  subst m;cases n<;>(first|refine OM a s j N x y v u Q T g i ⟨c,f,?_⟩|refine Cu a s j N x y v u Q T g i ⟨c,f,?_⟩)<;>(rw[Nl h1 p c];exact G.bl)
 |VP=>
  have f:=yx o;by_cases k:d=.VP
  .subst k;cases n<;>cases l<;>(first|refine OL a s j N x y v u Q T g i ⟨f,?_⟩|refine JS a s j N x y v u Q T g i ⟨f,?_⟩)<;>(rw[yx h1];exact G.bl)
  have m:z=(.bl n,U):=by cases n<;>cases d<;>first|exact absurd C k|(cases l;rfl)
  subst m;cases n<;>(first|refine OL a s j N x y v u Q T g i ⟨f,?_⟩|refine JS a s j N x y v u Q T g i ⟨f,?_⟩)<;>(rw[lb<|aeB h1 k];exact G.bl)
 |_=>cases n<;>cases d<;>cases l
def agm:AD X (aA .IsNot) (rD X.K yN):=SO J
end
end PX
namespace HT
open L2
section
variable {a:jh}{w:iY}{A:iU}{E:jr}{s:iB}
def aeX{t c:iw}{items:nE}{g i:iI}{lo d:Option Int}{Q:jr}(b:gg s.heap t items)(e:s.heap.IsSliceOf c g i .none)(l:d0 g lo)(n:d0 i d)
  (f:I0 items.size 0 lo=0/\I0 items.size items.size d=items.size)(h:Q (.ref t) s):af (am a w) A (cZ (.ref t)<|.ref c) Q E s:=by
 obtain⟨os,o,j,p⟩:=id e;have k:s.TypeIs (.ref c) "slice":=⟨os,o,j⟩
 unfold cZ
 try with_reducible refine mF ?_
 first|refine iz (iJ ?_)|skip
 refine iz<|Hf b.typeIs (by decide) ?_
 refine iz (wM (name:=bz "__getitem__") b.typeIs zO
  (oF zO b.typeIs He ?_<|Hd _ _))
 show af _ _ (bO (.ref t)>>=_) _ _ s;refine iz<|Hc b ?_;refine iz<|tZ k ?_;rw[iQ<|by decide];refine iz<|rh e l n ?_;rw[f.1,f.2];show af _ _ (if((((0:Nat):Int)==0&&(1:Int)==1&&(items.size-0)==items.size)=J)then _ else _) _ _ s;rw[iQ<|by simp];refine iz (m:=ez _) ?_;unfold ez;refine iz<|tZ b.typeIs ?_;refine iJ ?_;rw[iQ<|by decide];refine iz<|vz ?_
 first
  |exact iz<|iJ ⟨_,rfl,iJ h⟩
  |exact iJ ⟨_,rfl,iJ h⟩
  |exact iz<|iJ<|iJ ⟨_,rfl,iJ h⟩
  |(refine iz ?_;trace_state;done)
end
end HT
namespace PX
open L2 PySem.SeqAt
noncomputable def zM(l:List D)(lo a:Option Int):List D:=(l.drop<|HT.I0 (IX l) 0 lo).take<|HT.I0 (IX l) (IX l) a-HT.I0 (IX l) 0 lo
def LN(lo a:Option Int):D->Option (D×Bool)
 |.tup l=>Y (.tup<|zM l lo a,U)
 |.lst l=>Y (.lst<|zM l lo a,J)
 |_=>I
inductive rSlD(K:jd)(x:V)(lo hi:Option Int)(H:Hp)(Q:VK):Prop where
 |mk (O:SS) (d:D) (z:D×Bool) (_:∀p,¬Ow (H p)->¬O p) (_:kx K H O d x) (_:LN lo hi d=Go z) (_:Gen K H O z Q)
def YP.cut{K T}(r:YP K T O l xs)(lo a:Option Int):YP K T O (zM l lo a) (Gk xs lo a):=by unfold zM Gk;rw[r.length];exact(r.drop _).take _
section
variable {X:Cx}
def Fs{b:jw}{s:iB}{h:L2.St}{M:Hp}{a:iw}{v e f:iI}{lo c:Option Int}{d:iw}{Q:VK}{O:SS}{l:List D}{g:List V}(N:Inv X b h M s)(n:RelV (.ref a) v)(j:s.heap.IsSliceOf d e f .none)(k:d0 e lo)(m:d0 f c)
  (q:Bx X.K M a g)(r:YP X.K M O l g)(G:Gen X.K M O (.lst<|zM l lo c,J) Q):∃T id,n5 (.type T) "__getitem__"=pure (Y<|.builtin id)/\s.TypeIs v T/\af (am X.prog X.w) X.A (cZ v<|.ref d) (EP X b h Q) X.xe s:=
 RI b s h M (.ref a) v e f lo c d Q N n j k m ⟨a,g,rfl,q,λp i=>G.lst i<|r.cut lo c⟩
def ZD:Lr X (rSlD X.K):=by
 intro f s E N x v B M lo g A Q T n i k m h;obtain⟨O,d,z,np,hd,o,G⟩:=h
 cases d with
 |tup l=>
  cases o;rcases hd with hd|⟨a,_,h⟩
  .obtain⟨a,b,rfl,q,r⟩:=hd.tup;by_cases j:HT.I0 b.length 0 lo=0/\HT.I0 b.length b.length g=b.length
   .cases n;obtain⟨t,y,w,L⟩:=T.tuple q.sq;have c:t.toArray.size=b.length:=by rw[kR];exact y.length.symm
    refine⟨"tuple",_,zO.lookup,w.typeIs,?_⟩;refine HT.aeX w i k m (by rw[c];exact j) ⟨.ref a,N,T,rfl,?_⟩
    have e:zM l lo g=l:=by unfold zM;rw[<-r.length,j.1,j.2];simp[r.length]
    rw[e]at G;exact G (.ref a) N (λ_ _ e=>e) hd
   exact VM f s E N (.ref a) v B M lo g A Q T n i k m ⟨a,b,rfl,q.sq,j,λp u=>G.tup u (np p<|L3 u)<|r.cut lo g⟩
  exact h.elim
 |lst l=>
  cases o;rcases hd with hd|⟨a,rfl,h⟩
  .obtain⟨a,b,rfl,q,r⟩:=hd.lst;exact Fs T n i k m q.sq r G
  obtain⟨b,e,r⟩:=h;exact Fs T n i k m (.inl<|.inl e) r G
 |_=>cases o
end
def Qi(a b:FO):F:=λc=>(a c).bind λp=>(b p.2).bind λq=>match res q.2 q.1 with
 |some (.int i)=>(res q.2 p.1).bind λx=>(LN (Y i) I x).bind λz=>Y (z,q.2)
 |_=>I
def CJ(a b:FO):F:=λδ=>(a δ).bind λp=>(b p.2).bind λq=>match res q.2 q.1 with
 |some (.int i)=>(res q.2 p.1).bind λx=>(LN I (Y i) x).bind λz=>Y (z,q.2)
 |_=>I
section
variable {X:Cx}{a lo d:iM}{g e f:FO}{b c:bA}
end
end PX
namespace L2
section
variable {X:Cx}
def Zx(T:It)(g:TG)(a:TT)(tb:iw->TB)(pre:St->St)(b:St)(O:Hp)(Q:VK):Prop:=Fh (.set (λ_=>U) 0) T g a tb pre b O Q
def HE(c:TI)(g:TG)(ti:TT)(tb:iw->TB)(pre:St->St):TE:=λa O Q=>c a O λT b=>Zx T g ti tb pre a b Q
def VE(d:iw)(e:TE):TB:=λc T N=>e c T λy a=>∃k S n,y=.int k/\a d=Y (.set S n)/\n+1<gz/\N c (upd a d<|.set (λb=>S b||decide (b=k)) (if S k then n else n+1))
def OD{a:iM}{c:oU}{j:ju}{p:bA}{depth:Nat}{d:iw}{l:TE}(E:c[depth+1]?=I)(C:PE X a l):PB X (jG (.SetComp a c j p) depth (.ref d) X.env) (VE d l):=by
 intro f s m H N M h
 have r:jG (.SetComp a c j p) depth (.ref d) X.env=(do let v <-bh a X.env;cA a.pos;let _ <-call (.builtin "set.add") [.ref d,v]):=by unfold jG;simp -iota only[clausesOf.eq_def];rw[E]
 rw[r];refine iz<|Q1 (C f s m H _ M h) ?_;rintro u s1 ⟨y,H1,g,T,k,S,n,z,hd,Q,q⟩;subst z;obtain⟨t,rfl⟩:=T;have A:s1.heap.SetOf (hU X.prog X.w) d S n:=g.hok d _ hd;refine iz<|ud<|iz<|call_set_add (knd:=hU X.prog X.w) (k:=k) (intKind_is _ _ k t) IR A Q λJ G i=>iJ ⟨m,_,?_,q⟩;refine g.write (x:=d) (e:=d) (by rw[hd];exact trivial) (.inl IR) (λb u B O=>by rw[G.2 b B];exact O) ?_ i;obtain⟨o,_,_,_,L,_⟩:=i;exact⟨o,L⟩
end
end L2
namespace PX
open L2 PySem.SeqAt
noncomputable def EE(f:F):FB:=λa b=>(f b).bind λp=>match p.1.1 with
 |.int k=>if (IX a)+1<gz then Y (a++[.int k],p.2)else I
 |_=>I
section
variable {X:Cx}{A:ki}{d:iw}{c:iM}{f:F}
def agi{j:oU}{J:ju}{p:bA}{depth:Nat}(E:j[depth+1]?=Ix)(y:PX X c f):PB X (jG (.SetComp c j J p) depth (.ref d) X.env) (FE IN X.K A d<|EE f):=PB.imp' (OD E y) λm H N I=>by
 obtain⟨w,T,g,U,M,B,e,k⟩:=I;obtain⟨r,h,h1,e⟩:=iK e;obtain⟨O,Q⟩:=r
 cases O with
 |int i=>
  obtain⟨Y,e⟩:=jy e;obtain⟨rfl,rfl⟩:=tu e;refine⟨w,T,(.int i,Q),h,B.er,h1,λv s P=>?_⟩;obtain⟨q,G⟩:=P.rep B.er;have hv:v=.int i:=G.int;have t:SK A m w H m h s:=P.1.sk;have x:=B.step t q;have C:=RM g (λ_=>IP,0);refine⟨i,_,_,hv,x.at',by unfold ou;lia,k m _ ?_ ?_⟩
  .have:HY A d m h s m h (upd s d<|.set (λu=>(ou g).1 u||decide (u=i)) (if(ou g).1 i then(ou g).2 else(ou g).2+1)):=⟨λa o e n L=>by rw[jq L];exact e,λi a z=>.inl z,λa z=>by
    by_cases l:a=d
    .subst l;rw[jk];simp
    rw[jq l];exact z,λ_ _=>rfl⟩
   exact t.Jb.trans this
  refine⟨q.mono (λb o e n=>by rw[jq<|by intro z;subst z;exact n B.td];exact e) (λ_ _ z=>z) λa z=>?_,B.td,?_⟩
  .by_cases l:a=d
   .subst l;rw[jk];trivial
   rw[jq l];exact q.dom a z
  show upd _ _ _ _=_;rw[jk,Co]
 |_=>cases e
end
def uT(b:jP)(k:Nat)(d:B0)(e:Tg)(ti:FT)(c:FB):F:=λf=>(d f).bind λp=>(jM p.2<|b.map .slot).bind λa=>if(jf (b.map .slot) a).Nodup then(kr e ti c p.1 []<|a.map Y++ao k I).bind λq=>Y ((.int (ou q.1).2,U),wb (b.map .slot) a (jn a q.2) p.2)else I
def af8{K:jd}{b:jP}{k:Nat}{f:B0}{g:Tg}{ti:FT}{e:FB}{j:L2.St}{T:Hp}{Q:VK}(h:tF K (uT b k f g ti e) j T Q):
  HE (tI K (λi=>i∉b) f) (tG K (λi=>IX b<=i) g) (tT K ti) (λd=>FE J K (λi=>IX b<=i) d e) (sQ b k) j T (λx c=>∃S n,∃a,x=.ref a/\c a=Y (.set S n)/\Q (.int n) c):=yV (S:=J) h
section
variable {X:Cx}{l:iM}{c:oT}{f:oU}{scope:ju}{j y p:bA}{O:ji}{b:jP}{k:Nat}{L:B0}{A:Tg}{ti:FT}{B:FB}
def agd:lh X (.builtin "len") (λi H' Q=>∃S n,∃a,i=[.ref a]/\H' a=Y (.set S n)/\Q (.int n) H'):=by
 intro g s M H' i G Q N r h;obtain⟨S,n,a,rfl,e,q⟩:=h;obtain⟨u,rfl,C⟩:=qZ r;cases C;obtain⟨o,m,E,t,z,hex,hd,_,_,T,v,x⟩:=(show s.heap.SetOf (hU X.prog X.w) a S n from N.hok a _ e)
 have d:(m.size:Int)<2^63:=by
  have:gz=4096:=rfl
  lia
 refine call_len_set z hex hd v d ⟨.int n,H',?_,⟨_,by rw[x]⟩,q⟩;exact(N.tok _)
def aft{z:aE}(C:B1 X O scope b k)(hc:X.calm=IN)(ha:c.is_async=0)(j7:∀U',f[0]?=Go U'->U'.is_async=0)
  (hs:∀x,aB c.iter X.env x=pure x)(pi:Ih X (λi=>i∉b) c.target c.iter L)
  (n8:∀(cl:kj)(C:iw)(s3:iB)(H3:Hp)(fp:la)(r:jw),let t:=X.comp O scope cl C s3 H3 fp r
   Ja t (λi=>IX b<=i) c.target A/\IE t c.ifs (tT X.K ti)/\∀d,PB t (jG (.SetComp l (c::f) scope j) 0 (.ref d) t.env)<|FE IN X.K (λi=>IX b<=i) d B)
  (hg:Gl X z)(hm:X.mg z=Ix)(hv:aF z=Go (.builtin "len"))(hn:z≠"__name__")(k4:(z==("__debug__":aE))=U)
  (h1:aj [.SetComp l (c::f) scope j] X.env=(U,bh (.SetComp l (c::f) scope j) X.env)::aj [] X.env)(f7:(aO y<|aj [] X.env).any (·.1)=U):
  PX X (.Call (.Name z p) [.SetComp l (c::f) scope j] [] y) (uT b k L A ti B):=
 PX.imp (AE agd hg hm hv (pv (D1 (fp:=c.iter.pos) (new:=wn<|.type "set") (o:=.set (λ_=>U) 0) (g:=tG X.K (λi=>IX b<=i) A) (ti:=tT X.K ti) (tb:=λd=>FE IN X.K (λi=>IX b<=i) d B) C.KI hc ha j7 hs pi n8 (λ_ _ _ k=>wpAny_newSet_of (knd:=hU X.prog X.w) λ_ R=>k _ λ_=>R) (.inr ⟨_,_,_,_,rfl⟩) (hev:=by cases c;rfl)) ug h1) hn k4 h1 f7) λY H Q h=>by
  have q:=af8 h
  have mono:∀{u I:VK},(∀v H,u v H->I v H)->HE (tI X.K (λi=>i∉b) L) (tG X.K (λi=>IX b<=i) A) (tT X.K ti) (λd=>FE IN X.K (λi=>IX b<=i) d B) (sQ b k) Y H u->HE (tI X.K (λi=>i∉b) L) (tG X.K (λi=>IX b<=i) A) (tT X.K ti) (λd=>FE IN X.K (λi=>IX b<=i) d B) (sQ b k) Y H I:=by
   rintro u I hq ⟨δ,T,ds,G,E,h1,kk⟩;refine⟨δ,T,ds,G,E,h1,λJ N P D ok d hd=>?_⟩;obtain⟨W,V,step⟩:=kk J N P D ok d hd;refine⟨W,V,λi m M F w=>?_⟩;rcases step i m M F w with⟨s1,s2⟩|s
   .exact .inl ⟨s1,hq _ _ s2⟩
   exact .inr s
  exact mono (λv N a'=>by obtain⟨S,n,a,e,h2,h3⟩:=a';exact ⟨S,n,a,by rw[e],h2,h3⟩) q
end
end PX
namespace HT
open L2
section
variable {a:jh}{w:iY}{A:iU}{E:jr}{s:iB}
def afq(n:Nat):bq I I (-1) (n:Int)=((n:Int)-1, -1):=by unfold bq;rfl
def aeR(n:Nat):ba ((n:Int)-1) (-1) (-1)=n:=by
 unfold ba;rw[je<|by decide];by_cases h:n=0
 .subst h;rfl
 rw[iQ<|by lia];simp only[gy,tv]
 lia
def Xf{b c:Type}{f:b->Option c}{g:b->c}:∀{l:List b},(∀m∈l,f m=Y (g m))->l.filterMap f=l.map g:=by
 intro i
 induction i with
 |nil=>intro _;exact C
 |cons x l e=>intro h;rw[MI<|h x (ky ..),ku,e λm d=>h m<|kO _ d]
def Oj(b:nE):((au b.size).filterMap λ(m:Nat)=>b[((b.size:Int)-1+(m:Int)*(-1)).toNat]?).toArray=b.toList.reverse.toArray:=by
 congr 1
 have e:(au b.size).filterMap (λ(m:Nat)=>b[((b.size:Int)-1+(m:Int)*(-1)).toNat]?)=(au b.size).map λm=>b.toList.reverse.getD m .none:=by
  refine Xf λm c=>?_;have c:=vc.1 c;have:((b.size:Int)-1+(m:Int)*(-1)).toNat=b.size-1-m:=by omega
  rw[this];have f:b.size-1-m<b.size:=by omega
  simp[c,List.getElem_reverse]
 rw[e];apply ym;intro i;by_cases d:i<b.size
 .simp[d]
 simp[d]
def yB{d:iw}{t:oC}{n:Nat}{Q:Int×Int×Nat->iB->Prop}(f:s.heap.IsSliceOf d .none .none (.int (-1) t))
  (h:Q ((n:Int)-1, -1,n) s):af (am a w) A (bR (.ref d)<|pure (n:Int)) Q E s:=by
 obtain⟨os,c,g,b⟩:=id f;unfold bR eC;refine iz<|iz<|oo c b (x:=.none) C<|iz<|oo c b (x:=.none) C<|iz<|oo c b (x:=.int (-1) t) C<|iJ ?_;refine iz<|x0 ?_;show af _ _ (if((-1:Int)==0)=J then _ else _) _ _ s;rw[je<|by decide];refine iz<|Dx<|iz<|Dx<|iz<|iJ ?_;show af _ _ (match bq I I (-1) (n:Int)with|(lo,e)=>pure (lo,(-1:Int),ba lo e (-1))) _ _ s;rw[afq n];show af _ _ (pure ((n:Int)-1,(-1:Int),ba ((n:Int)-1) (-1) (-1))) _ _ s;rw[aeR];exact iJ h
def afj(b:gg s.heap t items)(e:s.heap.IsSliceOf f .none .none (.int (-1) u))
  (h:Q (.ref s.heap.objs.size) {s with heap:=s.heap.push {cls:=.type "tuple",data:=.seq items.toList.reverse.toArray}})
  (d:items.size<=sizeLine):af (am a w) A (cZ (.ref t)<|.ref f) Q E s:=by
 have c:sizeOk (.seq items.toList.reverse.toArray):=by show items.toList.reverse.toArray.size<=sizeLine;rw[kR,Di,lS];exact d
 obtain⟨os,j,g,k⟩:=id e;have i:s.TypeIs (.ref f) "slice":=⟨os,j,g⟩
 unfold cZ
 try with_reducible refine mF ?_
 first|refine iz (iJ ?_)|skip
 refine iz<|Hf b.typeIs (by decide) ?_
 refine iz (wM (name:=bz "__getitem__") b.typeIs zO
  (oF zO b.typeIs He ?_<|Hd _ _))
 show af _ _ (bO (.ref t)>>=_) _ _ s;refine iz<|Hc b ?_;refine iz<|tZ i ?_;rw[iQ<|by decide];refine iz<|yB e ?_;show af _ _ (if((((items.size:Int)-1)==0&&(-1:Int)==1&&items.size==items.size)=J)then _ else _) _ _ s;rw[je<|by simp,Oj]
 first
  |exact iz (m:=aH _)<|nq (iJ ⟨_,rfl,iJ h⟩) c
  |exact iz (m:=aH _)<|nq (iz<|iJ<|iJ ⟨_,rfl,iJ h⟩) c
  |exact iz<|iz (m:=aH _)<|nq (iJ<|iJ ⟨_,rfl,iJ h⟩) c
  |exact iz<|iz (m:=aH _)<|nq (iJ ⟨_,rfl,iJ h⟩) c
end
end HT
namespace L2
section
variable {X:Cx}{e st:iM}{d c:TE}{f g:bA}
def abD(K:jd)(d c:TE):TE:=λi T Q=>d i T λx j=>c i j λy b=>y=.int (-1)/\∃a h,x=.ref a/\EC K b a h/\∀p,b p=I->Q (.ref p) (upd b p<|.tup h.reverse)
def aes(L:PE X e d)(T:PE X st c):PE X (.Subscript e (.Slice Ix Ix (Y st) g) f) (abD X.K d c):=by
 intro i s k H Q I h;refine o7<|Q1 (L i s k H _ I h) ?_;rintro v s1 ⟨x,H1,B,M,J'⟩;refine Ch ?_;rw[Hb];refine iJ<|iJ ?_;rw[xl];refine Q1 (T i s1 k H1 _ B J') ?_;rintro u s3 ⟨y,z,C',N,E,a,xs,ex,O,q⟩;subst E ex;obtain⟨t,rfl⟩:=N;cases M;have l:Inv X i k z {s3 with heap:=s3.heap.push {cls:=.type "slice",data:=.fields #[.none,.none,.int (-1) t]}}:=C'.kept (t':=s3.toks) λb G q=>jX _ q;obtain⟨m,r,n,p⟩:=l.tuple O;have j:m.toArray.size=(IX xs):=by rw[kR];exact r.length.symm
 show af (am X.prog X.w) X.A (eV e (.Slice Ix Ix (Y st) g) (.ref a)<|.ref s3.heap.objs.size) (EP X i k Q) X.xe {s3 with heap:=s3.heap.push {cls:=.type "slice",data:=.fields #[.none,.none,.int (-1) t]}};refine tail_any (ops:=[.ref a,.ref s3.heap.objs.size]) n.typeIs zO.lookup (HT.afj n (Heap.IsSliceOf.new ..) ?_<|by rw[j];exact p) (by with_unfolding_all rfl);refine⟨.ref _,_,l.laid (t':=s3.toks) (o:=.tup xs.reverse) (λb G q=>jX _ q) (jT _) ?_,rfl,q _ (l.hok.fresh<|jT _)⟩;exact⟨by rw[Di];exact p,_,r.reverse,DQ.new _ _⟩
end
end L2
namespace PX
open L2 PySem.SeqAt
noncomputable def acC:D->Option (D×Bool)
 |.tup l=>Y (.tup l.reverse,U)
 |_=>I
def YP.reverse{K T}{O:SS}:∀{l:List D}{a:List V},YP K T O l a->YP K T O l.reverse a.reverse:=by
 intro e
 induction e with
 |nil=>intro a h;rw[YP]at h;subst h;exact YP.nil
 |cons d l c=>intro a h;rw[YP]at h;obtain⟨v,r,rfl,h1,b⟩:=h;rw[Ai,Ai];exact(c b).append (YP.one h1)
def TU(a fs:FO):F:=λδ=>(a δ).bind λp=>(fs p.2).bind λq=>match res q.2 q.1 with
 |some (.int i)=>if i= -1 then(res q.2 p.1).bind λx=>(acC x).bind λz=>Y (z,q.2)else I
 |_=>I
section
variable {X:Cx}{a st:iM}{d fs:FO}{b c:bA}
end
section
variable {b:kI}{a:dk}
end
end PX
namespace TT
noncomputable def S:Nat->Nat
 |0=>0
 |n+1=>5*S n+1
theorem Kz(m:Nat):∀n:Nat,S (m+n)=5^n*S m+S n
 |0=>by simp[S]
 |n+1=>by rw[<-yj,S,Kz m n,S,vn,vL,<-rM,yg 5 (5^n)];lia
theorem Ba:∀n:Nat,∃c,5^n=4*c+1
 |0=>⟨0,rfl⟩
 |n+1=>by obtain⟨c,e⟩:=Ba n;exact⟨5*c+1,by rw[vn,e];lia⟩
theorem Rg:∀k:Nat,∃c,S (2^k)=2^k*(2*c+1)
 |0=>⟨0,rfl⟩
 |k+1=>by
  obtain⟨c,e⟩:=Rg k;obtain⟨d,f⟩:=Ba (2^k)
  have h:S (2^(k+1))=(5^2^k+1)*S (2^k):=by rw[vn,Nat.mul_two,Kz,fg,GQ]
  refine⟨2*(d*c)+d+c,?_⟩;rw[h,f,e,vn];have:4*d+1+1=2*(2*d+1):=by lia
  rw[this,rM 2,yg (2*d+1),rM (2^k),rM (2^k),<-rM 2 (2^k),yg 2 (2^k),rM (2^k) 2]
  congr 2
  rw[fg,vL,GQ,yf,rM 2 c,De c 2 d,yg c d]
  lia
def Rh(k n:Nat):S (2^k+n)%2^k=S n%2^k:=by obtain⟨c,e⟩:=Rg k;rw[Kz,e,De,m9]
def Ky:∀(k e:Nat),e<2^k->∃n,n<2^k/\S n%2^k=e:=by
 intro u
 induction u with
 |zero=>intro e h;exact⟨0,by simp,by simp at h;subst h;rfl⟩
 |succ k t=>
  intro e h;have l:0<2^k:=m7 k;obtain⟨n,z,s⟩:=t (e%2^k)<|ye _ l;obtain⟨c,m⟩:=Rg k;obtain⟨d,o⟩:=Ba n
  have b:S (2^k+n)=2^(k+1)*(4*d*c+2*d+c)+2^k+S n:=by
   rw[Kz,m,o,vn,De,rM (2^k) 2]
   have:(4*d+1)*(2*c+1)=2*(4*d*c+2*d+c)+1:=by rw[fg,vL,GQ,yf,De (4*d) 2 c];lia
   rw[this,vL,yf]
  rw[vn]at h b ⊢;generalize 2^k=P at*;have j:=na (S n) P;have i:=na e P;rw[s]at j;have A:e / P<2:=Nat.div_lt_of_lt_mul (by rw[yg]at h;lia)
  have mk:∀a q x,a=P*2*q+x->x<P*2->a%(P*2)=x:=λa q x h1 b=>by rw[h1,m9,Nat.mod_eq_of_lt b]
  have y:=ye e l;have v:S n / P=2*(S n / P / 2)+S n / P%2:=by lia
  have g:S n=P*2*(S n / P / 2)+(P*(S n / P%2)+e%P):=by rw[rM,<-yj,<-vL,<-v];exact j.symm
  generalize S n / P / 2=q at g;have w:S n / P%2<2:=ye _ (by decide);generalize S n / P%2=r at g w;generalize e / P=f at*;by_cases p:r=f
  .exact⟨n,by lia,mk _ q _ (by rw[g,p,i]) h⟩
  refine⟨P+n,by lia,mk _ (4*d*c+2*d+c+q+r) _ ?_ h⟩;rw[b,g,vL (P*2) _ r,vL (P*2) _ q];rcases(show r=0\/r=1 by lia)with rfl|rfl
  .have:f=1:=by lia
   subst this;rw[GO,GO];rw[yf]at i;lia
  have:f=0:=by lia
  subst this;rw[yf,yf];rw[GO]at i;lia
noncomputable def ls(mask:Nat)(h:Int):Nat->Nat×Nat
 |0=>(aU h%(mask+1),aU h)
 |k+1=>cx mask (ls mask h k).1 (ls mask h k).2
def T9(h:Int):aU h<2^64:=by
 unfold aU;have:=GN h (show(0:Int)<2^64 by decide);have:=GL h (show(2^64:Int)≠0 by decide)
 lia
def JZ(mask:Nat)(h:Int):∀k,(ls mask h k).1<=mask
 |0=>by have:=ye (aU h) (show 0<mask+1 by lia);show _%(mask+1)<=_;lia
 |k+1=>by show(_%(mask+1))<=_;have:=ye ((ls mask h k).1*5+1+(ls mask h k).2 / 32) (show 0<mask+1 by lia);lia
theorem JY(mask:Nat)(h:Int):∀k,(ls mask h k).2=aU h / 32^k
 |0=>by simp[ls]
 |k+1=>by show(ls mask h k).2 / 32=_;rw[JY mask h k,vn,Nat.div_div_eq_div_mul]
def Tb(mask:Nat)(h:Int)(k:Nat)(hk:13<=k):(ls mask h k).2=0:=by rw[JY];refine Nat.div_eq_of_lt<|oH (T9 h) ?_;exact mq (show 2^64<=32^13 by decide)<|yd (by decide) hk
theorem Pg(mask:Nat)(h:Int)(m:Nat)(a:(ls mask h 13).1=S m%(mask+1)):∀n,(ls mask h (13+n)).1=S (m+n)%(mask+1)
 |0=>a
 |n+1=>by show(((ls mask h (13+n)).1*5+1+(ls mask h (13+n)).2 / 32)%(mask+1))=_;rw[Tb mask h _ (by lia),Pg mask h m a n,Nat.zero_div,sK,<-yj m n 1,S,vl,Nat.mod_mul_mod,<-vl,yg 5]
def FV(hk:mask+1=2^k)(h:Int)(g:e<=mask):∃n,n<mask+14/\(ls mask h n).1=e:=by
 have i:=JZ mask h 13;obtain⟨m,c,b⟩:=Ky k (ls mask h 13).1 (by lia);obtain⟨q,d,eq⟩:=Ky k e (by lia);rw[<-hk]at b eq c d;have a:=Pg mask h m b.symm;by_cases f:m<=q
 .exact⟨13+(q-m),by lia,by rw[a,show m+(q-m)=q by lia];exact eq⟩
 refine⟨13+(q+(mask+1)-m),by lia,?_⟩;rw[a,show m+(q+(mask+1)-m)=2^k+q by lia,hk,Rh,<-hk];exact eq
def HN(mask i:Nat)(h:i<=mask):i<=aG mask i/\aG mask i<=mask/\aG mask i<=i+9:=by unfold aG;split<;>lia
def tm(mask:Nat)(h:Int):Nat->Nat
 |0=>0
 |k+1=>tm mask h k+(aG mask (ls mask h k).1-(ls mask h k).1)+1
theorem Uu(mask:Nat)(h:Int):∀k,tm mask h k<=10*k
 |0=>jT _
 |k+1=>by have:=Uu mask h k;have:=HN mask _ (JZ mask h k);unfold tm;lia
def at_(mask:Nat)(h:Int)(k t:Nat):SetTable.Probe:=⟨(ls mask h k).1+t,aG mask (ls mask h k).1-(ls mask h k).1-t,(ls mask h k).1,(ls mask h k).2,I⟩
theorem wg(mask:Nat)(h:Int):∀k t,t<=aG mask (ls mask h k).1-(ls mask h k).1->pr mask h (tm mask h k+t)=at_ mask h k t
 |0,0,_=>rfl
 |k+1,0,_=>by have e:=wg mask h k (aG mask (ls mask h k).1-(ls mask h k).1)<|jT _;show Io mask (pr mask h<|tm mask h k+(aG mask (ls mask h k).1-(ls mask h k).1))=_;rw[e];unfold Io at_;simp only[Nat.sub_self,mn,gt_iff_lt];rfl
 |k,t+1,a=>by
  have e:=wg mask h k t (by lia);show Io mask (pr mask h<|tm mask h k+t)=_;rw[e];unfold Io at_;rw[iQ (show aG mask (ls mask h k).1-(ls mask h k).1-t>0 by lia)];simp
  lia
def Og(hk:mask+1=2^k)(h:Int)(a:e<=mask):∃n,n<10*(mask+14)/\(pr mask h n).j=e:=by obtain⟨r,b,er⟩:=FV hk h a;have:=Uu mask h r;refine⟨tm mask h r,by lia,?_⟩;have:=wg mask h r 0<|mD _;rw[sK]at this;rw[this];exact er
theorem Of(mask:Nat)(h:Int):∀n,(pr mask h n).dummy=I
 |0=>rfl
 |n+1=>by show(Io mask<|pr mask h n).dummy=I;unfold Io;split<;>exact Of mask h n
theorem Fy(mask:Nat)(h:Int):∀n,∃k t,n=tm mask h k+t/\t<=aG mask (ls mask h k).1-(ls mask h k).1
 |0=>⟨0,0,rfl,mD _⟩
 |n+1=>by
  obtain⟨k,t,e,b⟩:=Fy mask h n;by_cases a:t+1<=aG mask (ls mask h k).1-(ls mask h k).1
  .exact⟨k,t+1,by lia,a⟩
  exact⟨k+1,0,by unfold tm;lia,mD _⟩
def Oe(mask:Nat)(h:Int)(n:Nat):(pr mask h n).j<=mask:=by obtain⟨k,t,e,a⟩:=Fy mask h n;rw[e,wg mask h k t a];have:=HN mask _ (JZ mask h k);show(ls mask h k).1+t<=mask;lia
def DT{c:Array Nat}(g:c.toList.Pairwise (· < ·)){i j:Nat}{a b:Nat}(h:i<j)(h1:c[i]?=Y a)(d:c[j]?=Y b):a<b:=by rw[<-nM]at h1 d;obtain⟨e,rfl⟩:=wJ.mp h1;obtain⟨f,rfl⟩:=wJ.mp d;exact Ro.mp g i j e f h
def QV{c:Array Nat}(o:c.toList.Pairwise (· < ·))(j:Nat):∀(d lo b:Nat),lo<=b->b<=c.size->b-lo<=d->
  (∀i a,i<lo->c[i]?=Y a->a<j)->(∀i a,b<=i->c[i]?=Y a->j<=a)->
  let p:=SetTable.below.go c j d lo b
  p<=c.size/\(∀i a,i<p->c[i]?=Y a->a<j)/\(∀i a,p<=i->c[i]?=Y a->j<=a):=by
 intro u
 induction u with
 |zero=>
  intro lo b h1 g t h k;have:lo=b:=by lia
  subst this;exact⟨g,h,k⟩
 |succ d r=>
  intro lo b h1 g t h k;unfold SetTable.below.go;by_cases q:lo<b
  .rw[iQ q];have n:(lo+b) / 2<c.size:=by lia
   have m:c[(lo+b) / 2]?=Y c[(lo+b) / 2]:=qL n;have hd:c.getD ((lo+b) / 2) j=c[(lo+b) / 2]:=by simp[n]
   dsimp only;rw[hd];by_cases l:c[(lo+b) / 2]<j
   .rw[iQ l];refine r ((lo+b) / 2+1) b (by lia) g (by lia) (λi a s f=>?_) k;by_cases e:i=(lo+b) / 2
    .subst e;rw[m]at f;cases f;exact l
    exact Ae (DT o (by lia) f m) l
   rw[je l];refine r lo ((lo+b) / 2) (by lia) (by lia) (by lia) h λi a s f=>?_;by_cases e:i=(lo+b) / 2
   .subst e;rw[m]at f;cases f;lia
   have:=DT o (show(lo+b) / 2<i by lia) m f;lia
  rw[je q];have:lo=b:=by lia
  subst this;exact⟨g,h,k⟩
def qh{b:Array Nat}(d:b.toList.Pairwise (· < ·))(j:Nat):ax b j<=b.size/\(∀i a,i<ax b j->b[i]?=Y a->a<j)/\(∀i a,ax b j<=i->b[i]?=Y a->j<=a):=
 QV d j b.size 0 b.size (mD _) (jT _) (by lia) (λi a h=>by lia) (λi a h1 c=>by have:=(Me.mp c).1;lia)
def Bq{a:Array Nat}(c:a.toList.Pairwise (· < ·)){i j:Nat}(h:a[i]?=Y j):ax a j=i:=by
 obtain⟨h1,d,e⟩:=qh c j;by_cases g:i<ax a j
 .exact absurd (d i j g h) (qo _)
 by_cases f:ax a j<i
 .have k:=(Me.mp h).1;have b:a[ax a j]?=Y a[ax a j]:=qL (by omega);have:=e _ _ (jT _) b;have:=DT c f b h;omega
 omega
theorem Ek(j:Nat):Fa #[] j=U:=rfl
def rg{t:mW}(a:t.place.toList.Pairwise (· < ·)){i j:Nat}(h:t.place[i]?=Y j):t.slot j=.live i:=by unfold hZ;dsimp only;rw[Bq a h,h];simp
def aeN{t:mW}(hd:t.dummies= #[]){j:Nat}(h:j∉t.place.toList):t.slot j=.empty:=by
 unfold hZ;dsimp only
 have:(t.place[ax t.place j]?==Y j)=U:=by rw[Bw];intro e;rw[<-nM]at e;exact h<|mY e
 rw[this,hd,Ek];rfl
def Q6(t:mW)(p:cG):t.advance p=Io t.mask p:=by unfold FM Io;split<;>rfl
def Oc{l:iF}{t:mW}(ok:J4 l t)(hashAt:Nat->Int)(h:Int):∀(a n:Nat),(∃M,n<=M/\M<n+a/\(pr t.mask h M).j∉t.place.toList)->
    ∃m,n<=m/\(∀q,n<=q->q<m->∃i,t.place[i]?=Y (pr t.mask h q).j/\hashAt i≠h)/\
      (((pr t.mask h m).j∉t.place.toList/\dy t hashAt h a (pr t.mask h n)=Y (.empty (pr t.mask h m).j I))\/
       (∃i,t.place[i]?=Y (pr t.mask h m).j/\hashAt i=h/\dy t hashAt h a (pr t.mask h n)=Y (.candidate (pr t.mask h m).j i<|pr t.mask h<|m+1))):=by
  intro p
  induction p with
  |zero=>
    rintro n ⟨M,h1,f,g⟩
    lia
  |succ a o=>
    rintro n ⟨M,h1,f,g⟩;unfold dy;by_cases d:(pr t.mask h n).j∈t.place.toList
    · obtain⟨i,c⟩:=sJ d
      rw[nM]at c;rw[rg ok.ris c];dsimp only;by_cases b:hashAt i=h
      · refine⟨n,jT _,λq h1 f=>by lia,.inr ⟨i,c,b,?_⟩⟩
        rw[iQ<|by simpa using b,Q6];rfl
      · rw[je<|by simpa using b,Q6]
        have s:M≠n:=λe=>g<|e▸d;obtain⟨m,g1,g2,k⟩:=o (n+1) ⟨M,by lia,by lia,g⟩;refine⟨m,by lia,λq u r=>?_,k⟩;by_cases e:q=n
        · subst e;exact⟨i,c,b⟩
        · exact g2 q (by lia) r
    · rw[aeN ok.dum d]
      dsimp only;rw[Of];exact⟨n,jT _,λq h1 f=>by lia,.inl ⟨d,rfl⟩⟩
def FZ:∀(n:Nat)(l:jP),IX l<=n->∃e,e<=n/\e∉l:=by
 intro d
 induction d with
 |zero=>intro l h;exact⟨0,jT _,by cases l with|nil=>simp|cons _ _=>simp at h⟩
 |succ n c=>
  intro l h;by_cases a:n+1∈l
  .obtain⟨e,h1,b⟩:=c (l.erase<|n+1) (by rw[MH a];lia);exact⟨e,by lia,λz=>b<|(Dd<|by lia).mpr z⟩
  exact⟨n+1,jT _,a⟩
def J4.free(ok:J4 f t)(h:Int):∃M,M<10*(t.mask+14)/\(pr t.mask h M).j∉t.place.toList:=by
 obtain⟨k,_,_,hk⟩:=ok.pow
 have h1:(IX t.place.toList)<=t.mask:=by have:=ok.len;have:=ok.room;rw[lS];lia
 obtain⟨e,c,d⟩:=FZ t.mask _ h1;obtain⟨n,a,b⟩:=Og hk h c;exact⟨n,a,by rw[b];exact d⟩
def mM{b:Type}(a:Array b)(p:Nat)(x:b):(aP a p x).toList=a.toList.take p++x::a.toList.drop p:=by unfold aP;simp;rw[dE<|by simp]
def aeP(h:xs.toList.Pairwise (· < ·))(n:j∉xs.toList):(aP xs (ax xs j) j).toList.Pairwise (· < ·):=by
 obtain⟨h1,l,k⟩:=qh h j;rw[mM,sP];refine⟨h.sublist<|yt _ _,?_,?_⟩
 .rw[zP];refine⟨λa d=>?_,h.sublist<|GX _ _⟩;obtain⟨i,c⟩:=sJ d;rw[c8]at c;have m:=k _ _ (show ax xs j<=ax xs j+i by lia) (by rw[<-nM];exact c);have:a≠j:=λe=>n (e▸mY c)
  lia
 intro a d b g
 have f:a<j:=by
  obtain⟨i,c⟩:=sJ d;rw[List.getElem?_take]at c;split at c
  .rename_i o;exact l i a o (by rw[<-nM];exact c)
  cases c
 rcases oq.mp g with rfl|g
 .exact f
 obtain⟨i,c⟩:=sJ g;rw[c8]at c;have m:=k _ _ (show ax xs j<=ax xs j+i by lia) (by rw[<-nM];exact c)
 lia
def J4.fresh(finger moves:Nat)(led:Bool):J4 [] (gR finger moves led) where
 pow:=⟨3,by lia,by lia,rfl⟩
 dum:=rfl
 len:=rfl
 room:=by show 5*0<3*7;lia
 ris:=.nil
 bd:=λj h=>by simp[gR]at h
 road:=λi h j h1=>by simp at h1
def J4.put(ok:J4 f t)(y:(pr t.mask h n).j∉t.place.toList)(w:∀m,m<n->(pr t.mask h m).j∈t.place.toList)(E:5*(IX f+1)<3*t.mask)(A:j=(pr t.mask h n).j)(B:p=ax t.place j):
  J4 (f.take p++h::f.drop p) (t.put j).1/\(t.put j).2=p:=by
 subst A;subst B
 have u:(t.put (pr t.mask h n).j).1={t with place:=aP t.place (ax t.place (pr t.mask h n).j) (pr t.mask h n).j,dummies:= #[]}:=by unfold ka;dsimp only;rw[ok.dum,Ek];rfl
 obtain⟨h1,_,_⟩:=qh ok.ris (pr t.mask h n).j;have T:=ok.len
 have c:∀x,x∈t.place.toList->x∈(aP t.place (ax t.place (pr t.mask h n).j) (pr t.mask h n).j).toList:=λx a=>by
  rw[mM];rw[<-vS (ax t.place (pr t.mask h n).j) t.place.toList]at a;rcases pk.mp a with a|a
  .exact pk.mpr (.inl a)
  exact pk.mpr (.inr<|kO _ a)
 refine⟨?_,rfl⟩;rw[u];generalize v:ax t.place (pr t.mask h n).j=P at*;refine⟨ok.pow,rfl,?_,?_,?_,λx a=>?_,λi h' g g1 g2=>?_⟩
 .show(aP t.place P (pr t.mask h n).j).size=_;rw[<-lS,mM];simp;lia
 .show 5*_<3*t.mask;simp;lia
 .have:=aeP ok.ris y;rw[v]at this;exact this
 .have r:x∈(aP t.place P (pr t.mask h n).j).toList:=a;rw[mM]at r;show x<=t.mask;rcases pk.mp r with a|a
  .exact ok.bd x (vR a)
  rcases oq.mp a with rfl|a
  .exact Oe _ _ _
  exact ok.bd x (Dg a)
 have b:(aP t.place P (pr t.mask h n).j).toList[i]?=Y g:=by rw[nM];exact g2
 rw[mM]at b;show ∃s,(pr t.mask h' s).j=g/\∀m,m<s->(pr t.mask h' m).j∈(aP t.place P (pr t.mask h n).j).toList;have Gv:(t.place.toList.take P).length=P:=by rw[uc,lS];lia
 have k:(f.take P).length=P:=by rw[uc];lia
 by_cases z:i<P
 .rw[qk<|by lia,Hq z]at g1 b;rw[nM]at b;obtain⟨q,l,o⟩:=ok.road i h' g g1 b;exact⟨q,l,λm e=>c _ (o m e)⟩
 rw[pL<|by lia,Gv]at b;rw[pL<|by lia,k]at g1
 cases hd:i-P with
 |zero=>rw[hd]at g1 b;simp at g1 b;subst g1;subst b;exact⟨n,rfl,λm e=>c _ (w m e)⟩
 |succ d=>rw[hd]at g1 b;simp only[yc,c8]at g1 b;rw[nM]at b;obtain⟨q,l,o⟩:=ok.road _ h' g g1 b;exact⟨q,l,λm e=>c _ (o m e)⟩
def HC(ow:wK)(j:Nat):Prop:= ∃i,ow.getD j I=Y i
def El{ow:wK}{j:Nat}{d:Option Nat}(h:j<ow.size):ow.getD j d=ow.getD j I:=by simp[h]
def af3{mask:Nat}{ow:wK}(T:ow.size=mask+1)(h:Int):∀(a k:Nat),(∃r,k<=r/\r<k+a/\¬HC ow (ls mask h r).1)->(∀m,m<tm mask h k->HC ow (pr mask h m).j)->
  ∃n,bJ mask ow a (ls mask h k).1 (ls mask h k).2=Y (pr mask h n).j/\¬HC ow (pr mask h n).j/\∀m,m<n->HC ow (pr mask h m).j:=by
 intro A
 induction A with
 |zero=>
  rintro k ⟨r,h1,v,_⟩ _
  lia
 |succ a z=>
  rintro k ⟨r,h1,v,g⟩ l;unfold bJ;have x:=JZ mask h k;have y:=HN mask _ x
  cases c:(au<|aG mask (ls mask h k).1+1-(ls mask h k).1).find? λt=>(ow.getD ((ls mask h k).1+t)<|Y 0).isNone with
  |some t=>
   rw[List.find?_range_eq_some]at c;obtain⟨a1,q,s⟩:=c;rw[vc]at q;have p:t<=aG mask (ls mask h k).1-(ls mask h k).1:=by lia
   have e:=wg mask h k t p;refine⟨tm mask h k+t,by rw[e];rfl,?_,λm o=>?_⟩
   .rw[e];rintro⟨i,w⟩;rw[El (by show(ls mask h k).1+t<_;lia)]at a1;have u:ow.getD ((ls mask h k).1+t) I=Y i:=w;rw[u]at a1;simp at a1
   by_cases f:m<tm mask h k
   .exact l m f
   have b:=wg mask h k (m-tm mask h k) (by lia);rw[show tm mask h k+(m-tm mask h k)=m by lia]at b;rw[b];have:=s (m-tm mask h k) (by lia);rw[El (by show(ls mask h k).1+(m-tm mask h k)<_;lia)]at this;show HC ow ((ls mask h k).1+(m-tm mask h k));unfold HC
   cases d:ow.getD ((ls mask h k).1+(m-tm mask h k)) I with
   |none=>rw[d]at this;simp at this
   |some i=>exact⟨i,rfl⟩
  |none=>
   rw[List.find?_range_eq_none]at c
   have all:∀t,t<=aG mask (ls mask h k).1-(ls mask h k).1->HC ow ((ls mask h k).1+t):=λt p=>by
    have:=c t (by lia);rw[El<|by lia]at this;unfold HC
    cases d:ow.getD ((ls mask h k).1+t) I with
    |none=>rw[d]at this;simp at this
    |some i=>exact⟨i,rfl⟩
   have B:r≠k:=λe=>g (by subst e;have:=all 0<|mD _;simpa using this)
   have:=z (k+1) ⟨r,by lia,by lia,g⟩ (λm o=>by
    by_cases f:m<tm mask h k
    .exact l m f
    unfold tm at o;have b:=wg mask h k (m-tm mask h k) (by lia);rw[show tm mask h k+(m-tm mask h k)=m by lia]at b;rw[b];exact all _ (by lia))
   exact this
def Gg{a e:Type}{f g:a->Option e}:∀{l:List a},(∀x∈l,f x=g x)->l.filterMap f=l.filterMap g:=by
 intro d
 induction d with
 |nil=>intro _;exact C
 |cons x l c=>intro h;rw[wO,wO,h x ky,c λy b=>h y<|kO _ b]
noncomputable def pU(mask:Nat)(ow:wK):List (Nat×Nat):=(au<|mask+1).filterMap λj=>(ow.getD j I).map (j,·)
def Rj:(j,i)∈pU mask ow↔j<=mask/\ow.getD j I=Y i:=by
 unfold pU;simp only[c7,vc,dr,Prod.mk.injEq];constructor
 .rintro⟨a,h1,b,c,rfl,rfl⟩;exact⟨by lia,c⟩
 rintro⟨h1,c⟩;exact⟨j,by lia,i,c,rfl,rfl⟩
def Pk(mask:Nat)(ow:wK):((pU mask ow).map (·.1)).Pairwise (· < ·):=by unfold pU;rw[List.map_filterMap,List.pairwise_filterMap];refine Rm.imp λ{a b} e x c y d=>?_;simp at c d;obtain⟨_,_,rfl⟩:=c;obtain⟨_,_,rfl⟩:=d;exact e
def Pj{mask:Nat}{ow:wK}(f:ow.size=mask+1){j k:Nat}(d:j<=mask)(c:ow.getD j I=I):(pU mask<|ow.setIfInBounds j<|Y k).Perm ((j,k)::pU mask ow):=by
 have g:∀i,(ow.setIfInBounds j<|Y k).getD i I=if i=j then Y k else ow.getD i I:=λi=>by
  simp only[vK,Dc];by_cases e:i=j
  .subst e;simp[show i<ow.size by lia]
  rw[je λz=>e z.symm,je e]
 have split:au (mask+1)=au j++j::(au<|mask-j).map (λx=>j+1+x):=by rw[show mask+1=j+(mask-j+1) by lia,List.range_add,dL];simp[rL,yj,Nat.add_comm 1]
 unfold pU;rw[split,MF,MF,wO,wO];simp only[g,c,Option.map_none,i7]
 have a1:(au j).filterMap (λi=>(if i=j then Y k else ow.getD i I).map (i,·))=(au j).filterMap (λi=>(ow.getD i I).map (i,·)):=
  Gg λi a=>by rw[vc]at a;rw[je<|by lia]
 have b:((au<|mask-j).map λx=>j+1+x).filterMap (λi=>(if i=j then Y k else ow.getD i I).map (i,·))=((au<|mask-j).map λx=>j+1+x).filterMap (λi=>(ow.getD i I).map (i,·)):=
  Gg λi a=>by obtain⟨x,_,rfl⟩:=rJ.mp a;rw[je<|by lia]
 rw[a1,b];exact Rq
structure Bn(mask:Nat)(hs:iF)(ow:wK):Prop where
 size:ow.size=mask+1
 perm:((pU mask ow).map (·.2)).Perm (au<|IX hs)
 road:∀j i h,ow.getD j Ix=Go i->hs[i]?=Go h->∃n,(pr mask h n).j=j/\∀m,m<n->HC ow (pr mask h m).j
def JU(h:HC ow x):HC (ow.setIfInBounds j<|Y k) x:=by
 obtain⟨i,a⟩:=h;unfold HC;simp only[vK,Dc]at a ⊢;by_cases e:j=x
 .subst e;rw[iQ C];split
  .exact⟨k,rfl⟩
  rename_i b;rw[GK<|by lia]at a;simp at a
 rw[je e];exact⟨i,a⟩
def Bn.step{mask k:Nat}(hk:mask+1=2^k){a:iF}{ow:wK}(ok:Bn mask a ow)(h:Int)(T:(IX a)<=mask):
  ∃j,bJ mask ow (bX mask) (aU h%(mask+1)) (aU h)=Y j/\Bn mask (a++[h]) (ow.setIfInBounds j<|Y<|IX a):=by
 have p:(pU mask ow).length=(IX a):=by have:=ok.perm.length_eq;simpa using this
 obtain⟨e,o,y⟩:=FZ mask ((pU mask ow).map (·.1)) (by rw[jU];lia)
 have s: ¬HC ow e:=by rintro⟨i,f⟩;exact y<|rJ.mpr ⟨(e,i),Rj.mpr ⟨o,f⟩,rfl⟩
 obtain⟨r,B,l⟩:=FV hk h o;obtain⟨n,f1,u,v⟩:=af3 ok.size h (bX mask) 0 ⟨r,mD _,by unfold bX;lia,by rw[l];exact s⟩ (λm c=>by simp[tm]at c);have x:=Oe mask h n
 have t:ow.getD (pr mask h n).j I=I:=by
  cases A:ow.getD (pr mask h n).j I with
  |none=>rfl
  |some i=>exact absurd ⟨i,A⟩ u
 refine⟨_,f1,⟨by rw[Array.size_setIfInBounds];exact ok.size,?_,λj i w g1 g2=>?_⟩⟩
 .refine((Pj ok.size x t).map _).trans ?_;rw[ku,oG,Ag,List.range_succ];exact(gx _ ok.perm).trans (ME _ _).symm
 by_cases b:j=(pr mask h n).j
 .subst b
  have:i=(IX a):=by simp only[vK,Dc]at g1;rw[iQ bD,iQ<|by rw[ok.size];lia]at g1;exact(kZ g1).symm
  subst this;rw[pL<|jT _]at g2;simp at g2;subst g2;exact⟨n,rfl,λm c=>JU<|v m c⟩
 have d:ow.getD j I=Y i:=by simp only[vK,Dc]at g1 ⊢;rw[je λz=>b z.symm]at g1;exact g1
 have f:i<(IX a):=by
  have g:j<=mask:=by
   by_cases q:j<ow.size
   .have:=ok.size;lia
   rw[vK,GK<|by lia]at d;simp at d
  have:=ok.perm.mem_iff.mp<|rJ.mpr ⟨(j,i),Rj.mpr ⟨g,d⟩,rfl⟩;exact vc.mp this
 rw[qk f]at g2;obtain⟨q,Q,E⟩:=ok.road j i w d g2;exact⟨q,Q,λm c=>JU<|E m c⟩
def Bn.start(mask:Nat):Bn mask [] (fe (mask+1) I) where
 size:=by simp
 perm:=by
  have:pU mask (fe (mask+1) I)=[]:=by unfold pU;refine List.filterMap_eq_nil_iff.mpr λj a=>?_;rw[vK,MD];split<;>rfl
  rw[this];exact vN _
 road:=λj i h h1=>by rw[vK,MD]at h1;split at h1<;>cases h1
noncomputable def xu(mask:Nat)(a:Option (Array (Option Nat)×Nat))(h:Int):Option (Array (Option Nat)×Nat):=do
 let(owner,k) <-a
 let j <-bJ mask owner (bX mask) (aU h%(mask+1)) (aU h)
 pure (owner.setIfInBounds j<|Y k,k+1)
def Pn{mask k:Nat}(hk:mask+1=2^k):∀(l a:iF)(ow:wK),Bn mask a ow->IX a+IX l<=mask+1->
  ∃c,l.foldl (xu mask) (Y (ow,IX a))=Y (c,IX a+IX l)/\Bn mask (a++l) c:=by
 intro m
 induction m with
 |nil=>intro a ow ok _;exact⟨ow,rfl,by rw[wN];exact ok⟩
 |cons h l i=>
  intro a ow ok g;rw[mX]at g;obtain⟨j,e,d⟩:=ok.step hk h (by lia);obtain⟨c,f,b⟩:=i (a++[h]) _ d (by rw[oG,Ag];lia);refine⟨c,?_,by rw[qO]at b;exact b⟩;rw[vQ]
  have:xu mask (Y (ow,IX a)) h=Y (ow.setIfInBounds j<|Y<|IX a,IX a+1):=by unfold xu;show(bJ mask ow (bX mask) (aU h%(mask+1)) (aU h)>>=_)=_;rw[e];rfl
  rw[this];rw[oG,Ag]at f;rw[f,mX]
  congr 2;lia
def aer(hk:mask+1=2^k)(a:iF)(c:(IX a)<=mask):∃ow,gf mask a.toArray=Y ow/\Bn mask a ow:=by
 obtain⟨ow,e,ok⟩:=Pn hk a [] _ (Bn.start mask) (by simp;lia);refine⟨ow,?_,by simpa using ok⟩;unfold gf;rw[<-Array.foldl_toList];show q7 _ (vr (xu mask) _ a)=_;have b:vr (xu mask) (Y (fe (mask+1) I,0)) a=Y (ow,IX a):=by simpa using e
 rw[b];rfl
def Tq(hk:mask+1=2^k)(v:3<=k)(o:k<=11)(finger moves:Nat)(led plain:Bool)(d:iF)(E:5*(IX d)<3*mask):
  ∃t c,ia mask finger moves led plain d.toArray=Y (t,c)/\c.toList.Perm (au<|IX d)/\J4 (c.toList.map λi=>d.getD i 0) t/\t.plain=plain/\t.led=led:=by
 obtain⟨ow,e,ok⟩:=aer hk d (by lia);refine⟨{mask,place:=((pU mask ow).map (·.1)).toArray,dummies:= #[],finger,led,moves,plain},((pU mask ow).map (·.2)).toArray,?_,by simpa using ok.perm,?_,rfl,rfl⟩
 .unfold ia;rw[e];rfl
 have g:(pU mask ow).length=(IX d):=by have:=ok.perm.length_eq;simpa using this
 refine⟨⟨k,v,o,hk⟩,rfl,by simp,by simp[g];lia,by simpa using Pk mask ow,λj y=>?_,λi h j g1 g2=>?_⟩
 .have u:j∈(pU mask ow).map (·.1):=by simpa using y
  obtain⟨⟨a,b⟩,q,rfl⟩:=rJ.mp u;exact(Rj.mp q).1
 have T:((pU mask ow).map (·.2)).map (λi=>d.getD i 0)=(((pU mask ow).map (·.2)).toArray).toList.map λi=>d.getD i 0:=by simp
 rw[<-T,kX,kX]at g1;have f:((pU mask ow).map (·.1))[i]?=Y j:=by simpa using g2
 rw[kX]at f
 cases l:(pU mask ow)[i]? with
 |none=>rw[l]at f;cases f
 |some p=>
  obtain⟨a,b⟩:=p;rw[l]at g1 f;simp at g1 f;subst f;have q:=Rj.mp<|mY l
  have w:b<(IX d):=by have:=ok.perm.mem_iff.mp<|rJ.mpr ⟨(a,b),mY l,rfl⟩;exact vc.mp this
  have x:d[b]?=Y h:=by rw[jZ w]at g1 ⊢;simpa using g1
  obtain⟨n,A,B⟩:=ok.road a b h q.2 x;refine⟨n,A,λm r=>?_⟩;obtain⟨z,s⟩:=B m r;show(pr mask h m).j∈(((pU mask ow).map (·.1)).toArray).toList;have:(pr mask h m).j∈(pU mask ow).map (·.1):=rJ.mpr ⟨(_,z),Rj.mpr ⟨Oe mask h m,s⟩,rfl⟩;simpa using this
def aea:∀n,n<2048->∃k,3<=k/\k<=11/\d9 n=2^k/\n<2^k:=by
 intro n h
 have step:∀(f k:Nat),3<=k->k<=11->11<k+f->∃b,3<=b/\b<=11/\SetTable.sizeAbove.go n f (2^k)=2^b/\n<2^b:=by
  intro f
  induction f with
  |zero=>intro k h1 c d;lia
  |succ f g=>
   intro k h1 c d;unfold SetTable.sizeAbove.go;by_cases a:2^k<=n
   .rw[iQ a,<-vn];have:k≠11:=λe=>by subst e;lia
    exact g (k+1) (by lia) (by lia) (by lia)
   rw[je a];exact⟨k,h1,c,rfl,by lia⟩
 exact step 64 3 (by lia) (by lia) (by lia)
open PyProof.Rows PySem.SeqAt
def afv{k:iF}{t:mW}(ok:J4 k t){hashAt:Nat->Int}{h:Int}{p:cG}{n:Nat}(g:p=pr t.mask h n)(f:∀m,m<n->(pr t.mask h m).j∈t.place.toList):
    ∃m,n<=m/\m<10*(t.mask+14)/\(∀q,n<=q->q<m->∃i,t.place[i]?=Y (pr t.mask h q).j/\hashAt i≠h)/\
      (((pr t.mask h m).j∉t.place.toList/\t.probe hashAt h p=Y (.empty (pr t.mask h m).j I))\/
       (∃i,t.place[i]?=Y (pr t.mask h m).j/\hashAt i=h/\t.probe hashAt h p=Y (.candidate (pr t.mask h m).j i<|pr t.mask h<|m+1))):=by
  subst g;obtain⟨M,h1,a⟩:=ok.free h
  have c:n<=M:=by
    by_cases b:M<n
    · exact absurd (f M b) a
    · lia
  obtain⟨m,g1,g2,e⟩:=Oc ok hashAt h (10*bX t.mask) n ⟨M,c,by unfold bX;lia,a⟩
  have l:m<=M:=by
    by_cases b:M<m
    · obtain⟨i,d,_⟩:=g2 M c b
      rw[<-nM]at d;exact absurd (mY d) a
    · lia
  exact⟨m,g1,by lia,g2,e⟩
section
variable {prog:jh}{w:iY}{A:iU}{E:jr}{s:iB}
structure IA(A:iU)(s:iB)(a:iw)(es:sU)(n:Nat)(t:mW)(x:iI)(h:Int)(eqs:Nat->Bool):Prop where
 at_:∃o,s.heap.get? a=Go o/\o.data=.set es n t
 tab:J4 (es.toList.map (·.1)) t
 refs:∀(i:Nat)(e:Int×iI),es[i]?=Go e->∃b,e.2=.ref b
 eq:∀(i:Nat)(e:Int×iI),es[i]?=Go e->EqAt A s e.2 x (eqs i)
 hash:∀(i:Nat)(e:Int×iI),es[i]?=Go e->eqs i=IN->e.1=h
 quiet:∀(l:jS)(prog:jh)(w:iY)(E:jr)(Q:sY),(∀v∈l,∃e∈es.toList,e.2=v)->Q IP s->af (am prog w) A (p5 x l) Q E s
def OT(ok:J4 c t):t.gaveWay=U:=by
 obtain⟨k,h1,_,b⟩:=ok.pow;obtain⟨a,rfl⟩:∃a,k=a+1:=⟨k-1,by lia⟩
 rw[vn]at b;unfold Fk;rw[Bw];lia
def Ke(ok:J4 a t)(h:(IX a)=n):t.fits n=J:=by have:=ok.len;have:=ok.room;unfold ib ij;rw[ok.dum];simp only[lR,beq_iff_eq,oW];exact⟨by lia,by show _+0<=_;lia⟩
def IA.fits{a b n t x h eqs}(S:IA A s a b n t x h eqs):t.fits b.size=J:=Ke S.tab (by simp)
def yY{a:iw}{k:sU}{nn:Nat}{t:mW}{x:iI}{h:Int}{c:Nat->Bool}{adding:Bool}(S:IA A s a k nn t x h c){Q:SetFound->iB->Prop}
  (H:∀i r,c i=IN->i<k.size->(r=Ix\/r=Go i)->(adding=IP->r=Go i)->Q (.there r) s)
  (j9:(∀i,i<k.size->c i=IP)->∀n,(pr t.mask h n).j∉t.place.toList->(∀m,m<n->(pr t.mask h m).j∈t.place.toList)->Q (.free (pr t.mask h n).j IP) s):
  ∀(l n:Nat)(u:Option cG),u.getD (t.probeStart h)=pr t.mask h n->(∀q,q<n->∃i,t.place[i]?=Go (pr t.mask h q).j/\c i=IP)->10*(t.mask+14)<n+l->n<=10*(t.mask+14)->
   af (am prog w) A (w4 a x h adding l u) Q E s:=by
 intro iV
 induction iV with
 |zero=>
  intro n u _ _ W Z
  lia
 |succ l iH=>
  intro n u l6 U W Z;obtain⟨o,G,hd⟩:=S.at_
  have HC:∀m,m<n->(pr t.mask h m).j∈t.place.toList:=λm X=>by obtain⟨i,g,_⟩:=U m X;rw[<-nM]at g;exact mY g
  unfold w4;refine iz<|tj G hd S.fits ?_;dsimp only;rw[OT S.tab];simp only[kW,↓reduceIte];generalize V:t.probe _ h _=P;obtain⟨m,m1,m2,m3,F⟩:=afv S.tab l6 HC (hashAt:=λi=>(k[i]?.map (·.1)).getD 0);have T:t.probe (λi=>(k[i]?.map (·.1)).getD 0) h (u.getD<|t.probeStart h)=P:=V;rw[T]at F
  have N:∀(i:Nat)(j:Nat),t.place[i]?=Go j->∃e,k[i]?=Go e/\(k[i]?.map (·.1)).getD 0=e.1:=λi j g=>by have h1:=(Me.mp g).1;have L:=S.tab.len;rw[jU,lS]at L;exact⟨k[i],qL<|by lia,by rw[qL<|by lia];rfl⟩
  have ne:∀(i:Nat)(j:Nat),t.place[i]?=Go j->(k[i]?.map (·.1)).getD 0≠h->c i=IP:=λi j g O=>by
   obtain⟨e,f,Y⟩:=N i j g
   cases d:c i
   .rfl
   exact absurd (Y.trans<|S.hash i e f d) O
  have seen:∀q,q<m->∃i,t.place[i]?=Go (pr t.mask h q).j/\c i=IP:=λq d=>by
   by_cases p:q<n
   .exact U q p
   obtain⟨i,g,O⟩:=m3 q (by lia) d;exact⟨i,g,ne i _ g O⟩
  rcases F with⟨a1,a2⟩|⟨i,a1,a2,a3⟩
  .subst a2;dsimp only;refine iJ<|j9 (λi g=>?_) m a1 λq d=>?_
   .cases d:c i
    .rfl
    exfalso;have f:k[i]?=Go k[i]:=qL g;have h1:=S.hash i _ f d;have L:=S.tab.len;rw[jU,lS]at L;have C:t.place[i]?=Go t.place[i]:=qL (by lia);obtain⟨M,K,r2⟩:=S.tab.road i h t.place[i] (by rw[kX,nM,f];exact mG Go h1) C
    have:M<m:=by
     by_cases p:M<m
     .exact p
     exfalso;rcases jp (M3.mp p)with p|heq
     .exact a1 (r2 m p)
     subst heq;rw[<-nM]at C;rw[K]at a1;exact a1<|mY C
    obtain⟨i',g1,g2⟩:=seen M this;rw[K]at g1;have:i'=i:=by rw[<-Bq S.tab.ris g1,Bq S.tab.ris C]
    rw[this,d]at g2;cases g2
   obtain⟨i,g,_⟩:=seen q d;rw[<-nM]at g;exact mY g
  subst a3;dsimp only;obtain⟨e,f,Y⟩:=N i _ a1;obtain⟨h',y⟩:=e;obtain⟨b,D⟩:=S.refs i _ f;dsimp only at D;subst D;have I:t.sameMemory t.moves t.mask=Go IN:=by simp[Ev]
  have B:i<k.size:=(Me.mp f).1;cases hl:t.led
  .simp only[nw];refine iz<|S.quiet _ _ _ _ _ (λv hv=>?_) ?_
   .obtain⟨e,R,rfl⟩:=rJ.mp hv;exact⟨e,(X6.mp (by simpa using(Array.mem_filter.mp<|X6.mp R).1) |> λz=>by simpa using z),rfl⟩
   simp only[kW];rw[f];dsimp only;refine iz<|mF<|S.eq i _ f _ _ _ _ ?_;refine iz<|tj G hd S.fits ?_;dsimp only
   cases d:c i with
   |true=>
    cases adding with
    |true=>simp;exact iJ<|H i Ix d B (.inl IR) (λz=>by cases z)
    |false=>simp only[yv,kW,↓reduceIte,I,rg S.tab.ris a1,f];refine iz<|C9 ?_;simp;exact iz<|iJ<|iJ<|H i _ d B (.inr IR) λ_=>rfl
   |false=>
    simp only[fO,kW,↓reduceIte,I,rg S.tab.ris a1,f];refine iz<|C9 ?_;simp;refine iz<|iJ ?_
    exact iH (m+1) _ rfl (λq J=>by
     by_cases e:q=m
     .subst e;exact⟨i,a1,d⟩
     exact seen q (by lia)) (by lia) (by lia)
  simp only[sZ,kW];rw[f];dsimp only;refine iz<|mF<|S.eq i _ f _ _ _ _ ?_;refine iz<|tj G hd S.fits ?_;dsimp only
  cases d:c i with
  |true=>
   cases adding with
   |true=>simp;exact iJ<|H i Ix d B (.inl IR) (λz=>by cases z)
   |false=>simp only[yv,kW,↓reduceIte,I,rg S.tab.ris a1,f];refine iz<|C9 ?_;simp;exact iz<|iJ<|iJ<|H i _ d B (.inr IR) λ_=>rfl
  |false=>
   simp only[fO,kW,↓reduceIte,I,rg S.tab.ris a1,f];refine iz<|C9 ?_;simp;refine iz<|iJ ?_
   exact iH (m+1) _ rfl (λq J=>by
    by_cases e:q=m
    .subst e;exact⟨i,a1,d⟩
    exact seen q (by lia)) (by lia) (by lia)
end
noncomputable abbrev kn(a:sU)(n:Nat)(t:mW):Obj:={cls:=.type "set",data:=.set a n t}
section
variable {c:jh}{w:iY}{A:iU}{E:jr}{s:iB}
def Fj{h:jb}{a:iw}{b es':sU}{n:Nat}{t t':mW}(d:h.get? a=Y (kn b n t)):(h.update a<|iq es' t').get? a=Y (kn es' (n+1) t'):=by have:=tY (iq es' t') d (by rw[putSet_of es' t' C];rfl);rw[putSet_of es' t' C]at this;exact this
def NY{b:Type}(a:Array b):(au a.size).filterMap (λi=>a[i]?)=a.toList:=by
 have:∀(l:List b),(au<|IX l).filterMap (λi=>l[i]?)=l:=by
  intro l
  induction l with
  |nil=>rfl
  |cons x l d=>rw[mX,dL,wO];simp only[zT,g7,rL,yc,d]
 have h:=this a.toList;simpa using h
def TJ{a:sU}:∀(l:jP),(∀i∈l,i<a.size)->(l.filterMap λi=>a[i]?).map (·.1)=l.map λi=>(a.toList.map (·.1)).getD i 0:=by
 intro f
 induction f with
 |nil=>intro _;exact C
 |cons i l e=>
  intro h;have b:=h i ky;rw[wO,qL b];simp;rw[e λj d=>h j<|kO _ d]
  congr 1
  simp[b]
def NU{a:iw}{d:sU}{n:Nat}{t:mW}(j:s.heap.get? a=Y (kn d n t))(x:t.fits d.size=J)(T:5<=d.size)(O:d.size<=500){Q:Unit->iB->Prop}
  (h:∀g es' N t',aL a s.heap g->g.get? a=Y (kn es' N t')->es'.toList.Perm d.toList->J4 (es'.toList.map (·.1)) t'->t'.plain=t.plain->t'.led=t.led->Q () {s with heap:=g}):
  af (am c w) A (setRelay a<|eS d.size) Q E s:=by
 have y:eS d.size=d.size*4:=by unfold eS;rw[je<|by lia]
 obtain⟨k,M,l,v,lk⟩:=aea (d.size*4) (by lia);have B:d9 (d.size*4)-1+1=2^k:=by have:=m7 k;lia
 obtain⟨t',b,p,f,q,r,u⟩:=Tq B M l t.finger (t.movedTo<|d9 (d.size*4)-1) t.led t.plain (d.toList.map (·.1)) (by rw[jU,lS];lia);rw[jU,lS]at f
 have er:t.relaid (d.map (·.1)) (d.size*4)=Y (t',b):=by unfold EQ;rw[<-p,<-Array.toList_map]
 have o:∀i∈b.toList,i<d.size:=λi z=>vc.mp<|f.mem_iff.mp z;have m:(b.filterMap (d[·]?)).toList=b.toList.filterMap (λi=>d[i]?):=by simp
 have e:(b.filterMap (d[·]?)).toList.Perm d.toList:=by rw[m];refine(f.filterMap _).trans ?_;rw[NY]
 have sz:(b.filterMap (d[·]?)).size=d.size:=by rw[<-lS,e.length_eq,lS]
 rw[y];unfold setRelay;refine iz<|tj j C x ?_;dsimp only
 have L:2^k<=sizeLine:=by have:2^k<=2^11:=yd (by decide) l;rw[kD];lia
 rw[je<|by rw[v];lia,er];refine iz ?_;change af _ _ (if((b.filterMap (d[·]?)).size !=d.size)=J then _ else _) _ _ _;rw[je<|by rw[sz];simp];refine iJ ?_;dsimp only;refine pc j C ?_ (by rw[sz,kD];lia);refine h _ (b.filterMap (d[·]?)) (n+1) t' (sG s.heap a _) (Fj j) e ?_ r u;rw[m,TJ _ o];exact q
def uo{b:Type}(a:Array b)(p:Nat)(x:b):(aP a p x).toList.Perm (x::a.toList):=by rw[mM];refine Rq.trans ?_;rw[vS]
def We{a:sU}{t:mW}{h:Int}{m:Nat}(x:iI)(f:J4 (a.toList.map (·.1)) t)(v:t.plain=J)(h1:(pr t.mask h m).j∉t.place.toList)(y:∀i,i<m->(pr t.mask h i).j∈t.place.toList):
  ∃p o,aP a (t.put (pr t.mask h m).j).2 (h,x)=p/\(t.put (pr t.mask h m).j).1=o/\p.size=a.size+1/\o.plain=J/\o.led=t.led/\p.toList.Perm ((h,x)::a.toList)/\o.fits p.size=J/\(o.tooFull=J->5<=p.size)/\(o.tooFull=U->J4 (p.toList.map (·.1)) o):=by
 have q:(t.put (pr t.mask h m).j).1={t with place:=aP t.place (ax t.place (pr t.mask h m).j) (pr t.mask h m).j,dummies:= #[]}:=by unfold ka;dsimp only;rw[f.dum,Ek];rfl
 have r:(aP a (t.put (pr t.mask h m).j).2 (h,x)).size=a.size+1:=by rw[<-lS,(uo a _ _).length_eq,mX,lS]
 have d:a.toList.length=a.size:=lS;have l:=f.len;rw[jU,d]at l
 have g:(t.put (pr t.mask h m).j).1.place.size=a.size+1:=by rw[q];show(aP t.place _ _).size=_;rw[<-lS,(uo t.place _ _).length_eq,mX,lS,l]
 have b:(t.put (pr t.mask h m).j).1.fill=a.size+1:=by unfold ij;rw[g,q];rfl
 have e:(t.put (pr t.mask h m).j).1.mask=t.mask:=by rw[q]
 have n:=f.room;rw[jU,d]at n
 have T:7<=t.mask:=by
  obtain⟨k,B,_,Q⟩:=f.pow;have:2^3<=2^k:=yd (by decide) B
  lia
 have u:(t.put (pr t.mask h m).j).1.tooFull=decide ((a.size+1)*5>=t.mask*3):=by unfold ad1;rw[b,e]
 refine⟨_,_,rfl,rfl,r,by rw[q];exact v,by rw[q],uo a _ _,?_,λz=>?_,λz=>?_⟩
 .unfold ib;rw[g,r,b,e];simp;lia
 .rw[u]at z;have:=tL z;rw[r];lia
 rw[u]at z;have:=of_decide_eq_false z;obtain⟨O,L⟩:=f.put h1 y (by rw[jU,d];lia) C C;rw[mM,pJ,ku,o8,List.map_drop];exact O
def abe{a b:iw}{f:sU}{n:Nat}{t:mW}{h:Int}{e:Nat->Bool}(S:IA A s a f n t (.ref b) h e)(p:s.heap.get? a=Go (kn f n t))(M:t.plain=IN)(hz:f.size+1<=500)
  (y:∀(H:sY),H IN s->af (am c w) A (fU 8<|.ref b) H E s){Q:sY}
  (hold:(∃i,i<f.size/\e i=IN)->Q IP s)
  (G:(∀i,i<f.size->e i=IP)->∀h' es' B t',aL a s.heap h'->h'.get? a=Go (kn es' B t')->es'.toList.Perm ((h,.ref b)::f.toList)->J4 (es'.toList.map (·.1)) t'->t'.plain=IN->t'.led=t.led->Q IN {s with heap:=h'}):
  af (am c w) A (x9 a (.ref b) h) Q E s:=by
 unfold x9 setAddHashedIn;refine mF<|iz<|tj p IR S.fits ?_;dsimp only;have F:byScan (.ref b) f=IP:=rfl;rw[F];simp only[kW]
 have V:t.mask+1<=2048:=by
  obtain⟨k,_,J,R⟩:=S.tab.pow;have:2^k<=2^11:=yd (by decide) J
  lia
 refine iz<|yY S (adding:=IN) (λi r h1 x _ _=>?_) (λI m h1 x=>?_) 100000 0 Ix IR (λq W=>by lia) (by lia) (by lia)
 .dsimp only;exact iJ<|hold ⟨i,x,h1⟩
 dsimp only;refine iz<|tj p IR S.fits ?_;dsimp only;obtain⟨L,C,K,P,v,u,d,T,g,z,j⟩:=We (.ref b) S.tab M h1 x;rw[K,P,iQ u];refine iz<|y _ ?_;simp;refine iz<|pc p IR ?_ (by rw[v,kD];lia);have O:=Fj (es':=L) (t':=C) p;have o:=sG s.heap a (iq L C)
 cases l:C.tooFull with
 |true=>simp;rw[<-v];refine iz<|NU O g (z l) (by rw[v];lia) λh' es' B t' g1 g2 N U Y D=>?_;exact iJ<|G I h' es' B t' (o.trans g1) g2 (N.trans T) U (by rw[Y];exact u) (by rw[D];exact d)
 |false=>simp;exact iJ<|G I _ _ _ _ o O T (j l) u d
def aaB(S:IA A s a d n t (.ref b) h eqs)(o:s.heap.get? a=Y (kn d n t))
  (h1:∀i,i<d.size->eqs i=J->Q (Y i) s)(l:(∀i,i<d.size->eqs i=U)->Q I s):af (am c w) A (setFind a (.ref b) h) Q E s:=by
 unfold setFind setFindIn;refine iz<|tj o C S.fits ?_;dsimp only;have j:byScan (.ref b) d=U:=rfl;rw[j];simp
 have u:t.mask+1<=2048:=by
  obtain⟨k,_,f,p⟩:=S.tab.pow;have:2^k<=2^11:=yd (by decide) f
  lia
 refine iz<|yY S (adding:=U) (λi r g1 g2 _ g=>?_) (λe m _ _=>?_) 100000 0 I C (λq v=>by lia) (by lia) (by lia)
 .rw[g C];exact iJ<|h1 i g2 g1
 exact iJ (l e)
end
end TT
namespace PX
open L2 PySem.SeqAt TS
def D.HZ:∀l:List D,D.BZ l=l.map D.hash:=by
 intro b
 induction b with
 |nil=>rw[D.BZ];rfl
 |cons d l a=>rw[D.BZ,a];rfl
def Od:∀{l:List D}{d:D},D.Fo l=J->d∈l->D.pr d=J:=by
 intro c
 induction c with
 |nil=>intro d _ h;simp at h
 |cons e l b=>
  intro d a h;rw[D.Fo,lR]at a;rcases oq.mp h with rfl|h
  .exact a.1
  exact b a.2 h
def Bi:∀{l:List D}{d:D},d∈l->d.dep<=D.NL l:=λ{l d} h=>by obtain⟨j,a⟩:=sJ h;exact D.BM a
section
variable {X:Cx}{f:jw}{g:L2.St}{H:Hp}{s:iB}
def Gj(X:Cx)(H:Hp)(O:SS)(c:List D)(a:jS):Prop:= ∃b,YP X.K H O c b/\Vals b a
def Gj.cons(h:Gj X H O (d::ds) (v::c)):(∃x,Rep X.K H O d x/\RelV x v)/\Gj X H O ds c:=by
 obtain⟨k,r,vs⟩:=h;rw[YP]at r;obtain⟨x,j,rfl,e,i⟩:=r
 cases vs with
 |cons a b=>exact⟨⟨x,e,a⟩,j,i,b⟩
def Gj.nil_of{O:SS}{a:List D}(h:Gj X H O a []):a=[]:=by
 obtain⟨c,r,b⟩:=h;cases b
 cases a with
 |nil=>rfl
 |cons d a=>rw[YP]at r;obtain⟨_,_,e,_⟩:=r;cases e
def Gj.cons_of(h:Gj X H O a (v::c)):∃d b,a=d::b:=by
 cases a with
 |nil=>obtain⟨i,r,e⟩:=h;rw[YP]at r;subst r;cases e
 |cons d a=>exact⟨d,a,rfl⟩
def PU:∀(n:Nat){s:iB}(I:Inv X f g H s)(d:D)(v:V)(u:iI)(O:SS)(A:iU)(E:jr)(Q:Int->iB->Prop),Rep X.K H O d v->RelV v u->D.pr d=J->d.dep<=n->A.units+n<aT->(∀j,s.toks<=j->Q d.hash {s with toks:=j})->
  af (am X.prog X.w) A (pyHash u) Q E s:=by
 intro n
 induction n with
 |zero=>
  intro s I d v u O A E Q c T p hd R B
  cases d with
  |int i=>have:=c.int;subst this;obtain⟨t,rfl⟩:=T;have:=B (s.toks+1)<|tX _;rw[D.hash]at this;exact Hy this
  |tup l=>rw[D.dep]at hd;lia
  |_=>simp[D.pr]at p
 |succ n ih=>
  intro s I d v u O A E Q c T p hd R B
  cases d with
  |int i=>have:=c.int;subst this;obtain⟨t,rfl⟩:=T;have:=B (s.toks+1)<|tX _;rw[D.hash]at this;exact Hy this
  |tup l=>
   rw[D.pr]at p;rw[D.dep]at hd;obtain⟨a,xs,rfl,q,r⟩:=c.tup;cases T;obtain⟨Z,vs,⟨o,Y,S,nn,w5⟩,_⟩:=I.tuple q.sq;have C:s.TypeIs (.ref a) "tuple":=⟨o,Y,S⟩
   have W:A.units<cLine:=by lia
   unfold pyHash;unfold pyHashByItsType;refine iz<|wpAny_cRoomFor_or (.inr W) ?_;refine iz<|vJ C Jn.lookup ?_;show af _ _ (if(Go (m5 "tuple.__hash__")==Go ay)=J then _ else _) Q E s;rw[je<|by rw[r8];exact kY];refine iz<|vJ C Jn.lookup ?_;show af _ _ (callSpecialIfBoundUnlessNone? (.ref a) "__hash__" _>>=_) Q E s;refine iz<|wpAny_callSpecialIfBoundUnlessNone?_slot C Jn<|oF Jn C PySem.F.entry_tuple_hash ?_<|PySem.F.args_tuple_hash_1 _;show af _ _ (bO (.ref a)>>=_) _ _ s;refine iz<|wpAny_tupleItemsOf Y w5 ?_;refine iz ?_;rw[<-C8]
   refine yi _
    (λm (b:Array Int) J'=>∃done left,l=done++left/\Gj X H (λa=>O a) left m/\b.toList=done.map D.hash/\∃j,s.toks<=j/\J'={s with toks:=j})
    _ ?_ ?_ _ _ ⟨[],l,rfl,⟨xs,r,by simpa using vs⟩,rfl,s.toks,jT _,rfl⟩
   .rintro x m b J' ⟨done,left,rfl,L,G,j,z,rfl⟩;obtain⟨d,left,rfl⟩:=L.cons_of;obtain⟨⟨y,h1,P⟩,N⟩:=L.cons;have U:d∈done++d::left:=by simp
    have fk:=Bi U;refine iz<|ih (I.kept (h':=s.heap) (t':=j) λ_ _ e=>e) d y x O A.in1 E _ h1 P (Od p U) (by lia) (by show A.units+1+n<aT;lia) λM k=>?_
    first
     |exact iJ ⟨done++[d],left,by simp,N,by simp[G],M,mq z k,rfl⟩
     |exact iz<|iJ<|iJ ⟨done++[d],left,by simp,N,by simp,M,mq z k,rfl⟩
   rintro b J' ⟨done,left,rfl,L,G,j,z,rfl⟩;have:=L.nil_of;subst this;have h:=B (j+1)<|kb z;rw[D.hash,D.HZ,wN]at h;show af _ _ (retInt<|bp b.toList) _ _ _;rw[G];refine wpAny_ret_mkInt ?_;show af _ _ (if(decide (-(2:Int)^63<=bp (done.map D.hash))&&decide (bp (done.map D.hash)<2^63))=J then _ else _) Q E _;unfold reduceHash at h;by_cases c:(decide (-(2:Int)^63<=bp (done.map D.hash))&&decide (bp (done.map D.hash)<2^63))=J
   .rw[iQ c];rw[iQ c]at h;exact iJ h
   rw[je c];rw[je c]at h;exact iz<|vz<|iJ h
  |_=>simp[D.pr]at p
def PN{P:jh}{W:iY}{F:Nat->iI->dq Bool}{c:Bool}(I:Inv X f g H s)(p:∀n i t,F n (.int i t)=pure c)
  (N:∀(n:Nat)(a:iw)(o:el)(b:jS)(m:Nat)(A:iU)(E:jr)(Q:sY),s.heap.get? a=Y o->s.TypeIs (.ref a) "tuple"->o.data=.seq b.toArray m->
   (∀u∈b,∀Q:Bool->iB->Prop,Q c s->af (am P W) A (F n u) Q E s)->Q c s->af (am P W) A (F (n+1)<|.ref a) Q E s):∀(n:Nat)(d:D)(v:V)(u:iI)(O:SS)(A:iU)(E:jr)(Q:sY),Rep X.K H O d v->RelV v u->D.pr d=IN->d.dep<=n->Q c s->af (am P W) A (F n u) Q E s:=by
 intro n
 induction n with
 |zero=>
  intro d v u O A E Q j k e hd h
  cases d with
  |int i=>have:=j.int;subst this;obtain⟨t,rfl⟩:=k;exact vw (p _ _ _) h
  |tup l=>rw[D.dep]at hd;omega
  |_=>simp[D.pr]at e
 |succ n Y'=>
  intro d v u O A E Q j k e hd h
  cases d with
  |int i=>have:=j.int;subst this;obtain⟨t,rfl⟩:=k;exact vw (p _ _ _) h
  |tup l=>rw[D.pr]at e;rw[D.dep]at hd;obtain⟨a,T,rfl,q,r⟩:=j.tup;cases k;obtain⟨b,C,⟨o,z,G,m,S⟩,_⟩:=I.tuple q.sq;refine N n a o b m A E Q z ⟨o,z,G⟩ S (λu U Q M=>?_) h;obtain⟨i,x⟩:=sJ U;have l1:=C.length;have l2:=r.length;have Z:=(wJ.mp x).1;have B:T[i]?=Y T[i]:=jZ (by omega);have J:l[i]?=Y l[i]:=jZ (by omega);obtain⟨w,L,R⟩:=C.get B;rw[x]at L;cases L;have y:l[i]∈l:=yb _;have fk:=Bi y;exact Y' _ _ _ O A E Q (r.views J B) R (Od e y) (by omega) M
  |_=>simp[D.pr]at e
def aau(T:Inv X f g H s):=PN (P:=X.prog) (W:=X.w) (F:=fU) (c:=J) T (λn i t=>by simp[fU]) λn a o d v A E Q p m r q l=>by
 unfold fU;refine iz<|vJ m Jn.lookup ?_;dsimp only;refine iz<|tP p r ?_;refine iz ?_;show af _ _ (fI d.toArray _ _) _ _ s;rw[<-C8];refine yi _ (λb k j=>k.1=I/\j=s/\∀u∈b,u∈d) _ ?_ ?_ _ _ ⟨rfl,rfl,by simp⟩
 .rintro x b k j ⟨e,rfl,hm⟩;refine iz<|q x (hm x ky) _ ?_;simp -iota only[sZ,kW,mn];exact iJ ⟨rfl,rfl,λu h=>hm u<|kO _ h⟩
 rintro⟨y,z⟩ j ⟨e,rfl,_⟩;simp only at e;subst e;exact iJ l
def RU{P:jh}{W:iY}(T:Inv X f g H s):=PN (P:=P) (W:=W) (F:=r0) (c:=J) T (λn i t=>eqIsQuiet_byValue n C) λn a o d v A E Q p k r q m=>by
 unfold r0;refine iz<|vJ k PySem.F.slot_tuple_eq.lookup ?_;show af _ _ (isInstance (.ref a) (.type "tuple")>>=_) _ _ s;refine iz<|yk k isSubtype_tuple_tuple ?_;simp -iota only[sZ,kW,mn];refine iz<|tP p r ?_;refine iz ?_;show af _ _ (fI d.toArray _ _) _ _ s;rw[<-C8];refine yi _ (λb l j=>l.1=I/\j=s/\∀u∈b,u∈d) _ ?_ ?_ _ _ ⟨rfl,rfl,by simp⟩
 .rintro x b l j ⟨e,rfl,hm⟩;refine iz<|q x (hm x ky) _ ?_;simp -iota only[sZ,kW,mn];exact iJ ⟨rfl,rfl,λu h=>hm u<|kO _ h⟩
 rintro⟨w,y⟩ j ⟨e,rfl,_⟩;simp only at e;subst e;exact iJ m
def agr{P:jh}{W:iY}(T:Inv X f g H s):=PN (P:=P) (W:=W) (F:=dw) (c:=U) T (λn i t=>by simp[dw]) λn a o d v A E Q p m r q l=>by
 unfold dw;refine iz<|tZ m ?_;dsimp only;rw[iQ<|by decide];refine iz<|iJ ?_;simp -iota only[sZ,kW,mn];refine iz<|tP p r ?_;dsimp only;refine iz ?_;show af _ _ (fI d.toArray _ _) _ _ s;rw[<-C8];refine yi _ (λb k j=>k.1=I/\j=s/\∀u∈b,u∈d) _ ?_ ?_ _ _ ⟨rfl,rfl,by simp⟩
 .rintro x b k j ⟨e,rfl,hm⟩;refine iz<|q x (hm x ky) _ ?_;simp -iota only[kW,mn];exact iJ ⟨rfl,rfl,λu h=>hm u<|kO _ h⟩
 rintro⟨w,y⟩ j ⟨e,rfl,_⟩;simp only at e;subst e;exact iJ l
end
end PX
namespace TT
open PySem.SeqAt
def adS:lA v9 "set.__iter__"=Y bb.«frozenset.__iter__»:=wr (id':="frozenset.__iter__") (by kernel_rfl) C (by decide+kernel) (by kernel_rfl)
def wa:Slot "set_iterator" "__next__" "set_iterator.__next__":=.of (owner:="set_iterator") (n:="__next__") (by rw[t8,MC];kernel_rfl) (by decide+kernel) (by decide+kernel) (by decide+kernel) (by first|exact .inl (by decide+kernel)|exact .inr<|by decide+kernel) (by rw[GJ];kernel_rfl)
def xa:Slot "set_iterator" "__iter__" "set_iterator.__iter__":=.of (owner:="set_iterator") (n:="__iter__") (by rw[t8,MC];kernel_rfl) (by decide+kernel) (by decide+kernel) (by decide+kernel) (by first|exact .inl (by decide+kernel)|exact .inr<|by decide+kernel) (by rw[GJ];kernel_rfl)
def adQ:lA v9 "set_iterator.__next__"=Y bb.«set_iterator.__next__»:=entryFor_of_fast (by kernel_rfl)
def adR:lA v9 "set_iterator.__iter__"=Y bb.«dict_keyiterator.__iter__»:=wr (id':="dict_keyiterator.__iter__") (by kernel_rfl) C (by decide+kernel) (by kernel_rfl)
def aef(a:iI):f8 "set_iterator.__next__" ⟨[a],[]⟩:=by unfold f8;kernel_rfl
def aeg(a:iI):f8 "set_iterator.__iter__" ⟨[a],[]⟩:=by unfold f8;kernel_rfl
theorem sO{a:Type}:∀(l:List a){i:Nat}(h:i<IX l),(l[i]::l.eraseIdx i).Perm l
 |x::l,0,_=>by simp
 |x::l,i+1,h=>by have:=sO l (i:=i) (by simpa using h);simp;exact(gn x _ _).trans (gx x this)
def aeb{c:Type}(next:Nat->Nat):∀(a k:Nat)(left:List c)(out:Array c),IX left<=a->(pickOrder.go next a k left out).toList.Perm (out.toList++left):=by
 intro e
 induction e with
 |zero=>intro k left out h;have:left=[]:=M0.mp (by lia);subst this;unfold pickOrder.go;simp
 |succ a d=>
  intro k left out h;unfold pickOrder.go
  cases left with
  |nil=>simp
  |cons y l=>have b:next k%(y::l).length<(y::l).length:=ye _ (by simp);rw[jZ b];dsimp only;refine(d (k+1) _ _ (by rw[C7,iQ b];simp at h ⊢;lia)).trans ?_;rw[eF,qO];refine adT _ ?_;exact sO _ b
def adg{b:Type}(next:Nat->Nat)(a:Array b):(fS next a).toList.Perm a.toList:=by unfold fS;have:=aeb next a.size 0 a.toList #[] (by simp);simpa using this
noncomputable def rH(w:iY)(a:iw)(n:Nat)(b:sU):Array (Int×iI):=if w.params.followText "set-order"=J then fS (w.params.setOrder a n) b else b
def Gw(w:iY)(a:iw)(n:Nat)(b:sU):(rH w a n b).toList.Perm b.toList:=by
 unfold rH;split
 .exact adg _ _
 exact vN _
def vY(w:iY)(a:iw)(n:Nat)(b:sU):(rH w a n b).size=b.size:=by rw[<-lS,(Gw w a n b).length_eq,lS]
noncomputable def JF(t:mW):Nat->Nat
 |0=>0
 |i+1=>t.place.getD i 0+1
def nS(w:iY)(t:mW)(i:Nat):Nat:=if w.params.followText "set-order"=J then 0 else JF t i
structure AG(w:iY)(h:jb)(a:iw)(es:sU)(n:Nat)(t:mW):Prop where
 at_:h.get? a=Go (kn es n t)
 tab:J4 (es.toList.map (·.1)) t
 plain:t.plain=IN
 led:t.led=!w.params.followText "set-order"
def BD(w:iY)(h:jb)(it a:iw)(t:mW)(size n i:Nat):Prop:= ∃o,h.get? it=Y o/\o.cls=.type "set_iterator"/\o.data=.fields #[.int (nS w t i) 0,.int i 0,.ref a,.int size 0,.int n 0]
section
variable {c:jh}{w:iY}{A:iU}{E:jr}{s:iB}
def AG.fits{h a b n t}(S:AG w h a b n t):t.fits b.size=J:=Ke S.tab (by simp)
def afp(d:t.place.toList.Pairwise (· < ·))(l:i<=t.place.size):ax t.place (JF t i)=i:=by
 cases i with
 |zero=>
  obtain⟨h1,a,_⟩:=qh d 0
  cases h:ax t.place 0 with
  |zero=>exact h
  |succ k=>
   have j:0<t.place.size:=by lia
   have:=a 0 _ (by lia) (qL j)
   lia
 |succ i=>
  have hd:t.place.getD i 0=t.place[i]:=by simp[show i<t.place.size by lia]
  show ax t.place (t.place.getD i 0+1)=i+1;rw[hd];have f:t.place[i]?=Y t.place[i]:=qL (by lia);obtain⟨h1,a,g⟩:=qh d<|t.place[i]+1;by_cases m:ax t.place (t.place[i]+1)<i+1
  .have:=g i _ (by lia) f;lia
  by_cases b:i+1<ax t.place (t.place[i]+1)
  .have e:t.place[i+1]?=Y t.place[i+1]:=qL (by lia);have:=a (i+1) _ b e;have:=DT d (Aa i) f e
   lia
  lia
def aeO{a:iw}{b:sU}{n:Nat}{t:mW}(S:AG w s.heap a b n t){i:Nat}(r:i<=b.size){Q:Option (iI×Nat)->iB->Prop}
  (h1:∀e,(rH w a n b)[i]?=Y e->Q (Y (e.2,nS w t<|i+1)) s)(j:i=b.size->Q I s):af (am c w) A (setNext a (nS w t i) i n) Q E s:=by
 have q:=S.tab.len;rw[jU,lS]at q;unfold setNext;refine iz<|tj S.at_ C S.fits ?_;dsimp only;unfold fZ;refine iz<|iz<|tU<|iJ ?_;by_cases d:w.params.followText "set-order"=J
 .have g:(am c w).w.params.followText "set-order"=J:=d;rw[iQ g,je<|by simp];unfold setWalk fZ;refine iz<|iz<|tj S.at_ C S.fits ?_;dsimp only;refine iz<|iz<|tU<|iJ ?_;rw[iQ g];refine iz<|tU<|iJ<|iJ ?_;have h:rH w a n b=fS (w.params.setOrder a n) b:=by unfold rH;rw[iQ d]
  have f:∀k,nS w t k=0:=λk=>by unfold nS;rw[iQ d]
  show Q (((fS (w.params.setOrder a n) b)[i]?).map λe=>(e.2,nS w t i)) s;rw[<-h];rw[f]at h1;rw[f]
  cases l:(rH w a n b)[i]? with
  |some e=>exact h1 e l
  |none=>have:=X5.mp l;rw[vY]at this;exact j (by lia)
 have g: ¬(am c w).w.params.followText "set-order"=J:=d;rw[je g];change af _ _ (if(!t.plain&&decide (b.size>1))=J then _ else _) _ _ _;rw[je<|by rw[S.plain];simp];have o:t.led=J:=by rw[S.led];simpa using d
 refine iz ?_;change af _ _ (if(!t.led&&!b.isEmpty)=J then _ else _) _ _ _;rw[je<|by rw[o];simp];refine iJ ?_;have h:rH w a n b=b:=by unfold rH;rw[je d]
 have f:∀k,nS w t k=JF t k:=λk=>by unfold nS;rw[je d]
 have m:ax t.place (nS w t i)=i:=by rw[f];exact afp S.tab.ris (by lia)
 rw[m];rw[h]at h1;by_cases p:i<b.size
 .have g1:b[i]?=Y b[i]:=qL p;have g2:t.place[i]?=Y t.place[i]:=qL (by lia);rw[g1,g2];have:=h1 b[i] g1;rw[f]at this;rw[show JF t (i+1)=t.place.getD i 0+1 from C]at this;have hd:t.place.getD i 0=t.place[i]:=by simp[show i<t.place.size by lia]
  rw[hd]at this;exact iJ this
 rw[GK<|by lia];exact iJ<|j (by lia)
def AG.typeIs{a b n t}(S:AG w s.heap a b n t):s.TypeIs (.ref a) "set":=⟨_,S.at_,rfl⟩
def BD.typeIs{it a t z n i}(S:BD w s.heap it a t z n i):s.TypeIs (.ref it) "set_iterator":=let⟨o,d,b,_⟩:=S;⟨o,d,b⟩
def PD(S:AG w s.heap a f n t)
  (g:∀d,BD w d s.heap.objs.size a t f.size n 0->(∀b o,s.heap.get? b=Y o->d.get? b=Y o)->d.objs.size=s.heap.objs.size+1->Q (.ref s.heap.objs.size) {s with heap:=d}):
  af (am c w) A (db<|.ref a) Q E s:=by
 refine GI S.typeIs MB<|oF MB S.typeIs adS ?_<|PySem.F.args_set_iter_1 _;unfold bb.«frozenset.__iter__» mj wf;simp -iota only[zS,sZ,kW,tV,vI,yo];unfold bW mm;refine iz<|iJ ?_;dsimp only;refine iz<|iJ ?_;refine iz<|iz<|MA S.at_ C S.fits<|iJ ?_;unfold setDrawn fZ;refine iz<|iz<|tj S.at_ C S.fits ?_;dsimp only;refine iz<|iz<|tU<|iJ ?_;refine iJ ?_;change af _ _ (if(!w.params.followText "set-order"&&(!t.plain&&decide (f.size>1)))=J then _ else _) _ _ _;rw[je<|by rw[S.plain];simp];refine iz<|iJ ?_;unfold setEpoch;refine iz<|iz<|tj S.at_ C S.fits<|iJ ?_;refine iz<|nq<|iJ ⟨_,rfl,"set_iterator",_,⟨_,kF _ rfl,rfl⟩,wa.lookup,?_⟩;refine g _ ⟨_,kF _ rfl,rfl,?_⟩ (λb o e=>jX _ e) (oX _ _);have:nS w t 0=0:=by unfold nS;split<;>rfl
 rw[this];rfl
def FL(v:A.handled=I){it a:iw}{d:sU}{n:Nat}{t:mW}(S:AG w s.heap a d n t){i:Nat}(h:BD w s.heap it a t d.size n i)(x:i<=d.size){Q:ET}
  (r:∀e,(rH w a n d)[i]?=Y e->∀f,BD w f it a t d.size n (i+1)->aL it s.heap f->Q (Y e.2) {s with heap:=f})
  (q:i=d.size->∀f,ee it s.heap f->Q I {s with heap:=f}):af (am c w) A (cJ<|.ref it) Q E s:=by
 obtain⟨o,g,u,hd⟩:=id h;unfold cJ;refine iz<|vT<|wM (name:=bz "__next__") h.typeIs wa<|oF wa h.typeIs adQ ?_<|aef _;unfold bb.«set_iterator.__next__» wf;simp -iota only[zS,sZ,kW,tV,vI,yo];refine iz<|iJ ?_;unfold fieldsOf;dsimp only;simp -iota only[tV];refine iz<|DG g ?_;rw[hd];refine iz<|iJ ?_;dsimp only;refine iz<|MA S.at_ C S.fits ?_;rw[je<|by simp];have h1:((nS w t i:Nat):Int).toNat=nS w t i:=yq _;have l:((i:Nat):Int).toNat=i:=yq _;have p:((n:Nat):Int).toNat=n:=yq _;rw[h1,l,p];refine iz<|aeO S x (λB k=>?_) λz=>?_
 .dsimp only;refine iz<|vU g hd (by simp) ?_;have j:=tY (fX λy=>y.setIfInBounds 0<|cE<|nS w t<|i+1) g<|Dt<|vp hd _;refine iz<|vU j (vp hd _) (by simp)<|iJ ⟨_,rfl,iJ<|r _ k _ ?_ ((sG ..).trans (sG ..))⟩;refine⟨_,tY _ j (Dt<|vp (vp hd _) _),?_,?_⟩
  .rw[Ds,Ds];exact u
  rw[vp<|vp hd _];simp[cE]
 dsimp only;refine iz<|vU g hd (by simp) ?_;show af _ _ (hH (.type "StopIteration") []>>=_) _ _ _;refine iz ?_;simp -iota only[hH];refine iz<|nq ?_ (by size_fits);refine iz (m:=f3 _ _)<|vw (a:=ay) (by first|rfl|(simp -iota;rfl)) ?_;refine nq ?_ (by size_fits);simp -iota only[wl];refine iz<|G4 ?_;rw[show A.in1.handled=I from v];refine iz<|iJ<|G3 ?_;refine iz<|yk (T:="StopIteration") (b:=J) ⟨_,kF _ rfl,rfl⟩ Dm ?_;exact iJ<|q z _ (((sG ..).extBut.push _).push _)
def agy(b:BD w s.heap it a t z n i)(d:Q (.ref it) s):af (am c w) A (db<|.ref it) Q E s:=by refine GI b.typeIs xa<|oF xa b.typeIs adR ?_<|aeg _;unfold bb.«dict_keyiterator.__iter__» wf;simp -iota only[zS,sZ,kW,tV,vI,yo];exact iz<|iJ<|iJ ⟨_,rfl,"set_iterator",_,b.typeIs,wa.lookup,d⟩
def AG.A6{a b n t}(S:AG w h a b n t)(k:∀o,h.get? a=Y o->d.get? a=Y o):AG w d a b n t:=⟨k _ S.at_,S.tab,S.plain,S.led⟩
def afG(k:A.handled=I)(T a:iw)(u:T≠a)(g:sU)(n:Nat)(t:mW):
  Do c w A T [T,a] [T] g.size (λi v=>∃e,(rH w a n g)[i]?=Y e/\v=e.2) (λi h=>BD w h T a t g.size n i/\AG w h a g n t) where
 sub:=λb d=>by simp at d;simp[d]
 frame:=λ_ _ _ st hk=>⟨(by obtain⟨o,h1,r⟩:=st.1;exact⟨o,hk T (by simp) o h1,r⟩),st.2.A6 λo e=>hk a (by simp) o e⟩
 item:=λi s Q E l st f=>by refine FL k st.2 st.1 (wQ l) (λe y j q m=>?_) λz=>absurd z<|kz l;exact f _ j s.toks ⟨_,y,rfl⟩ ⟨q,st.2.A6 λo e=>m.extBut a o (λh=>u h.symm) e⟩ λb o d e=>m.extBut b o (λh=>d<|by simp[h]) e
 done:=λs Q E st f=>FL k st.2 st.1 (jT _) (λe x=>absurd (Me.mp x).1<|by rw[vY];exact qo _) λ_ j p=>f j s.toks λb o d e=>p b o (λh=>d<|by simp[h]) e
 self:=λ_ _ _ _ st f=>agy st.1 f
def zg{T id:String}{N:Nat}{B:jS}{M:Nat->iI->Prop}{ST:Nat->jb->Prop}(n:T="set"/\id="set.__len__"\/T="dict"/\id="dict.__len__")(cO:a<s.heap.objs.size)(ty:∀k:iB,(∀o,s.heap.get? a=Y o->k.heap.get? a=Y o)->k.TypeIs (.ref a) T)
  (W:Do c w A.in1 (s.heap.objs.size+1) [s.heap.objs.size+1,a] [s.heap.objs.size+1] N M ST)(hn:N<=sizeLine)(hv:∀i v,M i v->B[i]?=Y v)(hl:(IX B)=N)
  (L:∀(l:el)(J:jr),(∀q,ST 0 q->(∀b o,(s.heap.push l).get? b=Y o->q.get? b=Y o)->J (.ref<|s.heap.objs.size+1) {s with heap:=q})->af (am c w) A.in1 (db<|.ref a) J E {s with heap:=s.heap.push l})
  (hQ:∀x tk,(∀b o,s.heap.get? b=Y o->x.get? b=Y o)->Q B {s with heap:=x,toks:=tk}):af (am c w) A (fx<|.ref a) Q E s:=by
 have C':a≠s.heap.objs.size:=kz cO;have u:s.heap.objs.size≠s.heap.objs.size+1:=kz<|Aa _;unfold fx;refine iz<|G5<|sH PySem.F.entry_proto_collect ?_;rw[rN PySem.F.plain_proto_collect _];show af _ A.in1 (p8 []>>=λl=>again<|.builtin "list.__iadd__" ⟨[l,.ref a],[]⟩) _ _ s;refine iz<|nq ?_;refine iJ ⟨vV Mz _,sH PySem.F.entry_list_iadd ?_⟩;rw[rN Mz _];show af _ A.in1 (eA (.ref s.heap.objs.size) (.ref a)<|.ref s.heap.objs.size) _ _ _;generalize t:({cls:=.type "list",data:=.seq ([]:List iI).toArray}:el)=G;unfold eA;refine iz<|tZ (T:=T) (s:={s with heap:=s.heap.push G}) (ty _ λo e=>jX _ e) ?_;have h1:eK (.ref s.heap.objs.size) (.ref a)=IP:=by simp only[eK,Bw];exact C'.symm
 have q:(c6 T==c6 "list")=IP:=by rcases n with⟨rfl,_⟩|⟨rfl,_⟩<;>decide
 have h3:(c6 T==c6 "tuple")=IP:=by rcases n with⟨rfl,_⟩|⟨rfl,_⟩<;>decide
 simp -iota only[h1,q,h3,kW,mn];refine iz<|L G _ λh R O=>?_;have H:Shared.TypeIs {s with heap:=h} (.ref a) T:=ty _ λo e=>O _ _ (jX _ e);refine iz<|mF<|nQ (Q:=λr k=>r=IP/\k={s with heap:=h}) ?_ (λr k ⟨e1,e2⟩=>?_) λ_ _ z=>z
 .unfold uu;refine iz<|vJ (s:={s with heap:=h}) H (r:=Y<|.builtin id) (by rcases n with⟨rfl,rfl⟩|⟨rfl,rfl⟩<;>first|exact PySem.F.slot_set_len.lookup|exact PySem.F.slot_dict_len.lookup) ?_;dsimp only;rw[show splitId id=Y (T,"__len__")from by rcases n with⟨rfl,rfl⟩|⟨rfl,rfl⟩<;>decide+kernel];dsimp only;refine iz<|yk (s:={s with heap:=h}) (b:=IN) H (by rw[GJ];rcases n with⟨rfl,_⟩|⟨rfl,_⟩<;>kernel_rfl) ?_;simp -iota only[sZ,kW];change af _ _ (if _=IN then _ else _) _ _ _;rw[iQ (by rcases n with⟨_,rfl⟩|⟨_,rfl⟩<;>decide+kernel)];refine iz<|tZ (s:={s with heap:=h}) H ?_;dsimp only;exact iJ ⟨rfl,rfl⟩
 subst e1 e2;change af _ _ (if _=IN then _ else _) _ _ _;rw[iQ (by rcases n with⟨rfl,_⟩|⟨rfl,_⟩<;>decide+kernel)];refine iz<|vz ?_;have d:h.get? s.heap.objs.size=Y G:=O _ _ (kF _ (by subst t;rfl));subst t;refine iz ?_;show af _ A.in1 (updateSeq s.heap.objs.size (·.push .none)>>=λ_=>updateSeq s.heap.objs.size (·.pop)) _ _ _;refine iz<|t0 (s:={s with heap:=h}) d C ?_;have f:=tY (aV (·.push ay)) d C;refine t0 f C ?_;have m:=tY (aV (·.pop)) f C
 have Q2:∀b o,b≠s.heap.objs.size->h.get? b=Y o->((h.update s.heap.objs.size (aV (·.push ay))).update s.heap.objs.size (aV (·.pop))).get? b=Y o:=
  λb o g e=>(Dw _ _ (tD g)).trans<|(Dw _ _ (tD g)).trans e
 refine iJ ⟨vV PySem.F.plain_extend_loop _,?_⟩;refine codeAny_extend_loopS W.toS hn s.heap.objs.size (by simp -iota only[oq,sD,or_false,not_or];exact⟨u,C'.symm⟩) _ N 0 _ _ _ rfl (mD _) (W.frame _ _ _ R λb g o e=>Q2 b o (by simp at g;rcases g with rfl|rfl<;>first|exact u.symm|exact C') e) m (ItemsOf.nil _) λk I' c' y Y' n6=>?_;show af _ A (load s.heap.objs.size>>=_) _ _ k;refine iz<|DG Y' ?_;obtain⟨x,Z,K,D,P⟩:=k;have V:Z=s.gens:=y.gens;have S:K=s.drawn:=y.drawn;have X:P=s.os:=y.os;subst V;subst S;subst X
 have p:I'.toList=B:=by
  obtain⟨a1,U⟩:=n6;refine ym λj=>?_;rw[nM]
  cases e:I'[j]? with
  |some v=>exact(hv j v<|U j v e).symm
  |none=>rw[List.getElem?_eq_none_iff.mpr];rw[hl,<-a1];exact X5.mp e
 refine iJ ?_;show Q I'.toList _;rw[p];refine hQ x D λb o e=>?_;have g:=kH e;exact y.heap b o (by simp -iota;exact⟨kz g,kz<|vq g⟩)<|Q2 b o (kz g)<|O _ _ (jX _ e)
def T5(u:A.handled=I)(S:AG w s.heap a d n t)(x:d.size<=sizeLine)
  (q:∀j y,(∀b o,s.heap.get? b=Y o->j.get? b=Y o)->Q ((rH w a n d).toList.map (·.2)) {s with heap:=j,toks:=y}):af (am c w) A (fx<|.ref a) Q E s:=by
 have g:a<s.heap.objs.size:=kH S.at_;refine zg (.inl ⟨rfl,rfl⟩) g (λB k=>(S.A6 k).typeIs) (afG (by show A.handled=I;exact u) (s.heap.objs.size+1) a (qm<|vq g) d n t) x (λi v ⟨e,r,hv⟩=>?_) (by rw[jU,lS,vY]) (λl z k=>?_) q
 .rw[kX,nM,r,hv];rfl
 have f:AG w (s.heap.push l) a d n t:=S.A6 λo e=>jX _ e;refine PD (s:={s with heap:=s.heap.push l}) f λp h m _=>?_;rw[show(s.heap.push l).objs.size=s.heap.objs.size+1 from oX _ _]at h ⊢;exact k p ⟨h,f.A6 λo e=>m _ _ e⟩ m
end
section
variable {a:jh}{w:iY}{A:iU}{R:io->iB->Prop}{I:iw}{d c:la}{G:Array fB->Array fB->Prop}{n:Nat}{P:Nat->iI->Prop}{St:Nat->iB->Prop}
def Np(W:WalksS a w A.in1 I d c G n P St)(S:iw)(O:S∉d)(s0:iB)(j:Nat->jb->Prop)(A6:∀i h g,j i h->(∀o,h.get? S=Y o->g.get? S=Y o)->j i g)
  (step:∀i v (f:iB) (Q:sY) (E:jr),i<n->P i v->j i f.heap->F0 (S::c) G s0 f->(∀r g H',f.toks<=H'->aL S f.heap g->j (i+1) g->Q r {f with heap:=g,toks:=H'})->af (am a w) A.in1 (hC S v) Q E f):
  ∀(k i:Nat)(s:iB),n-i=k->i<=n->St i s->j i s.heap->F0 (S::c) G s0 s->(∀f,F0 (S::c) G s0 f->j n f.heap->R (.ok<|.ret .none) f)->
   b4 (am a w) A (.builtin "set.update.loop" ⟨[.ref S,.ref I],[]⟩) R s:=by
 have l:S∉c:=λh=>O<|W.sub _ h;have J:∀b∈c,b∈S::c:=λb m=>kO _ m;intro k
 induction k with
 |zero=>
  intro i s hk U C x t u;have z:i=n:=by lia
  subst z;refine sH My ?_;rw[rN GH _];show af _ A.in1 (cJ (.ref I)>>=_) _ _ s;refine iz<|W.done s _ _ C λf p=>?_;show af _ A.in1 (ret ay) _ _ f;exact iJ<|u f (Moved.trans W.gtrans t<|p.mono J)<|A6 _ _ _ x λo e=>p.heap S o l e
 |succ k Y'=>
  intro i s hk U C x t u;have B:i<n:=by lia
  refine sH My ?_;rw[rN GH _];show af _ A.in1 (cJ (.ref I)>>=_) _ _ s;refine iz<|W.item i s _ _ B C λv f N q p=>?_;have T:=Moved.trans W.gtrans t<|p.mono J;show af _ A.in1 (cn [v] (hC S v)>>=_) _ _ f;refine iz<|mF<|step i v f _ _ B N (A6 _ _ _ x λo e=>p.heap S o l e) T λr g H' L M y=>?_;refine iJ ⟨vV GH _,Y' (i+1) _ (by lia) B (W.frame _ f _ _ q L λb m o e=>?_) y (T.then_heap L λb o m e=>?_) u⟩
  .rw[M.2 b λh:b=S=>O<|by rw[<-h];exact m];exact e
  rw[M.2 b λh:b=S=>m<|by rw[h];exact ky];exact e
end
section
variable {f:jh}{w:iY}{A:iU}{E:jr}{s:iB}
def S9(a:iI)(h:Q₁ (.ref s.heap.objs.size) {s with heap:=s.heap.push (kn #[] 0 (.fresh 0 0 (!w.params.followText "set-order")))}):
  b4 (am f w) A (.call (.builtin "set.__new__") ⟨[.type "set",a],[]⟩) (k9 Q₁ E) s:=by
 refine tR ?_;show af _ A.in1 (do cM "set.__new__" ⟨[.type "set",a],[]⟩;again (.builtin "set.__new__" ⟨[.type "set",a],[]⟩)) _ _ s;refine iz<|vw (PySem.F.newCall_set_1 a)<|iJ ⟨vV C6 _,sH Mx ?_⟩;rw[rN C6 _];unfold bb.«set.__new__» d8;have c:=x8;obtain⟨b,g,d,e,os⟩:=s;dsimp only
 wp_walk
 refine tU<|iJ ?_;dsimp only;simp only[newObj];refine iz<|yp<|iJ ?_;exact iJ h
noncomputable abbrev lj(w:iY):SetTable:=.fresh 0 0 (!w.params.followText "set-order")
def X1{h:jb}{a:iw}(e:h.get? a=Y (kn #[] 0 (lj w))):AG w h a #[] 0 (lj w):=⟨e,J4.fresh _ _ _,rfl,rfl⟩
set_option maxHeartbeats 8000000 in
def X2{l:iw}{items:nE}{Q:jr}(hh:A.handled=Ix)(m:s.heap.IsList l items\/s.heap.IsTuple l items)(k:Nat->jb->Prop)
  (A6:∀i h a,k i h->(∀o,h.get? s.heap.objs.size=Go o->a.get? s.heap.objs.size=Go o)->k i a)
  (qp:∀a,a.get? s.heap.objs.size=Go (kn #[] 0 (lj w))->k 0 a)
  (step:∀i v (d:iB) (B:iU) (Q:sY) (E:jr),B.units<=A.units+20->items[i]?=Go v->k i d.heap->(∀b o,s.heap.get? b=Go o->d.heap.get? b=Go o)->d.gens=s.gens->d.drawn=s.drawn->d.os=s.os->
   (∀r a x,d.toks<=x->aL s.heap.objs.size d.heap a->k (i+1) a->Q r {d with heap:=a,toks:=x})->af (am f w) B (hC s.heap.objs.size v) Q E d)
  (h:∀(a:jb)(x:Nat),k items.size a->(∀b o,s.heap.get? b=Go o->a.get? b=Go o)->Q (.ref s.heap.objs.size) {s with heap:=a,toks:=x}):
  af (am f w) A (call (.type "set") [.ref l]) Q E s:=by
 obtain⟨c,tl,K⟩:=EN.mro;have J:=EN.made;have n4:=EN.sub;refine yu<|tR ?_;show af _ _ (z7 (.type "set") _) _ _ _;refine iJ ⟨G2 _ (by decide+kernel),sH Mw ?_⟩;rw[G1 (G0 "set" [.ref l] []) IR];have h1:=EN.notType;have h2:=EN.canCreate;have dn:=PySem.F.typeCall_set_1<|.ref l
 repeat (any_goals (first|assumption|wp_step))
 refine ql (S9 (.ref l) (E:=E) (Q₁:=λobj q=>obj=.ref s.heap.objs.size/\q={s with heap:=s.heap.push (kn #[] 0 (lj w))}) ⟨rfl,rfl⟩) λr q M=>?_
 cases r with
 |error e=>exact M
 |ok fl=>
  cases fl with
  |ret obj=>
   obtain⟨rfl,rfl⟩:=M;have D:(s.heap.push<|kn #[] 0 (lj w)).get? s.heap.objs.size=Go (kn #[] 0 (lj w)):=kF _ rfl;have hT:Shared.TypeIs {s with heap:=s.heap.push (kn #[] 0 (lj w))} (.ref s.heap.objs.size) "set":=⟨_,D,rfl⟩
   have hli:=EN.init.lookup;have fm:=EN.init.bind<|.ref s.heap.objs.size
   repeat (any_goals (first|assumption|wp_step))
   refine ql (Dl (R:=k9 (λr t=>r=.none/\∃a x,t={s with heap:=a,toks:=x}/\k items.size a/\(∀b o,s.heap.get? b=Go o->a.get? b=Go o)) E) EN.init.plain Mv<|check_set_init_1 hT ?_) λH t L=>?_
   .obtain⟨c,hc,ol,Y,X,nl,U⟩:∃c,(c="list"\/c="tuple")/\∃o,s.heap.get? l=Go o/\o.cls=.type c/\∃n,o.data=.seq items n:=m.elim (λh=>⟨_,.inl IR,h⟩) (λh=>⟨_,.inr IR,h⟩)
    obtain⟨V,S,h9⟩:isSubtype (.type c) (.type "set")=pure IP/\isSubtype (.type c) (.type "frozenset")=pure IP/\(c6 c==c6 "dict")=IP:=by
     rcases hc with rfl|rfl
     .exact⟨PySem.F.sub_list_set,PySem.F.sub_list_frozenset,by decide⟩
     exact⟨PySem.F.sub_tuple_set,PySem.F.sub_tuple_frozenset,by decide⟩
    obtain⟨Z,u,N,j⟩:=ol;simp only at X U;subst X;subst U;have P:(s.heap.push<|kn #[] 0 (lj w)).get? l=Go {cls:=.type c,dict:=u,data:=.seq items nl,slots:=j}:=jX _ Y;have C:l<s.heap.objs.size:=kH Y;have z:A.in1.in1.in1.handled=Ix:=by simp[hh]
    have sz:(s.heap.push<|kn #[] 0 (lj w)).objs.size=s.heap.objs.size+1:=oX _ _;have p:l≠(s.heap.push<|kn #[] 0 (lj w)).objs.size:=by rw[sz];exact kz<|vq C
    have fw:s.heap.objs.size∉[(s.heap.push<|kn #[] 0 (lj w)).objs.size,l]:=by rw[sz];simp only[oq,sD,or_false,not_or];exact⟨kz<|Aa _,qm C⟩
    obtain⟨St,W,o0,h0,O⟩:∃St,Do f w A.in1.in1.in1 (s.heap.push<|kn #[] 0 (lj w)).objs.size [(s.heap.push<|kn #[] 0 (lj w)).objs.size,l] [(s.heap.push<|kn #[] 0 (lj w)).objs.size] items.size (λi v=>items[i]?=Go v) St/\∃o0,St 0 ((s.heap.push<|kn #[] 0 (lj w)).push o0)/\
      ∀{A':iU}{Q:jr}{E},Q (.ref (s.heap.push<|kn #[] 0 (lj w)).objs.size) {s with heap:=(s.heap.push<|kn #[] 0 (lj w)).push o0}->af (am f w) A' (db<|.ref l) Q E {s with heap:=s.heap.push (kn #[] 0 (lj w))}:=by
     rcases m with m|m
     .exact⟨_,Walks.list z _ l p items,_,⟨⟨_,kF _ rfl,rfl,rfl⟩,(m.push _).push _⟩,λh=>Aj (m.push _) h⟩
     exact⟨_,Walks.tuple z _ l p items,_,⟨⟨_,kF _ rfl,rfl,rfl⟩,(m.push _).push _⟩,λh=>Hu (m.push _) h⟩
    unfold bb.«set.__init__» noKeywords mi;generalize T:db=PI
    wp_walk
    subst T;refine O ?_;refine iz<|G5 ?_;refine Np W.toS s.heap.objs.size fw _ k A6 (λi v d Q' E' hi hP G g hk=>?_) (items.size-0) 0 _ (by lia) (mD _) h0 (qp _ (jX _ D)) (F0.refl λ_=>rfl) ?hR
    .refine step i v d _ Q' E' ?_ hP G (λb o e=>?_) g.gens g.drawn g.os hk
     .show A.units+1+1+1<=A.units+20;lia
     have y:=kH e;exact g.heap b o (by rw[sz];simp only[oq,sD,or_false,not_or];exact⟨kz y,kz<|vq y⟩)<|jX _ (jX _ e)
    case hR=>intro d g I;obtain⟨a,g',d',cX,dv⟩:=d;have eg:g'=s.gens:=g.gens;have ed:d'=s.drawn:=g.drawn;have eo:dv=s.os:=g.os;subst eg;subst ed;subst eo;show af _ _ _ _ _ _;refine iJ ?_;show af _ _ (ret ay) _ _ _;refine iJ ⟨rfl,a,cX,rfl,I,λb o e=>?_⟩;have y:=kH e;exact g.heap b o (by rw[sz];simp only[oq,sD,or_false,not_or];exact⟨kz y,kz<|vq y⟩)<|jX _ (jX _ e)
   cases H with
   |error e=>exact L
   |ok dW=>
    cases dW with
    |ret r=>
     obtain⟨rfl,a,x,rfl,I,dO⟩:=L
     repeat (any_goals (first|assumption|wp_step))
     exact h _ _ I dO
    |_=>exact L.elim
  |_=>exact M.elim
end
end TT
namespace PX
open L2 PySem.SeqAt TS
def BC:D->Bool
 |.tup l=>D.Fo l&&decide (D.NL l<=6)
 |_=>U
def qu(h:BC d=J):∃l,d=.tup l:=by cases d<;>first|exact⟨_,rfl⟩|(simp[BC]at h)
def ui(h:BC d=J):D.pr d=J:=by obtain⟨l,rfl⟩:=qu h;simp only[BC,lR]at h;rw[D.pr];exact h.1
def rP(h:BC d=J):d.dep<=7:=by obtain⟨l,rfl⟩:=qu h;simp -iota only[BC,oW]at h;rw[D.dep];lia
def ae4(h1:D.pr x=J)(a:D.pr y=J):D.P1 x y=J↔x=y:=by
 rw[IS x y h1 a];constructor
 .intro h;exact qg x y h1 a (by simpa using h)
 rintro rfl;rw[Ks];rfl
def oO(a:List D)(d:D):List D:=if a.any (D.P1 · d)=J then a else a++[d]
def oj(l:List D):List D:=l.foldl oO []
def Uk{p:D->Bool}(h1:b.all p=J)(a:p d=J):(oO b d).all p=J:=by
 unfold oO;split
 .exact h1
 rw[List.all_append,h1];simp[a]
def Q8(a:List D)(d:D):(oO a d).length<=IX a+1:=by unfold oO;split<;>simp
def ny{d i:Type}(f:d->i){g m:List i}(h:g.Perm m):∀l:List d,m=l.map f->∃c:List d,c.Perm l/\g=c.map f:=by
 induction h with
 |nil=>
  intro l e;have:l=[]:=by simpa using e.symm
  subst this;exact⟨[],.refl _,rfl⟩
 |cons x _ n=>
  intro l e
  cases l with
  |nil=>simp at e
  |cons y l=>simp -iota at e;obtain⟨c,p,q⟩:=n l e.2;exact⟨y::c,p.cons y,by rw[q,e.1];rfl⟩
 |swap x y w=>
  intro l e
  cases l with
  |nil=>simp at e
  |cons a l=>
   cases l with
   |nil=>simp at e
   |cons b l=>simp -iota at e;exact⟨b::a::l,.swap a b l,by rw[e.1,e.2.1,e.2.2];rfl⟩
 |trans _ _ k j=>intro l e;obtain⟨o,s,u⟩:=j l e;obtain⟨r,t,v⟩:=k o u;exact⟨r,t.trans s,v⟩
def yZ{b d:Type}{F:b->d->Prop}{c m:List d}(h:c.Perm m):∀{z:List b},Paired F z m->∃a:List b,Paired F a c/\a.Perm z:=by
 induction h with
 |nil=>intro z p;exact⟨z,p,.refl _⟩
 |cons x _ i=>
  intro z p
  cases p with
  |cons r t=>obtain⟨a,h1,g⟩:=i t;exact⟨_::a,.cons r h1,g.cons _⟩
 |swap x y s=>
  intro z p
  cases p with
  |cons r t=>
   cases t with
   |cons o t=>exact⟨_,.cons o<|.cons r t,.swap _ _ _⟩
 |trans _ _ f e=>intro z p;obtain⟨u,j,l⟩:=e p;obtain⟨q,k,n⟩:=f j;exact⟨q,k,n.trans l⟩
def YP.zip{K T}{O:SS}:∀{l:List D}{b:List V},YP K T O l b->∀p∈l.zip b,Rep K T O p.1 p.2:=by
 intro f
 induction f with
 |nil=>intro b h p a;simp at a
 |cons d l e=>
  intro b h p a;rw[YP]at h;obtain⟨v,r,rfl,h1,c⟩:=h;rw[tM]at a;rcases oq.mp a with rfl|a
  .exact h1
  exact e c p a
def YP.Jc{K T}{O:SS}:∀{l:List (D×V)},(∀p∈l,Rep K T O p.1 p.2)->YP K T O (l.map (·.1)) (l.map (·.2)):=by
 intro c
 induction c with
 |nil=>intro _;exact YP.nil
 |cons p l b=>intro h;exact YP.cons (h p ky)<|b λq a=>h q<|kO _ a
abbrev hv(p:D×V):Int×V:=(D.hash p.1,p.2)
theorem Am:∀(b:List D)(a:List V),(D.BZ b).zip a=(b.zip a).map hv
 |[],a=>by simp[D.BZ]
 |d::b,[]=>by simp
 |d::b,u::a=>by rw[D.BZ,tM,tM,ku,Am b a]
section
variable {X:Cx}{pins:jw}{σ:L2.St}{H:Hp}{s:iB}
structure A2(X:Cx)(H:Hp)(O:SS)(h:jb)(a:iw)(vs:List D)(es:sU)(n:Nat)(t:mW)(l:List (D×V)):Prop where
 is:TT.AG X.w h a es n t
 perm:(l.map (·.1)).Perm vs
 rep:∀p∈l,Rep X.K H O p.1 p.2
 par:Paired (λ(z:Int×V) (e:Int×iI)=>z.1=e.1/\RelV z.2 e.2) (l.map hv) es.toList
def A2.A6{a c b n t l}(S:A2 X H O h a c b n t l)(k:∀o,h.get? a=Y o->d.get? a=Y o):A2 X H O d a c b n t l:=⟨S.is.A6 k,S.perm,S.rep,S.par⟩
def aeU{d c:Type}{F:d->c->Prop}{l:List d}{m:List c}(h:Paired F l m):∀{i:Nat}{b:c},m[i]?=Y b->∃a,l[i]?=Y a/\F a b:=by
 induction h with
 |nil=>intro i b h;simp at h
 |cons r t f=>
  intro i b h
  cases i with
  |zero=>simp at h;subst h;exact⟨_,rfl,r⟩
  |succ i=>obtain⟨a,h1,e⟩:=f (i:=i) (b:=b) (by simpa using h);exact⟨a,by simpa using h1,e⟩
def aeT{a b:Type}{F:a->b->Prop}:∀{l:List a}{m:List b},Paired F l m->IX l=(IX m):=Ak
def AF{l:List (Int×V)}{m:List (Int×iI)}(h:Paired (λ(z:Int×V) (e:Int×iI)=>z.1=e.1/\RelV z.2 e.2) l m):l.map (·.1)=m.map (·.1):=by
 induction h with
 |nil=>rfl
 |cons r t a=>rw[ku,ku,r.1,a]
def A2.LF(I:Inv X pins σ H s){O Y:SS}{a:iw}{vs:List D}{J' n t l}(S:A2 X H O s.heap a vs J' n t l)(hok:vs.all BC=J){d:D}{v:V}{u:iI}(hd:kx X.K H Y d v)(ru:RelV v u)(U:BC d=J){A:iU}(hA:A.units+60<aT):
  ∃b,u=.ref b/\TT.IA A s a J' n t u d.hash (λi=>match l[i]? with|some p=>D.P1 p.1 d|none=>IP):=by
 obtain⟨ld,rfl⟩:=qu U;obtain⟨b,xs,rfl,q,r⟩:=mr hd;cases ru;have hdp:=rP U;have dG:=ui U;have h:∀p∈l,BC p.1=J:=λp M=>kT.mp hok _ (S.perm.mem_iff.mp<|qJ M)
 have at_:∀(i:Nat)(e:Int×iI),J'[i]?=Go e->∃p,l[i]?=Go p/\p∈l/\D.hash p.1=e.1/\RelV p.2 e.2:=λi e o=>by
  obtain⟨z,h1,f,L⟩:=aeU S.par (i:=i) (b:=e) (by rw[nM];exact o);rw[kX]at h1
  cases hl:l[i]? with
  |none=>rw[hl]at h1;cases h1
  |some p=>rw[hl]at h1;cases h1;exact⟨p,rfl,mY hl,f,L⟩
 have N:∀(e:D)(y:V)(G:iI)(C:SS)(B:iU)(P:jh)(W:iY)(Q:sY)(E:jr),BC e=J->kx X.K H C e y->RelV y G->Q J s->af (am P W) B (r0 8 G) Q E s:=λe y G C B P W Q E T hv hr x=>by
  obtain⟨le,rfl⟩:=qu T;rcases hv with hv|⟨_,_,hv⟩
  .exact RU I 8 _ _ _ C B E Q hv hr (ui T) (by have:=rP T;lia) x
  exact hv.elim
 have m6:∀(e:D)(y:V)(G:iI)(C:SS)(B:iU)(P:jh)(W:iY)(Q:sY)(E:jr),BC e=J->kx X.K H C e y->RelV y G->Q IP s->af (am P W) B (dw 8 G) Q E s:=λe y G C B P W Q E T hv hr x=>by
  obtain⟨le,rfl⟩:=qu T;rcases hv with hv|⟨_,_,hv⟩
  .exact agr I 8 _ _ _ C B E Q hv hr (ui T) (by have:=rP T;lia) x
  exact hv.elim
 refine⟨b,rfl,⟨_,S.is.at_,rfl⟩,S.is.tab,λi e o=>?_,λi e o=>?_,λi e o x=>?_,λls g w E Q hls x=>?_⟩
 .obtain⟨p,h1,f,L,j⟩:=at_ i e o;obtain⟨lp,M⟩:=qu<|h p f;have:=S.rep p f;rw[M]at this;obtain⟨c,xs,R,_⟩:=this.tup;rw[R]at j;exact⟨c,j⟩
 .obtain⟨p,h1,f,L,j⟩:=at_ i e o;rw[h1];have:=rP<|h p f;exact Bf I 50 p.1 (.tup ld) p.2 (.ref b) _ _ O Y A (.inl<|S.rep p f) hd j rfl (by lia) (by lia) (by lia)
 .obtain⟨p,h1,f,L,j⟩:=at_ i e o;rw[h1]at x;rw[(ae4 (ui<|h p f) dG).mp x]at L;exact L.symm
 unfold p5;refine iz ?_;refine yi _ (λm rr s'=>rr.1=Ix/\s'=s/\∀v∈m,∃e∈J'.toList,e.2=v) _ ?_ ?_ _ _ ⟨rfl,rfl,hls⟩
 .rintro y m rr s' ⟨Z,rfl,hm⟩;have k:∀v∈m,∃e∈J'.toList,e.2=v:=λv hv=>hm v<|kO _ hv;obtain⟨e,o,rfl⟩:=hm y ky;obtain⟨i,hi⟩:=sJ o;rw[nM]at hi;obtain⟨p,h1,f,L,j⟩:=at_ i e hi;obtain⟨lp,M⟩:=qu<|h p f;have F:=S.rep p f
  obtain⟨c,ec⟩:∃c,e.2=.ref c:=by rw[M]at F;obtain⟨c,xs,R,_⟩:=F.tup;rw[R]at j;exact⟨c,j⟩
  rw[ec]at j ⊢;dsimp only;split
  .exact iJ ⟨rfl,rfl,k⟩
  refine iz (N _ _ _ Y A g w _ _ U hd rfl ?_);simp -iota only[sZ,kW];refine iz<|N _ _ _ O A g w _ _ (h p f) (.inl F) j ?_;simp -iota only[sZ,kW];refine iz<|m6 _ _ _ Y A g w _ _ U hd rfl ?_;simp -iota only[kW];refine iz<|m6 _ _ _ O A g w _ _ (h p f) (.inl F) j ?_;simp -iota only[kW];exact iJ ⟨rfl,rfl,k⟩
 rintro⟨r1,r2⟩ s' ⟨Z,rfl,_⟩;simp only at Z;subst Z;exact iJ x
def AN.Ij(T:Inv X pins σ H s)(h:AN X.K (H a) .set o f us)(r:YP X.K H O f us):∃b n t l,A2 X H O s.heap a f b n t l:=by
 obtain⟨_,m,e,p⟩:=h;obtain⟨b,n,t,h1,c,g,i,j⟩:=(show T2 X.prog X.w H s.heap a (.V0 m)from T.hok a _ e)
 rw[Am]at p;obtain⟨l,d,rfl⟩:=ny hv p _ rfl;refine⟨b,n,t,l,⟨h1,by rw[<-AF c];exact g,i,j⟩,?_,λq k=>r.zip q<|d.mem_iff.mp k,c⟩;have:=d.map (·.1);rw[kv<|by rw[r.length];exact jT _]at this;exact this
def A2.IL{b n t l}(S:A2 X H O h a c b n t l):T2 X.prog X.w H' h a (.V0<|l.map hv):=
 ⟨b,n,t,S.is.at_,S.par,by rw[AF S.par];exact S.is.tab,S.is.plain,S.is.led⟩
def A2.KQ{b n t l}(S:A2 X H O h a c b n t l):b.size=IX c/\(IX l)=(IX c):=by
 have h1:=aeT S.par;have d:=S.perm.length_eq;simp at h1 d
 lia
def A2.Q2{O:SS}{h:jb}{a:iw}{e:List D}{g n t l}(S:A2 X H O h a e g n t l){K H'}{O':SS}(k:∀p∈l,Rep K H' O' p.1 p.2)(i:H' a=Y (.V0<|l.map hv)):∃f,AN K (H' a) .set [] e f/\YP K H' O' e f:=by
 obtain⟨b,c,d⟩:=ny (·.1) S.perm.symm l C;refine⟨b.map (·.2),⟨rfl,l.map hv,i,?_⟩,?_⟩
 .rw[d,Am]
  have:(b.map (·.1)).zip (b.map (·.2))=b:=by
   clear c d
   induction b with
   |nil=>rfl
   |cons x l m=>rw[ku,ku,tM,m]
  rw[this];exact(c.map hv).symm
 rw[d];exact YP.Jc λp j=>k p<|c.mem_iff.mp j
def A2.put{q h':jb}{f n t l b j t'}(S:A2 X H O q a c f n t l)(x:c.any (D.P1 · d)=U)(m:Rep X.K H O d v)(B:RelV v u)(r:TT.AG X.w h' a b j t')(o:b.toList.Perm ((d.hash,u)::f.toList)):∃h,A2 X H O h' a (oO c d) b j t' h:=by
 have i:Paired (λ(z:Int×V) (e:Int×iI)=>z.1=e.1/\RelV z.2 e.2) (((d,v)::l).map hv) ((d.hash,u)::f.toList):=.cons ⟨rfl,B⟩ S.par;obtain⟨T,y,A⟩:=yZ o i;obtain⟨h,k,rfl⟩:=ny hv A _ rfl;refine⟨h,r,?_,λp g=>?_,y⟩
 .rw[show oO c d=c++[d] by unfold oO;rw[x,je kY]];refine(k.map (·.1)).trans ?_;rw[ku];exact(S.perm.cons d).trans (ME d c).symm
 rcases oq.mp (k.mem_iff.mp g)with rfl|g
 .exact m
 exact S.rep p g
def A2.add(I:Inv X pins σ H s){N n t l}(S:A2 X H O s.heap a g N n t l)(B:g.all BC=IN)(hd:kx X.K H O' d v)(o:Rep X.K H O d v)(m:RelV v u)(k:BC d=IN)(hz:(IX g)<500)
  (hA:A.units+60<aT)
  (h:∀r h' c f G t' L,s.toks<=c->aL a s.heap h'->A2 X H O h' a (oO g d) f G t' L->Q r {s with heap:=h',toks:=c}):af (am X.prog X.w) A (hC a u) Q E s:=by
 obtain⟨bU,bT⟩:=S.KQ;unfold hC;refine mF<|iz<|PU 50 I d v u O A E _ o m (ui k) (by have:=rP k;lia) (by lia) λc M=>?_;have J:Inv X pins σ H {s with toks:=c}:=I.kept (h':=s.heap) (t':=c) λ_ _ e=>e;obtain⟨b,rfl,Y⟩:=A2.LF (s:={s with toks:=c}) J S B hd m k hA;have T:∀p∈l,p.1∈g:=λp C=>S.perm.mem_iff.mp<|qJ C;refine TT.abe Y S.is.at_ S.is.plain (by lia) (λU j=>aau J 8 d v _ O A E U o m (ui k) (by have:=rP k;lia) j) (λ⟨i,y,j⟩=>?_) λF h' f G t' g1 g2 V W Z g6=>?_
 .have:oO g d=g:=by
   unfold oO
   cases z:l[i]? with
   |none=>rw[z]at j;cases j
   |some p=>rw[z]at j;rw[iQ<|KC.mpr ⟨p.1,T p<|mY z,j⟩]
  exact h IP s.heap c N n t l M (Du a s.heap) (by rw[this];exact S)
 have P:g.any (D.P1 · d)=IP:=by rw[j1];intro x hx;have R:=S.perm.mem_iff.mpr hx;obtain⟨p,C,rfl⟩:=iR R;obtain⟨i,y⟩:=sJ C;have:=F i (by have:=(wJ.mp y).1;lia);rw[y]at this;simpa using this
 obtain⟨L,q⟩:=S.put P o m ⟨g2,W,Z,g6.trans S.is.led⟩ V;exact h IN h' c f G t' L M g1 q
def TC:D->Option (D×Bool)
 |.lst l|.tup l=>if l.all BC=J/\(IX l)<500 then Y (.Q2 .set []<|oj l,J)else I
 |_=>I
def ae6{l:List D}{i:Nat}{d:D}(h:l[i]?=Y d):oj (l.take<|i+1)=oO (oj<|l.take i) d:=by unfold oj;rw[GW,h,G6];rfl
def Qt{p:D->Bool}:∀(l a:List D),l.all p=J->a.all p=J->(l.foldl oO a).all p=J:=by
 intro e
 induction e with
 |nil=>intro a _ h;exact h
 |cons d l c=>intro a h1 b;rw[tQ,lR]at h1;exact c _ h1.2 (Uk b h1.1)
def CN:∀(l a:List D),(l.foldl oO a).length<=IX a+(IX l):=by
 intro c
 induction c with
 |nil=>intro a;simp
 |cons d l b=>intro a;have:=b<|oO a d;have:=Q8 a d;simp;lia
def Q0{p:D->Bool}{l:List D}(h:l.all p=J)(i:Nat):(l.take i).all p=J:=by rw[kT]at h ⊢;exact λx a=>h x<|vR a
def Qs:∀(l a:List D),IX a<=(l.foldl oO a).length:=by
 intro l
 induction l with
 |nil=>intro a;exact jT _
 |cons d l b=>intro a;refine mq ?_<|b<|oO a d;unfold oO;split<;>simp
def NI{ok:D->Bool}{pins:jw}{s:iB}{σ:L2.St}{H:Hp}{x:V}{u:iI}{Q:VK}{O:SS}{d:D}{l:List D}(hc:X.calm=IN)(I:Inv X pins σ H s)(ru:RelV x u)(hd:kx X.K H O d x)(hl:d=.lst l\/d=.tup l)(T:l.all ok=IN)(hz:(oj l).length<500)(G:Gen X.K H O (.Q2 .set []<|oj l,IN) Q)
  (add:∀{j:iB}{B:iU}{E':jr}{Q':sY}{Y:List D}{d:D}{x:V}{w:iI}{a:iw}{m n t g},Inv X pins σ H j->A2 X H O j.heap a Y m n t g->Y.all ok=IN->Rep X.K H O d x->RelV x w->ok d=IN->Y.length<500->(X.A.units+90<aT->B.units+60<aT)->
   (∀r C' tk y n' t' fR,j.toks<=tk->aL a j.heap C'->A2 X H O C' a (oO Y d) y n' t' fR->Q' r {j with heap:=C',toks:=tk})->af (am X.prog X.w) B (hC a w) Q' E' j):
  af (am X.prog X.w) X.A (call (.type "set") [u]) (EP X pins σ Q) X.xe s:=by
 obtain⟨p,f,c,rfl,r,v,N⟩:∃p f c,x=.ref p/\YP X.K H O l f/\Vals f c/\(s.heap.IsList p c.toArray\/s.heap.IsTuple p c.toArray):=by
  rcases hl with rfl|rfl
  .obtain⟨p,f,rfl,q,r⟩:=lT hd;obtain⟨c,v,N,_⟩:=I.list q;exact⟨p,f,c,rfl,r,v,.inl N.isList⟩
  obtain⟨p,f,rfl,q,r⟩:=mr hd;obtain⟨c,v,N,_⟩:=I.tuple q;exact⟨p,f,c,rfl,r,v,.inr N⟩
 cases ru;have e1:=r.length;have e2:=v.length;have hh:X.A.handled=Ix:=I.ok.hd hc;have U:=I.fresh
 refine TT.X2 hh N (λi h=>∃m n t g,A2 X H O h s.heap.objs.size (oj<|l.take i) m n t g) (λi h C' ⟨m,n,t,g,S⟩ k=>⟨m,n,t,g,S.A6 k⟩)
  (λC' e=>⟨#[],0,_,[],⟨TT.X1 e,by simp[oj],λp P=>by simp at P,.nil⟩⟩) (λi w j B Q' E' hB hi F hk hg L t9 E=>?_) (λC' tk F hk=>?_)
 .obtain⟨m,n,t,g,S⟩:=F
  have dP:i<c.length:=by have:=(Me.mp hi).1;simpa using this
  have hw:c[i]?=Go w:=by simpa using hi
  have M:f[i]?=Go f[i]:=jZ (by omega);have gH:l[i]?=Go l[i]:=jZ (by omega);obtain⟨w',w1,w2⟩:=v.get M;rw[hw]at w1;cases w1;have J:Rep X.K H O l[i] f[i]:=r.views gH M;have o6:ok l[i]=IN:=kT.mp T _ (yb _);obtain⟨h1,g1,dr1,W,os1⟩:=j;dsimp only at hk hg L t9 E S;subst hg;subst L;subst t9;have I':Inv X pins σ H {s with heap:=h1,toks:=W}:=I.kept hk;refine add I' S (Qt _ _ (Q0 T i) rfl) J w2 o6 ?_ (λ_=>by omega) λrr h2 fJ y n' t' fR a1 a2 Z=>?_
  .have:=Qs (l.drop i)<|oj<|l.take i;unfold oj at this hz ⊢;rw[<-G6,vS]at this;omega
  rw[<-ae6 gH]at Z;exact E rr h2 fJ a1 a2 ⟨y,n',t',fR,Z⟩
 obtain⟨m,n,t,g,S⟩:=F;have R:c.toArray.size=l.length:=by simp;omega
 rw[R,List.take_length]at S;refine⟨.ref s.heap.objs.size,upd H s.heap.objs.size<|.V0<|g.map hv,I.laid hk (jT _) S.IL,rfl,?_⟩;refine G s.heap.objs.size _ U (md U) ?_;exact S.Q2 (λp P=>Rep.mono (λb o e _=>md U b o e) (λb hb z=>z.elim id λz=>absurd (z▸U) hb)<|S.rep p P) jk
def aga(j:X.calm=J)(m:X.A.units+90<aT):lh X (.type "set") (EH X.K<|g1 TC):=qI λpins s σ H x u Q O d z T n np hd f G=>by
 cases d with
 |lst l=>obtain⟨⟨a,b⟩,rfl⟩:=jy f;exact NI j T n hd (.inl C) a (zR (by have:=CN l [];simpa[oj]using this) b) G λT S g c rw i h e k=>A2.add T S g (.inl c) c rw i h (e m) k
 |tup l=>obtain⟨⟨a,b⟩,rfl⟩:=jy f;exact NI j T n hd (.inr C) a (zR (by have:=CN l [];simpa[oj]using this) b) G λT S g c rw i h e k=>A2.add T S g (.inl c) c rw i h (e m) k
 |_=>cases f
def XD:aF "set"=Y (.type "set"):=by decide+kernel
def Xg(I:Inv X pins σ H s){J' n t l}(S:A2 X H O s.heap a g J' n t l)(q:g.all BC=J)(hd:kx X.K H O d v)(z:RelV v u)(k:BC d=J)(M:A.units+60<aT)
  (h:∀c,Q (g.any (D.P1 · d)) {s with toks:=c}):af (am X.prog X.w) A (CL a u) Q E s:=by
 obtain⟨F,Y⟩:=S.KQ
 have T:Rep X.K H O d v:=by
  obtain⟨ld,rfl⟩:=qu k;rcases hd with hd|⟨_,_,hd⟩
  .exact hd
  exact hd.elim
 unfold CL;refine mF<|iz<|PU 50 I d v u O A E _ T z (ui k) (by have:=rP k;lia) (by lia) λc U=>?_;have B:Inv X pins σ H {s with toks:=c}:=I.kept (h':=s.heap) (t':=c) λ_ _ e=>e;obtain⟨b,rfl,C⟩:=A2.LF (s:={s with toks:=c}) B S q hd z k M;have y:∀p∈l,p.1∈g:=λp r=>S.perm.mem_iff.mp<|qJ r;refine iz<|TT.aaB C S.is.at_ (λi m j=>?_) λL=>?_
 .have:g.any (D.P1 · d)=J:=by
   cases o:l[i]? with
   |none=>rw[o]at j;cases j
   |some p=>rw[o]at j;exact KC.mpr ⟨p.1,y p<|mY o,j⟩
  have f:=h c;rw[this]at f;exact iJ f
 have:g.any (D.P1 · d)=IP:=by rw[j1];intro x N;have G:=S.perm.mem_iff.mpr N;obtain⟨p,r,rfl⟩:=iR G;obtain⟨i,m⟩:=sJ r;have:=L i (by have:=(wJ.mp m).1;lia);rw[m]at this;simpa using this
 have f:=h c;rw[this]at f;exact iJ f
def ae7(T:Inv X pins σ H s){g n t l}(S:A2 X H O s.heap a f g n t l)(c:f.all BC=J)(hd:kx X.K H O d v)(j:RelV v u)(i:BC d=J)(k:A.units+61<aT)
  (h:∀e,Q (f.any (D.P1 · d)) {s with toks:=e}):af (am X.prog X.w) A (wv (.ref a) u) Q E s:=by
 have b:=S.is.typeIs;unfold wv;refine mF<|iz<|vJ b Md.lookup ?_;change af _ _ (if(Y (m5 "set.__contains__")==Y ay)=J then _ else _) _ E s;rw[je<|by rw[r8];exact kY];refine iz<|wpAny_callSpecialUnlessNone?_slot (name:=bz "__contains__") b Md<|oF Md b entry_set_contains ?_<|PySem.F.args_set_contains_2 _ _;unfold bb.«frozenset.__contains__» cg;simp only[zS,tV];unfold bW l9;refine iz<|iJ ?_;dsimp only;refine iz<|iJ ?_;dsimp only;refine iz<|wpAny_tryCatch ?_;refine Xg T S c hd j i (by show A.units+1+60<aT;omega) λe=>?_;exact iJ ⟨_,rfl,tw<|h e⟩
def Lk(d e:D):Option Bool:=match e with
 |.Q2 .set [] a=>if a.all BC=J/\BC d=J then Y (a.any (D.P1 · d))else I
 |_=>inD d e
def Em(d e:D):Option (D×Bool):=(Lk d e).map λb=>(.bl (!b),U)
def aeV(B:X.A.units+62<aT):AD X (aA .NotIn) (rD X.K Em):=by
 intro pins s σ H x y v u Q T j k h;obtain⟨O,d,e,z,np,h1,g,m,G⟩:=h;obtain⟨b,c,rfl⟩:=jB m;by_cases i:∃f,e=.Q2 .set [] f
 .obtain⟨f,rfl⟩:=i;obtain⟨⟨o,hd⟩,rfl⟩:=jy (show(if f.all BC=J/\BC d=J then Y (f.any (D.P1 · d))else I)=Y b from c);obtain⟨a,N,rfl,q,r⟩:=pO g;cases k;obtain⟨w,n,t,l,S⟩:=q.Ij T r;change af _ _ (wv (.ref a) v>>=λb=>pure<|ey (!b)) _ _ s;refine iz<|ae7 T S o h1 j hd (by lia) λp=>?_;exact iJ ⟨.bl _,H,T.kept (h':=s.heap) (t':=p) λ_ _ e=>e,rfl,G.bl⟩
 have:inD d e=Y b:=by
  unfold Lk at c;split at c
  .exact absurd ⟨_,rfl⟩ i
  exact c
 exact D3 J (by lia) pins s σ H x y v u Q T j k ⟨O,d,e,b,h1,g,this,G.bl⟩
end
def NC(a:l.Perm m)(b:∀x∈l,D.pr x=J):nN A5 l=nN A5 m:=NA (λx c=>b x<|a.mem_iff.mpr c) ((kJ A5 l).trans a)<|ot l
def afF{k:Nat}{l:List D}(h:D7 k l):nF l=J:=by
 unfold nF;rw[vM];right
 cases l with
 |nil=>rfl
 |cons x m=>simp only[lR,kT,oW];refine⟨⟨by rw[h.hd x ky];rfl,λy a=>⟨⟨?_,h.pr y a⟩,h.dp y a⟩⟩,λy a z b=>h.cm y a z b⟩;rw[h.hd x ky,h.hd y a];simp
def aeD(b:l.Perm m)(h:nF m=J):nF l=J:=by
 rcases Cm h with c|⟨k,B⟩
 .unfold nF;rw[vM];left;rw[b.length_eq];simpa using c
 exact afF (k:=k) ⟨λx a=>B.hd x<|b.mem_iff.mp a,λx a=>B.pr x<|b.mem_iff.mp a,λx a=>B.dp x<|b.mem_iff.mp a,λx a y d=>B.cm x (b.mem_iff.mp a) y<|b.mem_iff.mp d⟩
def uq(d:D):Option (D×Bool):=match d with
 |.Q2 .set [] a=>if a.all BC=J then kM a else I
 |_=>rW d
section
variable {X:Cx}
def yK{d:Type}{c:Prop}[Decidable c]{a:Option d}{b:d}(h:(if c then a else I)=Y b):c/\a=Y b:=by
 split at h
 .exact⟨‹_›,h⟩
 cases h
def afD{c:jw}{s:iB}{B:L2.St}{H:Hp}{x:V}{u:iI}{Q:VK}{O:SS}{i:List D}{z:D×Bool}(N:X.calm=IN)(Y:X.A.units+62<aT)(I:Inv X c B H s)(ru:RelV x u)(np:∀p,¬Ow (H p)->¬O p)(hd:kx X.K H O (.Q2 .set [] i) x)(j:∀x∈i,D.pr x=IN)(g:kM i=Go z)(G:Gen X.K H O z Q):
  af (am X.prog X.w) X.A (call (.builtin "sorted") [u]) (EP X c B Q) X.xe s:=by
 obtain⟨a,us,rfl,q,r⟩:=pO hd;cases ru;obtain⟨f,n,t,l,S⟩:=q.Ij I r;obtain⟨C,bT⟩:=S.KQ;have wp:=TT.Gw X.w a n f;obtain⟨z',h,v⟩:=yZ wp S.par;obtain⟨b,o,rfl⟩:=ny hv v _ rfl;have y:YP X.K H O (b.map (·.1)) (b.map (·.2)):=YP.Jc λp j=>S.rep p<|o.mem_iff.mp j
 have R:Vals (b.map (·.2)) ((TT.rH X.w a n f).toList.map (·.2)):=by
  clear v o y wp;generalize (TT.rH X.w a n f).toList=m at h;revert h;generalize d:b.map hv=zz;intro h
  induction h generalizing b with
  |nil=>
    have:b=[]:=by simpa using d
    subst this;exact .nil
  |cons r t ih=>
   cases b with
   |nil=>simp at d
   |cons p b=>simp at d;rw[ku,ku];refine .cons ?_<|ih b d.2;have:=r.2;rw[<-d.1]at this;exact this
 have e:(b.map (·.1)).Perm i:=(o.map (·.1)).trans S.perm
 have E:kM (b.map (·.1))=Go z:=by unfold kM at g ⊢;obtain⟨⟨h1,J⟩,rfl⟩:=jy g;rw[iQ ⟨aeD e h1,by rw[e.length_eq];exact J⟩,NC e λx F=>j x<|e.mem_iff.mp F]
 have U:X.A.handled=Ix:=I.ok.hd N
 have d:f.size<=sizeLine:=by unfold kM at g;rw[C];exact(jy g).1.2
 exact uL Y I y R E G λQ' Z W L M=>TT.T5 (by rw[L];exact U) S.is d λT P k=>M T P k
def aed(m:X.calm=J)(k:X.A.units+62<aT):lh X (.builtin "sorted") (EH X.K<|g1 uq):=qI λc s o N x u Q O d z T l np hd h G=>by
 by_cases i:∃e,d=.Q2 .set [] e
 .obtain⟨e,rfl⟩:=i;obtain⟨f,g⟩:=yK (show(if e.all BC=J then kM e else I)=Y z from h);exact afD m k T l np hd (λx n=>ui<|kT.mp f x n) g G
 have g:g1 rW [d]=Y z:=by
  have:uq d=rW d:=by
   unfold uq;split
   .exact absurd ⟨_,rfl⟩ i
   rfl
  show rW d=Y z;rw[<-this];exact h
 exact xJ k c s o N [x] [u] Q T (.cons l .nil) ⟨O,[d],z,np,rfl,(λj p q a b=>by
  cases j with
  |zero=>simp at a b;subst a;subst b;exact hd
  |succ j=>simp at a),g,G⟩
end
end PX
namespace L2
section
variable {κ:Type}[DecidableEq κ]
def vf(a:List (κ×V))(k:κ):Option V:=(a.find? λb=>decide<|b.1=k).map (·.2)
def we(a:List (κ×V))(k:κ)(v:V):List (κ×V):=
 if(a.any λb=>decide<|b.1=k)=J then a.map (λb=>if b.1=k then(b.1,v)else b)else a++[(k,v)]
theorem wV{p:κ×V}{r:List (κ×V)}{k:κ}(e:p.1=k):vf (p::r) k=Y p.2:=by simp[vf,ya,e]
theorem ue{p:κ×V}{r:List (κ×V)}{k:κ}(e: ¬p.1=k):vf (p::r) k=vf r k:=by simp[vf,ya,e]
theorem Fd(k:κ):∀a:List (κ×V),(a.any λb=>decide<|b.1=k)=(vf a k).isSome
 |[]=>rfl
 |p::r=>by
  rw[tJ];by_cases e:p.1=k
  .simp only[wV e,lO e,Bool.true_or,gl]
  rw[ue e,lb e,Bool.false_or];exact Fd k r
theorem za(a:List (κ×V))(k:κ)(v:V):(we a k v).length<=IX a+1:=by
 unfold we;split
 .rw[jU];lia
 rw[oG,mX,vI];lia
theorem En.B6{o:Option V}{u:Option iI}(r:En o u):o.isSome=u.isSome:=by
 cases o with
 |none=>cases u with
  |none=>rfl
  |some _=>exact(show False from r).elim
 |some _=>cases u with
  |none=>exact(show False from r).elim
  |some _=>rfl
theorem KV.val{kvs:List (κ×V)}{d:List (κ×iI)}(r:KV kvs d)(k:κ):En (vf kvs k) (fj d k):=by
 unfold KV at r
 induction r with
 |nil=>exact bD
 | @cons p q i c h t g=>
  obtain⟨h1,f⟩:=h;by_cases e:p.1=k
  .have a:q.1=k:=h1.symm.trans e;have b:fj (q::c) k=Y q.2:=by simp[fj,ya,a]
   rw[wV e,b];exact f
  have a: ¬q.1=k:=λz=>e<|h1.trans z;have b:fj (q::c) k=fj c k:=by simp[fj,ya,a]
  rw[ue e,b];exact g
theorem KV.any{a:List (κ×V)}{vs:List (κ×iI)}(r:KV a vs)(k:κ):(a.any λb=>decide<|b.1=k)=vs.any λb=>decide (b.1=k):=by
 unfold KV at r
 induction r with
 |nil=>rfl
 |cons h t c=>rw[tJ,tJ,c,h.1]
theorem KV.KL{b:List (κ×V)}{c:List (κ×iI)}(r:KV b c)(k:κ){y:V}{u:iI}(g:RelV y u):
  KV (b.map λa=>if a.1=k then(a.1,y)else a) (c.map λa=>if a.1=k then(a.1,u)else a):=by
 unfold KV at r ⊢
 induction r with
 |nil=>exact .nil
 | @cons p q i j h t f=>
  rw[ku,ku];refine .cons ?_ f;obtain⟨h1,d⟩:=h;by_cases e:p.1=k
  .rw[iQ e,iQ<|h1.symm.trans e];exact⟨h1,g⟩
  rw[je e,je λz=>e<|h1.trans z];exact⟨h1,d⟩
theorem KV.put{a:List (κ×V)}{b:List (κ×iI)}(r:KV a b)(k:κ){y:V}{u:iI}(c:RelV y u):KV (we a k y) (stored b k u):=by
 unfold we stored;rw[r.any k];by_cases e:(b.any λd=>decide<|d.1=k)=J
 .rw[iQ e,iQ e];exact r.KL k c
 rw[je e,je e];exact Paired.snoc r ⟨rfl,c⟩
theorem KV.length{a:List (κ×V)}{vs:List (κ×iI)}(r:KV a vs):(IX a)=(IX vs):=Ak r
end
def AU{P:jh}{w:iY}{k:Key}{u:iI}(r:RelV (kV k) u):(mf P w).is k u=J:=by
 cases k with
 |inl i=>obtain⟨t,e⟩:=(show ∃t,u=hX i t from r);subst e;exact aez P w i t
 |inr x=>obtain⟨t,e⟩:=(show ∃t,u=hV x t from r);subst e;exact aey P w x t
theorem CD{P:jh}{w:iY}:∀{a:List Key}{b:jS},Vals (a.map kV) b->ItemsAre (mf P w) a b
 |[],_,r=>by rw[oZ]at r;cases r;exact .nil
 |k::a,_,r=>by
  rw[ku]at r
  cases r with
  |cons h t=>exact .cons (AU h)<|CD t
abbrev KT(T:Hp):List (List Key×V)->List (List Key×iw×iI)->Prop:=Paired λp q=>p.1=q.1/\T q.2.1=Y (.tup<|p.1.map kV)/\RelV p.2 q.2.2
def KT.val{T:Hp}{kvs:List (List Key×V)}{d:List (List Key×iw×iI)}(r:KT T kvs d)(k:List Key):En (vf kvs k) ((f5 d k).map (·.2)):=by
 induction r with
 |nil=>exact bD
 | @cons p q i c h t g=>
  obtain⟨h1,_,f⟩:=h;by_cases e:p.1=k
  .have a:q.1=k:=h1.symm.trans e;have b:f5 (q::c) k=Y q.2:=by simp[f5,ya,a]
   rw[wV e,b];exact f
  have a: ¬q.1=k:=λz=>e<|h1.trans z;have b:f5 (q::c) k=f5 c k:=by simp[f5,ya,a]
  rw[ue e,b];exact g
def KT.KL{T:Hp}{a:List (List Key×V)}{d:List (List Key×iw×iI)}(r:KT T a d)(k:List Key){y:V}{u:iI}(i:RelV y u):
  KT T (a.map λb=>if b.1=k then(b.1,y)else b) (d.map<|putAt k u):=by
 induction r with
 |nil=>exact .nil
 | @cons p q j l h t g=>
  rw[ku,ku];refine .cons ?_ g;obtain⟨h1,c,f⟩:=h;unfold putAt;by_cases e:p.1=k
  .rw[iQ e,iQ<|h1.symm.trans e];exact⟨h1,c,i⟩
  rw[je e,je λz=>e<|h1.trans z];exact⟨h1,c,f⟩
def KT.put{T:Hp}{a:List (List Key×V)}{c:List (List Key×iw×iI)}(r:KT T a c)(k:List Key){b:iw}{y:V}{u:iI}(f:T b=Y (.tup<|k.map kV))(d:RelV y u):
  KT T (we a k y) (storedH c k b u):=by
 have e:(a.any λg=>decide<|g.1=k)=(f5 c k).isSome:=by rw[Fd,(r.val k).B6,GG]
 unfold we storedH;rw[e];by_cases q:(f5 c k).isSome=J
 .rw[iQ q,iQ q];exact r.KL k d
 rw[je q,je q];exact Paired.snoc r ⟨rfl,f,d⟩
def KT.keeps{T c:Hp}{a:List (List Key×V)}{d:List (List Key×iw×iI)}(r:KT T a d)(f:∀b e,T b=Y (.tup e)->c b=Y (.tup e)):KT c a d:=
 Paired.LJ r λ_ _ z=>⟨z.1,f _ _ z.2.1,z.2.2⟩
section
variable {P:jh}{w:iY}{H:Hp}{h:jb}{a:iw}
def UD{u:HO}(ok:BW P w H h)(e:Rd H a u):T2 P w H h a u:=e.ok ok
def Kk{b:List (Key×V)}(ok:BW P w H h)(e:Rd H a (.dK b)):(IX b)<=sizeLine/\(a==b3)=U/\∃c,KV b c/\h.DictOf (mf P w) a c:=
 show T2 P w H h a (.dK b)from UD ok e
def Va{b:List (Key×V)}(ok:BW P w H h)(e:H a=Y (.dK b)):(IX b)<=sizeLine/\(a==b3)=U/\∃c,KV b c/\h.DictOf (mf P w) a c:=Kk ok<|.inl e
def wq{c:List Key}(ok:BW P w H h)(e:H a=Y (.tup<|c.map kV)):(eG<|mf P w).is h c a:=by
 obtain⟨_,b,r,o,h1,d,⟨n,f⟩,_⟩:=(show T2 P w H h a (.tup<|c.map kV)from ok a _ e)
 exact⟨o,b.toArray,n,h1,d,f,by simpa using CD r⟩
def Kj{b:List (List Key×V)}(ok:BW P w H h)(e:Rd H a (.dT b)):(IX b)<=sizeLine/\(a==b3)=U/\
  ∃d,KT H b d/\h.DictOfH (eG<|mf P w) a d:=by
 obtain⟨z,y,d,r,o,i,g,h1,j,k,n,s⟩:=(show T2 P w H h a (.dT b)from UD ok e)
 refine⟨z,y,d,r,o,i,g,h1,j,k,n,λx c=>?_,s⟩
 have all:∀{l:List (List Key×V)}{m:List (List Key×iw×iI)},KT H l m->∀x∈m,(eG<|mf P w).is h x.1 x.2.1:=by
  intro l m q
  induction q with
  |nil=>intro x c;exact nomatch c
  | @cons p q v A f t u=>
   intro x c;rcases oq.mp c with e|c
   .subst e;exact wq ok (by rw[<-f.1];exact f.2.1)
   exact u x c
 exact all r x c
def aaJ{b:List (List Key×V)}(ok:BW P w H h)(e:H a=Y (.dT b)):(IX b)<=sizeLine/\(a==b3)=U/\
  ∃c,KT H b c/\h.DictOfH (eG<|mf P w) a c:=Kj ok<|.inl e
end
def Bz(T:Hp)(a:iw)(y:V)(r:Option V):Prop:=
 (∃c k,Rd T a (.dK c)/\y=kV k/\r=vf c k)\/∃c k b,Rd T a (.dT c)/\y=.ref b/\T b=Y (.tup<|k.map kV)/\r=vf c k
def Er(T:Hp)(a:iw)(y v:V)(c:Hp):Prop:=
 (∃kvs k,T a=Y (.dK kvs)/\y=kV k/\(IX kvs)<sizeLine/\c=upd T a (.dK<|we kvs k v))\/
 ∃kvs k b,T a=Y (.dT kvs)/\y=.ref b/\T b=Y (.tup<|k.map kV)/\(IX kvs)<sizeLine/\c=upd T a (.dT<|we kvs k v)
def Bz.k{T:Hp}{a:iw}{kvs:List (Key×V)}{k:Key}(e:T a=Y (.dK kvs)):Bz T a (kV k) (vf kvs k):=.inl ⟨kvs,k,.inl e,rfl,rfl⟩
def Bz.t{T:Hp}{a b:iw}{kvs:List (List Key×V)}{k:List Key}(e:T a=Y (.dT kvs))(c:T b=Y (.tup<|k.map kV)):Bz T a (.ref b) (vf kvs k):=.inr ⟨kvs,k,b,.inl e,rfl,c,rfl⟩
def Er.k{T:Hp}{a:iw}{kvs:List (Key×V)}{k:Key}{v:V}(e:T a=Y (.dK kvs))(b:(IX kvs)<sizeLine):Er T a (kV k) v (upd T a<|.dK<|we kvs k v):=.inl ⟨kvs,k,e,rfl,b,rfl⟩
def Er.t{T:Hp}{a b:iw}{kvs:List (List Key×V)}{k:List Key}{v:V}(e:T a=Y (.dT kvs))(c:T b=Y (.tup<|k.map kV))(d:(IX kvs)<sizeLine):
  Er T a (.ref b) v (upd T a<|.dT<|we kvs k v):=.inr ⟨kvs,k,b,e,rfl,c,d,rfl⟩
section
variable {X:Cx}{d:jw}{f:St}{H:Hp}{s:iB}{a:iw}{y v:V}{u r:iI}{o:Option V}{A:iU}{E:jr}
def Inv.big(T:Inv X d f H s):b3<s.heap.objs.size:=by have h:ap<s.heap.objs.size:=(T.mod.glob.keeps T.bk).lt;exact Ae (by decide) h
def CP{Q:jr}(O:A.units+1<aT)(N:Inv X d f H s)(g:Bz H a y (Y v))(t:RelV y u)(h:∀i x,Inv X d f H x->RelV v i->Q i x):
  af (am X.prog X.w) A (cZ (.ref a) u) Q E s:=by
 rcases g with⟨n,k,e,j,l⟩|⟨n,k,b,e,j,M,l⟩
 .subst j;obtain⟨z,hd,T,c,dd⟩:=Kk N.hok e;obtain⟨i,m,q⟩:=En.some_of (v:=v) (o:=fj T k) (by rw[l];exact c.val k);exact wpAny_getItem_of (AU t) dd.mapOf m<|h i _ (N.tok _) q
 subst j;cases(show u=ca b from t);obtain⟨z,hd,G,c,dd⟩:=Kj N.hok e;obtain⟨i,m,q⟩:=En.some_of (v:=v) (o:=(f5 G k).map (·.2)) (by rw[l];exact c.val k);obtain⟨p,L,B⟩:=dr.mp m;refine wpAny_getItem_heap (xZ O) (wq N.hok M) dd L ?_;rw[B];exact h i _ (N.tok _) q
def aaL{Q:jr}(t:A.units+1<aT)(T:Inv X d f H s)(g:Bz H a y o)(m:RelV y u)(h:∀n,Inv X d f H n->Q (.bool o.isSome) n):
  af (am X.prog X.w) A (aA .In u<|.ref a) Q E s:=by
 rcases g with⟨j,k,e,i,l⟩|⟨j,k,b,e,i,p,l⟩
 .subst i;obtain⟨z,hd,x,c,dd⟩:=Kk T.hok e;refine B4 (AU m) hd dd.mapOf ?_;rw[<-(c.val k).B6,<-l];exact h _ (T.tok _)
 subst i;cases(show u=ca b from m);obtain⟨z,hd,B,c,dd⟩:=Kj T.hok e;refine wT (xZ t) (wq T.hok p) hd dd ?_;have q:=(c.val k).B6;rw[GG]at q;rw[<-q,<-l];exact h _ (T.tok _)
def Km{Q:jr}(t:A.units+1<aT)(T:Inv X d f H s)(g:Bz H a y o)(m:RelV y u)(h:∀n,Inv X d f H n->Q (.bool (!o.isSome)) n):
  af (am X.prog X.w) A (aA .NotIn u<|.ref a) Q E s:=by
 rcases g with⟨j,k,e,i,l⟩|⟨j,k,b,e,i,p,l⟩
 .subst i;obtain⟨z,hd,x,c,dd⟩:=Kk T.hok e;refine vv (AU m) hd dd.mapOf ?_;rw[<-(c.val k).B6,<-l];exact h _ (T.tok _)
 subst i;cases(show u=ca b from m);obtain⟨z,hd,B,c,dd⟩:=Kj T.hok e;refine ss (xZ t) (wq T.hok p) hd dd ?_;have q:=(c.val k).B6;rw[GG]at q;rw[<-q,<-l];exact h _ (T.tok _)
def uX{h':jb}{t':Nat}{c:HO}(T:Inv X d f H s)(j:LU (H a))(i:aL a s.heap h')(h:∃q,h'.get? a=Y q)(new:T2 X.prog X.w (upd H a c) h' a c):
  Inv X d f (upd H a c) {s with heap:=h',toks:=t'}:=
 T.write (x:=a) (e:=a) j (.inl C) (λb q g z=>(i.2 b g).trans z) h new
def Xt{P:jh}{w:iY}{h:Hp}{g:jb}{b:List (Key×V)}{e:List (Key×iI)}(z:(IX b)<=sizeLine)(hd:(a==b3)=U)(c:KV b e)(dd:g.DictOf (mf P w) a e):
  T2 P w h g a (.dK b):=⟨z,hd,e,c,dd⟩
def yT{L:Hp}{Q:Unit->iB->Prop}(hu:A.units+1<aT)(I:Inv X d f H s)(g:Er H a y v L)(M:RelV y u)(J:RelV v r)(h:∀N,Inv X d f L N->Q () N):
  af (am X.prog X.w) A (g9 (.ref a) u r) Q E s:=by
 rcases g with⟨i,k,e,t,l,p⟩|⟨i,k,b,e,t,O,l,p⟩
 .subst t p;obtain⟨z,hd,S,j,dd⟩:=Va I.hok e;have C:S.length<=sizeLine:=by rw[<-j.length];exact z
  have x:(we i k v).length<=sizeLine:=by have:=za i k v;lia
  refine wpAny_setItem_pairs (hsz:=C) (AU M) dd λG m B=>h _ ?_;have R:∃q,G.get? a=Go q:=let⟨q,_,_,n,_⟩:=m;⟨q,n⟩
  exact uX I (by rw[e];exact bD) B R<|Xt x hd (j.put k J) m
 subst t p;cases(show u=ca b from M);obtain⟨z,hd,V,j,dd⟩:=aaJ I.hok e;have C:V.length<=sizeLine:=by rw[<-Ak j];exact z
 have x:(we i k v).length<=sizeLine:=by have:=za i k v;lia
 refine wpAny_setItem_heap (hsz:=C) (xZ hu) (wq I.hok O) dd λG m B=>h _ ?_;obtain⟨q,Y,U,n,D,F,K,_,P⟩:=m;refine uX I (by rw[e];exact bD) B ⟨q,n⟩ ⟨x,hd,_,(j.put k O J).keeps λc W T=>?_,q,Y,U,n,D,F,K,P⟩;rw[jq<|US T e (λz=>nomatch z)];exact T
end
def Qo{P:jh}{w:iY}{T:Hp}(h:jb)(a:b3<h.objs.size):T2 P w T (h.push {cls:=.type "dict",data:=.dict #[]}) h.objs.size (.dK []):=
 ⟨mD _,Bw.mpr<|tD<|kz a,[],.nil,Heap.DictOf.new h⟩
def VF:TE:=λ_ T Q=>∀p,T p=I->Q (.ref p) (upd T p<|.dK [])
section
variable {X:Cx}{b:bA}
def OA:PE X (.Dict [] [] b) VF:=λc s d O Q T h=>wpAny_Dict_empty ⟨.ref s.heap.objs.size,_,T.laid (a:=s.heap.objs.size) (o:=.dK []) (t':=s.toks) (λ_ _ q=>jX _ q) (jT _)<|Qo s.heap T.big,rfl,h _ (T.hok.fresh<|jT _)⟩
end
end L2
namespace PX
open L2 PySem.SeqAt TS
noncomputable def wt:D->Option Key
 |.int i=>Y<|.inl i
 |.str x=>Y<|.inr x
 |_=>I
def Px:List D->Option (List Key)
 |[]=>Y []
 |d::l=>(wt d).bind λk=>(Px l).map (k:: ·)
def Ir:D->Option (List Key)
 |.tup l=>Px l
 |_=>I
def pF(h:wt d=Y k):d=lZ k:=by
 cases d<;>simp[wt]at h<;>subst h<;>rfl
def Pw:∀{l:List D}{a:List Key},Px l=Y a->l=a.map lZ:=by
 intro e
 induction e with
 |nil=>intro a h;cases h;rfl
 |cons d l c=>intro a h;rw[Px]at h;obtain⟨k,h1,h⟩:=iE h;obtain⟨m,b,rfl⟩:=jB h;rw[pF h1,c b];rfl
def uk(h:Ir d=Y a):d=.tup (a.map lZ):=by
 cases d with
 |tup l=>rw[Pw (show Px l=Y a from h)]
 |_=>cases h
def uC(a b:Key):D.P1 (lZ a) (lZ b)=decide (a=b):=by
 cases a with
 |inl i=>cases b with
  |inl j=>simp only[lZ,D.P1,Pu]
  |inr y=>simp only[lZ,D.P1,Pr]
 |inr x=>cases b with
  |inl j=>simp only[lZ,D.P1,Pq]
  |inr y=>simp;rfl
theorem uV:∀a b:List Key,D.A9 (a.map lZ) (b.map lZ)=decide (a=b)
 |[],[]=>by simp[D.A9]
 |[],_::_=>by simp[D.A9]
 |_::_,[]=>by simp[D.A9]
 |x::a,y::b=>by simp only[ku];rw[D.A9,uC,uV a b];simp
def mZ:List D->List D->D->Option D
 |a::b,v::c,k=>if D.P1 a k=J then Y v else mZ b c k
 |_,_,_=>I
def Ay:List D->List D->D->D->List D
 |b::c,v::a,k,w=>(if D.P1 b k=J then w else v)::Ay c a k w
 |_,a,_,_=>a
def yD(a b:List D)(k w:D):List D×List D:=if a.any (D.P1 · k)=J then(a,Ay a b k w)else(a++[k],b++[w])
def um(a:List D)(k:D):Bool:=((wt k).isSome&&a.all λx=>(wt x).isSome)||((Ir k).isSome&&a.all λx=>(Ir x).isSome)
section
variable {K:jd}{H:Hp}{O:SS}
def Fu(h:Rep K H O (lZ k) v):v=kV k:=by
 cases k with
 |inl i=>exact Rep.int h
 |inr x=>exact Rep.str h
def afM:∀{b:List Key}{a:List V},YP K H O (b.map lZ) a->a=b.map kV:=by
 intro e
 induction e with
 |nil=>intro a h;rw[oZ,YP]at h;exact h
 |cons k b d=>intro a h;rw[ku,YP]at h;obtain⟨v,r,rfl,h1,c⟩:=h;rw[Fu h1,d c];rfl
def qX(hk:wt d=Y k)(h:kx K H O d v):v=kV k:=by
 rw[pF hk]at h;rcases h with h|⟨a,rfl,h⟩
 .exact Fu h
 cases k<;>exact h.elim
def qW(hk:Ir d=Y c)(h:kx K H O d v):∃b,v=.ref b/\H b=Y (.tup<|c.map kV):=by
 rw[uk hk]at h;rcases h with h|⟨a,rfl,h⟩
 .obtain⟨b,e,rfl,q,r⟩:=h.tup;rw[afM r]at q;exact⟨b,rfl,q.1⟩
 exact h.elim
def Zn(a b:List Key):D.P1 (.tup<|a.map lZ) (.tup<|b.map lZ)=decide (a=b):=by rw[D.P1,uV]
theorem AQ{j:Type}[DecidableEq j]{f:j->D}{k:j}(l:∀a b,D.P1 (f a) (f b)=decide (a=b)):∀{c:List (j×V)}{g:List D},YP K H O g (c.map (·.2))->(∀d,mZ (c.map λp=>f p.1) g (f k)=Y d->∃v,vf c k=Y v/\Rep K H O d v)/\(mZ (c.map λp=>f p.1) g (f k)=I->vf c k=I)
 |[],g,_=>⟨λd h=>by cases g<;>simp[mZ]at h,λ_=>rfl⟩
 |(i,v)::c,[],h=>by rw[ku,YP]at h;cases h
 |(i,v)::c,t::g,h=>by
  rw[ku,YP]at h;obtain⟨w,r,e,h1,m⟩:=h;obtain⟨rfl,rfl⟩:=vP e;obtain⟨q,s⟩:=AQ l m;simp only[ku,mZ,l];by_cases hk:i=k
  .simp only[hk,nr];exact⟨λd h=>by cases h;exact⟨v,wV (p:=(k,v)) C,h1⟩,λh=>by cases h⟩
  simp only[hk,kW,mn];refine⟨λd h=>?_,λh=>?_⟩
  .obtain⟨u,n,o⟩:=q d h;exact⟨u,by rw[ue (p:=(i,v)) hk];exact n,o⟩
  rw[ue (p:=(i,v)) hk];exact s h
end
section
variable {P:jh}{w:iY}{H H':Hp}{h:jb}{a:iw}
def Vb(x:T2 P w H h a (.dT [])):T2 P w H' h a (.dK []):=by
 obtain⟨z,y,k,r,o,b,c,h1,d,f,g,j⟩:=x;cases r
 have:b= #[]:=by
  have:b.toList=[]:=by simpa using g
  exact X4.mp this
 subst this;refine⟨z,y,[],.nil,o,#[],c,h1,d,f,?_,?_,lu⟩
 .first|exact λe i=>by simp at i|(intro;simp)
 first|exact .nil|trivial|simp
def Vc(x:T2 P w H h a (.dK [])):T2 P w H' h a (.dT []):=by
 obtain⟨z,y,n,r,o,c,d,h1,f,g,k,b,m⟩:=x;cases r
 have:c= #[]:=by
  have j:(IX c.toList)=0:=by
   first
    |simpa using (IX b)
    |simpa using(Ak b)
    |(
      cases i:c.toList with
      |nil=>rfl
      |cons e l=>rw[i]at b;cases b)
  exact X4.mp<|M0.mp j
 subst this;exact⟨z,y,[],.nil,o,#[],d,h1,f,g,rfl,lu⟩
end
section
variable {X:Cx}{g:jw}{i:L2.St}{H:Hp}{s:iB}
def afY{A:iU}{E:jr}(T:Inv X g i H s){H':Hp}{a:iw}{k:Key}{u:iI}{Q:jr}(x:T2 X.prog X.w H' s.heap a (.dK []))(d:RelV (kV k) u)(b:Bool)(h:∀e,Inv X g i H e->Q (.bool b) e):
  af (am X.prog X.w) A (aA (if b=J then .NotIn else .In) u<|.ref a) Q E s:=by
 obtain⟨z,hd,f,c,dd⟩:=x;cases c
 cases b
 .exact B4 (AU d) hd dd.mapOf<|h _ (T.tok _)
 exact vv (AU d) hd dd.mapOf<|h _ (T.tok _)
def afX{A:iU}{E:jr}(e:A.units+1<aT)(T:Inv X g i H s){H':Hp}{a b:iw}{k:List Key}{Q:jr}(x:T2 X.prog X.w H' s.heap a (.dT []))(d:H b=Y (.tup<|k.map kV))(c:Bool)(h:∀f,Inv X g i H f->Q (.bool c) f):
  af (am X.prog X.w) A (aA (if c=J then .NotIn else .In) (.ref b)<|.ref a) Q E s:=by
 obtain⟨z,hd,u,r,o,l,j,h1,m,n,p,q⟩:=x;cases r;have dd:s.heap.DictOfH (eG<|mf X.prog X.w) a []:=⟨o,l,j,h1,m,n,p,(λx (t:x∈[])=>by simp at t),q⟩
 cases c
 .exact wT (xZ e) (wq T.hok d) hd dd<|h _ (T.tok _)
 exact ss (xZ e) (wq T.hok d) hd dd<|h _ (T.tok _)
def rA(h:um d k=J):(∃e,wt k=Y e/\∀x∈d,∃c,wt x=Y c)\/(∃f,Ir k=Y f/\∀x∈d,∃c,Ir x=Y c):=by
 unfold um at h;rw[vM,lR,lR,kT,kT]at h;rcases h with⟨h1,a⟩|⟨h1,a⟩
 .exact .inl ⟨_,(Mb.mp h1).choose_spec,λx b=>Mb.mp<|a x b⟩
 exact .inr ⟨_,(Mb.mp h1).choose_spec,λx b=>Mb.mp<|a x b⟩
def DM{a:List Key}{c:Key}(h:wt (.tup<|a.map lZ)=Y c):False:=by cases h
def AS(h:Ir (lZ k)=Y c):False:=by cases k<;>cases h
def aaK(B:A.units+1<aT)(I:Inv X g i H s)(q:AN X.K (H a) .dct ks o us)(r:YP X.K H O o us)(hk:um ks k=IN)(G:kx X.K H O k y)(x:RelV y u)(m:Bool)
  (h:∀l,Inv X g i H l->Q (.bool<|xor m (mZ ks o k).isSome) l):af (am X.prog X.w) A (aA (if m=IN then .NotIn else .In) u<|.ref a) Q E s:=by
 have nil:∀o:List D,mZ [] o k=Ix:=λo=>by cases o<;>rfl
 rcases q with⟨j,e,rfl,rfl⟩|⟨j,e,rfl,rfl⟩
 .rcases rA hk with⟨C',h1,_⟩|⟨L,h1,M⟩
  .have:=qX h1 G;subst this;have R:=pF h1;subst R;obtain⟨F,P⟩:=AQ (f:=lZ) (k:=C') uC r
   have Y:(vf j C').isSome=(mZ (j.map λp=>lZ p.1) o<|lZ C').isSome:=by
    cases z:mZ (j.map λp=>lZ p.1) o (lZ C')with
    |none=>rw[P z];rfl
    |some d=>obtain⟨v,N,_⟩:=F d z;rw[N];rfl
   rw[<-Y]at h
   cases m
   .exact aaL B I (Bz.k e) x λl n=>by simpa using h l n
   exact Km B I (Bz.k e) x λl n=>by simpa using h l n
  have J:j=[]:=by
   cases j with
   |nil=>rfl
   |cons p j=>obtain⟨c,U⟩:=M (lZ p.1) (by simp);exact(AS U).elim
  subst J;obtain⟨b,rfl,T⟩:=qW h1 G;cases x;rw[oZ,nil]at h;exact afX B I (Vc (H':=H)<|I.hok a _ e) T m λl n=>by simpa using h l n
 rcases rA hk with⟨C',h1,M⟩|⟨L,h1,_⟩
 .have J:j=[]:=by
   cases j with
   |nil=>rfl
   |cons p j=>obtain⟨c,U⟩:=M (.tup<|p.1.map lZ) (by simp);exact(DM U).elim
  subst J;have:=qX h1 G;subst this;rw[oZ,nil]at h;exact afY I (Vb (H':=H)<|I.hok a _ e) x m λl n=>by simpa using h l n
 obtain⟨b,rfl,T⟩:=qW h1 G;have R:=uk h1;subst R;obtain⟨F,P⟩:=AQ (f:=λk:List Key=>D.tup<|k.map lZ) (k:=L) Zn r
 have Y:(vf j L).isSome=(mZ (j.map λp=>.tup (p.1.map lZ)) o<|.tup<|L.map lZ).isSome:=by
  cases z:mZ (j.map λp=>.tup (p.1.map lZ)) o (.tup<|L.map lZ)with
  |none=>rw[P z];rfl
  |some d=>obtain⟨v,N,_⟩:=F d z;rw[N];rfl
 rw[<-Y]at h
 cases m
 .exact aaL B I (Bz.t e T) x λl n=>by simpa using h l n
 exact Km B I (Bz.t e T) x λl n=>by simpa using h l n
def Xu(J:A.units+1<aT)(I:Inv X g i H s)(q:AN X.K (H a) .dct M n us)(r:YP X.K H O n us)(hk:um M k=IN)(l:mZ M n k=Y d)(U:kx X.K H O k y)(N:RelV y u)
  (h:∀v w m,Inv X g i H m->Rep X.K H O d v->RelV v w->Q w m):af (am X.prog X.w) A (cZ (.ref a) u) Q E s:=by
 have nil:∀n:List D,mZ [] n k=Ix:=λn=>by cases n<;>rfl
 rcases q with⟨j,e,rfl,rfl⟩|⟨j,e,rfl,rfl⟩
 .rcases rA hk with⟨G,h1,_⟩|⟨Y',h1,x⟩
  .have:=qX h1 U;subst this;have T:=pF h1;subst T;obtain⟨v,z,B⟩:=(AQ (f:=lZ) (k:=G) uC r).1 d l;refine CP J I (v:=v) (y:=kV G) ?_ N λw m o L=>h v w m o B L;rw[<-z];exact Bz.k e
  cases j with
  |nil=>rw[oZ,nil]at l;cases l
  |cons p j=>obtain⟨c,C⟩:=x (lZ p.1) (by simp);exact(AS C).elim
 rcases rA hk with⟨G,h1,x⟩|⟨Y',h1,_⟩
 .cases j with
  |nil=>rw[oZ,nil]at l;cases l
  |cons p j=>obtain⟨c,C⟩:=x (.tup<|p.1.map lZ) (by simp);exact(DM C).elim
 obtain⟨b,rfl,F⟩:=qW h1 U;have T:=uk h1;subst T;obtain⟨v,z,B⟩:=(AQ (f:=λk:List Key=>D.tup<|k.map lZ) (k:=Y') Zn r).1 d l;refine CP J I (v:=v) (y:=.ref b) ?_ N λw m o L=>h v w m o B L;rw[<-z];exact Bz.t e F
end
def IB(d k:D):Option (D×Bool):=match d with
 |.Q2 .dct a b=>if um a k=J then(mZ a b k).map λv=>(v,U)else I
 |_=>AK d k
def W9(d e:D):Option Bool:=match e with
 |.Q2 .dct a b=>if um a d=J then Y (mZ a b d).isSome else I
 |_=>Lk d e
def uS(d e:D):Option (D×Bool):=(W9 d e).map λb=>(.bl (!b),U)
section
variable {X:Cx}
def aeH(p:X.A.units+62<aT):AD X (aA .NotIn) (rD X.K uS):=by
 intro c s t N x y v u Q T l m h;obtain⟨O,d,e,z,np,h1,j,g,G⟩:=h;by_cases k:∃f i,e=.Q2 .dct f i
 .obtain⟨f,i,rfl⟩:=k;obtain⟨b,o,rfl⟩:=jB g;obtain⟨hk,rfl⟩:=jy (show(if um f d=J then Y (mZ f i d).isSome else I)=Y b from o);obtain⟨a,B,rfl,q,r⟩:=pO j;cases m;exact aaK (by lia) T q r hk h1 l J λw n=>⟨.bl _,N,n,by simp[L2.RelV],G.bl⟩
 have:uS d e=Em d e:=by
  unfold uS W9 Em;split
  .exact absurd ⟨_,_,rfl⟩ k
  rfl
 rw[this]at g;exact aeV p c s t N x y v u Q T l m ⟨O,d,e,z,np,h1,j,g,G⟩
def aal(T:X.A.units+1<aT):LW X (rD X.K IB):=by
 intro c b f s C H x y v u Q I p t h o;obtain⟨O,d,e,z,np,h1,m,j,G⟩:=h;by_cases hd:∃i l,d=.Q2 .dct i l
 .obtain⟨i,l,rfl⟩:=hd;have k:(if um i e=IN then(mZ i l e).map λv=>(v,IP)else Ix)=Go z:=j;split at k
  case isFalse=>cases k
  rename_i hk;obtain⟨w,J,rfl⟩:=jB k;obtain⟨a,U,rfl,q,r⟩:=pO h1;cases p;have n:s.TypeIs (.ref a) "dict":=D2 I q;unfold eV;refine iz ?_;rw[getitemInPython_of_ne n.not_modules];refine iz<|vJ n PySem.F.slot_dict_getitem.lookup ?_
  have fin:af (am X.prog X.w) X.A (lm b IP (.ref a) u) (λr g=>af (am X.prog X.w) X.A (letTemporaryGo c (.ref a) r>>=λ_=>pure r) (EP X f C Q) X.xe g) X.xe s:=by rw[o];exact wpAny_operating<|Xu T I q r hk J m t λB Y N E L M=>iz<|wpAny_letTemporaryGo<|iJ ⟨B,H,E,M,G B H (λ_ _ e=>e) L⟩
  first
   |exact iJ<|iz fin
   |exact iz<|iJ<|iz fin
   |exact iz fin
 have:IB d e=AK d e:=by
  unfold IB;split
  .exact absurd ⟨_,_,rfl⟩ hd
  rfl
 rw[this]at j;exact U0 c b f s C H x y v u Q I p t ⟨O,d,e,z,np,h1,m,j,G⟩ o
noncomputable def U9:F:=λa=>Y ((.Q2 .dct [] [],J),a)
end
section
variable {K:jd}{T:SS}{b:L2.St}{c:Dn}{H:Hp}{i:Nat}{d e:D}{a:iw}{o:HO}
end
section
variable {X:Cx}{c:jw}{d:L2.St}{H:Hp}{s:iB}{a:iw}
def VX(T:Inv X c d H s)(e:H a=Y (.dT [])):Inv X c d (upd H a<|.dK []) s:=by have:=uX (t':=s.toks) (h':=s.heap) T (by rw[e];exact bD) (Du a s.heap) (by obtain⟨z,y,g,r,o,f,b,h1,_⟩:=(show T2 X.prog X.w H s.heap a (.dT [])from T.hok a _ e);exact⟨o,h1⟩)<|Vb (H':=upd H a<|.dK [])<|T.hok a _ e;exact this
def VW(T:Inv X c d H s)(e:H a=Y (.dK [])):Inv X c d (upd H a<|.dT []) s:=by have:=uX (t':=s.toks) (h':=s.heap) T (by rw[e];exact bD) (Du a s.heap) (by obtain⟨z,y,g,r,o,f,b,h1,_⟩:=(show T2 X.prog X.w H s.heap a (.dK [])from T.hok a _ e);exact⟨o,h1⟩)<|Vc (H':=upd H a<|.dT [])<|T.hok a _ e;exact this
def ZL:Up:=λo i v H Q=>∃a,o=.ref a/\((∃e,Er H a i v e/\Q e)\/(∃f,H a=Y (.dT [])/\i=kV f/\Q (upd H a<|.dK [(f,v)]))\/
 (∃g b,H a=Y (.dK [])/\i=.ref b/\H b=Y (.tup<|g.map kV)/\Q (upd H a<|.dT [(g,v)])))
def NK(j:X.A.units+1<aT):XU X ZL:=by
 intro c s d H o i v E O u Q T x l m h;obtain⟨a,rfl,h⟩:=h;cases x;rcases h with⟨r,g,q⟩|⟨y,e,rfl,q⟩|⟨B,b,e,rfl,n,q⟩
 .exact yT j T g l m λp f=>⟨r,f,q⟩
 .refine yT j (VX T e) (Er.k (k:=y) (v:=v) jk<|by rw[kD];decide) l m λp f=>⟨_,f,?_⟩
  rw[Jy];exact q
 have w:b≠a:=US n e (λz=>nomatch z);refine yT j (VW T e) (Er.t (k:=B) (v:=v) (b:=b) jk (by rw[jq w];exact n)<|by rw[kD];decide) l m λp f=>⟨_,f,?_⟩
 rw[Jy];exact q
end
section
variable {K:jd}{H:Hp}{O:SS}
theorem NT{g:Type}[DecidableEq g]{f:g->D}(hd:∀a b,D.P1 (f a) (f b)=decide (a=b)){k:g}{w:D}{v:V}(j:Rep K H O w v):∀{c:List (g×V)}{d:List D},YP K H O d (c.map (·.2))->YP K H O (Ay (c.map λp=>f p.1) d (f k) w) ((c.map λi=>if i.1=k then(i.1,v)else i).map (·.2))
 |[],d,h=>by cases d<;>simpa[Ay]using h
 |(l,u)::c,[],h=>by rw[ku,YP]at h;cases h
 |(l,u)::c,n::d,h=>by
  rw[ku,YP]at h;obtain⟨x,r,e,h1,m⟩:=h;obtain⟨rfl,rfl⟩:=vP e;simp only[ku,Ay,hd];refine YP.cons ?_<|NT hd j m;by_cases hk:l=k
  .simp only[hk,nr];exact j
  simp only[hk,kW,mn];exact h1
def JN{c:Type}[DecidableEq c]{kd:c->D}(hd:∀a b,D.P1 (kd a) (kd b)=decide (a=b)){k:c}{w:D}{v:V}(e:Rep K H O w v){kvs:List (c×V)}{d:List D}(h:YP K H O d (kvs.map (·.2))):
  (yD (kvs.map λp=>kd p.1) d (kd k) w).1=(we kvs k v).map (λp=>kd p.1)/\YP K H O (yD (kvs.map λp=>kd p.1) d (kd k) w).2 ((we kvs k v).map (·.2)):=by
 have f:(kvs.map λp=>kd p.1).any (D.P1 · (kd k))=kvs.any λg=>decide (g.1=k):=by rw[dQ];congr 1;funext p;exact hd _ _
 unfold yD we;rw[f];split
 .refine⟨?_,NT hd e h⟩;rw[jY];apply nL;intro p _;simp;split<;>rfl
 exact⟨by simp,by rw[pJ];exact h.append<|YP.one e⟩
end
def NO(i:Nat)(f:F)(g:FO):FS:=λc=>(f c).bind λp=>match p.2[i]? with
 |some (Y _)=>(g p.2).bind λq=>match res q.2 q.1,q.2[i]? with
  |some k,Y (Y (.Q2 .dct a b,J))=>if um a k=J/\(IX a)<10000 then Y (.nx<|q.2.set i<|Y (.Q2 .dct (yD a b k p.1.1).1 (yD a b k p.1.1).2,J))else I
  |_,_=>I
 |_=>I
section
variable {X:Cx}{e c:iM}{f:F}{g:FO}{b h a d:bA}{i:Nat}{x:aE}{A:ki}{L:LL}{j:Hp}
end
end PX
namespace TT
open PySem.SeqAt
structure Ep(h:jb)(d:iw)(es:Array gW)(ep:Nat):Prop where
 at_:∃o,h.get? d=Go o/\o.ExactDict/\o.data=.dict es ep
def Ep.A6{d b a}(x:Ep h d b a)(k:∀o,h.get? d=Y o->c.get? d=Y o):Ep c d b a:=let⟨o,h1,r⟩:=x.at_;⟨o,k _ h1,r⟩
section
variable {c:jh}{w:iY}{A:iU}{E:jr}{s:iB}
def Ep.typeIs{d b a}(x:Ep s.heap d b a):s.TypeIs (.ref d) "dict":=let⟨o,h1,r,_⟩:=x.at_;⟨o,h1,r.1⟩
def agz(hd:(d==b3)=U)(e:Ep s.heap d h g)
  (i:Q (.ref s.heap.objs.size) {s with heap:=s.heap.push {cls:=.type "dict_keyiterator",data:=.fields #[.ref d,.int 0 0,.int h.size 0,.int g 0]}}):af (am c w) A (db<|.ref d) Q E s:=by
 have b:=e.typeIs;obtain⟨o,f,j,a⟩:=e.at_;refine GI b Mu<|oF Mu b PySem.F.entry_dict_iter ?_<|PySem.F.args_dict_iter_1 _;unfold bb.«dict.__iter__»;refine iz ?_;unfold Builtin.Dict.dictSlotNone;refine iz<|wpAny_notOrdered_dict b ?_;change af _ _ (pure<|ca d) _ _ s;refine iJ ?_;change af _ _ (Builtin.Dict.showsAll d>>=_) _ _ s;unfold Builtin.Dict.showsAll;rw[je<|by rw[hd];exact kY];refine iz<|iJ ?_;refine iz<|pw f a ?_;refine iz<|t5 f a ?_;refine iz<|nq<|iJ ⟨_,rfl,"dict_keyiterator",_,⟨_,kF _ rfl,rfl⟩,Mc.lookup,?_⟩;simpa[cE]using i
def Cw(x:A.handled=I){it d:iw}{i k:Nat}{g:Array gW}{Q:ET}(f:s.heap.IsKeyIter it d i g.size k)(z:Ep s.heap d g k)(B:i<=g.size)
  (u:∀e,g[i]?=Y e->∀h,h.IsKeyIter it d (i+1) g.size k->aL it s.heap h->Q (Y e.key) {s with heap:=h})
  (t:i=g.size->∀h,ee it s.heap h->Q I {s with heap:=h}):af (am c w) A (cJ<|.ref it) Q E s:=by
 obtain⟨o,l,v,hd⟩:=id f;obtain⟨O,j,N,p⟩:=z.at_;unfold cJ;refine iz<|vT<|wM (name:=bz "__next__") f.typeIs Mc<|oF Mc f.typeIs PySem.F.entry_dict_keyiterator_next ?_<|PySem.F.args_dict_keyiterator_next_1 _;refine iz<|iJ ?_;refine iz ?_;refine iz ?_;refine iz<|GF f.typeIs<|iJ ?_;refine iz<|wpAny_fieldsOf l hd ?_;have q:Builtin.Dict_items.ownsTuple "dict_keyiterator"=U:=by decide
 simp -iota only[kW,mn];change af _ _ (if(ca d==ay)=J then _ else _) _ _ s;rw[je (show ¬((ca d==ay)=J)from kY)];refine iz<|iJ ?_;refine iz<|pw j p ?_;rw[je<|by simp];refine iz<|iJ ?_;refine iz<|t5 j p ?_;rw[je<|by simp];refine iJ ?_;dsimp only;simp -iota;by_cases y:i<g.size
 .have r:g[i]?=Y g[i]:=qL y;simp -iota only[r];refine iz ?_;refine iz<|GF f.typeIs<|iJ ?_;refine iz<|Mt f.typeIs ?_;change af _ _ (lw (.ref it) 1 (cE<|(i:Int)+1)>>=_) _ _ s;refine iz (vU l hd (by simp) ?_)
  have n:(s.heap.update it (fX (·.setIfInBounds 1 (cE<|(i:Int)+1)))).IsKeyIter it d (i+1) g.size k:=
   ⟨_,tY _ l (Dt<|vp hd _),(Ds ..).trans v,by rw[vp hd];simp[cE]⟩
  refine iz<|mF ?_;refine iz (Mt (s:={s with heap:=s.heap.update it (fX (·.setIfInBounds 1 (cE<|(i:Int)+1)))}) n.typeIs ?_);change af _ _ (pure g[i].key) _ _ _;exact iJ<|iJ ⟨_,rfl,iJ<|u _ r _ n (sG ..)⟩
 obtain rfl:i=g.size:=by lia
 simp -iota;refine iz ?_;refine iz<|GF f.typeIs<|iJ ?_;change af _ _ (lw (.ref it) 0 .none>>=_) _ _ s;refine iz<|vU l hd (by simp) ?_;change af _ _ (hH (.type "StopIteration") []>>=_) _ _ _;refine iz ?_;simp -iota only[hH];refine iz<|nq ?_ (by size_fits);refine iz (m:=f3 _ _)<|vw (a:=ay) (by first|rfl|(simp -iota;rfl)) ?_;refine nq ?_ (by size_fits);simp -iota only[wl];refine iz<|G4 ?_;rw[show A.in1.handled=I from x];refine iz<|iJ<|G3 ?_;refine iz<|yk (T:="StopIteration") (b:=J) ⟨_,kF _ rfl,rfl⟩ Dm ?_;exact iJ<|t C _ (((sG ..).extBut.push _).push _)
def ae5(l:A.handled=I)(T d:iw)(r:T≠d)(g:Array gW)(k:Nat):Do c w A T [T,d] [T] g.size (λi v=>∃e,g[i]?=Y e/\v=e.key) (λi h=>h.IsKeyIter T d i g.size k/\Ep h d g k) where
 sub:=λb a=>by simp at a;simp[a]
 frame:=λ_ _ _ st hk=>⟨st.1.at λo e=>hk T (by simp) o e,st.2.A6 λo e=>hk d (by simp) o e⟩
 item:=λi s Q E m st f=>by refine Cw l st.1 st.2 (wQ m) (λe u j q n=>?_) λz=>absurd z<|kz m;exact f _ j s.toks ⟨_,u,rfl⟩ ⟨q,st.2.A6 λo e=>n.extBut d o (λh=>r h.symm) e⟩ λb o a e=>n.extBut b o (λh=>a<|by simp[h]) e
 done:=λs Q E st f=>Cw l st.1 st.2 (jT _) (λe t=>absurd (Me.mp t).1<|qo _) λ_ j p=>f j s.toks λb o a e=>p b o (λh=>a<|by simp[h]) e
 self:=λ_ _ _ _ st f=>wpAny_pyIter_keyiter st.1 f
def Rl(hd:(a==b3)=U)(p:A.handled=I)(S:Ep s.heap a d n)(q:d.size<=sizeLine)
  (j:∀h r,(∀b o,s.heap.get? b=Y o->h.get? b=Y o)->Q (d.toList.map (·.key)) {s with heap:=h,toks:=r}):af (am c w) A (fx<|.ref a) Q E s:=by
 have g:a<s.heap.objs.size:=let⟨_,h1,_⟩:=S.at_;kH h1;refine zg (.inr ⟨rfl,rfl⟩) g (λx k=>(S.A6 k).typeIs) (ae5 (by show A.handled=I;exact p) (s.heap.objs.size+1) a (qm<|vq g) d n) q (λi v ⟨e,m,hv⟩=>?_) (by rw[jU,lS]) (λl t k=>?_) j
 .rw[kX,nM,m,hv];rfl
 have f:Ep (s.heap.push l) a d n:=S.A6 λo e=>jX _ e;have ext:∀(u:el) b o,(s.heap.push l).get? b=Y o->((s.heap.push l).push u).get? b=Y o:=λu b o e=>jX _ e;refine agz (s:={s with heap:=s.heap.push l}) hd f ?_;have z:(s.heap.push l).objs.size=s.heap.objs.size+1:=oX _ _;have:=k _ ⟨show((s.heap.push l).push {cls:=.type "dict_keyiterator",data:=.fields #[.ref a,.int 0 0,.int d.size 0,.int n 0]}).IsKeyIter (s.heap.objs.size+1) a 0 d.size n from⟨_,by rw[<-z];exact kF _ rfl,rfl,rfl⟩,f.A6 λo e=>ext _ _ _ e⟩ (ext _);rw[<-z]at this;exact this
end
end TT
namespace PX
open L2 PySem.SeqAt TS
def ll(d:D):Option (D×Bool):=match d with
 |.Q2 .dct a b=>if(a.all λk=>(wt k).isSome)=J/\a≠[]then kM a else I
 |_=>uq d
section
variable {X:Cx}
def afy{P:jh}{w:iY}{e:List gW}{f:List (Key×iI)}{a:List (Key×V)}(h:Pairs (mf P w) e f)(q:KV a f):Vals (a.map λp=>kV p.1) (e.map (·.key)):=by
 induction h generalizing a with
 |nil=>cases q;exact .nil
 |cons h1 j t g=>
  obtain _|⟨r,q⟩:=q;refine .cons ?_<|g q;dsimp only;rw[r.1];rcases lq (show AR _ _=J from h1)with⟨i,d,b,c⟩|⟨x,d,b,c⟩
  .rw[b,c];exact⟨d,rfl⟩
  rw[b,c];exact⟨d,rfl⟩
theorem Cq{K:jd}{T:Hp}{O:SS}:∀(a:List (Key×V)),YP K T O (a.map λp=>lZ p.1)<|a.map λp=>kV p.1
 |[]=>YP.nil
 |(k,v)::a=>by
  refine YP.cons ?_<|Cq a
  cases k with
  |inl i=>exact Rep.mkInt
  |inr x=>exact Rep.mkStr
def ZW{X:Cx}{id:String}{g f:D->Option (D×Bool)}(i:lh X (.builtin id) (EH X.K<|g1 f)){c:jw}{s:iB}{e:L2.St}{N:Hp}{x:V}{u:iI}{Q:VK}{O:SS}{d:D}{z:D×Bool}(T:Inv X c e N s)(k:L2.RelV x u)(np:∀p,¬Ow (N p)->¬O p)(hd:kx X.K N O d x)(h:f d=Y z)(G:Gen X.K N O z Q):
  af (am X.prog X.w) X.A (call (.builtin id) [u]) (EP X c e Q) X.xe s:=
 i c s e N [x] [u] Q T (.cons k .nil) ⟨O,[d],z,np,rfl,(λj l m a b=>by
   cases j with
   |zero=>simp at a b;subst a;subst b;exact hd
   |succ j=>simp at a),h,G⟩
def aee(j:X.calm=IN)(n:X.A.units+62<aT):lh X (.builtin "sorted") (EH X.K<|g1 ll):=qI λt s σ H x u Q O d z I v np hd l G=>by
 by_cases m:∃f w,d=.Q2 .dct f w
 .obtain⟨f,w,rfl⟩:=m;have h:(if(f.all λk=>(wt k).isSome)=IN/\f≠[]then kM f else Ix)=Go z:=l;split at h
  .rename_i c;obtain⟨a,us,rfl,q,r⟩:=pO hd;cases v;rcases q with⟨b,e,rfl,rfl⟩|⟨b,e,rfl,rfl⟩
   .obtain⟨zl,B,D,i,o,V,S,h1,L,T,W,J,Z⟩:=Va I.hok e;have y:=afy J i;have U:=y.length;simp at U;have N:X.A.handled=Ix:=I.ok.hd j;exact uL n I (Cq (O:=O) b) y h G λR P F C M=>TT.Rl B (by rw[C];exact N) ⟨o,h1,L,T⟩ (by lia) λE Y k=>M E Y k
   exfalso
   cases b with
   |nil=>exact c.2 IR
   |cons p b=>have:=kT.mp c.1 (.tup<|p.1.map lZ) (by simp);simp[wt]at this
  cases h
 have:ll d=uq d:=by
  unfold ll;split
  .exact absurd ⟨_,_,rfl⟩ m
  rfl
 exact ZW (g:=ll) (aed j n) I v np hd (by rw[<-this];exact l) G
def R0(a:Gl X x)(b:X.mg x=Y (.int i t))(hd:(x==("__debug__":aE))=U):PX X (.Name x pos) (fC<|.int i):=PX.imp (So (v:=.int i) a b ⟨t,rfl⟩ hd) λf O Q h=>by obtain⟨d,T,r,c,E,e,k⟩:=h;cases e;exact k _ _ (Ls.val .refl E Rep.mkInt)
noncomputable def NN:FS:=λ_=>I
end
section
variable {X:Cx}{e:iM}{f:F}{b d a c:bA}{i:Nat}{x:aE}
end
structure PXs(X:Cx)(es:kI)(fs:List F):Prop where
 pa:PA X es (tA X.K<|fs.map iP)
section
variable {X:Cx}{e:iM}{b:kI}{f:F}{fs:List F}{a:bA}
end
structure QX(X:Cx)(e:iM)(f:F):Prop where
 h:PX X e f
structure QO(X:Cx)(e:iM)(f:FO):Prop where
 h:PX.PO X e f
structure QA(X:Cx)(es:kI)(fs:List FO):Prop where
 h:PA X es (tA X.K fs)
structure QL(X:Cx)(es:kI)(fs:List F):Prop where
 h:PXs X es fs
structure QT(X:Cx)(e:iM)(f:FT):Prop where
 h:PTX X e f
structure QW(X:Cx)(e:iM)(f:FT):Prop where
 h:PWX X e f
structure QG(X:Cx)(A:ki)(e:iM)(t:Tg):Prop where
 h:Ja X A e t
structure QI(X:Cx)(B:SB)(tg e:iM)(f:B0):Prop where
 h:Ih X B tg e f
structure QF(X:Cx)(es:kI)(f:FT):Prop where
 h:IE X es (tT X.K f)
structure QB(X:Cx)(A:ki)(d:iw)(e:iM)(n:Nat)(f:FB):Prop where
 h:PB X (jG e n (.ref d) X.env) (FE IP X.K A d f)
structure QS(X:Cx)(A:ki)(L:LL)(H0:Hp)(st:bi)(f:FS):Prop where
 h:L8 X A L H0 st f
structure QQ(X:Cx)(A:ki)(L:LL)(H0:Hp)(st:List bi)(f:FS):Prop where
 h:EL X A L H0 st f
structure QC(X:Cx)(v:iI)(g:List D->Option (D×Bool)):Prop where
 h:lh X v (EH X.K g)
structure QP(X:Cx)(o:yX)(g:D->D->Option (D×Bool)):Prop where
 h:AD X o (rD X.K g)
abbrev SE(X:Cx)(e:iM)(a:kI):Prop:=aj (e::a) X.env=(U,bh e X.env)::aj a X.env
abbrev BA(X:Cx)(p:bA)(a:kI):Prop:=(aO p<|aj a X.env).any (·.1)=U
abbrev DB(x:aE):Prop:=(x==("__debug__":aE))=U
abbrev un(A:iU)(n:Nat):Prop:=A.units+n<aT
structure ZZ where
 P:jh
 w:iY
 K:jd
 mg:aE->Option iI
 base:jb
def Oz(Z:ZZ)(k:Nat)(x:aE)(b:ji)(c:O1):Prop:= ∃f a,BF Z.P Z.w Z.K Z.mg Z.base BU k f a b (Ex Z.K c)/\Z.mg x=Y (.ref f)/\ce Z.K (.ref f)=J/\Binds Z.K a b []
def Oz.up{Z:ZZ}{k j:Nat}{x:aE}{d:ji}{c:O1}(o:Oz Z k x d c)(h:k<=j:=by decide):Oz Z j x d c:=let⟨f,e,a,b⟩:=o;⟨f,e,a.mono h,b⟩
noncomputable abbrev zX(X:Cx):ZZ:=⟨X.prog,X.w,X.K,X.mg,X.base⟩
def tgN:Expr->List aE
 |.Name x _=>[x]
 |.Tuple [.Name x _,.Name y _] _ _=>[x,y]
 |_=>[]
def cN(N:ji)(a:jP)(b:oU):List Str:=a.filterMap (N[·]?)++b.flatMap λg=>tgN g.target
noncomputable def IW:List (aE×iI):=[("len",.builtin "len"),("abs",.builtin "abs"),("int",.type "int"),("tuple",.type "tuple"),("list",.type "list"),("bool",.type "bool"),("max",.builtin "max"),("min",.builtin "min"),("all",.builtin "all"),("any",.builtin "any"),("sorted",.builtin "sorted"),("set",.type "set")]
def btA{c:mE}(T:Tx c):∀p∈IW,c p.1=I/\aF p.1=Y p.2:=by
 have h:∀p∈IW,aF p.1=Y p.2:=by decide+kernel
 intro p b;refine⟨?_,h p b⟩;have a:p∈IW:=b;unfold IW at a;simp only[oq,sD,or_false]at a;rcases a with rfl|rfl|rfl|rfl|rfl|rfl|rfl|rfl|rfl|rfl|rfl|rfl
 .exact T.n_len
 .exact T.n_abs
 .exact T.n_int
 .exact T.n_tuple
 .exact T.n_list
 .exact T.n_bool
 .exact T.n_max
 .exact T.n_min
 .exact T.n_all
 .exact T.n_any
 .exact T.n_sorted
 exact T.n_set
theorem Im{z:aE}{v:iI}:∀{l:List (aE×iI)},l.lookup z=Y v->(z,v)∈l
 |[],h=>by cases h
 |(y,u)::l,h=>by
  rw[oY]at h;split at h
  .rename_i q;cases h;rw[pK q];exact .head _
  exact .tail _ (Im h)
def L6{a:mE}{z:aE}{v:iI}(T:Tx a)(h:IW.lookup z=Y v):a z=I:=(btA T _ (Im h)).1
def Lp{z:aE}{v:iI}(h:IW.lookup z=Y v):aF z=Y v:=(show ∀p∈IW,aF p.1=Y p.2 from by decide+kernel) _ (Im h)
section
variable {X:Cx}{x z:aE}{e a b c st lo G:iM}{J:kI}{M fb fc fo fl fh:FO}{f g:F}{U fu:FT}{p p2 p3 m f6 apos:bA}{A:ki}{L:LL}{B:SB}{H0:Hp}{fs:List FO}{dt:List F}{i j k:Nat}{tg:iM}{S:bi}{Ss Ts:List bi}{u v:FS}
def xV(h1:X.N[i]?=Y x:=by rfl)(l:FQ X.env.scope x:=by first|exact bg rfl|exact bv (bg C)|exact bv<|bv C)(n:DB x:=by decide)(r:(x==("__classdict__":aE))=IP:=by decide):QO X (.Name x m) (iA i):=⟨PE.imp' (wj h1 l n r) λy O Q h=>by
 obtain⟨s,T,o,t,E,e,k⟩:=h;unfold iA at e
 cases G:s[i]? with
 |none=>rw[G]at e;cases e
 |some q=>
  cases q with
  |none=>rw[G]at e;cases e
  |some p=>obtain⟨d,b⟩:=p;rw[G]at e;obtain⟨rfl,rfl⟩:=jg e;obtain⟨w,v,h1,l⟩:=E.freeze G;exact⟨v,h1,k v O ⟨.refl,E,h1⟩⟩⟩
def xW(h1:X.N[i]?=Y x:=by rfl)(l:FQ X.env.scope x:=by first|exact bg rfl|exact bv (bg C)|exact bv<|bv C)(q:DB x:=by decide)(s:(x==("__classdict__":aE))=IP:=by decide):QX X (.Name x m) (jI i):=⟨PX.imp (wj h1 l q s) λy O Q h=>by
 obtain⟨t,T,r,w,E,e,k⟩:=h;unfold jI at e
 cases G:t[i]? with
 |none=>rw[G]at e;cases e
 |some o=>
  cases o with
  |none=>rw[G]at e;cases e
  |some p=>obtain⟨d,b⟩:=p;rw[G]at e;cases e;obtain⟨n,v,h1,l⟩:=E.freeze G;exact⟨v,h1,k v O<|Ls.val .set n l⟩⟩
def xO(h:QX X e f):QO X e (iP f):=⟨PX.po h.h⟩
def x1{j}:QX X (.Constant .none j m) (fC .VP):=⟨PX.imp Wu λl O Q h=>by obtain⟨δ,T,r,d,E,e,k⟩:=h;cases e;exact k _ _ (Ls.val .refl E (by first|exact Rep.mkInt|exact Rep.HD|exact Rep.Ey|exact Rep.mkStr))⟩
def x2{i j}:QX X (.Constant (.bool i) j m) (fC<|.bl i):=⟨ZP⟩
def x3{i j}:QX X (.Constant (.int i) j m) (fC<|.int i):=⟨PX.imp Ox λl O Q h=>by obtain⟨δ,T,r,d,E,e,k⟩:=h;cases e;exact k _ _ (Ls.val .refl E (by first|exact Rep.mkInt|exact Rep.HD|exact Rep.Ey|exact Rep.mkStr))⟩
def x5{i:Int}(h:∃t,X.mg x=Y (.int i t))(g:Gl X x:=by rfl)(d:DB x:=by decide):QX X (.Name x m) (fC<|.int i):=let⟨_,h⟩:=h;⟨R0 g h d⟩
def x7:QX X (.Dict [] [] m) U9:=⟨PX.imp OA λo O Q h=>by obtain⟨δ,T,n,l,E,e,k⟩:=h;cases e;intro p d;have B:=Ops.nil E;exact(B.done k) p _ d (md d) ⟨[],.inl ⟨[],jk,rfl,rfl⟩,YP.nil⟩⟩
def abv{d:Operator}{g:D->D->Option (D×Bool)}(o:QP X (bK d) g)(l:QO X a M)(n:QO X b fb):QX X (.BinOp a d b m) (iT g M fb):=⟨Lh<|ZU o.h l.h n.h⟩
def abr(d:QO X a M):QX X (.UnaryOp .USub a m) (qy yM M):=⟨px1<|ZS RC d.h⟩
def abq(s:QX X a f):QX X (.UnaryOp .Not a m) (Xp f):=⟨PX.imp (Wt s.h) λO H Q t=>by obtain⟨y,T,r,C,E,e,k⟩:=t;obtain⟨p,h1,e⟩:=iE e;obtain⟨c,N,q,n⟩:=iK e;obtain⟨o,rfl⟩:=xQ q;obtain⟨rfl,rfl⟩:=jg n;refine⟨y,T,_,_,E,h1,λv l P=>?_⟩;obtain⟨d,w⟩:=P.rep E;exact⟨c,w.bl,k _ l (Ls.val P.1 d Rep.HD)⟩⟩
def abu{d:cc}{g:D->D->Option (D×Bool)}(o:QP X (aA d) g)(l:QO X a M)(n:QO X b fb)(q:c3 d b=IP:=by first|exact OU _|with_unfolding_all rfl):QX X (.Compare a [d] [b] m) (iT g M fb):=⟨Lh<|Sq o.h l.h n.h q⟩
def Zw{d:cc}{g:D->D->Option (D×Bool)}(o:QP X (aA d) g)(l:QO X a M)(n:QO X b fb)(q:c3 d b=IP:=by first|exact OU _|with_unfolding_all rfl):QT X (.Compare a [d] [b] m) (fT<|iT g M fb):=⟨
 PT.imp' (Sa o.h l.h n.h q) λs T Q r=>S0 ZM<|Nu r⟩
def xCh{l d:cc}(n:QO X a M)(o:QO X b fb)(q:QO X c fc)(t:zb l:=by first|exact .inl rfl|exact .inr (.inl C)|exact .inr (.inr<|.inl C)|exact .inr<|.inr<|.inr C)(w:zb d:=by first|exact .inl rfl|exact .inr (.inl C)|exact .inr (.inr<|.inl C)|exact .inr<|.inr<|.inr C)(r:gB [l,d] [b,c]=IP:=by with_unfolding_all rfl):QX X (.Compare a [l,d] [b,c] m) (pY l d M fb fc):=⟨
 PX.imp (OB (zH t) (zH w) n.h o.h q.h r) λy T Q s=>CT s⟩
def tCh{l d:cc}(n:QO X a M)(o:QO X b fb)(q:QO X c fc)(t:zb l:=by first|exact .inl rfl|exact .inr (.inl C)|exact .inr (.inr<|.inl C)|exact .inr<|.inr<|.inr C)(w:zb d:=by first|exact .inl rfl|exact .inr (.inl C)|exact .inr (.inr<|.inl C)|exact .inr<|.inr<|.inr C)(r:gB [l,d] [b,c]=IP:=by with_unfolding_all rfl):QT X (.Compare a [l,d] [b,c] m) (fT<|pY l d M fb fc):=⟨
 PT.imp' (N4 (zH t) (zH w) n.h o.h q.h r) λy T Q s=>CT<|Nu s⟩
def xBo{op}(d:QX X a f):QX X (.BoolOp op [a] m) f:=⟨Ws d.h⟩
def abw(I:QX X a f)(O:QX X (.BoolOp .And (b::J) m) g):QX X (.BoolOp .And (a::b::J) m) (vh f g):=⟨PX.imp (Wx I.h O.h) λF H Q N=>by
 obtain⟨D,T,r,l,E,e,k⟩:=N;obtain⟨p,h1,e⟩:=iE e;obtain⟨c,n,C,d⟩:=iK e;obtain⟨o,rfl⟩:=xQ C;refine⟨D,T,_,_,E,h1,λv s P=>?_⟩;obtain⟨q,Y⟩:=P.rep E;refine⟨c,Y.bl,?_⟩
 cases c with
 |true=>rw[iQ IR]at d;rw[iQ IR];exact⟨n,T,r,l,q,d,λw t y=>k w t<|y.pre P.1⟩
 |false=>rw[je kY]at d;rw[je kY];obtain⟨rfl,rfl⟩:=jg d;exact k _ s (Ls.val P.1 q Rep.HD)⟩
def xOr(I:QX X a f)(O:QX X (.BoolOp .Or (b::J) m) g):QX X (.BoolOp .Or (a::b::J) m) (fOr f g):=⟨PX.imp (ZT I.h O.h) λF H Q N=>by
 obtain⟨D,T,r,l,E,e,k⟩:=N;obtain⟨p,h1,e⟩:=iE e;obtain⟨c,n,C,d⟩:=iK e;obtain⟨o,rfl⟩:=xQ C;refine⟨D,T,_,_,E,h1,λv s P=>?_⟩;obtain⟨q,Y⟩:=P.rep E;refine⟨c,Y.bl,?_⟩
 cases c with
 |true=>rw[iQ IR]at d;rw[iQ IR];obtain⟨rfl,rfl⟩:=jg d;exact k _ s (Ls.val P.1 q Rep.HD)
 |false=>rw[je kY]at d;rw[je kY];exact⟨n,T,r,l,q,d,λw t y=>k w t<|y.pre P.1⟩⟩
def aby(y:QT X a U)(C:QW X (.BoolOp .And (b::J) m) fu):QW X (.BoolOp .And (a::b::J) m) (uA U fu):=⟨PW.imp' (Wc y.h C.h) λN H Q I=>by
 obtain⟨O,T,c,l,E,e,k⟩:=I;obtain⟨q,d,h1,e⟩:=iK e;refine⟨O,T,q,d,E,h1,λs o n=>?_⟩
 cases q with
 |true=>rw[iQ IR]at e;rw[iQ IR];exact⟨d,T,c,l,n,e,λt w r=>k t (o.trans w) r⟩
 |false=>rw[je kY]at e;rw[je kY];obtain⟨rfl,rfl⟩:=jg e;exact k s o n⟩
def wOr(y:QT X a U)(C:QW X (.BoolOp .Or (b::J) m) fu):QW X (.BoolOp .Or (a::b::J) m) (BX U fu):=⟨PW.imp' (ZQ y.h C.h) λN H Q I=>by
 obtain⟨O,T,c,l,E,e,k⟩:=I;obtain⟨q,d,h1,e⟩:=iK e;refine⟨O,T,q,d,E,h1,λs o n=>?_⟩
 cases q with
 |true=>rw[iQ IR]at e;rw[iQ IR];obtain⟨rfl,rfl⟩:=jg e;exact k s o n
 |false=>rw[je kY]at e;rw[je kY];exact⟨d,T,c,l,n,e,λt w r=>k t (o.trans w) r⟩⟩
def Zm(d:QT X a U):QW X (.BoolOp .And [a] m) U:=⟨R7 d.h⟩
def abx(d:QT X a U):QW X (.BoolOp .Or [a] m) U:=⟨Wb d.h⟩
def tW{op}(h:QW X (.BoolOp op J m) U):QT X (.BoolOp op J m) U:=⟨PW.pt h.h⟩
def KG(n:QT X a U):QT X (.UnaryOp .Not a m) (oK U):=⟨PT.imp' (Wh n.h) λs O Q o=>by obtain⟨q,T,c,r,E,e,k⟩:=o;obtain⟨l,d,h1,e⟩:=iK e;obtain⟨rfl,rfl⟩:=jg e;exact⟨q,T,l,d,E,h1,k⟩⟩
def abA(h:QX X e f)(l:∀d,isTrue e X.env d=(do let v <-d;cA e.pos;cn [v] (truthy v)):=by intro _;rfl):QT X e (fT f):=⟨PT.imp' (Wg h.h l) λo T Q n=>Nu n⟩
def xIf(C:QT X c U)(t:QX X a f)(y:QX X b g):QX X (.IfExp c a b m) (Ig U f g):=⟨PX.imp (Oy C.h t.h y.h) λY H Q I=>by
 obtain⟨O,T,r,l,E,e,k⟩:=I;obtain⟨c,d,h1,e⟩:=iK e;refine⟨O,T,c,d,E,h1,λN s q=>?_⟩
 cases c with
 |true=>rw[iQ IR]at e;rw[iQ IR];exact⟨d,T,r,l,q,e,λw n o=>k w n<|o.pre s⟩
 |false=>rw[je kY]at e;rw[je kY];exact⟨d,T,r,l,q,e,λw n o=>k w n<|o.pre s⟩⟩
def xIx(d:QO X a M)(l:QO X b fb)(n:EK b:=by exact λ_ _=>rfl):QX X (.Subscript a b m) (iT AK M fb):=⟨Lh<|UN U0 d.h l.h n⟩
def abt(o:un X.A 1)(d:QO X a M)(l:QO X b fb)(n:EK b:=by exact λ_ _=>rfl):QX X (.Subscript a b m) (iT IB M fb):=⟨Lh<|UN (aal o) d.h l.h n⟩
def abk(s:QO X a M)(t:QO X lo fl):QX X (.Subscript a (.Slice (Go lo) Ix Ix p2) m) (Qi M fl):=⟨
 PX.imp (FC ZD s.h (JO t.h) JP) λP H Q y=>by
  obtain⟨N,T,K,Y,E,e,k⟩:=y;unfold Qi at e;obtain⟨q,d,h1,e⟩:=iK e;obtain⟨O,n,r,e⟩:=iK e;dsimp only at e;split at e
  .rename_i i G;obtain⟨x,C,e⟩:=iE e;obtain⟨z,I,e⟩:=iE e;obtain⟨rfl,rfl⟩:=jg e;refine⟨N,T,q,d,E,h1,λv D l=>⟨d,Bv T q v,O,n,l.er E,r,λu F o=>?_⟩⟩;have B:=Ops.cons E l<|Ops.cons (l.er E) o<|Ops.nil<|o.er<|l.er E;exact⟨i,jx<|B.view (j:=1) IR IR G,_,x,z,λp w=>B.np w,B.view (j:=0) IR IR C,I,B.done k⟩
  cases e⟩
def abl(s:QO X a M)(t:QO X G fh):QX X (.Subscript a (.Slice Ix (Go G) Ix p2) m) (CJ M fh):=⟨
 PX.imp (FC ZD s.h JP<|JO t.h) λP H Q y=>by
  obtain⟨N,T,K,Y,E,e,k⟩:=y;unfold CJ at e;obtain⟨q,d,h1,e⟩:=iK e;obtain⟨O,n,r,e⟩:=iK e;dsimp only at e;split at e
  .rename_i i G;obtain⟨x,C,e⟩:=iE e;obtain⟨z,I,e⟩:=iE e;obtain⟨rfl,rfl⟩:=jg e;refine⟨N,T,q,d,E,h1,λv D l=>⟨d,Bv T q v,O,n,l.er E,r,λu F o=>?_⟩⟩;have B:=Ops.cons E l<|Ops.cons (l.er E) o<|Ops.nil<|o.er<|l.er E;exact⟨i,jx<|B.view (j:=1) IR IR G,_,x,z,λp w=>B.np w,B.view (j:=0) IR IR C,I,B.done k⟩
  cases e⟩
def abo(O:QO X a M)(N:QO X st fb):QX X (.Subscript a (.Slice Ix Ix (Go st) p2) m) (TU M fb):=⟨
 PX.imp (aes O.h N.h) λσ H Q Y=>by
  obtain⟨P,T,rr,R,E,e,k⟩:=Y;unfold TU at e;obtain⟨y,d,h1,e⟩:=iK e;obtain⟨F,o,I,e⟩:=iK e;dsimp only at e;split at e
  .rename_i i G;split at e
   case isFalse=>cases e
   rename_i C;subst C;obtain⟨x,D,e⟩:=iE e;obtain⟨z,w,e⟩:=iE e;obtain⟨rfl,rfl⟩:=jg e;refine⟨P,T,y,d,E,h1,λv V n=>⟨d,Bv T y v,F,o,n.er E,I,λu W s=>?_⟩⟩;have B:=Ops.cons E n<|Ops.cons (n.er E) s<|Ops.nil<|s.er<|n.er E;have hv:=B.view (j:=0) IR IR D;refine⟨jx<|B.view (j:=1) IR IR G,?_⟩
   cases x with
   |tup l=>
    cases w;rcases hv with hv|⟨_,_,hv⟩
    .obtain⟨p,K,rfl,q,r⟩:=hv.tup;exact⟨p,K,rfl,q.sq,λZ t=>(B.done k).tup t (B.np<|L3 t) r.reverse⟩
    exact hv.elim
   |_=>cases w
  cases e⟩
def xL0:QL X [] []:=⟨⟨zF⟩⟩
def xL(d:QX X e f)(l:QL X J dt)(n:SE X e J:=by rfl):QL X (e::J) (f::dt):=⟨⟨uh (PX.po d.h) l.h.pa n⟩⟩
def Ld:QA X [] []:=⟨zF⟩
def xA(d:QO X e M)(l:QA X J fs)(n:SE X e J:=by rfl):QA X (e::J) (M::fs):=⟨uh d.h l.h n⟩
def abj{k}(h:QL X J dt):QX X (.Tuple J k m) (nX dt):=⟨V4 h.h.pa⟩
def Zh(h:QL X J dt):QX X (.List J m) (qz dt):=⟨V9 h.h.pa⟩
def xB{id:String}{g:List D->Option (D×Bool)}(T:Tx X.mg)(hv:IW.lookup z=Y (.builtin id))(n:QC X (.builtin id) g)(l:QA X (e::J) fs)(q:Gl X z:=by rfl)(r:z≠"__name__":=by decide)(s:DB z:=by decide)(o:SE X e J:=by rfl)(d:BA X m J:=by rfl):QX X (.Call (.Name z p) (e::J) [] m) (jc g fs):=⟨R6 n.h q (L6 T hv) (Lp hv) l.h r s o d⟩
def xT{id:String}{g:List D->Option (D×Bool)}(T:Tx X.mg)(hv:IW.lookup z=Y (.type id))(n:QC X (.type id) g)(l:QA X (e::J) fs)(q:Gl X z:=by rfl)(r:z≠"__name__":=by decide)(s:DB z:=by decide)(o:SE X e J:=by rfl)(d:BA X m J:=by rfl):QX X (.Call (.Name z p) (e::J) [] m) (jc g fs):=⟨RX n.h q (L6 T hv) (Lp hv) l.h r s o d⟩
def xI{t:Ty}(T:Tx X.mg)(d:IW.lookup z=Y (.type t.n))(q:QO X e M)(r:Gl X "isinstance":=by rfl)(o:Gl X z:=by rfl)(s:z≠"__name__":=by decide)(w:DB z:=by decide)
  (s1:SE X e [.Name z p2]:=by rfl)(y:SE X (.Name z p2) []:=by rfl)(l:BA X m [.Name z p2]:=by rfl):
  QX X (.Call (.Name "isinstance" p) [e,.Name z p2] [] m) (qy (Gd [t]) M):=⟨Wa q.h r T.n_isinstance o (L6 T d) (Lp d) s w ad0 s1 y l⟩
def xU{k:Nat}{y:ji}{d:O1}(t:OO k X.A)(O:Oz (zX X) k x y d)(o:QA X (e::J) fs)(r:Gl X x:=by rfl)(w:DB x:=by decide)
  (q:SE X e J:=by rfl)(n:BA X m J:=by rfl):QX X (.Call (.Name x p) (e::J) [] m) (iN d fs):=
 let⟨_,_,ok,s,kp,l⟩:=O;⟨RW ok t r s kp l o.h w q n⟩
def abn{T:String}{mk:List D->D}{o:Bool}(d:Tx X.mg)(hv:IW.lookup z=Y (.type T))(s:QA X [a,b] [M,fb])(r:(T="list"/\mk=.lst/\o=IN)\/(T="tuple"/\mk=.tup/\o=IP):=by first|exact .inl ⟨rfl,rfl,rfl⟩|exact .inr ⟨rfl,rfl,rfl⟩)(t:X.calm=IN:=by rfl)(w:Gl X z:=by rfl)(y:z≠"__name__":=by decide)(Q:DB z:=by decide)(n:Gl X "range":=by rfl)
  (s1:SE X (.Call (.Name "range" p2) [a,b] [] p3) []:=by rfl)(E:SE X a [b]:=by rfl)
  (q:BA X m []:=by rfl)(l:BA X p3 [b]:=by rfl):
  QX X (.Call (.Name z p) [.Call (.Name "range" p2) [a,b] [] p3] [] m) (jc (Je mk o) [M,fb]):=⟨V6 r t w (L6 d hv) (Lp hv) y Q n d.n_range s.h s1 E q l⟩
def Zi(hv:QO X (.Name x f6) (iA i))(he:QX X e f)(k8:Lc X (.Name x f6) "append":=by rfl)
  (p6:La X m [e]:=by rfl)
  (k7:(apos.endLine==m.line)=IN:=by rfl)(I:SE X e []:=by rfl)(e9:BA X m []:=by rfl):QX X (.Call (.Attribute (.Name x f6) "append" apos) [e] [] m) (nY i f):=⟨
 PX.imp (UO Mr PySem.F.slot_list_append PySem.F.type_list_append ags hv.h (pv he.h ug I) k8 p6 k7 I e9) λσ H Q V=>by
 obtain⟨o,T,rr,δ',E,e,k⟩:=V;unfold nY at e;split at e
 .rename_i l0 w;obtain⟨r,q,h1,e⟩:=iK e;dsimp only at e;split at e
  .rename_i l C;obtain⟨W,e⟩:=jy e;obtain⟨rfl,rfl⟩:=tu e;refine⟨o,T,.slot i,o,E,by unfold iA;rw[w],λv H1 P=>?_⟩;obtain⟨D,n,d⟩:=P;obtain⟨a,g1,R,g2,g3⟩:=n.own i _ w;rw[d]at g1;cases g1;refine⟨.inl ⟨rfl,R,Bx.of g2⟩,o,T,r,q,n,h1,λy H2 t=>?_⟩;obtain⟨s,ry⟩:=t.rep n;obtain⟨a',O,xs,Z,N⟩:=s.own i _ C;rw[d]at O;cases O;refine⟨_,xs,y,rfl,rfl,Z,by rw[N.length];exact W,?_⟩;obtain⟨Y,K⟩:=s.write C d<|N.append<|YP.one ry;exact k _ _ (Ls.val ((D.trans t.1).trans K) Y Rep.Ey)
  cases e
 cases e⟩
def abp(hv:QO X (.Name x f6) (iA i))(he:QO X e fo)(k8:Lc X (.Name x f6) "pop":=by rfl)
  (p6:La X m [e]:=by rfl)
  (k7:(apos.endLine==m.line)=IN:=by rfl)(hs:SE X e []:=by rfl)(e9:BA X m []:=by rfl):QX X (.Call (.Attribute (.Name x f6) "pop" apos) [e] [] m) (Bb i fo):=⟨
 PX.imp (UO Mr PySem.F.slot_list_pop PySem.F.type_list_pop OZ hv.h (pv he.h ug hs) k8 p6 k7 hs e9) λσ H Q hw=>by
 obtain⟨I,T,rr,δ',E,e,k⟩:=hw;unfold Bb at e;split at e
 .rename_i l0 Y;obtain⟨o,r,h1,e⟩:=iK e;dsimp only at e;split at e
  .rename_i V l hk D;split at e
   case isFalse=>cases e
   rename_i R;obtain⟨j,hj,e⟩:=iE e;obtain⟨d,hd,e⟩:=iE e;obtain⟨rfl,rfl⟩:=jg e;refine⟨I,T,.slot i,I,E,by unfold iA;rw[Y],λv H1 P=>?_⟩;obtain⟨K1,s,q⟩:=P;obtain⟨a,g1,fF,g2,g3⟩:=s.own i _ Y;rw[q]at g1;cases g1;refine⟨.inl ⟨rfl,fF,Bx.of g2⟩,I,T,o,r,s,h1,λy H2 N=>?_⟩;have B:=Ops.cons s N<|Ops.nil<|N.er s;have vy:=jx<|B.view (j:=0) IR IR hk;have O:ER X.K H2 T σ r:=B.er.mono (λ_ _ e _=>e) (λb _ z=>B.tt b z) λa z=>B.er.dom a<|B.tt a z;obtain⟨a',W,Z,q2,C⟩:=O.own i _ D;rw[q]at W;cases W;obtain⟨w,w1,w2⟩:=C.get hd;have hl:=C.length;have gk:DL Z.length V=Go j:=by rw[hl];exact hj
   obtain⟨s1,s2,s3,s4⟩:=Eh gk;obtain⟨E3,t⟩:=O.write D q<|YP.erase j C;refine⟨_,Z,V,j,w,rfl,by rw[vy],q2,R.1,R.2,s1,w1,?_⟩;exact k _ _ (Ls.val ((K1.trans B.keep).trans t) E3<|Rep.mono (λb o e n=>t.kp b o e λz=>n<|.inl z) (λb _ z=>z.imp (t.ow b) id) w2)
  cases e
 cases e⟩
def iR1(T:Tx X.mg)(w:QA X [a] [M])(y:Gl X "range":=by rfl)(I:aj [a] X.env=[(IP,bh a X.env)]:=by rfl):QI X B tg (.Call (.Name "range" p) [a] [] m) (yL M):=⟨PI.imp' (agg y T.n_range w.h I) λF H R O=>by
 obtain⟨Q,T,D,N,E,e,k⟩:=O;obtain⟨os,l,h1,e⟩:=iK e;refine⟨Q,T,os,l,E,h1,λo q Y B=>?_⟩;dsimp only at e;split at e
 .rename_i j n;obtain⟨⟨s,t⟩,e⟩:=jy e;obtain⟨rfl,rfl⟩:=tu e;have hv:=uI B n (j:=0) IR;obtain⟨C,_⟩:=pQ n
  have:o=[.int j]:=by
   have d:=B.len
   cases o with
   |nil=>simp at hv
   |cons v r=>
    cases r with
    |nil=>simp at hv;rw[hv]
    |cons _ _=>simp at C d;lia
  exact⟨j,this,s,t,k _ q B.keep (B.er.mono (λ_ _ e _=>e) (λb _ z=>B.tt b z) λa z=>B.er.dom a<|B.tt a z) (AV 0 j.toNat)⟩
 cases e⟩
def iR2(T:Tx X.mg)(C:QA X [a,b] [M,fb])(I:Gl X "range":=by rfl)(Q:aj [a,b] X.env=[(IP,bh a X.env),(IP,bh b X.env)]:=by rfl)(t:aj [b] X.env=[(IP,bh b X.env)]:=by rfl):QI X B tg (.Call (.Name "range" p) [a,b] [] m) (zu M fb):=⟨PI.imp' (agf I T.n_range C.h Q t) λP H R N=>by
 obtain⟨Y,T,K,D,E,e,k⟩:=N;obtain⟨os,o,h1,e⟩:=iK e;refine⟨Y,T,os,o,E,h1,λq s F B=>?_⟩;dsimp only at e;split at e
 .rename_i i j n;obtain⟨w,e⟩:=jy e;obtain⟨rfl,rfl⟩:=tu e;have hv:=uI B n (j:=0) IR;have l:=uI B n (j:=1) IR;obtain⟨O,_⟩:=pQ n
  have:q=[.int i,.int j]:=by
   have d:=B.len
   match q,hv,l with
   |[x,y],hv,l=>simp at hv l;rw[hv,l]
   |x::y::z::r,_,_=>simp at O d;lia
  exact⟨i,j,this,w,k _ s B.keep (B.er.mono (λ_ _ e _=>e) (λb _ z=>B.tt b z) λa z=>B.er.dom a<|B.tt a z) (AV i (j-i).toNat)⟩
 cases e⟩
def iZ{d:kI}{w:Nat}{y:bA}(T:Tx X.mg)(o:QX X a f)(q:QX X b g)(r:Gl X "zip":=by rfl)(s:SE X a [b]:=by rfl)(l:SE X b []:=by rfl)(n:BA X m [b]:=by rfl):
  QI X B (.Tuple d w y) (.Call (.Name "zip" p) [a,b] [] m) (vF f g):=⟨PI.imp' (Oh (B:=B) r T.n_zip (PX.po o.h) (PX.po q.h) DP DP s l n) λE Q R t=>by
 have:vF f g=Iv (iP f) (iP g):=funext λO=>by
  unfold vF Iv iP
  cases f O with
  |none=>rfl
  |some p=>simp only[fY];cases g p.2<;>rfl
 rwa [this]at t⟩
def iS(h:QX X e f):QI X B tg e (jF f):=⟨PI.imp' (Oi (B:=B) (PX.po h.h) DP) λr T R l=>by
 have:jF f=Iw (iP f):=funext λn=>by
  unfold jF Iw iP
  cases f n with
  |none=>rfl
  |some p=>obtain⟨⟨d,o⟩,q⟩:=p;cases d<;>rfl
 rwa [this]at l⟩
def gN(l:X.N.Nodup)(G:X.N[i]?=Y x:=by rfl)(s:Loc X.env.scope x:=by first|exact bg rfl|exact bv C)(o:X.fn x=IN\/X.env.scope.names.lookup x=Y .local:=by first|exact bg rfl|exact bv C)(n:A i:=by decide):QG X A (.Name x m) (iD i):=⟨PG.imp' (JQ l G s o) λv y O Q q=>by obtain⟨w,T,d,t,E,r,e,k⟩:=q;obtain⟨G,rfl⟩:=jy e;obtain⟨h1,h⟩:=wY (A:=A) (r:=(d,IP)) (v:=v) E (Ls.val .refl E r) G n;exact k _ h1 h⟩
def gT{d l:Tg}{k:Nat}(h1:QG X A a d)(n:QG X A b l)(o:X.calm=IN:=by rfl)(s:(bf [a,b] X.env).map (·.2)=cu a X.env::(bf [b] X.env).map (·.2):=by rfl)(t:(bf [b] X.env).map (·.2)=cu b X.env::(bf [] X.env).map (·.2):=by rfl)
  (q:(bf [a,b] X.env).length=2:=by rfl)(r:(bf [a,b] X.env).findIdx? (·.1)=I:=by rfl):QG X A (.Tuple [a,b] k m) (wX [d,l]):=⟨Sm o (Ct h1.h (Ct n.h Oo t) s) q C r⟩
def f0:QF X [] jD:=⟨λd s n N Q O h=>by obtain⟨o,T,b,l,E,e,k⟩:=h;cases e;exact Sj d s n N Q O<|k N .refl E⟩
def f1(h:QT X e U):QF X [e] U:=⟨Si h.h⟩
def bE{q:oU}{sc:ju}{d:iw}{n:Nat}(he:QX X e f)(hn:q[n+1]?=Ix:=by rfl):QB X A d (.ListComp e q sc p) n (jN f):=⟨PB.imp' (Sx hn he.h) λy H N D=>by
 obtain⟨O,T,Y,Z,W,B,e,k⟩:=D;obtain⟨r,l,h1,e⟩:=iK e;obtain⟨K,e⟩:=jy e;obtain⟨rfl,rfl⟩:=tu e;refine⟨O,T,r,l,B.er,h1,λv s P=>?_⟩;obtain⟨C,V⟩:=P.rep B.er;have E:SK A y O H y l s:=P.1.sk;have Q:=B.step E C;obtain⟨w,F,I⟩:=Q.at';refine⟨w,F,by rw[I.length];exact K,k y _ ?_ ?_⟩
 .have:HY A d y l s y l (upd s d<|.lst<|w++[v]):=⟨λa o e n R=>by rw[jq R];exact e,λi a z=>.inl z,λa z=>by
   by_cases t:a=d
   .subst t;rw[jk];simp
   rw[jq t];exact z,λ_ _=>rfl⟩
  exact E.Jb.trans this
 have hk:∀b o,s b=Go o->¬T b->upd s d (.lst<|w++[v]) b=Go o:=λb o e n=>by rw[jq<|by intro z;subst z;exact n B.td];exact e
 have hd:∀a,T a->Ow (upd s d (.lst<|w++[v]) a):=λa z=>by
  by_cases t:a=d
  .subst t;rw[jk];trivial
  rw[jq t];exact C.dom a z
 refine⟨C.mono hk (λ_ _ z=>z) hd,B.td,w++[v],jk,?_⟩;exact YP.mono (λb o e n=>hk b o e λz=>n<|.inr z) (λ_ _ z=>z)<|I.append<|YP.one V⟩
def bF{l:oU}{r:ju}{d:iw}{n:Nat}{c:oT}{q:B0}{tt:Tg}{fb:FB}(C:l[n+1]?=Y c)(Q:QI X (λ_=>False) c.target c.iter q)(O:QG X A c.target tt)(s:QF X c.ifs U)(T:QB X A d (.ListComp e l r p) (n+1) fb)(t:X.xe=λ_ _=>False:=by rfl)(y:X.calm=IN:=by rfl)
  (w:c.is_async=0:=by rfl)(N:∀o,l[n+1+1]?=Y o->o.is_async=0:=by intro o h;cases h;try rfl)(E:∀x,aB c.iter X.env x=pure x:=by intro _;rfl):QB X A d (.ListComp e l r p) n (Cb q tt U fb):=⟨Sw t y (bg ⟨_,_,_,_,rfl⟩) C w N E Q.h O.h s.h T.h⟩
def cOk{N P:ji}{l scope:ju}{N':ji}{d:jP}(S:R1 N P l)(h:se N l scope N' d k=IN:=by decide+kernel)(n:X.N=N:=by rfl)(o:X.env.scope=l:=by rfl):B1 X N' scope d k:=Bm n o h
abbrev Lx(X:Cx)(d:jP)(o:oU)(r:ju)(P:Cx->Prop):Prop:= ∀(cl:kj)(T:iw)(q:iB)(l:Hp)(n:la)(h:jw),
 (X.comp (cN X.N d o) r cl T q l n h).N.Nodup->P (X.comp (cN X.N d o) r cl T q l n h)
def xC{c:oT}{n:oU}{o:iM}{scope:ju}{s:B0}{tt:Tg}{t:FT}{fb:FB}{l:jP}(pi:QI X (λi=>i∉l) c.target c.iter s)
  (Q:Lx X l (c::n) scope λY'=>QG Y' (λi=>IX l<=i) c.target tt/\QF Y' c.ifs t/\∀d,QB Y' (λi=>IX l<=i) d (.ListComp o (c::n) scope m) 0 fb)
  (C:se X.N X.env.scope scope (cN X.N l (c::n)) l k=IN:=by kernel_rfl)(T:decide (cN X.N l (c::n)).Nodup=IN:=by kernel_rfl)
  (H:X.calm=IN:=by rfl)(E:c.is_async=0:=by rfl)(O:∀r,n[0]?=Y r->r.is_async=0:=by intro r h;cases h;try rfl)(I:∀x,aB c.iter X.env x=pure x:=by intro _;rfl):QX X (.ListComp o (c::n) scope m) (jv l k s tt t fb):=⟨R3 (Bm IR IR C) H E O I pi.h λcl C D w y q=>let⟨a,b,c⟩:=Q cl C D w y q<|tL T;⟨a.h,b.h,λd=>(c d).h⟩⟩
def sC{c:oT}{n:oU}{o:iM}{scope:ju}{s:B0}{tt:Tg}{y:FT}{fb:FB}{l:jP}{w t:bA}(Q:X.N.Nodup)(pi:QI X (λi=>i∉l) c.target c.iter s)
  (n8:Lx X l (c::n) scope λY'=>QG Y' (λi=>IX l<=i) c.target tt/\QF Y' c.ifs y/\∀d,QB Y' (λi=>IX l<=i) d (.ListComp o (c::n) scope m) 0 fb)
  (C:se X.N X.env.scope scope (cN X.N l (c::n)) l k=IN:=by kernel_rfl)(nd:decide (cN X.N l (c::n)).Nodup=IN:=by kernel_rfl)
  (H:cH (.ListComp o (c::n) scope m) (Y<|.Name x w) t.line X.env=pure IN:=by rfl)(G:X.N[i]?=Y x:=by rfl)(hx:X.env.scope.names.lookup x=Y .local:=by rfl)(hf:X.fn x=IN:=by rfl)(O:A i:=by decide)
  (hc:X.calm=IN:=by rfl)(T:c.is_async=0:=by rfl)(j7:∀r,n[0]?=Y r->r.is_async=0:=by intro r h;cases h;try rfl)(hs:∀x,aB c.iter X.env x=pure x:=by intro _;rfl):QS X A L H0 (.Assign [.Name x w] (.ListComp o (c::n) scope m) t) (kK i<|jv l k s tt y fb):=⟨N5 H (Bm IR IR C) hc T j7 hs pi.h (JQ Q G (bg hx)<|bg hf) O λcl C D E I q=>let⟨a,b,c⟩:=n8 cl C D E I q<|tL nd;⟨a.h,b.h,λd=>(c d).h⟩⟩
def s0:QQ X A L H0 [] iX:=⟨D5.imp' Se λD h Q d=>by obtain⟨δ,T,out,E,l,e,k⟩:=d;cases e;exact k h Q .refl E⟩
def s1(h:QS X A L H0 S u)(C:QQ X A L H0 Ss v):QQ X A L H0 (S::Ss) (iG u v):=⟨D5.imp' (N7 h.h C.h) λD N H I=>by
 obtain⟨δ,T,out,E,t,e,k⟩:=I;obtain⟨o,y,e⟩:=iE e;refine⟨δ,T,o,E,t,y,?_⟩
 cases o with
 |nx δ1=>
  intro O Q s w;refine⟨δ1,T,out,w,t.step s,e,?_⟩
  cases out with
  |nx δ2=>exact λd l n q=>k d l (s.trans n) q
  |bk δ2=>exact λd l n q=>k d l (s.trans n) q
  |ct δ2=>exact λd l n q=>k d l (s.trans n) q
  |rt r δ2=>exact λv d l n R2=>k v d l (s.trans n) R2
 |rt r δ1=>cases e;exact k
 |bk δ1=>cases e;exact k
 |ct δ1=>cases e;exact k⟩
def sX:QS X A L H0 S NN:=⟨λd s o O D Q h=>by obtain⟨n,T,out,E,l,e,k⟩:=h;cases e⟩
def sR(h:QX X e f):QS X A L H0 (.Return (Y e) m) (kL f):=⟨PS.imp' (Oa h.h) λD O Q t=>by
 obtain⟨w,T,out,E,r,e,k⟩:=t;obtain⟨p,l,e⟩:=iE e;cases e;refine⟨w,T,p.1,p.2,E,l,λv n P=>k v O n P.1.sk ?_⟩;obtain⟨⟨d,o⟩,y⟩:=p
 cases o
 .exact P.2
 obtain⟨q,h1,s,l⟩:=P.2;exact⟨q,h1,r.fresh s,l⟩⟩
def sRV{n:Nat}(q:∀i,L.p i->i<n)(hq:n<=i:=by decide)(h1:X.N[i]?=Go x:=by rfl)(C:FQ X.env.scope x:=by first|exact bg rfl|exact bv (bg IR)|exact bv<|bv IR)(h3:DB x:=by decide)(h4:(x==("__classdict__":aE))=IP:=by decide):QS X A L H0 (.Return (Go<|.Name x p) m) (qt i):=⟨PS.imp' (Oa<|wj h1 C h3 h4) λD y H hw=>by
 have Z: ¬L.p i:=λh=>absurd (q _ h)<|M3.2 hq;obtain⟨s,T,out,E,W,e,k⟩:=hw;unfold qt at e
 cases G:s[i]? with
 |none=>rw[G]at e;cases e
 |some q=>
  cases q with
  |none=>rw[G]at e;cases e
  |some p=>
   obtain⟨d,b⟩:=p;have dP:i<(IX s):=(wJ.mp G).1
   cases b with
   |false=>rw[G]at e;cases e;obtain⟨v,h1,C⟩:=E.val i d G;exact⟨v,h1,k v y H .refl ⟨E,C⟩⟩
   |true=>
    rw[G]at e;cases e;obtain⟨a,h1,C⟩:=E.own i d G
    have l:∀j b,NR y (s.set i Ix) j b->i≠j/\NR y s j b:=λj b a'=>by
     obtain⟨r,g1,g2⟩:=a'
     rcases nU g1 with⟨_,_,q⟩|⟨ne,q⟩
     .cases q
     exact⟨ne,r,q,g2⟩
    have o:∀b,X0 y (s.set i Ix) b->X0 y s b/\b≠a:=λb a'=>by
     obtain⟨j,r,g1,g2⟩:=a'
     obtain⟨ne,O,F,K⟩:=l j b ⟨r,g1,g2⟩;exact⟨⟨j,O,F,K⟩,λz=>ne<|by subst z;exact E.inj i j d O _ G F h1 K⟩
    have P:X0 y s a:=⟨i,d,G,h1⟩
    have sub:∀b,H b≠Ix->(X0 y (s.set i Ix) b\/(T b\/b=a))->(X0 y s b\/T b):=λb _ z=>by
     rcases z with z|z|z
     .exact .inl (o b z).1
     .exact .inr z
     subst z;exact .inl P
    refine⟨.ref a,h1,k (.ref a) y H ⟨λ_ _ e _=>e,λj b z=>.inl (l j b z).2,λ_ z=>z,λ_ _=>rfl⟩ ⟨a,rfl,?_,?_,C.mono (λ_ _ e _=>e) sub λ_ e=>e⟩⟩
    .rcases W.ow i a ⟨d,G,h1⟩with z|z
     .exact absurd z Z
     exact z
    refine⟨by rw[vA];exact E.len,λj r I=>?_,λj r I=>?_,λj k r V b I hk g1 g2=>?_,λb z t=>?_,λb z=>?_⟩
    .rcases nU I with⟨_,_,q⟩|⟨ne,q⟩
     .cases q
     obtain⟨w,Q,Y⟩:=E.val j r q;exact⟨w,Q,Rep.mono (λ_ _ e _=>e) sub Y⟩
    .rcases nU I with⟨_,_,q⟩|⟨ne,q⟩
     .cases q
     obtain⟨w,Q,Y⟩:=E.own j r q;exact⟨w,Q,Y.mono (λ_ _ e _=>e) sub λ_ e=>e⟩
    .obtain⟨_,O,q1,q2⟩:=l j b ⟨r,I,g1⟩;obtain⟨_,R,q3,q4⟩:=l k b ⟨V,hk,g2⟩;exact E.inj j k O R b q1 q3 q2 q4
    .obtain⟨z1,z2⟩:=o b z;rcases t with t|t
     .exact E.nT b z1 t
     exact z2 t
    rcases z with z|z
    .exact E.dom b z
    subst z;exact E.HQ P⟩
def sE(h:QX X e f)(n:cH e I m.line X.env=pure IP:=by rfl):QS X A L H0 (.Expr e m) (pe f):=⟨PS.imp' (Sf h.h n) λD r Q o=>by obtain⟨q,T,out,E,s,e,k⟩:=o;obtain⟨p,l,e⟩:=iE e;cases e;exact⟨q,T,p.1,p.2,E,l,λv d P=>k r d P.1.sk (P.rep E).1⟩⟩
def sI(n:QT X c U)(d:QQ X A L H0 Ss u)(l:QQ X A L H0 Ts v):QS X A L H0 (.If c Ss Ts m) (AH U u v):=⟨Wi n.h d.h l.h⟩
def sW{n:Nat}(l:QT X c U)(d:QQ X A L H0 Ss u)(o:eI (am X.prog X.w) X.A X.env X.xe:=by exact PassesOwn.never):QS X A L H0 (.While c Ss [] m) (pX U u n):=⟨afu o l.h d.h⟩
def sF{d:B0}{t:Tg}(G:QI X (λ_=>False) tg e d)(o:QG X A tg t)(l:QQ X A L H0 Ss u)(q:eI (am X.prog X.w) X.A X.env X.xe:=by exact PassesOwn.never)(n:X.calm=IN:=by rfl)(r:∀x,aB e X.env x=pure x:=by intro _;rfl):QS X A L H0 (.For tg e Ss [] m) (oQ d t u):=⟨Sb q n G.h o.h l.h r⟩
def sS(q:X.N.Nodup)(t:QX X e f)(G:X.N[i]?=Go x:=by rfl)(I:Loc X.env.scope x:=by first|exact bg rfl|exact bv IR)(w:X.fn x=IN\/X.env.scope.names.lookup x=Go .local:=by first|exact bg rfl|exact bv IR)(s:A i:=by decide)(y:cH e (Go<|.Name x p) m.line X.env=pure IP:=by rfl):QS X A L H0 (.Assign [.Name x p] e m) (kK i f):=⟨PS.imp' (N9 q G I t.h y w) λD Y H C=>by obtain⟨O,T,out,E,Q,e,k⟩:=C;obtain⟨r,d,o,e⟩:=iK e;obtain⟨G,rfl⟩:=jy e;refine⟨O,T,r,d,E,o,λv l P=>?_⟩;obtain⟨h1,n⟩:=wY (A:=A) E P G s;exact k _ l h1 n⟩
def sT{t:Tg}{pt:bA}(C:QX X e f)(I:QG X A (.Tuple J k pt) t)(O:eQ [.Tuple J k pt] e m.line X.env=pure IP:=by rfl)(d:eR [.Tuple J k pt] e X.env=pure Ix:=by rfl)(h1:(bf [.Tuple J k pt] X.env).map (·.2)=[cu (.Tuple J k pt) X.env]:=by rfl):QS X A L H0 (.Assign [.Tuple J k pt] e m) (NM t f):=⟨PS.imp' (HS C.h I.h O d h1) λD Y H d=>by obtain⟨δ,T,out,E,N,e,k⟩:=d;obtain⟨r,δ1,h1,e⟩:=iK e;obtain⟨l,y,e⟩:=iE e;cases e;refine⟨δ,T,r,δ1,E,h1,λv s P=>?_⟩;obtain⟨q,Q⟩:=P.rep E;exact⟨δ1,T,r.1,l,q,Q,y,λn w o=>k n s (P.1.sk.trans w) o⟩⟩
def I0{n:bA}(hv:QO X (.Name x f6) (iA i))(he:QX X e f)(G:QO X a fo)
  (ha:∀v,cu (.Subscript (.Name x f6) a n) X.env v=(do
   let y <-cn [v] (bh (.Name x f6) X.env)
   let I' <-cn [v,y] (bh a X.env)
   cA n
   cn [v,y,I'] (g9 y I' v)
   y4 [v,y,I'] []):=by intro _;rfl)
  (hs:eQ [.Subscript (.Name x f6) a n] e m.line X.env=pure IP:=by rfl)(C:eR [.Subscript (.Name x f6) a n] e X.env=pure I:=by rfl)
  (h1:(bf [.Subscript (.Name x f6) a n] X.env).map (·.2)=[cu (.Subscript (.Name x f6) a n) X.env]:=by rfl):QS X A L H0 (.Assign [.Subscript (.Name x f6) a n] e m) (wc i f fo):=⟨PS.imp' (HS he.h (Ot hv.h G.h NJ ha) hs C h1) λD O H C=>by
 obtain⟨P,T,out,E,fi,e,k⟩:=C;obtain⟨r,d,h1,e⟩:=iK e;dsimp only at e;split at e
 case h_2=>cases e
 rename_i y0 h0;obtain⟨o,w,h2,e⟩:=iK e;dsimp only at e;split at e
 .rename_i kk l hk N;obtain⟨j,hj,e⟩:=iE e;cases e;refine⟨P,T,r,d,E,h1,λv V q=>⟨d,Jj T r v,.slot i,d,q.er E,by unfold iA;rw[h0],λv2 H2 s=>⟨d,Jj T r v,o,w,s.er<|q.er E,h2,λv3 W P3=>?_⟩⟩⟩;have ig:BP X.K T O P H (.val r) d v V:=q;have B:=Ops.cons E ig<|Ops.cons (q.er E) s<|Ops.cons (s.er<|q.er E) P3<|Ops.nil<|P3.er<|s.er<|q.er E;have Q:ER X.K W T O w:=B.er.mono (λ_ _ e _=>e) (λb _ z=>B.tt b z) λa z=>B.er.dom a<|B.tt a z;have t:O[i]?=Go (Go v2):=s.2.2;obtain⟨a,Y,xs,q2,F⟩:=Q.own i _ N;rw[t]at Y;cases Y;have vk:=jx<|B.view (j:=2) IR IR hk;have rv:=B.rep E (j:=0) (r:=r) IR IR;refine⟨a,xs,kk,j,rfl,vk,q2,by rw[F.length];exact hj,?_⟩;obtain⟨R,Z⟩:=Q.write N t<|YP.set rv j F;exact k _ _ (B.keep.trans Z).sk R
 cases e⟩
def sDP{C:bA}(hu:un X.A 1)(hv:QO X (.Name x f6) (iA i))(he:QX X e f)(G:QO X a fo)
  (ha:∀v,cu (.Subscript (.Name x f6) a C) X.env v=(do
   let ov <-cn [v] (bh (.Name x f6) X.env)
   let iv <-cn [v,ov] (bh a X.env)
   cA C
   cn [v,ov,iv] (g9 ov iv v)
   y4 [v,ov,iv] []):=by intro _;rfl)
  (hs:eQ [.Subscript (.Name x f6) a C] e m.line X.env=pure IP:=by rfl)(hw:eR [.Subscript (.Name x f6) a C] e X.env=pure Ix:=by rfl)
  (h1:(bf [.Subscript (.Name x f6) a C] X.env).map (·.2)=[cu (.Subscript (.Name x f6) a C) X.env]:=by rfl):QS X A L H0 (.Assign [.Subscript (.Name x f6) a C] e m) (NO i f fo):=⟨PS.imp' (HS he.h (Ot hv.h G.h (NK hu) ha) hs hw h1) λD Q H hw=>by
 obtain⟨δ,T,out,E,fi,e,k⟩:=hw;obtain⟨r,d,h1,e⟩:=iK e;dsimp only at e;split at e
 case h_2=>cases e
 rename_i y0 h0;obtain⟨o,l,h2,e⟩:=iK e;dsimp only at e;split at e
 .rename_i R V W hk h3;obtain⟨⟨P,q⟩,e⟩:=jy e;cases e;refine⟨δ,T,r,d,E,h1,λv H1 N=>⟨d,Jj T r v,.slot i,d,N.er E,by unfold iA;rw[h0],λv2 H2 F=>⟨d,Jj T r v,o,l,F.er<|N.er E,h2,λv3 Y P3=>?_⟩⟩⟩;have ig:BP X.K T Q δ H (.val r) d v H1:=N;have B:=Ops.cons E ig<|Ops.cons (N.er E) F<|Ops.cons (F.er<|N.er E) P3<|Ops.nil<|P3.er<|F.er<|N.er E;have E3:ER X.K Y T Q l:=B.er.mono (λ_ _ e _=>e) (λb _ z=>B.tt b z) λa z=>B.er.dom a<|B.tt a z;have y:Q[i]?=Go (Go v2):=F.2.2;obtain⟨a,q1,us,q2,q3⟩:=E3.own i _ h3;rw[y]at q1;cases q1;have vk:=B.view (j:=2) IR IR hk;have rv:=B.rep E (j:=0) (r:=r) IR IR;have oa:X0 Q l a:=⟨i,_,h3,y⟩
  have kp:∀(s:HO) b u,Y b=Go u->¬(X0 Q l b\/T b)->upd Y a s b=Go u:=λs b u e n=>by rw[jq<|by intro z;subst z;exact n<|.inl oa];exact e
  have ks10:10000<sizeLine:=by rw[kD];decide
  have fin:∀s Z,AN X.K (Go s) .dct (yD V W R r.1).1 (yD V W R r.1).2 Z->YP X.K Y (λa=>X0 Q l a\/T a) (yD V W R r.1).2 Z->D.nx Q (upd Y a s):=λs Z g1 g2=>by obtain⟨E4,K4⟩:=E3.BG (o:=s) (d':=.Q2 .dct (yD V W R r.1).1 (yD V W R r.1).2) h3 y ⟨Z,by rw[jk];exact g1,YP.mono (kp s) (λ_ _ z=>z) g2⟩;exact k _ _ (B.keep.trans K4).sk E4
  refine⟨a,rfl,?_⟩;rcases q2 with⟨kvs,eH,rfl,rfl⟩|⟨kvs,eH,rfl,rfl⟩
  .rw[jU]at q;rcases rA P with⟨κ,g1,_⟩|⟨τ,g1,g2⟩
   .have w:=qX g1 vk;have O:=pF g1;subst O;obtain⟨I,p2⟩:=JN uC (k:=κ) rv q3;refine .inl ⟨_,by rw[w];exact Er.k eH<|by lia,fin _ _ (.inl ⟨_,rfl,I,rfl⟩) p2⟩
   have cP:kvs=[]:=by
    cases kvs with
    |nil=>rfl
    |cons p kvs=>obtain⟨c,hc⟩:=g2 (lZ p.1) (by simp);exact(AS hc).elim
   subst cP;obtain⟨b,w,eb⟩:=qW g1 vk;have O:=uk g1;subst O;obtain⟨I,p2⟩:=JN (kd:=λk=>.tup (k.map lZ)) uV (k:=τ) (kvs:=[]) rv q3;exact .inr<|.inr ⟨τ,b,eH,w,eb,fin _ _ (.inr ⟨[(τ,v)],rfl,I,rfl⟩) p2⟩
  rw[jU]at q;rcases rA P with⟨κ,g1,g2⟩|⟨τ,g1,_⟩
  .have cP:kvs=[]:=by
    cases kvs with
    |nil=>rfl
    |cons p kvs=>obtain⟨c,hc⟩:=g2 (.tup<|p.1.map lZ) (by simp);exact(DM hc).elim
   subst cP;have w:=qX g1 vk;have O:=pF g1;subst O;obtain⟨I,p2⟩:=JN uC (k:=κ) (kvs:=[]) rv q3;exact .inr<|.inl ⟨κ,eH,w,fin _ _ (.inl ⟨[(κ,v)],rfl,I,rfl⟩) p2⟩
  obtain⟨b,w,eb⟩:=qW g1 vk;have O:=uk g1;subst O;obtain⟨I,p2⟩:=JN (kd:=λk=>.tup (k.map lZ)) uV (k:=τ) rv q3;refine .inl ⟨_,by rw[w];exact Er.t eH eb<|by lia,fin _ _ (.inr ⟨_,rfl,I,rfl⟩) p2⟩
 cases e⟩
end
def Fz(K:jd)(b:mE)(x:aE)(st:bi):Prop:= ∃f a,b x=Y (.ref f)/\HM K x x st f a
def fz{K:jd}{h:jb}{e:mE}{x:aE}{st:bi}{f:iw}{g:iI}{i an:Option iw}{m:zN}{kV b j d ct:iI}(X:K.In h)(G:h.Ns ap e)(a:aX K ap x=Y (Y<|.ref f))
  (l:K.lookup f=Y ⟨g,i,.func<|bI x x (qv st) (lQ st) (iL st) .none kV b j an d ct,m⟩)(c:cR K d x=J)(k:ce K (.ref f)=J):Fz K e x st:=⟨f,_,j4 X G a,Qa l c k⟩
def Ii(x:aE)(st:bi)(c:ji):Prop:= ∀(kV a e:iI)(an:Option iw)(d ct:iI)(b:jS),IX b=IX c->dh (bI x x (qv st) (lQ st) (iL st) .none kV a e an d ct) ⟨b,[]⟩=pure (c.zip b)
def KZ{N P:ji}{a:ju}(h1:a.kind=.function:=by rfl)(b:a.isCoroutine=U:=by rfl)(c:a.isGenerator=U:=by rfl)(d:N.Nodup:=by decide+kernel)(e:N.take P.length=P:=by rfl)(f:∀x∈P,a.names.lookup x=Y .local\/a.names.lookup x=Y .cell:=by decide+kernel)(g:∀y∈a.names,y.2≠ .free:=by decide+kernel):R1 N P a:=⟨h1,b,c,d,e,f,g⟩
abbrev Bd(Z:ZZ)(k:Nat)(x:aE)(st:bi)(N d:ji)(c:jP)(fs:FS):Prop:= ∀(f:iw)(b:iI)(A:iU)(a:List dk)(s:iB)(T:Hp)(E:XK)(L:LL),(∀i,L.p i->i<IX d)->OO k (A.deeper<|bc x (iL st) s.heap.objs.size f b)->
 un (A.deeper<|bc x (iL st) s.heap.objs.size f b) 60->un (A.deeper<|bc x (iL st) s.heap.objs.size f b) 1->un (A.deeper<|bc x (iL st) s.heap.objs.size f b) 62->un (A.deeper<|bc x (iL st) s.heap.objs.size f b) 90->N.Nodup->
 QQ (rE BU Z.P Z.w Z.K Z.mg Z.base N x (iL st) f b A a s T E).FG (λi=>i∈c) L T (lQ st) fs
def fnB{Z:ZZ}{k:Nat}{x:aE}{st:bi}{N c:ji}{b:jP}{fs:FS}{f:iw}{d:nK}(F:HM Z.K x x st f d)(S:R1 N c (iL st))(j:Bd Z k x st N c b fs):BF Z.P Z.w Z.K Z.mg Z.base BU (k+1) f d c (Ex Z.K<|Sr (IX N) (IX c) b fs):=
 Xc F S λg A a s T E L i e=>by have:=e.un;exact(j f g A a s T E L i e (by unfold un;omega) (by unfold un;omega) (by unfold un;omega) (by unfold un;omega) S.nd).h
def ozB{Z:ZZ}{k:Nat}{x:aE}{st:bi}{N d:ji}{c:jP}{fs:FS}(a:Fz Z.K Z.mg x st)(S:R1 N d (iL st))(b:Ii x st d)(g:Bd Z k x st N d c fs):Oz Z (k+1) x d (Sr (IX N) (IX d) c fs):=
 let⟨f,e,m,F⟩:=a;⟨f,e,fnB F S g,m,F.kp,F.binds b⟩
def KY{P:List iI->Prop}(h:P []):∀b:List iI,IX b=0->P b:=λb e=>by cases b with|nil=>exact h|cons a l=>cases e
def K9{P:List iI->Prop}{n:Nat}(h:∀a,∀b:List iI,IX b=n->P (a::b)):∀b:List iI,IX b=n+1->P b:=λb e=>by cases b with|nil=>cases e|cons a l=>exact h a l<|Nat.succ.inj e
def fzL{K:jd}{h:mE}{x y:aE}{st:bi}{g:iw}(a:Fz K h x st)(i:h x=Y (.ref g))(b:Ii x st [y]):∃c,HM K x x st g c/\∀(s:iB)(v:iI),fD s c ⟨[v],[]⟩ [(y,v)]:=by obtain⟨f,c,m,F⟩:=a;have e:=i.symm.trans m;cases e;obtain⟨l,n,kV,d,k,an,j,ct,o,e,_⟩:=F.ex;exact⟨c,F,λs v=>by subst e;exact .of_eq<|b kV d k an j ct [v] C⟩
def mgI{K:jd}{h:jb}{b:mE}{x:aE}{i:Int}{t:oC}(X:K.In h)(G:h.Ns ap b)(a:aX K ap x=Y (Y<|.int i t)):∃t,b x=Y (.int i t):=⟨t,j4 X G a⟩
def txK{K:jd}{h:jb}{g:mE}(X:K.In h)(G:h.Ns ap g)(i:aX K ap "len"=Y I)(j:aX K ap "abs"=Y I)(k:aX K ap "int"=Y I)(l:aX K ap "tuple"=Y I)(m:aX K ap "list"=Y I)(n:aX K ap "range"=Y I)(o:aX K ap "isinstance"=Y I)(p:aX K ap "bool"=Y I)(q:aX K ap "max"=Y I)(r:aX K ap "min"=Y I)(a:aX K ap "all"=Y I)(b:aX K ap "any"=Y I)(c:aX K ap "sorted"=Y I)(d:aX K ap "enumerate"=Y I)(e:aX K ap "zip"=Y I)(f:aX K ap "set"=Y I):Tx g:=⟨oV X G i,oV X G j,oV X G k,oV X G l,oV X G m,oV X G n,oV X G o,oV X G p,oV X G q,oV X G r,oV X G a,oV X G b,oV X G c,oV X G d,oV X G e,oV X G f⟩
end PX
namespace L2
open PySem.W
section
variable {P:jh}{w:iY}{a:List dk}{H f:Hp}{s b:iB}{C e:iw}{c B d:jb}{F:la}
end
section
variable {X:Cx}{b:jw}{c:St}{H:Hp}{s d:iB}{C e:iw}
variable {P:jh}{w:iY}{a:List dk}{f:Hp}{s0:iB}{E:XK}
end
section
variable {X:Cx}{P:jh}{w:iY}{b:List dk}{f:Hp}{s0:iB}{E:XK}{x:aE}{C:iw}{a:iM}{d:TE}{np e c:bA}
end
def yJ(q:aE):HO:=.tbl #[.str q 0]
structure K7(TB:List (iw×aE))(H:Hp):Prop where
 one:∀b,H b=Ix\/(∃o xs,H b=Go (.AL o<|.lst xs))\/∃q,(b,q)∈TB/\H b=Go (yJ q)
 all:∀p∈TB,H p.1=Go (yJ p.2)
def agu{P:jh}{w:iY}{K:jd}{C mb:mE}{CX:HB}{k:Nat}{fa a:iw}{fd:nK}{x:aE}{sp:Sp}{c:iB}{O:jS}{Q:iF}{TB:List (iw×aE)}
  (KX:K.In c.heap)(q9:c.heap.Ns ap C)(g:c.heap.Ns f4 mb)(hbb:∀x:aE,x≠"__name__"->mb x=aF x)(Y:c.heap.NoLimit)(hg:c.gens= #[])
  (M:∀p∈TB,c.heap.get? p.1=Go (tabObj #[]))(fv:∀p∈TB,K.lookup p.1=Ix)(fq:∀p∈TB,isCodeTable c.heap p.1)(dU:(TB.map (·.1)).Nodup)(U:∀p∈TB,c.heap.BuiltinsAt C p.1)
  (N:c.heap.get? a=Go {cls:=.type "list",data:=.seq O.toArray})(hi:ei O Q)(hl:Q.length<=sizeLine)(hr:OO k fy)
  (F:∀base:jb,K.In base->base.Ns ap C->(∀p∈TB,base.BuiltinsAt C p.1)->BF P w K C base CX k fa fd [x] sp)(i9:∀(s:iB)(u:iI),fD s fd ⟨[u],[]⟩ [(x,u)])
  (bj:∀H8:Hp,K7 TB H8->Bx K H8 a (Q.map V.int)->sp [.ref a] H8 (λv H'=>v=.bl IN/\∀p∈TB,H' p.1=Go (yJ p.2)) λ_ _ _=>False)
  (hCX:∀H8 e j,CX [] H8 c (λ_ _ _=>False) e j->False):
  b4 (am P w) fy (.call (.ref fa) ⟨[.ref a],[]⟩) (λr j=>r=.ok (.ret<|.bool IN)/\OldK c.heap j.heap/\j.os=c.os/\ej j.gens) c:=by
 have rv:=afz hi;have R:=hi.length
 have Z:∀p∈TB,p.1≠a:=λp f e=>by have:=M p f;rw[e,N]at this;cases this
 have t:∀H8:Hp,K7 TB H8->Bx K H8 a (Q.map V.int)->BW P w H8 c.heap->(∀b,H8 b≠Ix->b=a\/∃p∈TB,b=p.1)->(H8 a≠Ix->K.lookup a=Ix)->
   b4 (am P w) fy (.call (.ref fa) ⟨[.ref a],[]⟩) (λr j=>r=.ok (.ret<|.bool IN)/\OldK c.heap j.heap/\j.os=c.os/\ej j.gens) c:=by
  intro H8 hO hS D hA hK;have p7:∀{b:iw}{o:el},c.heap.get? b=Go o->H8 b=Ix->(BN c.heap H8).get? b=Go o:=λe n=>PR e n
  have ae:∀{b:iw}{o:el},c.heap.get? b=Go o->(∀its n,o.data≠ .seq its n)->(∀I,o.data≠ .fields I)->H8 b=Ix:=λ{b o} e d d2=>by
   cases q:H8 b with
   |none=>rfl
   |some u=>
    rcases hA b (by rw[q];simp)with rfl|⟨p,f,rfl⟩
    .rw[N]at e;cases e;exact absurd IR<|d _ _
    rw[M p f]at e;cases e;exact absurd IR<|d2 _
  have X:∀{b:iw}{m:mE},c.heap.Ns b m->(BN c.heap H8).Ns b m:=λ{b m} ⟨o,es,ep,e,d,r⟩=>⟨o,es,ep,p7 e (ae e (λ_ _ z=>by rw[d]at z;cases z) λ_ z=>by rw[d]at z;cases z),d,r⟩
  have J:K.In (BN c.heap H8):=λb o e=>p7 (KX b o e) (by
   cases q:H8 b with
   |none=>rfl
   |some u=>
    rcases hA b (by rw[q];simp)with rfl|⟨p,f,rfl⟩
    .rw[hK<|by rw[q];simp]at e;cases e
    rw[fv p f]at e;cases e)
  have hBA:∀p∈TB,(BN c.heap H8).BuiltinsAt C p.1:=λp f=>by obtain⟨bm,o,h1,h2,h3,h4,h5,h6,h7,h8⟩:=U p f;exact⟨bm,o,h1,h2,h3,h4,p7 h5 (ae h5 (λ_ _ z=>by rw[h8]at z;cases z) λ_ z=>by rw[h8]at z;cases z),h6,h7,h8⟩
  have hM:Mod K C (BN c.heap H8):=⟨J,X q9,⟨mb,X g,hbb⟩,let⟨mc,h1,h2⟩:=Y;⟨mc,X h1,h2⟩⟩
  have e0:Eo P w K C (BN c.heap H8) fy [] c H8:=⟨rfl,hM,λb o e=>S8 e,sB<|afZ _ _,trivial,λb g=>absurd (show b∈([]:List iw)from g)<|by simp,D,.of_eq hg⟩
  refine ql ((F _ J (X q9) hBA).run fy [] c H8 ⟨[.ref a],[]⟩ [.ref a] [.ref a] _ _ hr e0 (i9 c<|.ref a) (.cons IR .nil) (bj H8 hO hS)) λr j h=>?_
  cases r with
  |error e=>exact(hCX H8 e j h).elim
  |ok fl=>
   cases fl with
   |next=>exact aR h
   |brk=>exact aR h
   |cont=>exact aR h
   |ret u=>
    obtain⟨v,H',os,T,un,B,r',q,L⟩:=h;subst q;obtain rfl:u=ey IN:=r'
    have W:∀p∈TB,∃I,j.heap.get? p.1=Go (tabObj I):=λp f=>by
     obtain⟨_,_,I,_,e,_⟩:=(show T2 P w H' j.heap p.1 (.tbl #[.str p.2 0])from B _ _ (L p f))
     exact⟨I,e⟩
    have keep:∀b o,c.heap.get? b=Go o->(∀p∈TB,b≠p.1)->j.heap.get? b=Go o:=λb o e n=>by
     cases q:H8 b with
     |none=>exact un.keep b o e q (by intro z;exact absurd (show b∈([]:List iw)from z)<|by simp) (by simp)
     |some u=>
      rcases hO.one b with z|⟨ob,xs,z⟩|⟨qq,hm,z⟩
      .rw[q]at z;cases z
      .have z2:=un.frzs b ob _ z;obtain⟨e1,_⟩:=D b _ z;obtain⟨G,_⟩:=B b _ z2;rw[e]at e1;cases e1;exact G
      exact absurd IR (n _ hm)
    refine⟨rfl,⟨λb o e=>?_,λb o e=>?_⟩,os,T⟩
    .by_cases g:∃p∈TB,b=p.1
     .obtain⟨p,f,rfl⟩:=g;obtain⟨I,G⟩:=W p f;rw[M p f]at e;cases e;refine .inr<|.inl ⟨fq p f,rfl,#[],I,rfl,?_⟩;rw[G];simp
     exact .inl (keep b o e λp f z=>g ⟨p,f,z⟩)
    by_cases g:∃p∈TB,b=p.1
    .obtain⟨p,f,rfl⟩:=g;obtain⟨I,G⟩:=W p f;exact⟨_,G⟩
    exact⟨o,keep b o e λp f z=>g ⟨p,f,z⟩⟩
 have A:∀{b q},TB.lookup b=Go q->(b,q)∈TB:=λh=>by
  revert h;generalize TB=l
  induction l with
  |nil=>intro h;simp at h
  |cons x l ih=>
   intro h;rw[oY]at h;split at h
   .rename_i g;cases h;rw[beq_iff_eq.mp g];exact ky
   exact kO _ (ih h)
 have S:∀p∈TB,TB.lookup p.1=Go p.2:=by
  clear A t Z bj fv fq U F M
  induction TB with
  |nil=>intro p f;simp at f
  |cons x l ih=>
   intro p f;rw[ku,zC]at dU;rw[oY];rcases oq.mp f with rfl|f
   .simp
   have:(p.1==x.1)=IP:=by rw[Bw];exact λe=>dU.1 (e▸qJ f)
   rw[this];exact ih dU.2 p f
 have E:∀(H8:Hp)(b:iw)(q:aE),(b,q)∈TB->T2 P w H8 c.heap b (yJ q):=λH8 b q hm=>⟨q,0,#[],rfl,M _ hm,trivial,λpos cv z=>by simp[d7]at z⟩
 cases hk:K.lookup a with
 |some o=>
  have e:=KX a o hk;rw[N]at e;cases e;refine t (λb=>(TB.lookup b).map yJ) ⟨λb=>?_,λp f=>by rw[S p f];rfl⟩ (.inr ⟨_,O.toArray,_,hk,rfl,rfl,rfl,by rw[kR,R];exact hl,by simpa using rv⟩) (λb u z=>?_) (λb z=>?_) λz=>?_
  .cases q:TB.lookup b with
   |none=>exact .inl IR
   |some y=>exact .inr<|.inr ⟨y,A q,rfl⟩
  .have i:(TB.lookup b).map yJ=Go u:=z
   cases q:TB.lookup b with
   |none=>rw[q]at i;cases i
   |some y=>rw[q]at i;cases i;exact E _ b y (A q)
  .have i:(TB.lookup b).map yJ≠Ix:=z
   cases q:TB.lookup b with
   |none=>rw[q]at i;exact absurd IR i
   |some y=>exact .inr ⟨_,A q,rfl⟩
  have i:(TB.lookup a).map yJ≠Ix:=z
  cases q:TB.lookup a with
  |none=>rw[q]at i;exact absurd IR i
  |some y=>exact absurd IR<|Z _ (A q)
 |none=>
  have hat:∀p∈TB,(if p.1=a then Go (HO.AL {cls:=.type "list",data:=.seq O.toArray}<|.lst<|Q.map V.int)else(TB.lookup p.1).map yJ)=Go (yJ p.2):=λp f=>by rw[je<|Z p f,S p f];rfl
  refine t (λb=>if b=a then Go (.AL {cls:=.type "list",data:=.seq O.toArray}<|.lst<|Q.map V.int)else(TB.lookup b).map yJ) ⟨λb=>?_,hat⟩ (.inl<|.inr ⟨{cls:=.type "list",data:=.seq O.toArray},iQ IR⟩) (λb u z=>?_) (λb z=>?_) λ_=>hk
  .by_cases g:b=a
   .exact .inr (.inl ⟨_,_,iQ g⟩)
   cases q:TB.lookup b with
   |none=>exact .inl (by simp[g])
   |some y=>exact .inr<|.inr ⟨y,A q,by simp[g]⟩
  .by_cases g:b=a
   .have i:=(iQ g).symm.trans z;cases i;subst g;exact⟨N,by rw[jU];exact hl,O,_,rv,N⟩
   have i:=(je g).symm.trans z
   cases q:TB.lookup b with
   |none=>rw[q]at i;cases i
   |some y=>rw[q]at i;cases i;exact E _ b y (A q)
  by_cases g:b=a
  .exact .inl g
  cases q:TB.lookup b with
  |none=>exact absurd (by simp[g,q]) z
  |some y=>exact .inr ⟨_,A q,rfl⟩
end L2
namespace PX
open L2
def To{TB:List (iw×aE)}{K:jd}{k:O1}{T:Hp}{a:iw}{f:iF}(m:∀p∈TB,T p.1=Y (yJ p.2))(l:Bx K T a (f.map V.int)){o:Bool}{c:Dn}(h:k [(.lst<|f.map .int,U)]=Y ((.bl J,o),c)):Ex K k [.ref a] T (λv g=>v=.bl J/\∀p∈TB,g p.1=Y (yJ p.2)) λ_ _ _=>False:=by
 have no:∀b,¬X0 [Y<|V.ref a] [Y (D.lst<|f.map .int,U)] b:=λb Q=>by
  obtain⟨i,d,h1,q⟩:=Q
  cases i with
  |zero=>simp at h1
  |succ i=>simp at h1
 refine⟨λ_=>False,[(.lst<|f.map .int,U)],_,c,⟨rfl,λi d hd=>?_,λi d hd=>?_,λi j d e b h1=>?_,λb z=>absurd z<|no b,λb z=>z.elim⟩,h,λv g P=>?_⟩
 .cases i with
  |zero=>simp at hd;subst hd;refine⟨_,rfl,Rep.LI (a:=a) (xs:=f.map V.int) ?_<|afL f⟩;exact l.imp (λz=>⟨z,λz=>z.elim (no a) id⟩) id
  |succ i=>simp at hd
 .cases i with
  |zero=>simp at hd
  |succ i=>simp at hd
 .cases i with
  |zero=>simp at h1
  |succ i=>simp at h1
 refine⟨?_,λp n=>P.1.kp _ _ (m p n) (no _)⟩
 cases o
 .exact P.2.2.bl
 obtain⟨p,_,_,_,ok⟩:=P.2;exact ok.elim
end PX
namespace L2
open PySem.W
theorem wW{a b:Int}{t u:Nat}{c:iI}:∀l:List iI,gQ l->gQ (l++[.int a t,.int b u,c])
 |[],_=>trivial
 |.int _ _:: .int _ _::_::rest,h=>wW rest h
theorem Bs{a b:Int}{t u:Nat}{e:bA}{c f:iI}:∀l:List iI,gQ l->d7 e (l++[.int a t,.int b u,c])=Y f->d7 e l=Y f\/f=c
 |[],_,h=>by
  simp only[rK,d7]at h;split at h
  .exact .inr (kZ h).symm
  cases h
 |.int i _:: .int j _::d::rest,h0,h=>by
  simp only[eY,d7]at h ⊢;split at h
  .rename_i q;rw[iQ q];exact .inl h
  rename_i q;rw[je q];exact Bs rest h0 h
section
variable {X:Cx}{d:jw}{i:St}{H:Hp}{s:iB}{P c:iw}{b:bo}{f:iM}{scope:ju}{j:kj}{g:bA}
def UR{h:jb}{a:iw}(e:h.objs.size<=a):h.get? a=I:=by
 cases q:h.get? a with
 |none=>rfl
 |some o=>exact absurd (kH q)<|M3.mpr e
end
def Bg(q:aE)(scope:ju)(L fl:iw)(cd:iI)(a:kj):Env:=
 newEnv scope L ap a (q++".<locals>.") (Y fl) cd I f4
def qw(CX:HB)(P:jh)(w:iY)(K:Frag)(d:mE)(base:jb)(N:ji)(q:aE)(scope:ju)(fl:iw)(cd:iI)(b:kj)(A:iU)(a:List dk)(s:iB)(T:Hp)(E:XK):Cx where
 prog:=P
 w:=w
 K:=K
 mg:=d
 base:=base
 A:=A.deeper<|Bg q scope s.heap.objs.size fl cd b
 N:=N
 s₀:=s
 H₀:=T
 env:=Bg q scope s.heap.objs.size fl cd b
 outer:=a
 stack:=Bg q scope s.heap.objs.size fl cd b::a
 ex:=[]
 calm:=J
 fn:=λ_=>U
 pn:=[]
 xe:=λe h=>af (am P w) (A.deeper<|Bg q scope s.heap.objs.size fl cd b) (leaving (Bg q scope s.heap.objs.size fl cd b) e) (λ_ c=>CX a T s E e c) (λg c=>CX a T s E g c) h
structure Bp(scope:ju):Prop where
 kind:scope.kind=.function
 co:scope.isCoroutine=IP
 gen:scope.isGenerator=IP
 cell:∀y∈scope.names,y.2≠ .cell
structure K3(N:ji)(scope:ju)(b6:kj)(σ:St)(H:Hp)(h:jb):Prop where
 inj:∀x y c,b6.lookup x=Go c->b6.lookup y=Go c->x=y
 has:∀x,scope.names.lookup x=Go .free->∃c,b6.lookup x=Go c
 cell:∀x c,b6.lookup x=Go c->(∃v,h.IsCell c v)/\H c=Ix
 val:∀(i:Nat)(x:aE)(v:V),N[i]?=Go x->σ[i]?=Go (Go v)->scope.names.lookup x=Go .free/\∃c u,b6.lookup x=Go c/\h.IsCell c (Go u)/\RelV v u
 len:(IX σ)=(IX N)
section
variable {f:HB}{P:jh}{w:iY}{K:Frag}{c:mE}{base:jb}{N:ji}{q:aE}{scope:ju}{d:iw}{cd:iI}{e:kj}{A:iU}{a:List dk}{s:iB}{H:Hp}{E:XK}{b:St}
end
open PySem.Calls Builtin Builtin.ObjectAttr Builtin.Getset_descriptor
section
variable {K:Frag}{C x:iw}{o:el}
end
section
variable {X:Cx}{b:jw}{d c:St}{H:Hp}{s:iB}{a:iw}{o:el}{e:jb}
end
section
variable {X:Cx}{a:jw}{b:St}{H h:Hp}{s c:iB}{C f:iw}{d B e:jb}{F:la}{g:iI}
end
end L2
namespace PX
open L2 PySem.SeqAt PySem.W
def Kd{b:List (D×Bool)}(h:(b.all λa=>!a.2)=J):∀a∈b,a=(a.1,U):=λa c=>by
 have:=kT.mp h a c;obtain⟨d,f⟩:=a
 cases f
 .rfl
 cases this
theorem uy:∀(os:List A1)(as:List (D×Bool)),(∀a∈as,a=(a.1,U))->jf os as=[]
 |[],as,_=>by cases as<;>simp[jf]
 |o::os,[],_=>by simp[jf]
 |o::os,a::as,h=>by have b:=h a ky;obtain⟨d,f⟩:=a;cases b;cases o<;>simp[jf,uy os as λa c=>h a<|kO _ c]
section
variable {X:Cx}{P:jh}{w:iY}{c:List dk}{m:Hp}{s0:iB}{E:XK}{A:ki}{st:bi}{l a b:List bi}{x y:XS}{e:iM}{d:bA}
variable {k:Nat}{f:iw}{i:nK}{h:ji}{g:List D->Option aE}{j:kI}{fs:List FO}{z:aE}{p:bA}
end
end PX
namespace L2
open PySem.W
section
variable {fs:la}{N:ji}{scope:ju}{b:kj}{d:St}{H g:Hp}{h h':jb}{q:aE}{a:bo}{f:iM}{j:iw}
def K3.keep(T:K3 N scope b d H h)(u:Un fs [] H g h h')(n:∀x c,b.lookup x=Y c->c∉fs):K3 N scope b d g h':=by
 have kp:∀{x c v},b.lookup x=Y c->h.IsCell c v->h'.IsCell c v:=λ{x c v} e z=>by obtain⟨o,k,l⟩:=z;exact⟨o,u.keep c o k (T.cell x c e).2 (n x c e)<|by simp,l⟩
 refine⟨T.inj,T.has,λx c e=>?_,λi x v h1 p=>?_,T.len⟩
 .obtain⟨⟨v,o,k,l⟩,t⟩:=T.cell x c e;exact⟨⟨v,kp e ⟨o,k,l⟩⟩,u.free c o k t<|by simp⟩
 obtain⟨s,c,w,m,y,r⟩:=T.val i x v h1 p;exact⟨s,c,w,m,kp m y,r⟩
end
section
variable {X:Cx}{N:ji}{scope:ju}{e:kj}{c:St}{q:aE}{a:bo}{b:iM}{d:iw}{k:Nat}{t:XK->TE}
end
end L2
namespace PX
open L2 PySem.SeqAt PySem.W
def Xe{b:List (D×Bool)}(h:∀a∈b,a=(a.1,U))(f:L2.St)(a:iw): ¬X0 f (b.map Y) a:=λT=>by
 obtain⟨i,d,h1,_⟩:=T
 rw[kX]at h1;obtain⟨p,c,e⟩:=jB h1;cases e;have:=h _ (mY c);simp at this
section
variable {X:Cx}
def Gr{T:SS}{g:L2.St}{l:Dn}{Q:Hp}{d:jP}{f:List (D×Bool)}{K:Frag}(m:ER K Q T g l)(r:jM l (d.map .slot)=Y f):
  ∃vs:List V,sQ d 0 g=vs.map Y/\Ops K T g l Q (d.map A1.slot) vs l Q T:=by
 obtain⟨u,s⟩:=qi r
 have there:∀(i j:Nat),d[i]?=Y j->∃v,g[j]?=Y (Y v):=λi j e=>by
  have t:i<(IX f):=by have:=(wJ.mp e).1;simp at u;lia
  obtain⟨o,q,k⟩:=s i _ (jZ t);rw[kX,e]at q;cases q;have n:=ox k;generalize f[i]=y at n;obtain⟨x,b⟩:=y
  cases b
  .obtain⟨v,h,_⟩:=m.val j x n;exact⟨v,h⟩
  obtain⟨a,h,_⟩:=m.own j x n;exact⟨_,h⟩
 refine⟨d.map λj=>((g[j]?).join).getD .VP,?_,by simp,.refl,m,λ_ z=>z,λj x v e=>?_,λj x v e=>?_,λj i v e hv=>?_⟩
 .unfold sQ;rw[xY,wN];apply ym;intro i;rw[kX,kX,kX]
  cases e:d[i]? with
  |none=>rfl
  |some j=>obtain⟨v,hv⟩:=there i j e;simp[hv]
 .rw[kX]at e;obtain⟨_,_,z⟩:=jB e;cases z
 .rw[kX]at e;obtain⟨_,_,z⟩:=jB e;cases z
 rw[kX]at e;obtain⟨c,p,z⟩:=jB e;cases z;obtain⟨w,k⟩:=there j i p;rw[kX,p]at hv;simp[k]at hv;rw[k,hv]
end
section
variable {X:Cx}{t c:iw}{a:bo}{e:iM}{scope:ju}{f b pf:bA}{d:jP}{v u:ji}{q:F}{xB:XS}{s:FS}{w:aE->Option Nat}{g:jP}{st:bi}{p:iw}{r:nK}{n o l h m:aE}{CR:iw}{i j k:Nat}
end
open TS
noncomputable abbrev KW(i:Int):Int:=if i<0 then -i else i
section
variable {d:jh}{w:iY}{A:iU}{E:jr}{s:iB}
def NB{a:iw}{f:jS}{r:iF}{n:Nat}{P:ut->iB->Prop}(M:s.heap.get? a=Go (br "list" f.toArray n))(hi:ei f r)(h64:f.length<64)
  (h:∀g y out c,(∀b o,b≠a->s.heap.get? b=Go o->g.get? b=Go o)->g.get? a=Go (br "list" out c)->KskOut IP (r.map KW) f out.toList->P (.done<|.ret .none) {s with heap:=g,toks:=y}):
  af (am d w) A (ksk_tree a (.builtin "abs") IP) P E s:=by
 have ha:a<s.heap.objs.size:=kH M;have V:=hi.length;have T:∀k,k<=f.length->k<=sizeLine:=λk hk=>by rw[kD];omega
 unfold ksk_tree;refine iz<|GU M IR<|iz<|vO M IR ?_ (T _ (by simp))<|mD _;obtain⟨C,Z⟩:∃C,(s.heap.update a<|aV λ_=>(#[]:Array iI)).get? a=Go (br "list" #[] C):=⟨_,yh M λ_=> #[]⟩
 refine iz<|zU Z IR<|iz<|Dr ?_<|T _ (by simp);refine iz<|Df ?_<|mD _;refine mF ?_
 let h1:=qr s.heap a f
 let m:Addr:=((s.heap.update a<|aV λ_=>(#[]:Array iI)).push<|br "tuple" f.toArray 0).objs.size
 have hk:m=s.heap.objs.size+1:=by show _=_;simp -iota only[m];rw[size_push',Heap.size_update]
 have L:a≠m:=by rw[hk];exact kz<|vq ha
 have old:∀b o,b≠a->s.heap.get? b=Go o->h1.get? b=Go o:=λb o z e=>jX _ (jX _ (by rw[GS _ _ _ _ z];exact e));have F:h1.get? a=Go (br "list" #[] C):=jX _ (jX _ Z);have da:h1.get? m=Go (br "list" #[] 0):=kF _ rfl;show af (am d w) A (ksk_rest a (.builtin "abs") IP f.toArray C<|.ref m) P E {s with heap:=h1};unfold ksk_rest;refine iz<|vz ?_;rw[List.forIn_toArray];refine iz<|ksk_fold (λi U=>∃g y l e,U={s with heap:=g,toks:=y}/\(∀b o,b≠m->h1.get? b=Go o->g.get? b=Go o)/\g.get? m=Go (br "list" l e)/\ei l.toList ((r.map KW).take i)) f 0 _ ⟨h1,s.toks,#[],0,rfl,λ_ _ _ e=>e,da,.nil⟩ (λj x U X D=>?_) λU D=>?_
 .obtain⟨g,y,l,e,rfl,N,G,p⟩:=D;have S:j<f.length:=(wJ.mp X).1;obtain⟨t,W⟩:=hi.get j r[j]<|jZ (by omega);rw[X]at W;cases W
  have q:l.size<=f.length:=by have:=p.length;rw[lS,uc]at this;omega
  refine iz<|vT<|AT λu fJ=>?_;dsimp only;have s1:=sG g m (aV (·.push (.int (KW r[j]) u)));refine iz<|vO (s:={s with heap:=g,toks:=fJ}) G IR ?_ (T _ q)<|mq (sB (Array.size_push ..)) (by rw[kD];omega);refine iJ ⟨rfl,_,_,l.push<|.int (KW r[j]) u,_,rfl,λb o z e=>(s1.2 b z).trans<|N b o z e,yh G _,?_⟩;rw[d1,List.take_add_one,kX,jZ (show j<r.length by omega),eF];rw[d1]at p;exact p.append<|.cons _ _ .nil
 obtain⟨g,y,l,e,rfl,N,G,p⟩:=D;have p:ei l.toList (r.map KW):=by rwa [d1,dE<|by simp;omega]at p
 have q:l.size=f.length:=by have:=p.length;rw[lS,jU]at this;omega
 have J:(l.zip f.toArray).size=f.length:=by rw[mA,q,kR,Nat.min_self]
 refine iz<|GU (s:={s with heap:=g,toks:=y}) G IR ?_
 have v:∀st:sV,(eW st).Perm (l.zip f.toArray)->SortedTo (eW st) (eW st).size->fH st=Ix->af (am d w) A (ksk_tail a IP C (.ref m) st) P E {s with heap:=g,toks:=y}:=λst O R K=>by
  have s1:=sG g m<|aV λ_=>(#[]:Array iI);have Y:(g.update m<|aV λ_=>(#[]:Array iI)).get? a=Go (br "list" #[] C):=(s1.2 a L).trans<|N a _ L F;have s2:=sG (g.update m<|aV λ_=>(#[]:Array iI)) a (aV λ_=>(eW st).map (·.2));unfold ksk_tail;simp -iota;refine iz<|vO (s:={s with heap:=g,toks:=y}) G IR ?_ (T _ (by omega))<|mD _;refine iz (Dq (iz (zU Y IR (iz (vO Y IR ?_ (mD _) (kb (show((eW st).map (·.2)).size<=sizeLine from T _ (by rw[mL,O.size_eq,J];exact jT _))))))));rw[K];simp -iota;refine iJ<|h _ _ _ _ (λb o z e=>?_) (yh Y _) (ksk_out (b:=IP) p O R);have I:b≠m:=by rw[hk];exact kz<|vq<|kH e
  exact(s2.2 b z).trans ((s1.2 b I).trans<|N b o I<|old b o z e)
 unfold ksk_end;simp -iota only[mn];by_cases H:f.toArray.size<2
 .rw[iQ H,iQ H];refine iz<|iJ ?_;rw[GZ];refine iz<|iJ<|v _ (Array.Perm.refl _) (λi j n9 S=>?_) rfl;have dc:j<(l.zip f.toArray).size:=S;rw[J]at dc;rw[kR]at H;have:i=j:=by omega
  subst this;exact Int.le_refl _
 rw[je H,je H];rw[kR]at H;rw[ksk_kind p<|by rw[q];omega];refine iz (iJ ?_)
 refine iz (nQ (wpS_sortRuns (a₀:=l.zip f.toArray) (st:=SortSt.mk' wL (l.zip f.toArray) #[] 7 Ix) (Q:=λ_ B=>(eW B).Perm (l.zip f.toArray)/\fH B=Ix/\SortedTo (eW B) (l.zip f.toArray).size)
  (ksk_intKeys p) ⟨Array.Perm.refl _,rfl,rfl,rfl⟩ (by rw[J];omega) (by rw[J];exact h64) λB a1 a2 a3=>⟨a1,a2,a3⟩) ?_ λ_ _ e=>e)
 rintro⟨⟨⟩,B⟩ U ⟨rfl,O,K,R⟩;exact v B O (by rw[O.size_eq];exact R) K
end
def aD:D->Int
 |.int i=>KW i
 |_=>0
noncomputable def KR:D->Bool
 |.int _=>J
 |_=>U
def FU(x y:D):Bool:=decide<|aD x<aD y
def wu:D->Option (D×Bool)
 |.lst l=>if l.all KR=J/\(l.map aD).Nodup/\(IX l)<64 then Y (.lst<|nN FU l,J)else I
 |_=>I
def PM{x:D}:∀{l:List D},l.Pairwise (λa b=>aD a<=aD b)->(Ej FU x l).Pairwise λa b=>aD a<=aD b:=by
 intro g
 induction g with
 |nil=>intro _;simp[Ej]
 |cons y l f=>
  intro h;obtain⟨h1,e⟩:=zP.mp h;unfold Ej;by_cases d:aD y<aD x
  .rw[iQ<|by simpa[FU]using d];refine zP.mpr ⟨λz c=>?_,f e⟩;rcases oq.mp ((uQ FU x l).mem_iff.mp c)with rfl|c
   .omega
   exact h1 z c
  rw[je<|by simpa[FU]using d];refine zP.mpr ⟨λz c=>?_,h⟩;rcases oq.mp c with rfl|c
  .omega
  have:=h1 z c;omega
def Cn:∀l:List D,(nN FU l).Pairwise λa b=>aD a<=aD b:=by
 intro d
 induction d with
 |nil=>exact .nil
 |cons _ l c=>exact PM<|c
theorem Cv:∀{l:List D},(l.map aD).Nodup->∀a∈l,∀b∈l,aD a=aD b->a=b
 |x::l,h,a,d,b,f,e=>by
  rw[ku,zC]at h;rcases oq.mp d with h1|h1<;>rcases oq.mp f with c|c
  .rw[h1,c]
  .exact absurd (h1▸e▸qJ c) h.1
  .exact absurd (c▸e▸qJ h1) h.1
  exact Cv h.2 a h1 b c e
def NF{l m:List D}(c:m.Perm l)(g:m.Pairwise λa b=>aD a<=aD b)(f:(l.map aD).Nodup):m=nN FU l:=by refine(c.trans (kJ FU l).symm).eq_of_pairwise (le:=λa b=>aD a<=aD b) (λa b d e x y=>Cv f a (c.mem_iff.mp d) b ((kJ FU l).mem_iff.mp e)<|by omega) g (Cn l)
section
variable {X:Cx}{f:jw}{g:L2.St}{H:Hp}{s:iB}
def abP{O:SS}:∀{l:List D}{j:List V}{c:jS},l.all KR=J->YP X.K H O l j->Vals j c->∃e:List Int,l=e.map .int/\ei c e:=by
 intro n
 induction n with
 |nil=>intro j c _ r v;rw[YP]at r;subst r;cases v;exact⟨[],rfl,.nil⟩
 |cons d l m=>
  intro j c h r v;rw[YP]at r;obtain⟨x,q,rfl,o,p⟩:=r;rw[tQ,lR]at h
  cases d with
  |int i=>
   cases v with
   |cons a b=>obtain⟨e,rfl,k⟩:=m h.2 p b;rw[jx<|.inl o]at a;obtain⟨t,rfl⟩:=a;exact⟨i::e,rfl,.cons _ _ k⟩
  |_=>exact absurd h.1 (by simp[KR])
theorem X8:∀{l:List D}{a:iF}{xs:List V}{its:jS},l=a.map .int->IX xs=IX l->IX its=IX l->(a.map KW).zip its=(l.zip<|xs.zip its).map λt=>(aD t.1,t.2.2)
 |[],[],_,_,_,_,_=>by simp
 |d::l,i::a,x::xs,u::its,h,h1,b=>by obtain⟨rfl,c⟩:=vP h;have:=X8 (xs:=xs) (its:=its) c (by simpa using h1) (by simpa using b);simp -iota only[ku,tM,this];rfl
def aeL{u:iI}{Q:VK}{O:SS}{d:D}{z:D×Bool}{x:V}(I:Inv X f g H s)(ru:RelV x u)(np:∀p,¬Ow (H p)->¬O p)(hd:kx X.K H O d x)(J:wu d=Go z)(G:Gen X.K H O z Q):
  af (am X.prog X.w) X.A (call (.builtin "sorted") [u] [(bz "key",.builtin "abs")]) (EP X f g Q) X.xe s:=by
 cases d with
 |lst l=>
  obtain⟨⟨Z,hn,hz⟩,rfl⟩:=jy J;obtain⟨p,xs,rfl,q,C⟩:=lT hd;cases ru;obtain⟨j,v,pl,_⟩:=I.list q;have e1:=C.length;have e2:=v.length;obtain⟨ns,q9,r⟩:=abP Z C v;have hl:j.length<=sizeLine:=by rw[kD];omega
  obtain⟨o,ho,hc,n,w5⟩:=pl.isList;refine call_function_entry_kw Gc At AC (ksk_s1 _ _) ?_;unfold bb.«sorted»;refine iz (m:=checkCount "sorted" 1 1 _)<|iJ ?_;refine iz<|GR p (.inl IR) ho hc w5 (λh1 k1=>?_) (by rw[kR];omega);rw[List.toList_toArray];refine iz<|Df ?_ hl;have L:(h1.push<|br "list" j.toArray 0).get? h1.objs.size=Go (br "list" j.toArray 0):=kF _ rfl;have E:Inv X f g H {s with heap:=h1}:=I.kept k1;refine iz<|mF<|wpAny_call_entry_kw (s:={s with heap:=h1.push (br "list" j.toArray 0)}) wE ⟨_,L,rfl⟩ u7 ?body<|ksk_l1 _ _
  case body=>
   show af _ _ (bb.«list.sort» ⟨[.ref h1.objs.size],[(bz "key",.builtin "abs")]⟩) _ _ _;rw[ksk_t4];refine NB (s:={s with heap:=h1.push (br "list" j.toArray 0)}) L r (by omega) λW tk out c k2 k3 ko=>⟨_,rfl,iJ ⟨_,rfl,?_⟩⟩
   obtain⟨ps,N,k,U⟩:=ko;rw[X8 q9 (by omega)<|by omega]at N;obtain⟨a,Y,rfl⟩:=ny _ N _ rfl;rw[jY]at k
   have P:∀t∈a,Rep X.K H O t.1 t.2.1/\RelV t.2.1 t.2.2:=λt hm=>by obtain⟨i,hi⟩:=sJ<|Y.mem_iff.mp hm;obtain⟨S,R⟩:=EO.mp hi;obtain⟨y,B⟩:=EO.mp R;obtain⟨w,F,w2⟩:=v.get y;rw[B]at F;cases F;exact⟨C.views S y,w2⟩
   have T:a.map (·.1)=nN FU l:=by
    refine NF ?_ (by rw[oP]at U ⊢;exact U.imp λh=>by simpa using h) hn;have:=Y.map (·.1)
    rwa [kv<|by simp;omega]at this
   have hR:∀a:List (D×V×iI),(∀t∈a,Rep X.K H O t.1 t.2.1/\RelV t.2.1 t.2.2)->YP X.K H O (a.map (·.1)) (a.map (·.2.1))/\Vals (a.map (·.2.1)) (a.map (·.2.2)):=λa=>by
    induction a with
    |nil=>exact λ_=>⟨.nil,.nil⟩
    |cons t a ih=>intro h;obtain⟨i1,i2⟩:=ih λx hx=>h x<|kO _ hx;exact⟨.cons (h t ky).1 i1,.cons (h t ky).2 i2⟩
   obtain⟨r1,r2⟩:=hR a P;have keep:∀b o,h1.get? b=Go o->W.get? b=Go o:=λb o e=>k2 b o (kz<|kH e)<|jX _ e;have M:a.length=l.length:=by have:=mG ef T;rw[(kJ FU l).length_eq,jU]at this;exact this
   refine⟨.ref h1.objs.size,_,E.laid (t':=tk) keep (jT _) (show T2 X.prog X.w _ _ _ (.lst (a.map (·.2.1)))from⟨by rw[jU,kD];omega,out.toList,c,?_,?_⟩),rfl,?_⟩
   .rw[k];exact r2
   .rw[Array.toArray_toList];exact k3
   refine G.lst E.fresh ?_;rw[<-T];exact r1
 |_=>cases J
def Ov{a:iM}{i:TA}{p b v kp:bA}(c:Gl X "sorted")(r:X.mg "sorted"=I)(j:Gl X "abs")(m:X.mg "abs"=I)(n:PA X [a] i)
  (o:aO b (aj [a] X.env)=(U,bh a X.env)::aO b (aj [] X.env))(l:(aO b<|aj [a] X.env).any (·.1)=U):
  PE X (.Call (.Name "sorted" p) [a] [⟨Y "key",.Name "abs" v,kp⟩] b) (LB (EH X.K<|g1 wu) i):=by
 intro f s g H Q T h;refine vB<|qx T c r afS<|callWith_kw (Q1 (n b f s g H _ T h) λB s1 ⟨N,A,e,w,t⟩=>kws_cons<|qx e j m XF<|kws_nil ?_) o l C C;obtain⟨O,k,z,np,q,hv,c,G⟩:=t
 match k,c with
 |[d],c=>obtain⟨x,rfl⟩:=JT q C;obtain⟨u,rfl,y⟩:=qZ w;exact aeL e y np (hv 0 d x C C) c G
def N3{a:iM}{c:FO}{p b m kp:bA}(k:Gl X "sorted")(l:X.mg "sorted"=I)(d:Gl X "abs")(h:X.mg "abs"=I)(i:PA X [a] (tA X.K [c]))
  (j:aO b (aj [a] X.env)=(U,bh a X.env)::aO b (aj [] X.env))(e:(aO b<|aj [a] X.env).any (·.1)=U):
  PX X (.Call (.Name "sorted" p) [a] [⟨Y "key",.Name "abs" m,kp⟩] b) (jc (g1 wu) [c]):=pxn<|Ov k l d h i j e
end
section
variable {X:Cx}{x:aE}{i:Nat}{c a b:bA}
end
section
variable {X:Cx}
variable {a:iM}{c:FO}{p b e kp f d:bA}{x:aE}{i:Nat}
def xSA(T:Tx X.mg)(k:QA X [a] [c])(m:Gl X "sorted":=by rfl)(g:Gl X "abs":=by rfl)(l:aO b (aj [a] X.env)=(U,bh a X.env)::aO b (aj [] X.env):=by rfl)(j:BA X b [a]:=by rfl):
  QX X (.Call (.Name "sorted" p) [a] [⟨Y "key",.Name "abs" e,kp⟩] b) (jc (g1 wu) [c]):=⟨N3 m (L6 T (z:="sorted") C) g (L6 T (z:="abs") C) k.h l j⟩
end
section
variable {X:Cx}{a:jw}{b:L2.St}{H:Hp}{s:iB}
end
section
variable {X:Cx}
end
section
variable {a:jh}{w:iY}{A:iU}{E:jr}{I:iw}{c b:la}{n:Nat}{P:Nat->iI->Prop}{St:Nat->jb->Prop}
end
section
variable {X:Cx}{A:ki}{a:bA}{c:kI}{b:List Tg}
end
section
variable {X:Cx}{A:ki}{a b:iM}{g:bA}
variable {e j:iM}{f:F}{x z:aE}{p m l kp:bA}{i k:Nat}{L:LL}{o:Hp}
def xLS{c:oT}{scope:ju}{s:B0}{tt:Tg}{t:FT}{n:jP}{q:bA}(T:Tx X.mg)(Q:QI X (λi=>i∉n) c.target c.iter s)
  (I:Lx X n [c] scope λY'=>QG Y' (λi=>IX n<=i) c.target tt/\QF Y' c.ifs t/\QX Y' j f)
  (C:se X.N X.env.scope scope (cN X.N n [c]) n k=IN:=by kernel_rfl)(O:decide (cN X.N n [c]).Nodup=IN:=by kernel_rfl)
  (B:X.calm=IN:=by rfl)(y:c.is_async=0:=by rfl)(M:∀x,aB c.iter X.env x=pure x:=by intro _;rfl)(E:Gl X "len":=by rfl)
  (h1:aj [.SetComp j [c] scope g] X.env=(U,bh (.SetComp j [c] scope g) X.env)::aj [] X.env:=by rfl)(v:(aO q<|aj [] X.env).any (·.1)=U:=by rfl):
  QX X (.Call (.Name "len" p) [.SetComp j [c] scope g] [] q) (uT n k s tt t<|EE f):=
 ⟨aft (Bm IR IR C) B y (by intro J h;cases h) M Q.h (λcl C G u w r=>let⟨a,b,c⟩:=I cl C G u w r<|tL O;⟨a.h,b.h,λd=>agi IR c.h⟩) E T.n_len XE (by decide) (by decide) h1 v⟩
def iE1{B:SB}{d:kI}{v:Nat}{w:bA}{c:Int}{n:Nat}(T:Tx X.mg)(r:QX X a f)(s:bu c=J:=by decide)(u:Gl X "enumerate":=by rfl)(s0:SE X a []:=by rfl)
  (t:aO g (aj [a] X.env)=(U,bh a X.env)::aO g (aj [] X.env):=by rfl)(q:(aO g<|aj [a] X.env).any (·.1)=U:=by rfl):
  QI X B (.Tuple d v w) (.Call (.Name "enumerate" p) [a] [⟨Y "start",.Constant (.int c) n l,kp⟩] g) (Ei c f):=⟨afx u T.n_enumerate r.h s s0 t q⟩
end
section
variable {X:Cx}{a:jw}{b:L2.St}{H:Hp}{s:iB}
end
section
variable {X:Cx}
variable {b f a e c:bA}{i:Nat}{x:aE}{d:Nat}
end
section
variable {X:Cx}{e:iM}{h:FO}{c p d:bA}{z:aE}{l:jP}{k:Nat}
variable {x:aE}{i g:Nat}{j b:bA}{a:iM}{f:F}
end
section
variable {X:Cx}{P:jh}{w:iY}{d:List dk}{q:Hp}{s0:iB}{E:XK}{A:ki}{st:bi}{o b:List bi}{x y:XS}{e:iM}{g p j:bA}{f:FS}{z:aE}{a:iM}{m:F}{k:Nat}{i:ji}{h:List D->Option aE}{n:kI}{fs:List FO}{l:FT}{c:iM}
end
def XR(q:aE)(a:iw)(T:Hp):Prop:= ∃more,T a=Y (.tbl (#[.str q 0]++more))
def spT(TB:List (iw×aE))(a:Sp):Sp:=λb T Q E=>(∀p∈TB,XR p.2 p.1 T)/\a b T Q E
def Iq(scope:ju):Bool:=decide (scope.kind=.function)&&!scope.isCoroutine&&!scope.isGenerator&&(scope.names.all λy=>y.2 != .cell)
def aai{scope:ju}(h:Iq scope=J):Bp scope:=by unfold Iq at h;simp only[lR,kT,oW,j2,bne_iff_ne]at h;exact⟨h.1.1.1,h.1.1.2,h.1.2,h.2⟩
def walkT{l:OpenLaw}{q:jh}{m:ji}{XP:(aE->Option iI)->jb->Prop}{E:iY->jb->Prop}{d:DefRec}{K:Params->Frag}{LV:Nat}{x:aE}{Q:O1}{TB:List (iw×aE)}(hk:OO LV fy)(hn:l.most=Go 63)(cQ:d.params.defaults=[])(hY:∀(w:iY)(h:jb),E w h->(K w.params).In h)
  (L:∀(w:iY)(h:jb),E w h->∀p∈TB,h.get? p.1=Go (tabObj #[]))(fv:∀(w:iY),∀p∈TB,(K w.params).lookup p.1=I)(dU:(TB.map (·.1)).Nodup)
  (F:∀(w:iY)(n:mE)(v:iw)(h:jb),(K w.params).In h->h.Ns ap n->n d.name=Go (.ref v)->∃I':nK,(∀(s:iB)(u:iI),fD s I' ⟨[u],[]⟩ [(x,u)])/\(∀p∈TB,∃c,codeHdIn (K w.params) c p.1=IN)/\∀base:jb,(K w.params).In base->base.Ns ap n->(∀p∈TB,base.BuiltinsAt n p.1)->BF l.prog w (K w.params) n base BU LV v I' [x] (spT TB<|Ex (K w.params) Q))
  (M:∀A:List Int,IX A<=63->∃o j,Q [(.lst<|A.map .int,IP)]=Go ((.bl IN,o),j)):WalkO q m XP E l.row.toRowW d [] (λf B=>r6 f B):=by
 refine Att.Ue hn cQ λw U D n mb v o pm cd S a B A G Y ho hd l4 O R k i hg=>?_;have C:=hY w _ Y;obtain⟨I',hb,fq,hF⟩:=F w n v _ C G.T.g O;have N:=L w _ Y;refine agu (TB:=TB) C G.T.g G.T.b G.T.builtins G.T.nolimit hg N (fv w) (λp t=>?_) dU (λp t=>?_) R k (mq i<|by decide) hk hF hb (λH J hS=>?_) λH e s' z=>z
 .obtain⟨c,hc⟩:=fq p t;obtain⟨o,B,_,_,_,_,_,_,_,V,W,X,Z,_⟩:=codeHd_of_K C hc;exact⟨c,o,B,V,W,X,Z⟩
 .obtain⟨P,ob,h1,h2,r,h4,h5,y⟩:=G.T.bmain;refine⟨P,ob,h1,h2,λz=>?_,λz=>?_,r,h4,h5,y⟩
  .obtain⟨o',es,ep,e,dd,_⟩:=G.T.g;rw[z,e]at r;cases r;rw[dd]at y;cases y
  rw[z,N p t]at r;cases r;cases y
 obtain⟨o,j,e⟩:=M A i;exact⟨λp t=>⟨#[],by rw[J.all p t];rfl⟩,To J.all hS e⟩
def Uo(TB:List (iw×aE))(T:Hp):Prop:= ∀p∈TB,XR p.2 p.1 T
def fnU{Z:ZZ}{k:Nat}{x:aE}{st:bi}{N c:ji}{asg:jP}{fs:FS}{f:iw}{d:nK}{TB:List (iw×aE)}(F:HM Z.K x x st f d)(S:R1 N c (iL st))
  (l:∀(b:iI)(A:iU)(a:List dk)(s:iB)(T:Hp)(E:XK)(L:LL),(∀i,L.p i->i<IX c)->OO k (A.deeper<|bc x (iL st) s.heap.objs.size f b)->
   un (A.deeper<|bc x (iL st) s.heap.objs.size f b) 60->un (A.deeper<|bc x (iL st) s.heap.objs.size f b) 1->un (A.deeper<|bc x (iL st) s.heap.objs.size f b) 62->un (A.deeper<|bc x (iL st) s.heap.objs.size f b) 90->N.Nodup->
   b=d.code->Uo TB T->QQ (rE BU Z.P Z.w Z.K Z.mg Z.base N x (iL st) f b A a s T E).FG (λi=>i∈asg) L T (lQ st) fs):
  BF Z.P Z.w Z.K Z.mg Z.base BU (k+1) f d c (spT TB<|Ex Z.K<|Sr (IX N) (IX c) asg fs):=by
 obtain⟨o,q,kV,g,r,an,b,ct,t,rfl,lk,m⟩:=F.ex;refine U6 lk m S (λn T Q E h=>JD h.2) λA a s T n Q E e h=>?_;obtain⟨L,h1,j⟩:=HI h.2;have:=e.un;exact⟨_,((l b A a s T E L h1 e (by unfold un;omega) (by unfold un;omega) (by unfold un;omega) (by unfold un;omega) S.nd C h.1).h).FG,j⟩
def K5(Z:ZZ)(TB:List (iw×aE))(k:Nat)(x:aE)(b:ji)(c:O1):Prop:= ∃f a,BF Z.P Z.w Z.K Z.mg Z.base BU k f a b (spT TB<|Ex Z.K c)/\Z.mg x=Y (.ref f)/\keepIn Z.K (.ref f)=J/\Binds Z.K a b []
def K5.up{Z:ZZ}{TB:List (iw×aE)}{k j:Nat}{x:aE}{d:ji}{c:O1}(o:K5 Z TB k x d c)(h:k<=j:=by decide):K5 Z TB j x d c:=let⟨f,e,a,b⟩:=o;⟨f,e,a.mono h,b⟩
def TbK(Z:ZZ)(TB:List (iw×aE))(x:aE)(st:bi)(q:aE)(a:iw):Prop:= ∃f b c,Z.mg x=Y (.ref f)/\HM Z.K x x st f b/\b.code=.ref c/\CodeHd Z.base c a/\Z.base.BuiltinsAt Z.mg a/\ap≠a/\(a,q)∈TB
def L9(K:Frag)(d:mE)(x:aE)(st:bi)(b:iw):Prop:= ∃f a c,d x=Y (.ref f)/\HM K x x st f a/\a.code=.ref c/\codeHdIn K c b=J
def fzT{K:Frag}{h:jb}{g:mE}{x:aE}{st:bi}{f c d:iw}{j:iI}{m an:Option iw}{o:zN}{kV b n ct:iI}(X:K.In h)(G:h.Ns ap g)(a:nsIn K ap x=Y (Y<|.ref f))
  (l:K.lookup f=Y ⟨j,m,.func<|fnOf x x (qv st) (lQ st) (iL st) .none kV b n an (.ref c) ct,o⟩)(e:codeIn K (.ref c) x=J)(k:keepIn K (.ref f)=J)(i:codeHdIn K c d=J):L9 K g x st d:=⟨f,_,c,mg_of X G a,Qa l e k,rfl,i⟩
def L9.tb{Z:ZZ}{x q:aE}{st:bi}{b:iw}{TB:List (iw×aE)}(a:L9 Z.K Z.mg x st b)(X:Z.K.In Z.base)(B:∀p∈TB,Z.base.BuiltinsAt Z.mg p.1)(m:(b,q)∈TB)(i:ap≠b:=by decide):TbK Z TB x st q b:=
 let⟨f,d,c,h1,e,g,h⟩:=a
 ⟨f,d,c,h1,e,g,codeHd_of_K X h,B _ m,i,m⟩
def L9.cd{K:Frag}{d:mE}{x:aE}{st:bi}{b:iw}(a:L9 K d x st b):∃c,codeHdIn K c b=J:=let⟨_,_,c,_,_,_,h⟩:=a;⟨c,h⟩
section
variable {X:Cx}{k:Nat}{f:iw}{i:nK}{d:ji}{x:aE}{p b:bA}{e a:iM}{c:kI}{g:O1}{fs:List FO}{j:FO}{TB:List (iw×aE)}
def OC{o:Sp}{t:TA}(F:BF X.prog X.w X.K X.mg X.base BU k f i d (spT TB o))(T:Uo TB X.H₀)(O:OO k X.A)(C:Gl X x)(E:X.mg x=Y (.ref f))(hk:keepIn X.K (.ref f)=J)(z:Binds X.K i d [])
  (y:PA X (e::c) t)(G:(x==("__debug__":aE))=U)(B:aj (e::c) X.env=(U,bh e X.env)::aj c X.env)(v:(aO b<|aj c X.env).any (·.1)=U):
  PE X (.Call (.Name x p) (e::c) [] b) (Ux o [] L2.E0 t):=by
 intro l s M H Q I h;refine vB<|zI I C E ?_ G;refine ga (h₀:=X.base) I.ok.mod.kin hk (Q1 (y b l s M H _ I h) λU' s1 ⟨Y',N,n,r,q⟩=>⟨n.F1,?_⟩) B v;exact NQ F O z .nil UP n r ⟨λp L=>let⟨m,e⟩:=T p L;let⟨J',u⟩:=n.base.tbls _ _ e;⟨m++J',by rw[u,Hx]⟩,q⟩
def xUT(J:OO k X.A)(O:K5 (zX X) TB k x d g)(M:Uo TB X.H₀)(C:QA X (e::c) fs)(L:Gl X x:=by rfl)(U:DB x:=by decide)
  (I:SE X e c:=by rfl)(y:BA X b c:=by rfl):QX X (.Call (.Name x p) (e::c) [] b) (iN g fs):=
 let⟨_,_,ok,G,kp,w⟩:=O;⟨PX.imp (OC ok M J L G kp w C.h U I y) λF H Q N=>by
 obtain⟨Y,T,S,D,E,e,k⟩:=N;obtain⟨os,n,h1,e⟩:=iK e;obtain⟨l,o,e⟩:=iE e;dsimp only at e;split at e
 .rename_i q;obtain⟨r,m,z,e⟩:=iK e;obtain⟨rfl,rfl⟩:=jg e;refine⟨Y,T,os,n,E,h1,λs u R B=>?_⟩;show Ex X.K g (s++[]) u Q L2.E0;rw[wN];exact⟨Tc T F n s l,l,r,m,xN E B o q,z,λv t P=>k v t<|qf E B o q P⟩
 cases e⟩
end
def aN{a:Type}{P:a->Prop}:∀p∈([]:List a),P p:=λ_ h=>nomatch h
def aC{b:Type}{P:b->Prop}{a:b}{l:List b}(h:P a)(r:∀p∈l,P p):∀p∈a::l,P p:=List.forall_mem_cons.mpr ⟨h,r⟩
section
variable {Z:ZZ}{ct a:List (aE×Nat)}{CR:Nat}
end
section
variable {X:Cx}{x y a b c d:iM}{u v z:aE}{t s r q:FO}{f k j i h g:bA}{p o n:Nat}{l m e:cc}
end
end PX
namespace TT
section
variable {a:jh}{w:iY}{A:iU}{E:jr}{s:iB}
def OW(h:Q₁ (.ref s.heap.objs.size) {s with heap:=s.heap.push (kn #[] 0 (lj w))}):
  b4 (am a w) A (.call (.builtin "set.__new__") ⟨[.type "set"],[]⟩) (k9 Q₁ E) s:=by
 refine tR ?_;change af _ A.in1 (cM "set.__new__" ⟨[.type "set"],[]⟩>>=λ_=>again<|.builtin "set.__new__" ⟨[.type "set"],[]⟩) _ _ s;refine iz<|vw PySem.F.newCall_set_0<|iJ ⟨vV C6 _,sH Mx ?_⟩;rw[rN C6 _];unfold bb.«set.__new__» d8;have c:=x8;obtain⟨b,g,d,e,os⟩:=s;dsimp only
 wp_walk
 refine tU<|iJ ?_;dsimp only;simp only[newObj];refine iz<|yp<|iJ ?_;exact iJ h
set_option maxHeartbeats 8000000 in
def XA{Q:jr}(h:Q (.ref s.heap.objs.size) {s with heap:=s.heap.push (kn #[] 0 (lj w))}):af (am a w) A (call (.type "set") []) Q E s:=by
 obtain⟨c,y,j⟩:=EN.mro;have g:=EN.made;have x:=EN.sub;refine yu<|tR ?_;change af _ _ (z7 (.type "set") ⟨[],[]⟩) _ _ s;refine iJ ⟨G2 _ (by decide+kernel),sH Mw ?_⟩;rw[G1 (G0 "set" ([]:List iI) []) C];have h1:=EN.notType;have u:=EN.canCreate;have q:=PySem.F.typeCall_set_0
 repeat (any_goals (first|assumption|wp_step))
 refine ql (OW (E:=E) (Q₁:=λobj b=>obj=.ref s.heap.objs.size/\b={s with heap:=s.heap.push (kn #[] 0 (lj w))}) ⟨rfl,rfl⟩) λr b i=>?_
 cases r with
 |error e=>exact i
 |ok m=>
  cases m with
  |ret obj=>
   obtain⟨rfl,rfl⟩:=i;have n:(s.heap.push<|kn #[] 0 (lj w)).get? s.heap.objs.size=Y (kn #[] 0 (lj w)):=kF _ rfl;have o:Shared.TypeIs {s with heap:=s.heap.push (kn #[] 0 (lj w))} (.ref s.heap.objs.size) "set":=⟨_,n,rfl⟩
   have p:=EN.init.lookup;have t:=EN.init.bind<|.ref s.heap.objs.size
   repeat (any_goals (first|assumption|wp_step))
   refine ql (Dl (R:=k9 (λr z=>r=.none/\Q (.ref s.heap.objs.size) z) E) EN.init.plain Mv<|check_set_init o ?_) λd k f=>?_
   .unfold bb.«set.__init__» noKeywords
    wp_walk
    exact⟨rfl,h⟩
   cases d with
   |error e=>exact f
   |ok l=>
    cases l with
    |ret r=>
     obtain⟨rfl,v⟩:=f
     repeat (any_goals (first|assumption|wp_step))
    |_=>exact f.elim
  |_=>exact i.elim
end
end TT
namespace PX
open L2 PySem.SeqAt
def Qj:F:=λa=>Y ((.Q2 .set [] [],J),a)
def Gi(i:Nat)(f:F):F:=λb=>match b[i]? with
 |some (Y (.Q2 .set _ _,J))=>(f b).bind λp=>match p.2[i]? with
  |some (Y (.Q2 .set _ a,J))=>if a.all BC=J/\BC p.1.1=J/\(IX a)<500 then Y ((.VP,U),p.2.set i<|Y (.Q2 .set []<|oO a p.1.1,J))else I
  |_=>I
 |_=>I
section
variable {X:Cx}{e:iM}{f:F}{m:FO}{d j c g p:bA}{i:Nat}{x:aE}
def RY(l:Gl X "set")(n:X.mg "set"=I):PX X (.Call (.Name "set" p) [] [] d) Qj:=λh s y N Q O r=>by obtain⟨w,T,v,t,E,e,k⟩:=r;cases e;refine vB<|qx O l n XD ?_ (by decide) (by decide);refine u8<|TT.XA ?_;have a:=O.hok.fresh<|jT s.heap.objs.size;refine⟨.ref s.heap.objs.size,upd N s.heap.objs.size<|.V0 [],O.laid (t':=s.toks) (o:=.V0 []) (λb u q=>jX _ q) (jT _) ?_,rfl,(Ops.nil E).done k _ _ a (md a) ⟨[],⟨rfl,[],jk,.nil⟩,YP.nil⟩⟩;exact⟨#[],0,_,kF _ rfl,.nil,TT.J4.fresh _ _ _,rfl,rfl⟩
def RZ(hu:X.A.units+90<aT)(hn:PO X (.Name x j) (iA i))(he:PX X e f)(k8:Lc X (.Name x j) "add")
  (p6:La X g [e])
  (k7:(c.endLine==g.line)=J)(hs:aj [e] X.env=(U,bh e X.env)::aj [] X.env)(e9:(aO g<|aj [] X.env).any (·.1)=U):
  PX X (.Call (.Attribute (.Name x j) "add" c) [e] [] g) (Gi i f):=λC s L H Q I hw=>by
 obtain⟨G,T,rr,δ',E,q,k⟩:=hw;unfold Gi at q;split at q
 case h_2=>cases q
 rename_i k0 w0 Z;obtain⟨r,h,h1,q⟩:=iK q;dsimp only at q;split at q
 case h_2=>cases q
 rename_i k1 V D;obtain⟨⟨o1,o2,o3⟩,q⟩:=jy q;obtain⟨rfl,rfl⟩:=tu q;refine MW k8 p6 k7 IR<|Q1 (hn C s L H (λv J'=>BP X.K T L G H (.slot i) G v J') I ⟨G,T,.slot i,G,E,by unfold iA;rw[Z],λ_ _ P=>P⟩) λv s1 b'=>?_;obtain⟨y,J',I1,r1,K1,U',B⟩:=b';obtain⟨a,g1,KY,⟨_,zs,g2,_⟩,g3⟩:=U'.own i _ Z;rw[B]at g1;cases g1;cases r1;obtain⟨es,n,t,M,_⟩:=(show T2 X.prog X.w J' s1.heap a (.V0 zs)from I1.hok a _ g2)
 refine⟨"set","set.add",PySem.F.plainAttrs_set,GD,PySem.F.type_set_add,⟨_,M,rfl⟩,λb eb=>by cases eb;exact⟨_,M,rfl⟩,?_⟩;have hA:=pv he ug hs g C s1 L J' (λV O=>∃y,V=[y]/\Ls X.K T L G J' r h y O) I1 ⟨G,T,r,h,U',h1,λy O P=>⟨y,rfl,P⟩⟩;rw[hs]at hA ⊢;refine MV (by show(U||(aO g<|aj [] X.env).any (·.1))=U;rw[e9];rfl)<|MU<|Q1 hA λus s2 b'=>?_;obtain⟨ws,O,Y',r2,y,hy,P2⟩:=b';subst hy;obtain⟨u,rfl,ru⟩:=r2.one;obtain⟨W,ry⟩:=P2.rep U';obtain⟨a',q1,us,q2,q3⟩:=W.own i _ D;rw[B]at q1;cases q1;obtain⟨es,n,t,l,S⟩:=AN.Ij Y' q2 q3;refine oF GD ⟨_,S.is.at_,rfl⟩ Mq ?_<|Mp _ _;unfold bb.«set.add» cg;simp;unfold bW;refine iz<|iJ ?_
 try dsimp only
 refine iz<|A2.add Y' S o1 (.inl ry) ry ru o2 o3 (by show X.A.units+1+60<aT;lia) λb h' tk es' n' t' R ht v5 N=>?_;show af _ _ (ret ay) _ _ _;have rl:∀p∈R,Rep X.K O (λa=>X0 L h a\/T a) p.1 p.2:=N.rep;have oa:X0 L h a:=⟨i,_,D,B⟩
 have kp:∀(M:HO) b u,O b=Y u->¬(X0 L h b\/T b)->upd O a M b=Y u:=λM b u e n=>by rw[jq<|by intro z;subst z;exact n<|.inl oa];exact e
 obtain⟨bQ,z1,z2⟩:=N.Q2 (K:=X.K) (H':=upd O a<|.V0<|R.map hv) (O':=λa=>X0 L h a\/T a) (λp hp=>Rep.mono (kp _) (λ_ _ z=>z)<|rl p hp) jk;obtain⟨E4,K4⟩:=W.BG (o:=.V0 (R.map hv)) (d':=.Q2 .set [] (oO V r.1)) D B ⟨bQ,z1,z2⟩;refine iJ ⟨_,rfl,.VP,_,?_,rfl,k _ _ (Ls.val ((K1.trans P2.1).trans K4) E4 Rep.Ey)⟩;obtain⟨fG,zs2,g4,_⟩:=q2;exact uX (t':=tk) Y' (by rw[g4];exact bD) v5 ⟨_,N.is.at_⟩ N.IL
def Zg(n:X.A.units+90<aT)(k:QO X (.Name x j) (iA i))(b:QX X e f)(q:Lc X (.Name x j) "add":=by rfl)
  (r:La X d [e]:=by rfl)
  (o:(c.endLine==d.line)=J:=by rfl)(l:SE X e []:=by rfl)(a:BA X d []:=by rfl):QX X (.Call (.Attribute (.Name x j) "add" c) [e] [] d) (Gi i f):=⟨RZ n k.h b.h q r o l a⟩
def Zf{p:bA}(T:Tx X.mg)(a:Gl X "set":=by rfl):QX X (.Call (.Name "set" p) [] [] d) Qj:=⟨RY a T.n_set⟩
end
open PySem.W
section
variable {X:Cx}{E:XK}{A:ki}{c iter:iM}{a:List bi}{d:B0}{t:Tg}{e:FS}{x:XS}{b:bA}
end
section
variable {X:Cx}{k:iM}{c:FO}{a b:bA}{j:Nat}
end
section
variable {X:Cx}{b:jw}{d:L2.St}{H:Hp}{s:iB}
variable {a:iM}{g:FO}{c p:bA}{k:iM}{f:FO}{e:bA}{j:Nat}
end
end PX
namespace TT
open PySem.SeqAt
section
variable {a:jh}{w:iY}{A:iU}{R:io->iB->Prop}{I:iw}{c b:la}{G:Array fB->Array fB->Prop}{n:Nat}{P:Nat->iI->Prop}{St:Nat->iB->Prop}
end
end TT
namespace PX
open L2 PySem.SeqAt TS
section
variable {a:jh}{w:iY}{A:iU}{E:jr}{s:iB}
end
end PX
namespace TT
open PySem.SeqAt
section
variable {a:jh}{w:iY}{A:iU}{E:jr}{s:iB}
end
end TT
namespace PX
open L2 PySem.SeqAt
section
variable {X:Cx}
variable {a:iM}{c:FO}{p b:bA}
end
section
variable {K:jd}{T g:SS}{d:L2.St}{e c:Dn}{H h i:Hp}{os:List A1}{f:List V}{b:List (D×Bool)}{a:Dn}{r:D×Bool}{v:V}
end
section
variable {X:Cx}{e:iM}{d:kI}{fs:List FO}{a p:bA}{k:Nat}{b:ji}{c:O1}{x:aE}
end
open PySem.W
def OE{c:L2.St}{b:Dn}{i j:Nat}{a:iw}(h:NR c (b.set j I) i a):NR c b i a/\i≠j:=by
 obtain⟨d,h1,f⟩:=h;by_cases e:j=i
 .subst e;rw[yn]at h1;split at h1
  .split at h1<;>cases h1
  rename_i z;exact absurd C z
 rw[nu e]at h1;exact⟨⟨d,h1,f⟩,λz=>e z.symm⟩
section
variable {X:Cx}{P:jh}{w:iY}{a:List dk}{g:Hp}{s0:iB}{E:XK}{k:Nat}{d:ji}{c:List D->Option aE}{e:iM}{f:kI}{fs:List FO}{z:aE}{p b:bA}
end
section
variable {X:Cx}{s c:iw}{a:bo}{d:iM}{scope:ju}{e b pf:bA}{o:Nat}{u t:ji}{xB:XS}{r:FS}{v:aE->Option Nat}{f:jP}{st:bi}{p:iw}{q:nK}{m n h g l:aE}{CR:iw}{i j k:Nat}
end
end PX
namespace L2
open PySem.W
structure Br(nm q:aE)(params:bo)(body:List bi)(scope:ju)(b6:kj)(H:Hp)(h:jb)(fl:iw):Prop where
 fn:∃doc pm c' j8,h.get? fl=Go (fnMade nm q params body scope b6 doc pm c' j8)/\∃ob u vs t,H c'=Go (.AL ob u)/\ob.data=.fields vs/\vs[1]?=Go (.str q t)
 un:H fl=Ix
section
variable {X:Cx}{g:jw}{l:St}{H:Hp}{s:iB}{P c:iw}{a:bo}{f:List bi}{h q:aE}{ln:Nat}{scope:ju}{i:kj}{j:bA}
def Qr{M:fW}{A:iU}{E:jr}{Q:jr}(I:Inv X g l H s){more:nE}(Y:H P=Go (.tbl (#[.str q 0]++more)))(hc:X.env.code=.ref c)(C:CodeHd X.base c P)(hB:X.base.BuiltinsAt X.mg P)(gu:ap≠P)
  (m6:n7 scope X.env=pure i)
  (k:∀s1 J' fl,Inv X g l J' s1->(∀b o,H b=Go o->J' b=Go o)->Br h q a f scope i J' s1.heap fl->(∀b o,s.heap.get? b=Go o->H b=Ix->s1.heap.get? b=Go o)->(∀b o,s.heap.get? b=Go o->H b=Ix->J' b=Ix)->s.heap.get? fl=Ix->Q (.ref fl) s1):
  af M A (makeFunction h q a (.stmts f) scope X.env [] [] [] j ln) Q E s:=by
 obtain⟨qq,tq,ps,U,L,F,hm⟩:=(show T2 X.prog X.w H s.heap P (.tbl (#[.str q 0]++more))from I.hok P _ Y)
 have hqq:q=qq:=by rw[Array.getElem?_append_left<|by simp]at U;simp at U;exact U.1
 subst hqq;have y3:s.heap.BuiltinsAt X.mg P:=let⟨bm,o,h1,R,S,V,h5,h6⟩:=hB;⟨bm,o,h1,R,S,V,I.bk _ _ h5,h6⟩
 have hg:s.heap.Ns ap X.mg:=I.ok.mod.glob.keeps I.bk
 cases W:d7 j ps.toList with
 |some cv=>refine makeFunction_hit m6 I.ok.glob hg hc (C.keeps I.bk) L F W y3 λr m x K kp sz=>?_;obtain⟨p,ob,u,vs,t,rfl,R,S,V⟩:=hm j cv W;have bC:∀b o,s.heap.get? b=Go o->(x.push<|fnMade h q a f scope i m ((X.mg "__name__").getD .none) p r).get? b=Go o:=λb o e=>jX _ (kp b o e);exact k _ H _ (I.kept (t':=K) bC) (λ_ _ e=>e) ⟨⟨m,_,p,r,kF _ rfl,ob,u,vs,t,R,S,V⟩,I.hok.fresh sz⟩ (λb o e _=>bC b o e) (λ_ _ _ n=>n) (UR sz)
 |none=>
  refine makeFunction_K m6 I.ok.glob hg hc (C.keeps I.bk) L F W gu y3 λp r m x K ex N y cr tb=>?_;obtain⟨c0,v,vs,t,ec,dH,T,hq⟩:=cr;cases ec;have nc:H p=Ix:=I.hok.fresh N;have kp:∀b o,b≠P->s.heap.get? b=Go o->(x.push<|fnMade h q a f scope i m ((X.mg "__name__").getD .none) p r).get? b=Go o:=λb o n e=>jX _ (ex b o n e);have up:∀b o,H b=Go o->upd H p (.AL v<|.own 0) b=Go o:=λb o e=>by rw[jq<|mK e nc];exact e
  have nP:∀b,H b=Ix->b≠P:=λb n z=>by rw[z,Y]at n;cases n
  have B:=jX (fnMade h q a f scope i m ((X.mg "__name__").getD .none) p r) tb
  have un:Un (H9 X.stack) [] H (upd H p<|.AL v<|.own 0) s.heap (x.push<|fnMade h q a f scope i m ((X.mg "__name__").getD .none) p r):=
   ⟨λb o e n _ _=>kp b o (nP b n) e,λb o e n _ _=>⟨o.slots,kp b o (nP b n) e⟩,λb o e n _=>by rw[jq<|kz<|oH (kH e) N];exact n,λb o e _=>by
    by_cases z:b=P
    .subst z;exact⟨_,B⟩
    exact⟨o,kp b o z e⟩,λb xs e=>up b _ e,λb o xs e=>up b _ e,λb ps e=>⟨#[],by rw[up b _ e];simp⟩⟩
  have Z:BW X.prog X.w (upd H p<|.AL v<|.own 0) (x.push<|fnMade h q a f scope i m ((X.mg "__name__").getD .none) p r):=λb u e=>by
   by_cases D:b=p
   .subst D;rw[jk]at e;cases e;exact⟨jX _ dH,⟨v,jX _ dH⟩⟩
   rw[jq D]at e;by_cases O:b=P
   .subst O;rw[Y]at e;cases e;refine⟨_,tq,_,U,B,?_,λG cv z=>?_⟩
    .rw[Mn];exact wW _ F
    rw[Mn]at z;rcases Bs _ F z with z|z
    .obtain⟨y,ob,u,vs,t,r1,r2,r3,r4⟩:=hm G cv z;exact⟨y,ob,u,vs,t,r1,up _ _ r2,r3,r4⟩
    exact⟨p,v,_,vs,t,z,jk,T,hq⟩
   refine(I.hok b u e).A6 (λd w hd q=>kp d w (λz=>?_) q) (λd q=>up d _ q) (λd xs q=>up d _ q) λd _ _ q=>up d _ q;subst z;rcases hd with z|z
   .exact O z.symm
   rw[Y]at z;cases z
  have I1:Inv X g l (upd H p<|.AL v<|.own 0) {s with heap:=x.push<|fnMade h q a f scope i m ((X.mg "__name__").getD .none) p r,toks:=K}:=I.call (g':=s.gens) (d':=s.drawn) (t':=K) un Z I.bare λb D=>absurd D (by simp);refine k _ _ _ I1 up ⟨⟨m,_,p,r,kF _ rfl,v,_,vs,t,jk,T,hq⟩,?_⟩ (λb o e n=>kp b o (nP b n) e) (λb o e n=>un.free b o e n<|by simp) (UR<|wQ<|zR N y);rw[jq<|qm y];exact I.hok.fresh<|wQ<|zR N y
end
section
variable {CX:HB}{P:jh}{w:iY}{K:Frag}{j:mE}{base:jb}{N:ji}{d m q:aE}{scope:ju}{fl:iw}{cd:iI}{g:kj}{A:iU}{a:List dk}{s:iB}{H:Hp}{E:XK}{l:St}{v:V}{u:iI}
def Tw(S:Bp scope)(n:scope.names.lookup d=Y .local)(hd:A.handled=I)(e:Eo P w K j base A a s H)(G:K3 N scope g l H s.heap)(O:RelV v u){h1:jb}{t1:Nat}(L:h1.Ns s.heap.objs.size (λy=>[(d,u)].reverse.lookup y))(hk:∀b o,s.heap.get? b=Y o->h1.get? b=Y o):
  Inv (qw CX P w K j base (d::N) q scope fl cd g A a s H E) [] (Y v::l) H {s with heap:=h1,toks:=t1}:=by
 have k:∀b:iw,b∉(qw CX P w K j base (d::N) q scope fl cd g A a s H E).ex:=λb z=>absurd (show b∈([]:List iw)from z) (by simp)
 refine⟨⟨e.mod,S.kind,rfl,rfl,jT _,G.inj,λy f=>?_,λy c z _=>absurd z<|by simp[qw],λ_=>hd,Hr e.frames,.inr ⟨rfl,rfl⟩,λb z=>absurd z<|k b,e.bs,e.bsz,λb _ _=>k b,λb z=>absurd z<|k b,e.BQ,e.frf⟩,
  rfl,e.bare,Un.kept hk,⟨_,L,λi y T h1 t _=>?_⟩,λy c h=>?_,e.hok.fresh<|jT _,λy c h=>(G.cell y c h).2,λp n=>absurd (show p∈([]:List (iw×el))from n)<|by simp,e.hok.kept hk,mG (· +1) G.len⟩
 .have f:scope.names.lookup y=Y .cell\/scope.names.lookup y=Y .free:=f;rcases f with f|f
  .exact absurd C (S.cell _ (qR f))
  exact G.has y f
 .cases i with
  |zero=>
   cases h1;cases t;exact⟨u,O,.inl ⟨n,by simp⟩⟩
  |succ i=>obtain⟨B,c,Q,x,M,r⟩:=G.val i y T h1 t;exact⟨Q,r,.inr ⟨.inr B,c,x,M.keeps hk⟩⟩
 obtain⟨⟨v,hv⟩,_⟩:=G.cell y c h;exact⟨v,hv.keeps hk⟩
def T6{c:bo}{h:List bi}{k:Nat}{Q:VK}(S:Bp scope)(U:scope.names.lookup d=Go .local)(T:OO (k+1) A)(O:Eo P w K j base A a s H)(C:K3 N scope g l H s.heap)(L:Br m q c h scope g H s.heap fl)
  (i9:∀x pm i j8,dh (fnX m q c h scope g .none .none x pm Ix (.ref i) j8) ⟨[u],[]⟩=pure [(d,u)])(B:RelV v u)
  (hb:∀i:iw,OO k (A.deeper<|Bg q scope s.heap.objs.size fl (.ref i) g)->∃t,D5 (qw CX P w K j base (d::N) q scope fl (.ref i) g A a s H E) h t/\t {nx:=λ_ p=>Q .VP p,rt:=Q} (Go v::l) H):
  b4 (am P w) A (.call (.ref fl) ⟨[u],[]⟩) (CR CX a P w H s Q E) s:=by
 obtain⟨x,pm,i,j8,Z,ob,u',vs,tk,h1,W,X⟩:=L.fn;have l4:s.heap.CodeRec (.ref i) q:=⟨i,ob,vs,tk,rfl,(O.hok i _ h1).1,W,X⟩
 have G:s.heap.NoLimit:=O.mod.nolimit.keeps λb o e=>(O.bs b o e).1;refine Hn T.depth Z IR S.co S.gen IR l4 ?_;rw[i9];refine iJ<|wpAny_newFunctionEnv S.cell (by intro y Y;simp at Y;subst Y;exact U) (λz q9 D=>⟨G.fresh _ D,Hm ?_⟩) S.kind;have F:∀b o,s.heap.get? b=Go o->z.get? b=Go o:=λb o e=>D.extBut b o (kz<|kH e)<|jX _ e;have I:=Tw (CX:=CX) (q:=q) (fl:=fl) (cd:=.ref i) (E:=E) (t1:=s.toks+([(d,u)]:List (aE×iI)).length) S U T.hd O C B q9 F;obtain⟨t,R,ht⟩:=hb i<|T.deeper _;refine nQ (R [] _ (Go v::l) H _ I ht) (λf M r=>?_) λe M r=>r
 have fin:∀{n:St}{p:Hp}{v:V}{u:iI},Inv (qw CX P w K j base (d::N) q scope fl (.ref i) g A a s H E) [] n p M->RelV v u->Q v p->CE a P w H s Q u M:=
  λ{n p v u} J B q=>⟨v,p,J.os,J.bare,J.base,J.hok,B,q⟩
 cases f with
 |ret u=>obtain⟨v,n,p,J,B,q⟩:=r;exact fin J B q
 |next=>obtain⟨n,p,J,q⟩:=r;exact fin (v:=V.VP) (u:=ay) J IR q
 |brk=>obtain⟨_,_,_,q⟩:=r;exact aR q
 |cont=>obtain⟨_,_,_,q⟩:=r;exact aR q
end
structure AJ(scope:ju)(xp:aE):Prop where
 kind:scope.kind=.function
 co:scope.isCoroutine=IP
 gen:scope.isGenerator=IP
 par:scope.names.lookup xp=Go .cell
 one:(scope.names.filter λy=>y.2==aK)=[(xp,.cell)]
theorem Bo:∀(b:List (aE×NameKind))(n:Nat)(c:kj),(b.filter λy=>y.2==aK)=[]->bn n b c=c
 |[],_,_,_=>rfl
 |(x,k)::r,n,c,h=>by
  unfold bn;by_cases hk:(k==aK)=J
  .rw[xX (p:=λy:aE×NameKind=>y.2==aK) (a:=(x,k)) hk]at h;cases h
  rw[je hk];rw[xS (p:=λy:aE×NameKind=>y.2==aK) (a:=(x,k)) hk]at h;exact Bo r n c h
theorem yW{d:aE}:∀(b:List (aE×NameKind))(n:Nat)(c:kj),(b.filter λy=>y.2==aK)=[(d,.cell)]->bn n b c=(d,n)::c
 |[],_,_,h=>nomatch h
 |(x,k)::r,n,c,h=>by
  unfold bn;by_cases hk:(k==aK)=J
  .rw[iQ hk];rw[xX (p:=λy:aE×NameKind=>y.2==aK) (a:=(x,k)) hk]at h;obtain⟨h1,e⟩:=vP h;cases h1;exact Bo r _ _ e
  rw[je hk];rw[xS (p:=λy:aE×NameKind=>y.2==aK) (a:=(x,k)) hk]at h;exact yW r n c h
def AJ.only{scope:ju}{a y:aE}(S:AJ scope a)(h:scope.names.lookup y=Y .cell):y=a:=by have:(y,aK)∈scope.names.filter λy=>y.2==NameKind.cell:=sL.mpr ⟨qR h,rfl⟩;rw[S.one]at this;exact(tu<|EU.mp this).1
def aex{M:fW}{A:iU}{E:jr}{s:iB}{scope:ju}{globals:iw}{k:kj}{h:aE}{u:iI}{qual:aE}{d:Option iw}{code:iI}{a:iw}{Q:dk->iB->Prop}(S:AJ scope h)
  (p:∀f,f.Ns s.heap.objs.size (λ_=>I)->(∀b o,s.heap.get? b=Y o->f.get? b=Y o)->f.IsCell (s.heap.objs.size+1) (Y u)->
   Q (newEnv scope s.heap.objs.size globals ((h,s.heap.objs.size+1)::k) qual d code I a) {s with heap:=f}):
  af M A (dg scope globals k [(h,u)] qual d code I a) Q E s:=by
 simp -iota only[dg,Option.isSome_none,kW,mn];refine iz<|yp ?_;refine iz<|v6 _ (λl g i=>by cases j:g==aK<;>simp[j]) _ _ _ _ ?_;have ok:=zx scope.names (s.heap.push {cls:=.type "frame",data:=.dict #[]}) (s.heap.objs.size+1) [] ⟨λ_ _ r=>(nomatch r),cb⟩ (by rw[oX];exact jT _);rw[oX,yW _ _ _ S.one]at ok;rw[show({s with heap:=s.heap.push {cls:=.type "frame",data:=.dict #[]}}:iB).heap.objs.size=s.heap.objs.size+1 from oX ..,yW _ _ _ S.one];have q:=(ok.empty h (s.heap.objs.size+1) ky).1;have t:=(Heap.Ns.new s.heap<|.type "frame").keeps<|Dv scope.names _;refine iz ?_;rw[Af];refine iz<|iz<|MZ (c:=s.heap.objs.size+1) (v₀:=I) S.kind S.par (by simp[newEnv]) q λf v n=>iJ ?_;show af M A (fI (m:=dq) ([]:List (aE×iI)) PUnit.unit _) _ _ _;rw[nb];refine iJ<|iJ<|p f (t.sameBut n<|kz<|Aa _) (λb o e=>?_) v;refine(n.2 b<|kz<|vq<|kH e).trans ?_;exact Dv _ _ b o (jX _ e)
section
variable {CX:HB}{P:jh}{w:iY}{K:Frag}{mg:mE}{base:jb}{N:ji}{xp nm q:aE}{scope:ju}{fl:iw}{cd:iI}{b6:kj}{A:iU}{outer:List dk}{s:iB}{H:Hp}{E:XK}{σ:St}{v:V}{u:iI}
def PK(S:AJ scope xp)(hd:A.handled=I)(d:Eo P w K mg base A outer s H)(G:K3 N scope b6 σ H s.heap)(O:RelV v u){h1:jb}{t1:Nat}(L:h1.Ns s.heap.objs.size (λ_=>I))(hk:∀b o,s.heap.get? b=Y o->h1.get? b=Y o)
  (g:h1.IsCell (s.heap.objs.size+1) (Y u)):
  Inv (qw CX P w K mg base (xp::N) q scope fl cd ((xp,s.heap.objs.size+1)::b6) A outer s H E) [] (Y v::σ) H {s with heap:=h1,toks:=t1}:=by
 have k:∀b:iw,b∉(qw CX P w K mg base (xp::N) q scope fl cd ((xp,s.heap.objs.size+1)::b6) A outer s H E).ex:=λb z=>absurd (show b∈([]:List iw)from z) (by simp)
 have a:∀y c,((xp,s.heap.objs.size+1)::b6).lookup y=Y c->(y=xp/\c=s.heap.objs.size+1)\/b6.lookup y=Y c:=λy c h=>by
  rw[oY]at h
  cases f:y==xp with
  |true=>rw[f]at h;cases h;exact .inl ⟨pK f,rfl⟩
  |false=>rw[f]at h;exact .inr h
 have own:((xp,s.heap.objs.size+1)::b6).lookup xp=Y (s.heap.objs.size+1):=by simp
 have free:∀y,scope.names.lookup y=Y .free->((xp,s.heap.objs.size+1)::b6).lookup y=b6.lookup y:=λy h=>by
  rw[oY]
  cases f:y==xp
  .rfl
  rw[pK f,S.par]at h;cases h
 have lt:∀y c,b6.lookup y=Y c->c<s.heap.objs.size:=λy c h=>by obtain⟨⟨v,hv⟩,_⟩:=G.cell y c h;exact hv.lt
 refine⟨⟨d.mod,S.kind,rfl,rfl,jT _,λx y c h1 j=>?_,λy e=>?_,λy c z _=>absurd z<|by simp[qw],λ_=>hd,Hr d.frames,.inr ⟨rfl,rfl⟩,λb z=>absurd z<|k b,d.bs,d.bsz,λb _ _=>k b,λb z=>absurd z<|k b,d.BQ,d.frf⟩,
  rfl,d.bare,Un.kept hk,⟨_,L,λi y T h1 j _=>?_⟩,λy c h=>?_,d.hok.fresh<|jT _,λy c h=>?_,λp B=>absurd (show p∈([]:List (iw×el))from B)<|by simp,d.hok.kept hk,mG (· +1) G.len⟩
 .rcases a x c h1 with⟨a1,m⟩|a1<;>rcases a y c j with⟨a2,n⟩|a2
  .rw[a1,a2]
  .exact absurd (lt y c a2) (by rw[m];exact M3.mpr<|tX _)
  .exact absurd (lt x c a1) (by rw[n];exact M3.mpr<|tX _)
  exact G.inj x y c a1 a2
 .have e:scope.names.lookup y=Y .cell\/scope.names.lookup y=Y .free:=e;show ∃c,((xp,s.heap.objs.size+1)::b6).lookup y=Y c;rcases e with e|e
  .rw[S.only e];exact⟨_,own⟩
  rw[free y e];exact G.has y e
 .cases i with
  |zero=>
   cases h1;cases j;exact⟨u,O,.inr ⟨.inl S.par,_,own,g⟩⟩
  |succ i=>obtain⟨l,c,Q,t,M,r⟩:=G.val i y T h1 j;exact⟨Q,r,.inr ⟨.inr l,c,(free y l).trans t,M.keeps hk⟩⟩
 .rcases a y c h with⟨_,rfl⟩|h
  .exact⟨_,g⟩
  obtain⟨⟨v,hv⟩,_⟩:=G.cell y c h;exact⟨v,hv.keeps hk⟩
 rcases a y c h with⟨_,rfl⟩|h
 .exact d.hok.fresh (tX _)
 exact(G.cell y c h).2
def Qy{a:bo}{c:List bi}{k:Nat}{Q:VK}(S:AJ scope xp)(n:OO (k+1) A)(m:Eo P w K mg base A outer s H)(C:K3 N scope b6 σ H s.heap)(L:Br nm q a c scope b6 H s.heap fl)
  (i9:∀j O d z,dh (fnX nm q a c scope b6 .none .none j O Ix (.ref d) z) ⟨[u],[]⟩=pure [(xp,u)])(l:RelV v u)
  (U:∀(d:iw)(B:kj),OO k (A.deeper<|Bg q scope s.heap.objs.size fl (.ref d) B)->∃t,D5 (qw CX P w K mg base (xp::N) q scope fl (.ref d) B A outer s H E) c t/\t {nx:=λ_ h=>Q .VP h,rt:=Q} (Go v::σ) H):
  b4 (am P w) A (.call (.ref fl) ⟨[u],[]⟩) (CR CX outer P w H s Q E) s:=by
 obtain⟨j,O,d,z,D,W,u',vs,Z,h1,G,M⟩:=L.fn;have R:s.heap.CodeRec (.ref d) q:=⟨d,W,vs,Z,rfl,(m.hok d _ h1).1,G,M⟩
 have p:s.heap.NoLimit:=m.mod.nolimit.keeps λb o e=>(m.bs b o e).1;refine Hn n.depth D IR S.co S.gen IR R ?_;rw[i9];refine iJ<|aex S λy X x Y=>⟨p.keeps x,Hm ?_⟩;have I:=PK (CX:=CX) (q:=q) (fl:=fl) (cd:=.ref d) (E:=E) (t1:=s.toks) S n.hd m C l X x Y;obtain⟨t,T,F⟩:=U d ((xp,s.heap.objs.size+1)::b6)<|n.deeper _;refine nQ (T [] _ (Go v::σ) H _ I F) (λf r i=>?_) λe r i=>i
 have fin:∀{g:St}{h:Hp}{v:V}{u:iI},Inv (qw CX P w K mg base (xp::N) q scope fl (.ref d) ((xp,s.heap.objs.size+1)::b6) A outer s H E) [] g h r->RelV v u->Q v h->CE outer P w H s Q u r:=
  λ{g h v u} J l q=>⟨v,h,J.os,J.bare,J.base,J.hok,l,q⟩
 cases f with
 |ret u=>obtain⟨v,g,h,J,l,q⟩:=i;exact fin J l q
 |next=>obtain⟨g,h,J,q⟩:=i;exact fin (v:=V.VP) (u:=ay) J IR q
 |brk=>obtain⟨_,_,_,q⟩:=i;exact aR q
 |cont=>obtain⟨_,_,_,q⟩:=i;exact aR q
inductive Bt(scope:ju)(xp:aE):Prop
 |loc (S:Bp scope) (hp:scope.names.lookup xp=Go .local)
 |cel (S:AJ scope xp)
def Qx{a:bo}{b:List bi}{k:Nat}{Q:VK}(S:Bt scope xp)(g:OO (k+1) A)(e:Eo P w K mg base A outer s H)(T:K3 N scope b6 σ H s.heap)(L:Br nm q a b scope b6 H s.heap fl)
  (h:∀d o c n,dh (fnX nm q a b scope b6 .none .none d o I (.ref c) n) ⟨[u],[]⟩=pure [(xp,u)])(j:RelV v u)
  (f:∀(c:iw)(i:kj),OO k (A.deeper<|Bg q scope s.heap.objs.size fl (.ref c) i)->∃t,D5 (qw CX P w K mg base (xp::N) q scope fl (.ref c) i A outer s H E) b t/\t {nx:=λ_ l=>Q .VP l,rt:=Q} (Y v::σ) H):
  b4 (am P w) A (.call (.ref fl) ⟨[u],[]⟩) (CR CX outer P w H s Q E) s:=by
 cases S with
 |loc S m=>exact T6 S m g e T L h j λc=>f c _
 |cel S=>exact Qy S g e T L h j f
end
end L2
namespace PX
open L2
def IZ(scope:ju)(a:aE):Bool:=(Iq scope&&(scope.names.lookup a==Y .local))||(decide (scope.kind=.function)&&!scope.isCoroutine&&!scope.isGenerator&&(scope.names.lookup a==Y .cell)&&((scope.names.filter λy=>y.2==aK).map (·.1)==[a]))
def aaN{scope:ju}{f:aE}(h:IZ scope f=J):Bt scope f:=by
 unfold IZ at h;rcases vM .. ▸h with h|h
 .obtain⟨h1,c⟩:=lR .. ▸h;exact .loc (aai h1)<|pK c
 simp only[lR,oW,j2,beq_iff_eq]at h;refine .cel ⟨h.1.1.1.1,h.1.1.1.2,h.1.1.2,h.1.2,?_⟩;have c:=h.2;generalize i:(scope.names.filter λy=>y.2==aK)=l at c
 have d:∀y∈l,y.2=.cell:=λy e=>by rw[<-i]at e;exact pK (sL.mp e).2
 match l,c,d with
 |[(a,b)],c,d=>have g:=d (a,b) ky;cases g;cases c;rfl
end PX
namespace L2
open PySem.W
section
variable {fs:la}{N:ji}{d q:aE}{scope:ju}{f:kj}{H g:Hp}{h h':jb}{a:bo}{b:List bi}{c:iw}
def Br.keep(L:Br d q a b scope f H h c)(u:Un fs [] H g h h')(n:c∉fs):Br d q a b scope f g h' c:=by obtain⟨i,o,j,l,e,m,w,p,t,h1,k⟩:=L.fn;exact⟨⟨i,o,j,l,u.keep c _ e L.un n (by simp),m,w,p,t,u.frzs _ _ _ h1,k⟩,u.free c _ e L.un (by simp)⟩
end
structure EF(X:Cx)(N:ji)(xp nm q:aE)(scope:ju)(b6:kj)(vs:List V)(params:bo)(body:List bi)(fl:iw)(k:Nat)(sp:Sp):Prop where
 sc:Bt scope xp
 cel:K3 N scope b6 (vs.map Go) X.H₀ X.s₀.heap
 df:Br nm q params body scope b6 X.H₀ X.s₀.heap fl
 nfl:fl∉X.fs
 ncl:∀x c,b6.lookup x=Go c->c∉X.fs
 bnd:∀doc pm c' j8 u,dh (fnX nm q params body scope b6 .none .none doc pm Ix (.ref c') j8) ⟨[u],[]⟩=pure [(xp,u)]
 run:∀(c':iw)(l5:kj)(s:iB)(H:Hp)(v:V)(Q:VK),OO k (X.A.deeper<|Bg q scope s.heap.objs.size fl (.ref c') l5)->sp (v::vs) H Q E0->
  ∃t,D5 (qw BU X.prog X.w X.K X.mg X.base (xp::N) q scope fl (.ref c') l5 X.A X.stack s H E0) body t/\t {nx:=λ_ H'=>Q .VP H',rt:=Q} (Go v::vs.map Go) H
def Ww{X:Cx}{N:ji}{xp T q n:aE}{scope:ju}{t:kj}{B:List V}{a:bo}{g:List bi}{m:iw}{k j:Nat}{G:Sp}{e:iM}{M:TE}{p i:bA}(h:EF X N xp T q scope t B a g m k G)(hex:X.ex=[])(hr:OO (k+1) X.A)
  (hj:X.N[j]?=Go n)(vj:FQ X.env.scope n)(hd:(n==("__debug__":aE))=IP)(l4:(n==("__classdict__":aE))=IP)(he:PE X e M)(O:aj [e] X.env=(IP,bh e X.env)::aj [] X.env)(f7:(aO i<|aj [] X.env).any (·.1)=IP):
  PE X (.Call (.Name n p) [e] [] i) λl H' Q=>l[j]?=Go (Go<|.ref m)/\M l H' λv r=>G (v::B) r Q E0:=by
 intro b s l H' Q I ⟨hl,hte⟩;refine vB ?_;refine nQ (wj hj vj hd l4 b s l H' (λv r=>v=.ref m/\r=H') I ⟨.ref m,hl,rfl,rfl⟩) (λf s1 P=>?_) λ_ _ z=>z;obtain⟨v,U,C,Z,rfl,rfl⟩:=P;cases Z
 have at_:∀{d:Hp}{c:iB},Inv X b l d c->Br T q a g scope t d c.heap m/\K3 N scope t (B.map Go) d c.heap:=λ{d c} J=>by
  have un:Un X.fs [] X.H₀ d X.s₀.heap c.heap:=by have:=J.base;rwa [hex]at this
  exact⟨h.df.keep un h.nfl,h.cel.keep un h.ncl⟩
 have L:∀{d:Hp}{c:iB},Inv X b l d c->FnAt m c.heap:=λJ=>by obtain⟨_,_,_,_,e,_⟩:=(at_ J).1.fn;exact⟨_,_,_,_,e⟩
 refine callWith_F (L C) ?_ O f7;rw[O];show af _ _ (g8 ((IP,bh e X.env)::aO i (aj [] X.env))) _ _ s1;refine DC<|Q1 (he b s1 l U _ C hte) λu c ⟨v,d,o,r2,q2⟩=>Ht ⟨L o,?_⟩;obtain⟨F,D⟩:=at_ o;refine yu<|ql (Qx (CX:=BU) (E:=E0) (Q:=Q) (v:=v) (u:=u) h.sc hr o.KU D F (λx S w R=>h.bnd x S w R u) r2 λw K Y=>h.run w K c d v Q Y q2) λW s3 y=>?_
 cases W with
 |error e=>exact aR y
 |ok f=>
  cases f with
  |ret u=>exact o.after y
  |_=>exact aR y
end L2
namespace PX
open L2 PySem.SeqAt PySem.W
def NP(i:Nat)(os:jP)(d:O1):FS:=λc=>(jM c<|os.map .slot).bind λb=>if(b.all λa=>!a.2)=J/\i<(IX c)then(d b).bind λq=>Y (.nx<|c.set i<|Y q.1)else I
theorem Qd:∀(os:List A1)(as:List (D×Bool))(b c:Dn),(∀a∈as,a=(a.1,U))->wb os as b c=c
 |[],as,_,_,_=>by simp[wb]
 |o::os,[],_,_,_=>by cases o<;>simp[wb]
 |o::os,a::as,[],c,h=>by have e:=h a ky;obtain⟨d,f⟩:=a;cases e;cases o<;>simp[wb]
 |o::os,a::as,x::b,c,h=>by have e:=h a ky;obtain⟨d,f⟩:=a;cases e;cases o<;>simp[wb,Qd os as b c λa g=>h a<|kO _ g]
section
variable {X:Cx}{A:ki}{L:LL}{O:Hp}{N:ji}{C E q c d b:aE}{scope:ju}{I:kj}{f:List V}{a:bo}{m:List bi}{w:iw}{k i j s:Nat}{o:jP}{y:O1}{z:L2.St}{p n u t l:bA}
def Sd(CI:EF X N C E q scope I f a m w k (Ex X.K y))(hL:L.st=Go z)(hz:z[j]?=Go (Go<|.ref w))(hg:o.map (λg=>(z[g]?).join)=f.map Go)(nj: ¬A j)(ng:∀g∈o,¬A g)(hex:X.ex=[])(hr:OO (k+1) X.A)
  (hj:X.N[j]?=Go c)(vj:FQ X.env.scope c)(hd:(c==("__debug__":aE))=IP)(l4:(c==("__classdict__":aE))=IP)(ht:X.N[s]?=Go b)(vt:FQ X.env.scope b)(w5:(b==("__debug__":aE))=IP)(dn:(b==("__classdict__":aE))=IP)
  (l6:aj [eT b n] X.env=(IP,bh (.Name b n) X.env)::aj [] X.env)(f7:(aO t<|aj [] X.env).any (·.1)=IP)
  (hN:X.N.Nodup)(hi:X.N[i]?=Go d)(hx:Loc X.env.scope d)(hs:cH (.Call (.Name c p) [.Name b n] [] t) (Go<|.Name d u) l.line X.env=pure IP)(hf:X.fn d=IN\/X.env.scope.names.lookup d=Go .local)(ai:A i):
  L8 X A L O (.Assign [.Name d u] (.Call (.Name c p) [.Name b n] [] t) l) (NP i (s::o) y):=PS.imp' (N9 hN hi hx (Ww CI hex hr hj vj hd l4 (wj ht vt w5 dn) l6 f7) hs hf) λD σ H hw=>by
 obtain⟨δ,T,out,M,fi,e,kk⟩:=hw;obtain⟨G,F,e⟩:=iE e;obtain⟨⟨gv,dP⟩,e⟩:=yK e;obtain⟨r,J,R,e⟩:=iK e;cases e;have Y:=Kd gv;obtain⟨W,dC,B⟩:=Gr M F;have Ec:=xN M B F (by rw[uy _ _ Y];exact lu);have gh:=fi.gh z hL
 have S:o.map (λg=>(σ[g]?).join)=f.map Go:=by rw[<-hg];exact nL λg h=>by rw[gh g<|ng g h]
 have U:(σ[s]?).join::f.map Go=W.map Go:=by rw[<-dC,<-S];simp[sQ]
 obtain⟨v,Q,rfl⟩:∃v Q,W=v::Q:=by
  cases W with
  |nil=>simp at U
  |cons v Q=>exact⟨v,Q,rfl⟩
 simp at U
 have e2:f=Q:=by have:=mG (cF λx:Option V=>x.getD .VP) U.2;simpa[jY,rL]using this
 subst e2;refine⟨(gh j nj).trans hz,v,ox U.1,_,G,r,J,Ec,R,λv' H' P=>?_⟩;have Z:=qf M B F (by rw[uy _ _ Y];exact lu) P;rw[Qd _ _ _ _ Y]at Z;obtain⟨h1,h2⟩:=wY (A:=A) M Z dP ai;exact kk _ H' h1 h2
end
end PX
namespace L2
open PySem.W
def Inv.ghost{X:Cx}{a:jw}{c b:St}{Q:Hp}{s:iB}(T:Inv X a c Q s)(j:(IX b)=IX c)(h:∀(i:Nat) x,X.N[i]?=Y x->FQ X.env.scope x->b[i]?=c[i]?):Inv X a b Q s:=by obtain⟨m,k,f⟩:=T.loc;exact⟨T.ok,T.os,T.bare,T.base,⟨m,k,λi x v d g e=>f i x v d (by rw[<-h i x d e];exact g) e⟩,T.cell,T.free,T.freeC,T.pin,T.hok,j.trans T.len⟩
end L2
namespace PX
open L2 PySem.SeqAt PySem.W
def uE(a:D×Bool)(m:Nat)(b:List (D×Bool)):Dn:=Y a::I::(ao m I++b.map Y)
def Ft(i a:Nat)(c:jP)(m:Nat)(d:FS):FS:=λδ=>(jM δ<|(a::c).map .slot).bind λb=>if(b.all λa=>!a.2)=J/\i∉a::c/\i<(IX δ)then match b with
 |x::cs=>(match d (uE x m cs)with
  |some (.rt r _)=>Y<|.rt r<|δ.set i I
  |_=>I)
 |[]=>I else I
def ER.forget{K:Frag}{Q g:Hp}{T:SS}{f:L2.St}{c:Dn}{i:Nat}{v:V}(E:ER K Q T f c)(k:∀b o,Q b=Y o->g b=Y o):ER K g T (f.set i<|Y v) (c.set i I):=by
 have ne:∀{j:Nat}{p:D×Bool},(c.set i I)[j]?=Y (Y p)->c[j]?=Y (Y p)/\i≠j:=λ{j p} h=>by
  by_cases e:i=j
  .subst e;rw[yn]at h;split at h
   .split at h<;>cases h
   rename_i z;exact absurd C z
  rw[nu e]at h;exact⟨h,e⟩
 have ow:∀{b:iw},X0 (f.set i<|Y v) (c.set i I) b->X0 f c b:=λ{b} ⟨j,d,h1,a⟩=>⟨j,d,(ne h1).1,by rwa [nu (ne h1).2]at a⟩
 have q:∀b,Q b≠I->X0 (f.set i<|Y v) (c.set i I) b\/T b->X0 f c b\/T b:=λb _ z=>z.imp ow id;refine⟨by rw[vA,vA];exact E.len,λj x h=>?_,λj x h=>?_,λj l x y b h1 a m n=>?_,λb z=>E.nT b<|ow z,λb z=>(E.dom b z).up<|k b⟩
 .obtain⟨w,h1,a⟩:=E.val j x (ne h).1;exact⟨w,by rw[nu (ne h).2];exact h1,Rep.mono (λb o e _=>k b o e) q a⟩
 .obtain⟨b,h1,a⟩:=E.own j x (ne h).1;exact⟨b,by rw[nu (ne h).2];exact h1,a.mono (λb o e _=>k b o e) q<|k b⟩
 rw[nu (ne h1).2]at m;rw[nu (ne a).2]at n;exact E.inj j l x y b (ne h1).1 (ne a).1 m n
def Ez{x:D×Bool}{m:Nat}{a:List (D×Bool)}{j:Nat}{p:D×Bool}(h:(uE x m a)[j]?=Y (Y p)):(j=0/\p=x)\/∃l,j=m+2+l/\a[l]?=Y p:=by
 unfold uE at h
 match j,h with
 |0,h=>cases h;exact .inl ⟨rfl,rfl⟩
 |1,h=>cases h
 |j+2,h=>
  simp at h;by_cases b:j<m
  .rw[qk<|by simpa using b,Dz]at h;split at h<;>cases h
  rw[pL<|by simpa using b,Ho,kX]at h;obtain⟨q,c,e⟩:=jB h;cases e;exact .inr ⟨j-m,by lia,c⟩
def pM(v:V)(fl:iw)(m:Nat)(vs:List V):L2.St:=Y v::Y (.ref fl)::(ao m I++vs.map Y)
def Kg{K:Frag}{Q:Hp}{T:SS}{v:V}{vs:List V}{x:D×Bool}{c:List (D×Bool)}{fl:iw}{m:Nat}(E:ER K Q T ((v::vs).map Y) ((x::c).map Y))(f:∀a∈x::c,a=(a.1,U)):ER K Q T (pM v fl m vs) (uE x m c)/\∀b,¬X0 (pM v fl m vs) (uE x m c) b:=by
 have no:∀b,¬X0 (pM v fl m vs) (uE x m c) b:=λb O=>by
  obtain⟨j,d,h1,_⟩:=O
  rcases Ez h1 with⟨_,e⟩|⟨l,_,e⟩
  .have:=f x ky;rw[<-e]at this;cases this
  have:=f _ (kO _ (mY e));cases this
 have len:(IX vs)=(IX c):=by have:=E.len;simpa using this
 refine⟨⟨by simp[pM,uE,len],λj d h=>?_,λj d h=>?_,λj l d e b h=>?_,λb z=>absurd z<|no b,E.dom⟩,no⟩
 .have i:∀{w},Rep K Q (λa=>X0 ((v::vs).map Y) ((x::c).map Y) a\/T a) d w->Rep K Q (λa=>X0 (pM v fl m vs) (uE x m c) a\/T a) d w:=Rep.mono (λ_ _ e _=>e) λb _ z=>z.elim (λz=>absurd z<|no b) .inr;rcases Ez h with⟨rfl,e⟩|⟨l,rfl,e⟩
  .obtain⟨w,h1,g⟩:=E.val 0 d (by rw[<-e];rfl);cases h1;exact⟨v,rfl,i g⟩
  obtain⟨w,h1,g⟩:=E.val (l+1) d (by simp[e]);refine⟨w,?_,i g⟩;unfold pM;rw[show m+2+l=(m+l)+2 by lia,yc,yc,pL<|by simp,Ho,Dj];simpa using h1
 .rcases Ez h with⟨_,e⟩|⟨l,_,e⟩
  .have:=f x ky;rw[<-e]at this;cases this
  have:=f _ (kO _ (mY e));cases this
 rcases Ez h with⟨_,e⟩|⟨l,_,e⟩
 .have:=f x ky;rw[<-e]at this;cases this
 have:=f _ (kO _ (mY e));cases this
def RO{K:Frag}{Q j:Hp}{T:SS}{A:ki}{v w:V}{vs:List V}{x:D×Bool}{c:List (D×Bool)}{fl:iw}{m:Nat}{r:D×Bool}{i:L2.St}{h:Dn}(E:ER K Q T ((v::vs).map Y) ((x::c).map Y))(k:∀a∈x::c,a=(a.1,U))
  (S:SK A (pM v fl m vs) (uE x m c) Q i h j)(R:RV K T Q r i h w j):Ls K T ((v::vs).map Y) ((x::c).map Y) Q r ((x::c).map Y) w j:=by
 have no:=(Kg (fl:=fl) (m:=m) E k).2;have g:∀b,¬X0 ((v::vs).map Y) ((x::c).map Y) b:=Xe k _;have up:∀b o,Q b=Y o->j b=Y o:=λb o e=>S.kp b o e<|no b;obtain⟨d,f⟩:=r
 cases f
 .exact⟨.ext up,E.mono (λb o e _=>up b o e) (λ_ _ z=>z) λb z=>(E.dom b z).up<|up b,Rep.mono (λ_ _ e _=>e) (λb _ z=>z.elim (λz=>absurd z<|g b) .inr) R.2⟩
 obtain⟨p,rfl,l,q,ok⟩:=R;refine⟨.ext up,p,rfl,l,E.mono (λb o e _=>up b o e) (λb n z=>z.elim id λz=>absurd l<|z▸n) λb z=>?_,ok.mono (λ_ _ e _=>e) (λb _ z=>z.elim (λz=>absurd z<|g b) .inr) λ_ e=>e⟩;rcases z with z|z
 .exact(E.dom b z).up (up b)
 subst z;exact ok.ow
theorem C3{b:Dn}{i:Nat}{o:Sl}:∀{a:jP},i∉a->jM (b.set i o) (a.map .slot)=jM b (a.map .slot)
 |[],_=>rfl
 |j::a,h=>by have h1:i≠j:=λe=>h (by rw[e];exact ky);simp only[ku,jM,zj];rw[nu h1,C3 λz=>h<|kO _ z]
section
variable {X:Cx}{A:ki}{L:LL}{H0:Hp}{Pt c fr:iw}{g:bo}{O:List bi}{scope:ju}{pos cq cp pf p1 p2:bA}{t J bP:jP}{N' U:ji}{bY bZ:FS}{st:bi}{dX:nK}{M Y xp G q y1 y2:aE}{i a k m:Nat}
def N6{more:nE}(F:HM X.K M M st fr dX)(gO:Binds X.K dX [y1,y2] [])(SL:R1 U [y1,y2] (iL st))(gr:Gl X M)(gb:X.mg M=Go (.ref fr))(cQ:(M==("__debug__":aE))=IP)
  (bV:∀x,X.fn x=IN)(hr:OO (k+2) X.A)(hTb:X.H₀ Pt=Go (.tbl (#[.str q 0]++more)))(l4:X.env.code=.ref c)(C:CodeHd X.base c Pt)(hB:X.base.BuiltinsAt X.mg Pt)(gu:ap≠Pt)(hq:qualnameIn X.env G G=q)
  (CO:B1 X N' scope t 0)(LS:Bt scope xp)(gK:g.defaults=[])(dN:g.kw_defaults=[])(gP:annTrees g Ix X.env=[])
  (i9:∀b6 doc pm c' j8 u,dh (fnX G q g O scope b6 .none .none doc pm Ix (.ref c') j8) ⟨[u],[]⟩=pure [(xp,u)])
  (hN:X.N.Nodup)(hi:X.N[i]?=Go G)(hx:Loc X.env.scope G)(ai:A i)(vi:FQ X.env.scope G)(gG:(G==("__debug__":aE))=IP)(dR:(G==("__classdict__":aE))=IP)
  (ha:X.N[a]?=Go Y)(va:FQ X.env.scope Y)(gJ:(Y==("__debug__":aE))=IP)(gL:(Y==("__classdict__":aE))=IP)
  (he:aj [eT Y p1,.Name G p2] X.env=(IP,bh (.Name Y p1) X.env)::aj [.Name G p2] X.env)(gF:aO cp (aj [eT G p2] X.env)=[(IP,bh (.Name G p2) X.env)])(f7:(aO cp<|aj [eT G p2] X.env).any (·.1)=IP)
  (hm:(IX U)=m+2+IX t)(gq:∀(j:Nat) x,m+2<=j->U[j]?=Go x->¬FQ (iL st) x)
  (hR:∀(fl:iw)(b6:kj)(c':iw)(A:iU)(outer:List dk)(s:iB)(H:Hp)(L:LL),(∀i,L.p i->i<IX t+1)->OO k (A.deeper<|Bg q scope s.heap.objs.size fl (.ref c') b6)->
   EL (qw BU X.prog X.w X.K X.mg X.base (xp::N') q scope fl (.ref c') b6 A outer s H E0) (λi=>i∈J) L H O bY)
  (gU:∀(b7:iI)(A:iU)(outer:List dk)(s:iB)(H:Hp)(fl:iw)(b6:kj)(v:V)(vs:List V),IX vs=IX t->OO (k+1) (A.deeper<|bc M (iL st) s.heap.objs.size fr b7)->
   EF (rE BU X.prog X.w X.K X.mg X.base U M (iL st) fr b7 A outer s H E0).FG N' xp G q scope b6 vs g O fl k (Ex X.K<|Sr (IX t+1) (IX t+1) J bY)->
   EL (rE BU X.prog X.w X.K X.mg X.base U M (iL st) fr b7 A outer s H E0).FG (λi=>i∈bP) ⟨λ_=>False,Go<|pM v fl m vs⟩ H (lQ st) bZ):
  EL X A L H0 [.FunctionDef G g O [] Ix [] scope Ix G pos,.Return (Go<|.Call (.Name M pf) [.Name Y p1,.Name G p2] [] cp) cq] (Ft i a t m bZ):=by
 intro Z s σ H D I hw;obtain⟨δ,T,out,E1,fi,e,kk⟩:=hw;obtain⟨args,hargs,e⟩:=iE e;obtain⟨⟨gv,hni,dP⟩,e⟩:=yK e;have av:=Kd gv
 obtain⟨x,cs,rfl⟩:∃x cs,args=x::cs:=by
  cases args with
  |nil=>cases e
  |cons x cs=>exact⟨x,cs,rfl⟩
 simp only at e;split at e
 case h_2=>cases e
 rename_i r δL hfs;cases e;obtain⟨aZ,hclo,j5,j6⟩:=wD X.env scope λx hx hf=>I.ok.has x.1<|CO.free x hx hf;obtain⟨more2,hP⟩:=I.base.tbls Pt _ hTb;rw[Hx]at hP;refine Hv<|nestDef_K gK dN gP ?_;rw[hq];refine Qr I hP l4 C hB gu hclo λs1 H1 fl I1 up L1 kp fr0 new=>?_;refine Ck I1 hN hi hx (v:=.ref fl) IR (λs2 I2 ch=>?_)<|.inl<|bV _
 have eD:fl∉X.fs:=λz=>by obtain⟨_,o,ho,_⟩:=I.BQ.mem z;rw[new]at ho;cases ho
 have nfl:fl∉H9 X.stack:=λz=>by obtain⟨_,o,ho,_⟩:=I.stack.mem z;rw[new]at ho;cases ho
 have nlo:fl≠X.env.locals:=λz=>by obtain⟨m,⟨o',es,ep,ag,_⟩,_⟩:=I.loc;rw[<-z,new]at ag;cases ag
 obtain⟨doc,pm,c',j8,hob,gw⟩:=L1.fn
 have hob2:s2.heap.get? fl=Go (fnMade G q g O scope aZ doc pm c' j8):=by
  obtain⟨b,hs,hb⟩:=ch;refine hs.extBut fl _ (λz=>?_) hob;rcases hb with hb|hb
  .exact nlo (z.trans hb)
  obtain⟨w,o,ho,_⟩:=I.cell G b hb;rw[<-z,new]at ho;cases ho
 have Ip:Inv X (Z++[(fl,fnMade G q g O scope aZ doc pm c' j8)]) (σ.set i<|Go<|.ref fl) H1 s2:=I2.D6 λp hp=>(pk.mp hp).elim (λz=>I2.pin p<|pd _ z) λz=>by
  cases EU.mp z;exact⟨hob2,L1.un,nlo,eD,λv h=>by cases h⟩
 have E2:=E1.forget (i:=i) (v:=.ref fl) up;have aa:jM (δ.set i Ix) ((a::t).map .slot)=Go (x::cs):=(C3 hni).trans hargs;obtain⟨ws,dC,B⟩:=Gr E2 aa
 obtain⟨v,vs,rfl⟩:∃v vs,ws=v::vs:=by
  cases ws with
  |nil=>simp[sQ]at dC
  |cons v vs=>exact⟨v,vs,rfl⟩
 have cC:((σ.set i<|Go<|.ref fl)[a]?).join=Go v/\sQ t 0 (σ.set i<|Go<|.ref fl)=vs.map Go:=by simp only[sQ,xY,wN,ku,ac7]at dC ⊢;exact dC
 have Ec:=xN E2 B aa (by rw[uy _ _ av];exact lu);have hil2:i<(IX σ):=by rw[E1.len];exact dP
 have fQ:(IX vs)=(IX t):=by have:=mG ef cC.2;simpa[sQ]using this.symm
 refine Hv<|px<|Q1 (Q:=EP X Z (σ.set i<|Go<|.ref fl) λw W=>Ls X.K T (σ.set i<|Go<|.ref fl) (δ.set i Ix) H1 r (δ.set i Ix) w W) ?_ λw s3 ⟨y,H3,I3,r3,P3⟩=>?_
 .refine vB (zI I2 gr gb ?_ cQ);refine callWith_K (h₀:=X.base) I2.ok.mod.kin F.kp ?_ he f7;rw[he];show af _ _ (g8 ((IP,bh (.Name Y p1) X.env)::aO cp (aj [.Name G p2] X.env))) _ _ s2;rw[gF];refine DC<|Q1 (wj ha va gJ gL _ s2 _ H1 (λw W=>w=v/\W=H1) Ip ⟨v,ox cC.1,rfl,rfl⟩) ?_;rintro u1 s3 ⟨w,H3,I3,r3,e1,e2⟩;subst e1 e2;refine DC<|Q1 (wj hi vi gG dR _ s3 _ H3 (λw' W=>w'=.ref fl/\W=H3) I3 ⟨.ref fl,tx hil2,rfl,rfl⟩) λu2 s4 ⟨w2,H4,I4,r4,e3,e4⟩=>Ht ⟨I4.F1,?_⟩;subst e3 e4;have hob4:=(I4.pin _ (pd _ (pd _ ky))).1;have I5:=I4.B2
  have LC:K3 N' scope aZ (vs.map Go) H4 s4.heap:=by
   rw[<-cC.2];refine⟨λx y c h1 h2=>I.ok.inj x y c (j5 x c h1)<|j5 y c h2,λx hx=>j6 x<|qR hx,λx c h=>⟨I5.cell x c<|j5 x c h,I5.freeC x c<|j5 x c h⟩,λl x v h1 h2=>?_,CO.KI.len _⟩;obtain⟨hf,jj,hj,hv⟩:=CO.KI.pre _ l v x h2 h1;refine⟨hf,?_⟩;obtain⟨m,hn,hl⟩:=I5.loc;have j9:=CO.free (x,.free) (qR hf) IR;obtain⟨u,r,q⟩:=hl jj x v hj hv (by rcases j9 with z|z;exact .inr<|.inl z;exact .inr<|.inr z);rcases q with⟨dO,_⟩|⟨_,c,hc,i5⟩
   .have bL:X.env.scope.names.lookup x=Go .local:=dO;rcases j9 with z|z<;>(have z':X.env.scope.names.lookup x=_:=z;rw[bL]at z';cases z')
   obtain⟨c',w6⟩:=j6 x<|qR hf;have:=j5 x c' w6;rw[hc]at this;cases this;exact⟨c,u,w6,i5,r⟩
  have nst:∀x c,aZ.lookup x=Go c->c∉H9 X.stack:=λx c e z=>by
   rcases oq.mp (I.D9 c z)with q|q
   .exact I.Ji x c (j5 x c e) q
   obtain⟨_,o,ho,_⟩:=I.ok.BQ.mem q;exact absurd (kH ho)<|M3.mpr<|I.ok.cab x c (bV x)<|j5 x c e
  obtain⟨oc,od,kV,doc2,pm2,an,b7,ct,r9,rfl,lkr,hcdr⟩:=F.ex;have hbt:=gO s4 [u1,u2] I5.F1 IR
  have CI:EF (rE BU X.prog X.w X.K X.mg X.base U M (iL st) fr b7 X.A X.stack s4 H4 E0).FG N' xp G q scope aZ vs g O fl k (Ex X.K<|Sr (IX t+1) (IX t+1) J bY):=
   ⟨LS,LC,⟨⟨doc,pm,c',j8,hob4,gw⟩,L1.un⟩,nfl,nst,i9 aZ,λc2 hW s' W w' Q bH bj=>by
    have gS:(xp::N').length=IX t+1:=by have:=CO.KI.len<|σ.set i<|Go<|.ref fl;simp[sQ]at this ⊢;exact this.symm
    rw[<-gS]at bj;obtain⟨L',h1,h2⟩:=HI (N:=xp::N') bj;refine⟨_,hR fl hW c2 _ _ s' W L' (λi h=>by have:=h1 i h;rwa [gS]at this) bH,?_⟩
    have:L2.qp (xp::N') (w'::vs)=Go w'::vs.map Go:=by unfold L2.qp;rw[gS,mX,fQ];simp
    rw[<-this];exact h2⟩
  refine yu<|ql (U7 (CX:=BU) (E:=E0) (Q:=λw W=>Ls X.K T (σ.set i<|Go<|.ref fl) (δ.set i Ix) H4 r (δ.set i Ix) w W) (vs:=[w,.ref fl]) lkr hcdr SL hr I5.KU hbt (.cons r3<|.cons r4 .nil) IR λbH=>?_) λrr s5 hq=>?_
  .have nd0:(jf ((a::t).map A1.slot) (x::cs)).Nodup:=by rw[uy _ _ av];exact lu
   refine⟨λD σ' W=>tS X.K (λi=>i∈bP) ⟨λ_=>False,Go<|pM w fl m vs⟩ H4 bZ D (σ'.take (m+2)++vs.map Go) W,D5.FG λZ s' σ' W D I' h=>?_,?_⟩
   .refine gU b7 X.A X.stack s4 H4 fl aZ w vs fQ bH CI Z s' _ W D (I'.ghost ?_ λj y h1 h2=>?_) h
    .have:=I'.len;have e:(IX σ')=(IX U):=this;simp[fQ];omega
    by_cases hj:j<m+2
    .have e:(IX σ')=(IX U):=I'.len;rw[qk<|by simp;omega,Hq hj]
    exact absurd h2 (gq j y (by omega) h1)
   have hz:(L2.qp U [w,.ref fl]).take (m+2)++vs.map Go=pM w fl m vs:=by unfold L2.qp pM;rw[show (IX U)-[w,V.ref fl].length=m+(IX t) by simp;omega];simp
   show tS _ _ _ _ _ _ _ _;rw[hz];obtain⟨e1,no⟩:=Kg (fl:=fl) (m:=m) Ec av;refine⟨_,_,_,e1,⟨λl b ⟨d,h1,h2⟩=>absurd ⟨l,d,h1,h2⟩<|no b,λ_ z=>z,λ_ _ z=>z,λz' e j _=>by cases e;rfl⟩,hfs,λw' σ' W S R=>?_⟩;have P:=qf E2 B aa nd0<|RO Ec av S R
   rwa [Qd _ _ _ _ av]at P
  cases rr with
  |error e=>exact aR hq
  |ok f=>
   cases f with
   |ret u=>exact I5.after hq
   |_=>exact aR hq
 have S1:SK A σ δ H (σ.set i<|Go<|.ref fl) (δ.set i Ix) H1:=⟨λb o q _=>up b o q,λl b z=>by
  obtain⟨⟨d,h1,h2⟩,n⟩:=OE z;rw[nu<|tD n]at h2;exact .inl ⟨d,h1,h2⟩,λb q=>by
  cases hh:H b with
  |none=>exact absurd hh q
  |some o=>rw[up b o hh];simp,λl n=>nu λ(z:i=l)=>n<|z▸ai⟩
 refine⟨y,_,H3,I3,r3,kk y _ H3 (S1.trans P3.1.sk) ?_⟩;obtain⟨d,f⟩:=r
 cases f
 .exact P3.2
 obtain⟨p,h1,h2,h3⟩:=P3.2;refine⟨p,h1,fi.fresh ?_,h3⟩
 cases hh:H p with
 |none=>rfl
 |some o=>rw[up p o hh]at h2;cases h2
end
open PySem.Builtin.Str
section
variable {X:Cx}
end
section
variable {X:Cx}{o e a:iM}{k l:FO}{b v:aE}{d p c i h g f:bA}{j:Nat}
end
section
variable {K:jd}{T:SS}{b:L2.St}{c:Dn}{H:Hp}{A:ki}{i j:Nat}{d:D}{a:iw}
end
section
variable {X:Cx}{A:ki}{L:LL}{d:Hp}{b a c:bA}{i j:Nat}{x y:aE}
end
end PX
namespace TT
open PySem.SeqAt
section
variable {a:jh}{w:iY}{A:iU}{E:jr}{s:iB}
end
end TT
namespace PX
open L2 PySem.SeqAt TS
section
variable {X:Cx}{a:jw}{b:L2.St}{H:Hp}{s:iB}
end
section
variable {X:Cx}
end
end PX
namespace TT
def XY{a:jh}{w:iY}{A:iU}{E:jr}{s:iB}{Q:jr}(h:Q (.ref s.heap.objs.size) {s with heap:=s.heap.push (kn #[] 0 (lj w))}):af (am a w) A (wn<|.type "set") Q E s:=by
 unfold wn fZ;obtain⟨b,g,d,c,os⟩:=s;dsimp only;refine iz<|iz<|tU<|iJ ?_;dsimp only;simp only[newObj]
 first
  |exact iz<|yp<|iJ h
  |exact iz<|iJ<|iz<|yp<|iJ h
end TT
namespace PX
open L2 PySem.SeqAt
def Qk(a:jP)(k:Nat)(c:B0)(d:Tg)(ti:FT)(b:FB):F:=IK I a k c d ti b
section
variable {X:Cx}{A:ki}{d:iw}{j:iM}{f:F}
variable {c:oT}{b:oU}{scope:ju}{e:bA}{p:ji}{a:jP}{k:Nat}{n:B0}{l:Tg}{ti:FT}{m:FB}
def V5(N:B1 X p scope a k)(v:X.calm=J)(u:c.is_async=0)(y:∀s,b[0]?=Y s->s.is_async=0)
  (w:∀x,aB c.iter X.env x=pure x)(B:Ih X (λi=>i∉a) c.target c.iter n)
  (z:∀(cl:kj)(N:iw)(E:iB)(t:Hp)(fp:la)(q:jw),let r:=X.comp p scope cl N E t fp q
   Ja r (λi=>IX a<=i) c.target l/\IE r c.ifs (tT X.K ti)/\∀d,PB r (jG (.SetComp j (c::b) scope e) 0 (.ref d) r.env)<|FE I X.K (λi=>IX a<=i) d m):
  PX X (.SetComp j (c::b) scope e) (Qk a k n l ti m):=PX.imp (D1 (fp:=c.iter.pos) (new:=wn<|.type "set") (o:=.V0 []) (g:=tG X.K (λi=>IX a<=i) l) (ti:=tT X.K ti) (tb:=λd=>FE I X.K (λi=>IX a<=i) d m) N.KI v u y w B z (λ_ _ _ k=>TT.XY<|k _ λ_=>⟨#[],0,_,kF _ rfl,.nil,TT.J4.fresh _ _ _,rfl,rfl⟩) (.inr ⟨_,_,_,_,rfl⟩) (hev:=by cases c;rfl)) λT O Q h=>yV (S:=I) h
end
def wH(f:F):FB:=λa δ=>(f δ).bind λp=>if a.all BC=J/\BC p.1.1=J/\(IX a)<500 then Y (oO a p.1.1,p.2)else I
section
variable {X:Cx}{A:ki}{d:iw}{c:iM}{f:F}
def agh{h:oU}{Y:ju}{p:bA}{depth:Nat}(hu:X.A.units+90<aT)(hn:h[depth+1]?=Ix)(he:PX X c f):PB X (jG (.SetComp c h Y p) depth (.ref d) X.env) (FE Ix X.K A d<|wH f):=by
 intro w s m H N I hw;obtain⟨Q,T,F,g0,δ',B,e,k⟩:=hw;obtain⟨r,g,h1,e⟩:=iK e;obtain⟨⟨o1,o2,o3⟩,e⟩:=jy e;obtain⟨rfl,rfl⟩:=tu e
 have V:jG (.SetComp c h Y p) depth (.ref d) X.env=(do let v <-bh c X.env;cA c.pos;let _ <-call (.builtin "set.add") [.ref d,v]):=by unfold jG;simp -iota only[clausesOf.eq_def];rw[hn]
 rw[V];refine iz<|Q1 (he w s m H (λy j=>Ls X.K T m Q H r g y j) I ⟨Q,T,r,g,B.er,h1,λv j P=>P⟩) ?_;rintro u s1 ⟨y,j,E,ru,P⟩;obtain⟨C,U⟩:=P.rep B.er;have G:SK A m Q H m g j:=P.1.sk;have D:=B.step G C;obtain⟨us,M,q3⟩:=D.at';obtain⟨es,n,t,l,S⟩:=AN.Ij E M q3;refine iz<|ud<|iz ?_;refine oF GD ⟨_,S.is.at_,rfl⟩ Mq ?_<|Mp _ _;unfold bb.«set.add» cg;simp only[zS,tV];unfold bW;refine iz<|iJ ?_
 try dsimp only
 refine iz<|iJ ?_
 try dsimp only
 refine iz<|A2.add E S o1 (.inl U) U ru o2 o3 (by show X.A.units+1+60<aT;lia) λb h' tk W n' t' L ht v5 x=>?_;show af _ _ (ret ay) _ _ _;have O:T d:=B.td;have kp:∀(J:HO) b u,j b=Go u->¬(X0 m g b\/T b)->upd j d J b=Go u:=λJ b u e n=>by rw[jq<|by intro z;subst z;exact n<|.inr O];exact e
 obtain⟨R,z1,z2⟩:=x.Q2 (K:=X.K) (H':=upd j d<|.V0<|L.map hv) (O':=λa=>X0 m g a\/T a) (λp hp=>Rep.mono (kp _) (λ_ _ z=>z)<|x.rep p hp) jk;refine iJ ⟨_,rfl,iJ ⟨m,upd j d<|.V0<|L.map hv,?_,k m _ ?_ ?_⟩⟩
 .obtain⟨fG,zs2,Z,_⟩:=M;exact uX (t':=tk) E (by rw[Z];exact bD) v5 ⟨_,x.is.at_⟩ x.IL
 .have:HY A d m g j m g (upd j d<|.V0<|L.map hv):=⟨λa o e n nd=>by rw[jq nd];exact e,λi a z=>.inl z,λa z=>by
   by_cases q:a=d
   .subst q;rw[jk];simp
   rw[jq q];exact z,λ_ _=>rfl⟩
  exact G.Jb.trans this
 refine⟨C.mono (λb o e n=>by rw[jq<|by intro z;subst z;exact n O];exact e) (λ_ _ z=>z) λa z=>?_,O,R,?_,?_⟩
 .by_cases q:a=d
  .subst q;rw[jk];trivial
  rw[jq q];exact C.dom a z
 .exact z1
 exact z2
end
def abm{X:Cx}{g:iM}{f:F}{k:Nat}{l:bA}{c:oT}{scope:ju}{m:B0}{tt:Tg}{n:FT}{e:jP}(t:X.A.units+90<aT)(w:QI X (λi=>i∉e) c.target c.iter m)
  (u:Lx X e [c] scope λT=>QG T (λi=>IX e<=i) c.target tt/\QF T c.ifs n/\QX T g f)
  (Q:se X.N X.env.scope scope (cN X.N e [c]) e k=J:=by kernel_rfl)(v:decide (cN X.N e [c]).Nodup=J:=by kernel_rfl)
  (r:X.calm=J:=by rfl)(q:c.is_async=0:=by rfl)(s:∀x,aB c.iter X.env x=pure x:=by intro _;rfl):
  QX X (.SetComp g [c] scope l) (Qk e k m tt n<|wH f):=
 ⟨V5 (Bm C C Q) r q (by intro z h;cases h) s w.h λcl Q y o p j=>let⟨a,b,c⟩:=u cl Q y o p j<|tL v;⟨a.h,b.h,λd=>agh t C c.h⟩⟩
open PySem.W
structure LQ(X:Cx)(q:aE)(Pt:iw):Prop where
 t:XR q Pt X.H₀
 c:∃c,X.env.code=.ref c/\CodeHd X.base c Pt
 b:X.base.BuiltinsAt X.mg Pt
 g:ap≠Pt
def ozQ{Z:ZZ}{k:Nat}{x q:aE}{st:bi}{N g:ji}{asg:jP}{fs:FS}{h:iw}{TB:List (iw×aE)}(a:TbK Z TB x st q h)(S:R1 N g (iL st))(b:Ii x st g)
  (B:∀(f:iw)(e:iI)(A:iU)(d:List dk)(s:iB)(M:Hp)(E:XK)(L:LL),(∀i,L.p i->i<IX g)->OO k (A.deeper<|bc x (iL st) s.heap.objs.size f e)->
   un (A.deeper<|bc x (iL st) s.heap.objs.size f e) 60->un (A.deeper<|bc x (iL st) s.heap.objs.size f e) 1->un (A.deeper<|bc x (iL st) s.heap.objs.size f e) 62->un (A.deeper<|bc x (iL st) s.heap.objs.size f e) 90->N.Nodup->
   LQ (rE BU Z.P Z.w Z.K Z.mg Z.base N x (iL st) f e A d s M E).FG q h->QQ (rE BU Z.P Z.w Z.K Z.mg Z.base N x (iL st) f e A d s M E).FG (λi=>i∈asg) L M (lQ st) fs):K5 Z TB (k+1) x g (Sr (IX N) (IX g) asg fs):=
 let⟨f,l,c,m,F,h1,r,t,u,v⟩:=a
 ⟨f,l,fnU F S λe A d s M E L y T j Q o n O G z=>B f e A d s M E L y T j Q o n O ⟨z _ v,⟨c,G.trans h1,r⟩,t,u⟩,m,F.kp,F.binds b⟩
def ozU{Z:ZZ}{k:Nat}{x:aE}{st:bi}{N e:ji}{asg:jP}{fs:FS}{TB:List (iw×aE)}(a:Fz Z.K Z.mg x st)(S:R1 N e (iL st))(b:Ii x st e)
  (q:∀(f:iw)(d:iI)(A:iU)(c:List dk)(s:iB)(T:Hp)(E:XK)(L:LL),(∀i,L.p i->i<IX e)->OO k (A.deeper<|bc x (iL st) s.heap.objs.size f d)->
   un (A.deeper<|bc x (iL st) s.heap.objs.size f d) 60->un (A.deeper<|bc x (iL st) s.heap.objs.size f d) 1->un (A.deeper<|bc x (iL st) s.heap.objs.size f d) 62->un (A.deeper<|bc x (iL st) s.heap.objs.size f d) 90->N.Nodup->
   Uo TB T->QQ (rE BU Z.P Z.w Z.K Z.mg Z.base N x (iL st) f d A c s T E).FG (λi=>i∈asg) L T (lQ st) fs):K5 Z TB (k+1) x e (Sr (IX N) (IX e) asg fs):=
 let⟨f,h,m,F⟩:=a
 ⟨f,h,fnU F S λd A c s T E L n r g u l j t _ o=>q f d A c s T E L n r g u l j t o,m,F.kp,F.binds b⟩
def LtZ(Z:ZZ)(k:Nat)(x:aE)(st:bi)(N t:ji)(d:jP)(m g:Nat)(fs:O1->FS):Prop:= ∃f l,Z.mg x=Y (.ref f)/\HM Z.K x x st f l/\Binds Z.K l t []/\
 ∀(e:iI)(A:iU)(a:List dk)(s:iB)(T:Hp)(n:iw)(p:kj)(v:V)(h:List V)(o:ji)(u r q:aE)(scope:ju)(b:bo)(c:List bi)(j:O1),IX h=g->OO (k+1) (A.deeper<|bc x (iL st) s.heap.objs.size f e)->
  EF (rE BU Z.P Z.w Z.K Z.mg Z.base N x (iL st) f e A a s T E0).FG o u r q scope p h b c n k (Ex Z.K j)->
  QQ (rE BU Z.P Z.w Z.K Z.mg Z.base N x (iL st) f e A a s T E0).FG (λi=>i∈d) ⟨λ_=>False,Y<|pM v n m h⟩ T (lQ st) (fs j)
def ltZ{Z:ZZ}{k:Nat}{x:aE}{st:bi}{N u:ji}{j:jP}{m g:Nat}{fs:O1->FS}(a:Fz Z.K Z.mg x st)(S:R1 N u (iL st))(b:Ii x st u)
  (E:∀(f:iw)(h:iI)(A:iU)(c:List dk)(s:iB)(T:Hp)(o:iw)(r:kj)(v:V)(l:List V)(p:ji)(y t q:aE)(scope:ju)(d:bo)(e:List bi)(n:O1),IX l=g->OO (k+1) (A.deeper<|bc x (iL st) s.heap.objs.size f h)->
   un (A.deeper<|bc x (iL st) s.heap.objs.size f h) 60->un (A.deeper<|bc x (iL st) s.heap.objs.size f h) 1->un (A.deeper<|bc x (iL st) s.heap.objs.size f h) 62->un (A.deeper<|bc x (iL st) s.heap.objs.size f h) 90->N.Nodup->
   EF (rE BU Z.P Z.w Z.K Z.mg Z.base N x (iL st) f h A c s T E0).FG p y t q scope r l d e o k (Ex Z.K n)->
   QQ (rE BU Z.P Z.w Z.K Z.mg Z.base N x (iL st) f h A c s T E0).FG (λi=>i∈j) ⟨λ_=>False,Y<|pM v o m l⟩ T (lQ st) (fs n)):LtZ Z k x st N u j m g fs:=
 let⟨f,Q,h1,F⟩:=a
 ⟨f,Q,h1,F,F.binds b,λh A c s T o r v l p y t q scope d e n hv z B=>by have:=z.un;exact E f h A c s T o r v l p y t q scope d e n hv z (by unfold un;omega) (by unfold un;omega) (by unfold un;omega) (by unfold un;omega) S.nd B⟩
section
variable {X:Cx}{A:ki}{L:LL}{H0:Hp}{N:ji}{xp f q E I y:aE}{scope:ju}{n:kj}{G:List V}{d:bo}{l:List bi}{o:iw}{k i j jt:Nat}{M:jP}{ev:O1}{z:L2.St}{p r p3 Q B:bA}
def sCl(a:EF X N xp f q scope n G d l o k (Ex X.K ev))(t:M.map (λg=>(z[g]?).join)=G.map Go)(w:OO (k+1) X.A)(m:X.N.Nodup)(h:L.st=Go z:=by rfl)(O:z[j]?=Go (Go<|.ref o):=by rfl)(Y: ¬A j:=by decide)(U:∀g∈M,¬A g:=by decide)(hex:X.ex=[]:=by rfl)
  (v:X.N[j]?=Go E:=by rfl)(vj:FQ X.env.scope E:=by exact bg IR)(hd:DB E:=by decide)(T:(E==("__classdict__":aE))=IP:=by decide)(C:X.N[jt]?=Go y:=by rfl)(vt:FQ X.env.scope y:=by exact bg IR)(w5:DB y:=by decide)(c:(y==("__classdict__":aE))=IP:=by decide)
  (J:SE X (.Name y r) []:=by rfl)(e:BA X Q []:=by rfl)(u:X.N[i]?=Go I:=by rfl)(H:Loc X.env.scope I:=by exact bg IR)(x:cH (.Call (.Name E p) [.Name y r] [] Q) (Go<|.Name I p3) B.line X.env=pure IP:=by rfl)(s:X.fn I=IN\/X.env.scope.names.lookup I=Go .local:=by exact bg IR)(b:A i:=by decide):
  QS X A L H0 (.Assign [.Name I p3] (.Call (.Name E p) [.Name y r] [] Q) B) (NP i (jt::M) ev):=⟨Sd a h O t Y U hex w v vj hd T C vt w5 c J e m u H x s b⟩
variable {Pt:iw}{cq pf p1:bA}{e asgR bP:jP}{N' J:ji}{bY:FS}{bZ:O1->FS}{st:bi}{T C Y U:aE}{a m:Nat}
def sLo(O:LtZ (zX X) k T st J [Y,U] bP m (IX e) bZ)(SL:R1 J [Y,U] (iL st))(tb:LQ X q Pt)(hr:OO (k+2) X.A)(hN:X.N.Nodup)(CO:B1 X N' scope e 0)(LS:IZ scope xp=IN)
  (hR:∀(o:iw)(n:kj)(c':iw)(A:iU)(outer:List dk)(s:iB)(H:Hp)(L:LL),(∀i,L.p i->i<IX e+1)->OO k (A.deeper<|Bg q scope s.heap.objs.size o (.ref c') n)->
   QQ (qw BU X.prog X.w X.K X.mg X.base (xp::N') q scope o (.ref c') n A outer s H E0) (λi=>i∈asgR) L H l bY)
  (hm:(IX J)=m+2+(IX e):=by rfl)(gq:∀(j:Nat) x,m+2<=j->J[j]?=Go x->¬FQ (iL st) x)
  (gr:Gl X T:=by rfl)(cQ:DB T:=by decide)(bV:∀x,X.fn x=IN:=by exact λ_=>rfl)(hq:qualnameIn X.env f f=q:=by rfl)(gK:d.defaults=[]:=by rfl)(dN:d.kw_defaults=[]:=by rfl)(gP:annTrees d Ix X.env=[]:=by rfl)
  (i9:∀n doc pm c' j8 u,dh (fnX f q d l scope n .none .none doc pm Ix (.ref c') j8) ⟨[u],[]⟩=pure [(xp,u)]:=by exact λ_ _ _ _ _ _=>rfl)
  (hi:X.N[i]?=Go f:=by rfl)(hx:Loc X.env.scope f:=by exact bg IR)(ai:A i:=by decide)(vi:FQ X.env.scope f:=by exact bg IR)(gG:DB f:=by decide)(dR:(f==("__classdict__":aE))=IP:=by decide)
  (ha:X.N[a]?=Go C:=by rfl)(va:FQ X.env.scope C:=by exact bg IR)(gJ:DB C:=by decide)(gL:(C==("__classdict__":aE))=IP:=by decide)
  (he:SE X (.Name C p1) [.Name f r]:=by rfl)(gF:aO Q (aj [eT f r] X.env)=[(IP,bh (.Name f r) X.env)]:=by rfl)(f7:BA X Q [.Name f r]:=by rfl):
  QQ X A L H0 [.FunctionDef f d l [] Ix [] scope Ix f B,.Return (Go<|.Call (.Name T pf) [.Name C p1,.Name f r] [] Q) cq] (Ft i a e m<|bZ<|Sr (IX e+1) (IX e+1) asgR bY):=by
 obtain⟨fr,dX,W,F,S,V⟩:=O;obtain⟨more,ht⟩:=tb.t;obtain⟨c,hc,Z⟩:=tb.c;exact⟨N6 F S SL gr W cQ bV hr ht hc Z tb.b tb.g hq CO (aaN LS) gK dN gP i9 hN hi hx ai vi gG dR ha va gJ gL he gF f7 hm gq (λo n c' A outer s H L hL D=>(hR o n c' A outer s H L hL D).h) λR A outer s H o n v G hv D P=>(V R A outer s H o n v G _ _ _ _ _ _ _ _ hv D P).h⟩
end
def VS(i:Nat)(f:FS):FS:=λa=>match a[i]? with
 |some (Y (d,_))=>f<|a.set i<|Y (d,U)
 |_=>I
def abO{X:Cx}{A:ki}{L:LL}{m:Hp}{n:List bi}{f:FS}{i:Nat}(h:QQ X A L m n f):QQ X A L m n (VS i f):=⟨D5.imp' h.h λD p Q t=>by
 obtain⟨o,T,out,E,s,e,k⟩:=t;unfold VS at e;split at e
 case h_2=>cases e
 rename_i d b hd;obtain⟨q,_⟩:=E.freeze hd;have S:SK A p o Q p (o.set i<|Y (d,U)) Q:=I8.set.sk;refine⟨_,T,out,q,s.step S,e,?_⟩
 cases out with
 |nx j=>exact λa c g l=>k a c (S.trans g) l
 |bk j=>exact λa c g l=>k a c (S.trans g) l
 |ct j=>exact λa c g l=>k a c (S.trans g) l
 |rt r j=>exact λv a c g R2=>k v a c (S.trans g) R2⟩
def acA{a:ji}{n:Nat}{b:ju}(h:((a.drop n).all λx=>(b.names.lookup x).isNone)=J):∀(j:Nat) x,n<=j->a[j]?=Y x->¬FQ b x:=λj x d e v=>by have c:x∈a.drop n:=mY (i:=j-n) (by rw[c8,show n+(j-n)=j by lia];exact e);have:=kT.mp h x c;unfold FQ at v;rcases v with z|z|z<;>(rw[z]at this;cases this)
section
variable {X:Cx}
end
open AutoSeq1 (wpAny_loadPart')
def adw(a l:iw)(b c:el)(f:b.cls=.type "dict")(i:c.cls=.type "tuple"):l8 (bb.«dict.__eq__» ⟨[.ref a,.ref l],[]⟩) (λ_ R s=>s.heap.get? a=Y b/\s.heap.get? l=Y c/\R (.ok<|.ret .notImplemented) s):=
 .of_wp λj w A R s h=>by
  obtain⟨q,g,d,t,os⟩:=s;obtain⟨h1,m,h⟩:=h;obtain⟨k,dd,e,r⟩:=b;obtain⟨n,p,data2,o⟩:=c;simp only at f i;subst f i;have f1:=F.sub_tuple_dict
  wp_walk using ci h1,ci m
  exact⟨_,rfl,h⟩
def adX(a l:iw)(c b:el)(f:c.cls=.type "dict")(i:b.cls=.type "tuple"){items:nE}{n:Nat}(hd:b.data=.seq items n):l8 (bb.«tuple.__eq__» ⟨[.ref l,.ref a],[]⟩) (λ_ R s=>s.heap.get? l=Y b/\s.heap.get? a=Y c/\R (.ok<|.ret .notImplemented) s):=
 .of_wp λj w A R s h=>by
  obtain⟨r,g,d,u,os⟩:=s;obtain⟨h1,m,h⟩:=h;obtain⟨k,dd,e,t⟩:=c;obtain⟨o,q,data2,p⟩:=b;simp only at f i hd;subst f i hd;have f1:=F.sub_dict_tuple
  wp_walk using ci h1,ci m
  exact⟨_,rfl,h⟩
def adZ{A:iU}{s:iB}{a l:iw}{g:el}{items:nE}(h1:s.heap.get? a=Y g)(d:g.cls=.type "dict")(o:s.heap.IsTuple l items)(p:A.units<aT):RcAt A s (.ref a) (.ref l) U:=λj w E Q h=>by
 obtain⟨i,c,b,n,hd⟩:=id o;have m:a≠l:=λe=>by subst e;rw[h1]at c;cases c;rw[d]at b;injection b with b;exact absurd b (by decide)
 exact rc_eq_decline_or (k:=U) ⟨_,h1,d⟩ ⟨_,c,b⟩ (by decide) F.sub_tuple_dict F.slot_dict_eq Mm
  (λ_ f=>Ah F.slot_dict_eq ⟨_,h1,d⟩ F.entry_dict_eq (F.args_dict_eq_2 _ _) (adw a l g i d b) ⟨h1,c,f⟩)
  (λ_ f=>Ah Mm ⟨_,c,b⟩ F.entry_tuple_eq (F.args_tuple_eq_2 _ _) (adX a l g i d b hd) ⟨c,h1,f⟩)
  (λ_ f=>wpAny_isSame_ref_other m h1 c (by rw[d];simp) f) (.inr p) h
def P8(d e:D):Option (D×Bool):=match d,e with
 |.Q2 .dct _ _,.tup _=>Y (.bl U,U)
 |_,_=>BV d e
section
variable {X:Cx}
def SQ(n:X.A.units+60<aT):AD X (aA .Eq) (rD X.K P8):=by
 intro b s C H x y v u Q N j k h;obtain⟨O,d,e,z,np,h1,f,c,G⟩:=h;by_cases g:∃i m l,d=.Q2 .dct i m/\e=.tup l
 .obtain⟨i,m,l,rfl,rfl⟩:=g;cases c;obtain⟨a,L,rfl,q,r⟩:=pO h1;obtain⟨p,M,rfl,B,E⟩:=mr f;cases j;cases k;obtain⟨t,T,w,_⟩:=N.tuple B;obtain⟨o,g1,g2⟩:=D2 N q;exact(adZ g1 g2 w<|by lia) _ _ _ _ ⟨.bl _,H,N,rfl,G.bl⟩
 refine OJ n b s C H x y v u Q N j k ⟨O,d,e,z,np,h1,f,?_,G⟩;unfold P8 at c;split at c
 .exact absurd ⟨_,_,_,rfl,rfl⟩ g
 exact c
end
def L0:bi->aE
 |.FunctionDef n .. =>n
 |_=>""
def Kx(s:bi):List Str:=(qv s).args.map (·.arg)
def loS(s:bi):List Str:=(iL s).names.filterMap λp=>match p.2 with|.local|.cell=>Y p.1|_=>I
def qN(k:eZ)(a:List b5):=Lean.Syntax.node .none k a.toArray
def qA:=Lean.Syntax.atom .none
def qK:=Lean.Name.str `Lean.Parser.Tactic
def qM(s:String):=qN<|.str `Lean.Parser.Term s
def qH(t s:String)(a:List b5):=qN (qK t) (qA s::a)
def qT(s:String):=qH s s
def qQ(a:List b5):=qN (qK "tacticSeq") [qN (qK "tacticSeq1Indented") [qN `null a]]
def qF(l:List b5):=qT "first" [qN `null (l.map λt=>qN `group [qA "|",t])]
def qP(f:eZ)(a:List b5):=if a.isEmpty then(rd f).raw else qM "app" [rd f,qN `null a]
def qU:=qM "hole" [qA "_"]
def qY(a:List b5):=qM "byTactic" [qA "by",qQ a]
def qB:=qY [qT "assumption" []]
def qE(f:eZ)(a:List b5):=qT "refine" [qP f a]
def qG:Nat->b5
 |1=>qM "syntheticHole" [qA "?",qA "_"]
 |2=>qB
 |3=>qP `rfl []
 |4=>qY [qF [qQ [qE `xeOk_cxOf []],qQ [qE `xeOk_lam []]]]
 |5=>qP `ClsK.x [qB,qU]
 |6=>qP `ClsK.t [qB,qU]
 |7=>qP `ClsK.vm [qB]
 |8=>qP `ClsK.v [qB]
 |_=>qP `ClsK.su [qB]
def qD:Nat->Nat->List b5
 |0,_=>[]
 |n+1,k=>if k=0 then[]else qD n (k / 10)++[qG<|k%10]
def ZO(l:List (eZ×Nat×List (Nat×List eZ))):Lean.Syntax:=
 let r:=qP `rfl []
 let w t:=qH "withReducible" "with_reducible" [qQ [t]]
 let g:=l.map λg=>
  let f:=qF<|g.2.2.flatMap λp=>p.2.map λn=>qQ [qE n<|qD 9 p.1]
  if g.2.1=0 then qQ [qE g.1 [qG 1],qA ";",w f]else qQ [qT "show" [qP g.1<|ao g.2.1 qU],qA ";",f]
 qQ [qT "repeat'" [qQ [qF (qQ [w<|qT "intro" [qN `null [qU]]]::(g++[qE `du [qG 1,qG 1],qT "assumption" [],qH "tacticRfl" "rfl" [],qE `bg [r],qE `bv [qP `bg [r]],qE `bv [qP `bv [qP `bg [r]]],qE `bv [qP `bv [qP `bv [r]]]].map (λt=>qQ [t])))]]]
end PX
set_option backward.eqns.nonrecursive true
namespace PV
open L2 PX
noncomputable abbrev aaX:Nat:=100000
def zd:FS:=iG (kL<|vh (qy (Gd [.int])<|iA 0)<|Xp<|qy (Gd [.bool])<|iA 0) iX
def mP:O1:=Sr 1 1 [] zd
def rY:FS:=iG (kL<|vh (iN mP [iA 0])<|pY .LtE .LtE (iA 1) (iA 0)<|iA 2) iX
def kN:O1:=Sr 3 3 [] rY
abbrev lD:=iP<|fC<|.int 1
def A4:FS:=iG (kL<|iN kN [iA 1,lD,iA 0]) iX
def qb:O1:=Sr 2 2 [] A4
def wx:FS:=iG (kL<|vh (iN mP [iA 1])<|iN qb [iA 0,iP<|jc (g1 AX) [iA 1]]) iX
def lL:O1:=Sr 2 2 [] wx
abbrev mH:=jF<|jI 1
abbrev M6:=jc (g1 AX) [iA 0]
abbrev Ce:=iP<|jc (g1 ur) [iA 1]
abbrev oI:=iG (kL<|fC<|.bl U) iX
abbrev Vk:=oK<|fT<|qy (Gd [.tuple])<|iA 1
abbrev Yk:=jN<|iN lL [iA 0,iA 1]
abbrev YS:=iP<|jv [0] 1 mH (iD 1) jD Yk
abbrev zC8:=AH (oK<|fT<|jc (g1 vg) [YS]) oI iX
def nA:FS:=iG (AH (BX Vk<|fT<|iT DO Ce<|iA 0) oI iX)<|iG zC8<|iG (kL<|iT BV (iP<|uT [] 1 mH (iD 0) jD<|EE M6)<|iA 0) iX
def ke:O1:=Sr 2 2 [] nA
abbrev qV:=iP<|fC<|.int 0
abbrev Yj:=iT (mC .Gt) (iA 1) qV
abbrev Yq:=fT Yj
def zc:FS:=iG (kL<|Ig Yq (iT AK (iA 0)<|iP<|iT Eg (iA 1) lD)<|qy yM<|iP<|iT AK (iA 0)<|iP<|iT Eg (iP<|qy yM<|iA 1) lD) iX
def nO:O1:=Sr 2 2 [] zc
abbrev E7:=iP<|jc (g1 ur) [iA 0]
def pW:FS:=iG (AH (fT<|iT (mC .Lt) (iA 1) E7) (iG (kL<|iT AK (iA 0)<|iA 1) iX) iX)<|iG (kL<|fC<|.int 0) iX
def lY:O1:=Sr 2 2 [] pW
abbrev EV:=fC<|.bl J
abbrev Yy:=iP<|iT PZ (iP<|fC<|.int 10)<|iP<|fC<|.int 18
def rX:FS:=iG (kK 2<|iN lY [iA 0,iA 1])<|iG (AH (fT<|iT (mC .GtE) (iA 2) Yy) (iG (kL<|qz [iT Eg (iA 2) Yy,EV]) iX) iX)<|iG (kL<|qz [iT AW (iA 2)<|iP<|fC<|.int 2147483647,fC<|.bl U]) iX
def mU:O1:=Sr 3 2 [2] rX
abbrev EZ:=iG (qt 2) iX
abbrev ve:=iP<|iT AK (iA 0) qV
def uw:FS:=iG (AH (fT<|iT AK (iA 0) lD) (iG (kK 2<|iT AW ve<|iA 1)<|iG (wc 0 (iT P9 ve<|iA 1) qV) EZ) iX)<|iG (wc 0 (iT AW (iP<|iT nV (iP<|iT rB ve<|iP<|fC<|.int 48271)<|iP<|fC<|.int 29)<|iP<|fC<|.int 2147483647) qV)<|iG (kK 3<|iT AW (iP<|iT nV (iP<|iT nV (iP<|iT rB ve ve)<|iP<|iT rB (iP<|fC<|.int 39373) ve)<|iP<|fC<|.int 7)<|iP<|fC<|.int 2147483629)<|iG (kK 3<|iT AW (iP<|iT nV (iP<|iT rB (iA 3)<|iA 3)<|iP<|iT rB (iP<|fC<|.int 16807)<|iA 3)<|iP<|fC<|.int 2147483587)<|iG (kL<|iT AW (iP<|iT P9 (iA 3)<|iP<|fC<|.int 8)<|iA 1) iX
def jz:O1:=Sr 4 2 [2,3] uw
abbrev An:=iP<|fC<|.int 2
abbrev Jr:=qy yM lD
abbrev Rx:=iP<|iT nV (iA 1) lD
abbrev Yo:=iG (kL<|jc (g1 nG) [iA 3]) iX
abbrev YK:=Bb 2<|iP<|iN jz [iA 0,iP<|jc (g1 ur) [iA 2]]
abbrev Y1:=iT AK (iP<|qz [fC<|.int 1,Jr])<|iP<|iN jz [iA 0,An]
abbrev Y4:=iP Y1
def adq:FS:=iG (kK 2<|jc (Je .lst J) [lD,Rx])<|iG (kK 3<|qz [])<|iG (oQ (yL<|iA 1) (iD 4)<|iG (pe<|nY 3<|iT rB (iP YK) Y4) iX) Yo
def mO:O1:=Sr 5 2 [2,3,4] adq
def aeZ:FS:=iG (kL<|vh (qy (Gd [.tuple])<|iA 0)<|iT BV E7 An) iX
def mQ:O1:=Sr 1 1 [] aeZ
abbrev E6:=wX [iD 0,iD 1]
abbrev Ao:=Qi (iA 0) lD
abbrev Ya:=jN<|iT (mC .Lt) (iA 0)<|iA 1
def aem:FS:=iG (kL<|jc (g1 vg) [iP<|jv [] 2 (vF (jI 0) Ao) E6 jD Ya]) iX
def ml:O1:=Sr 1 1 [] aem
abbrev Vv:=BX Vk<|oK<|fT<|pY .LtE .LtE lD Ce<|iP<|fC<|.int 5
def pA:FS:=iG (AH Vv oI iX)<|iG zC8<|iG (kL<|iN ml [iP<|jv [] 1 mH (iD 0) jD<|jN M6]) iX
def jL:O1:=Sr 2 2 [] pA
abbrev Jp:=iP<|fC<|.int 30
abbrev YG:=iT (mC .Gt) Ce Jp
abbrev Y0:=BX Vk<|fT YG
abbrev zC9:=AH Y0 oI iX
def ada:FS:=iG zC9<|iG (kL<|vh (jc (g1 vg) [iP<|jv [0] 1 mH (iD 1) jD<|jN<|iN jL [iA 0,iA 1]])<|iN ml [iA 1]) iX
def og:O1:=Sr 2 2 [] ada
abbrev Nb:=wX [iD 1,iD 2]
def aen:FS:=iG (AH (oK<|fT<|iN mQ [iA 0]) oI iX)<|iG (NM Nb<|jI 0)<|iG (kL<|vh (iN kN [iA 1,qV,iP<|fC<|.int 5])<|iN og [iA 1,iA 2]) iX
def pB:O1:=Sr 3 1 [1,2] aen
abbrev wR:=iP<|qz []
abbrev Yn:=kK 5<|iN jz [iA 0,iA 2]
abbrev Yu:=iP<|iN jz [iA 0,iP<|fC<|.int 3]
abbrev Y3:=kK 2<|iT AK (iP<|qz [fC<|.int 3,fC<|.int 4,fC<|.int 6]) Yu
abbrev zC3:=iG Yn<|iG (AH (fT<|iT (mC .Lt) (iA 5) An) (iG (pe<|nY 3<|iT AK (iP<|qz [jI 4,qy yM<|iA 4])<|iA 5) iX) iX) iX
def adO:FS:=iG Y3<|iG (kK 3<|qz [])<|iG (oQ (zu lD Rx) (iD 4) zC3)<|iG (AH (fT<|iT BV (iA 3) wR) (iG (pe<|nY 3<|iT rB Y4<|iP<|iT nV lD<|iP<|iN jz [iA 0,iA 1]) iX) iX) Yo
def lK:O1:=Sr 6 2 [2,3,4,5] adO
abbrev YR:=iP<|iT AK (iA 0)<|iP<|iT Eg (iP<|jc (g1 AX) [iA 1]) lD
def sN:FS:=iG (kL<|iT rB YR<|iP<|iT AK (iP<|qz [Jr,fC<|.int 1])<|iP<|jc (g1 IC) [iP Yj]) iX
def mx:O1:=Sr 2 2 [] sN
abbrev YZ:=iG (kK 4<|iN mx [iA 0,iA 3])<|iG (NO 2 (jI 4)<|iP<|jc (g1 AX) [iA 4]) iX
def xy:FS:=iG (kK 2 U9)<|iG (oQ mH (iD 3) YZ)<|iG (kL<|jc (g1 nG) [iP<|jv [2] 1 (jF<|jc (g1 ll) [iA 2]) (iD 1) jD<|jN<|iT IB (iA 0)<|iA 1]) iX
def lG:O1:=Sr 5 2 [2,3,4] xy
abbrev M5:=pe<|nY 2<|jI 5
abbrev Yx:=iG (kK 3<|iT nV (iA 3) lD) iX
abbrev Yz:=fT<|iT (mC .Lt) (iA 3)<|iP<|jc (g1 ur) [iA 2]
abbrev YI:=kK 5<|iN lG [iA 4,iP<|iT AK (iA 2)<|iA 3]
abbrev zC5:=iG YI<|iG (AH (fT<|iT oR (iA 5)<|iA 2) (iG M5 iX) iX) iX
def adN:FS:=iG (kK 2<|jc (g1 Gb) [iA 0])<|iG (kK 3<|fC<|.int 0)<|iG (pX Yz (iG (oQ mH (iD 4) zC5) Yx) aaX) EZ
def oE:O1:=Sr 6 2 [2,3,4,5] adN
abbrev EY:=iP<|fC<|.int 4
abbrev Zd:=iP<|jc (g1 TC) [iA 6]
abbrev Ry:=jc (g1 ll) [Zd]
abbrev Yv:=kK 4<|iN jz [iA 0,EY]
abbrev Vs:=fT<|iT (mC .Gt) (iP<|jc (g1 ur) [iA 6]) Jp
abbrev YM:=iP<|iT nV lD<|iP<|iT AW (iA 4) An
abbrev abi:=iP<|jv [] 1 (jF<|jI 0) (iD 0) jD<|jN M6
abbrev YQ:=iG (kK 6<|CJ (iA 6)<|iP<|iN jz [iA 0,Jp]) iX
abbrev Vt:=jc (g1 nG) [abi]
abbrev YV:=jN Vt
abbrev Vu:=iT AK (iP<|qz [fC<|.int 4,fC<|.int 8,fC<|.int 13]) Yu
abbrev Y6:=kK 3<|iT nV (iA 1)<|iP<|iN jz [iA 0,iP<|iT nV (iP<|iT Eg (iA 2)<|iA 1) lD]
abbrev zC1:=AH (fT<|iT BV (iA 4)<|iP<|fC<|.int 3) (iG (kK 7<|jv [] 1 (jF<|jI 7) (iD 0) jD YV) iX) iX
abbrev zC0:=AH (fT<|iT (mC .Gt) (iA 4) qV) (iG (kK 7<|jv [0,3] 1 (yL YM) (iD 2) jD<|jN<|iN mO [iA 0,iA 1])<|iG zC1<|iG (kK 6<|iN oE [iP<|CJ (iP Ry) An,iA 7]) iX) iX
def adM:FS:=iG Y6<|iG Yv<|iG (AH (fT<|iT BV (iA 3) qV) (iG (kL<|nX [fC<|.int 0,nX []]) iX) iX)<|iG (kK 5<|iN jz [iA 0,iP Vu])<|iG (kK 6<|jv [0,3] 1 (yL<|iA 5) (iD 2) jD<|jN<|iN lK [iA 0,iA 1])<|iG zC0<|iG (kK 6 Ry)<|iG (AH Vs YQ iX)<|iG (kL<|nX [jI 3,jc (g1 nG) [iA 6]]) iX
def oB:O1:=Sr 8 3 [3,4,5,6,7] adM
def CG:FS:=iG (kL<|iN kN [iA 0,qV,lD]) iX
def pH:O1:=Sr 1 1 [] CG
def xD:FS:=iG (kL<|vh (qy (Gd [.tuple])<|iA 1)<|vh (iT BV Ce<|iA 0)<|jc (g1 vg) [iP<|jv [] 1 mH (iD 0) jD<|jN<|iN pH [iA 0]]) iX
def mV:O1:=Sr 2 2 [] xD
def Gf:FS:=iG (kL<|iT BV YR<|iP<|Ig Yq (fC<|.int 1)<|fC<|.int 0) iX
def qa:O1:=Sr 2 2 [] Gf
def zy:FS:=iG (kL<|jc (g1 ID) [iP<|jv [0] 1 mH (iD 1) jD<|jN<|iN qa [iA 0,iA 1]]) iX
def lz:O1:=Sr 2 2 [] zy
abbrev Jq:=wX [iD 2,iD 3]
abbrev Rw:=NM Jq<|jI 0
def Qc:FS:=iG Rw<|iG (kL<|vh (iN mV [iA 2,iA 1])<|jc (g1 vg) [iP<|jv [1] 1 (jF<|jI 3) (iD 1) jD<|jN<|iN lz [iA 0,iA 1]]) iX
def uB:O1:=Sr 4 2 [2,3] Qc
abbrev M4:=iP<|nX [jI 1]
abbrev Nc:=nX [fC<|.int 0,fC<|.int 1]
abbrev zC4:=iG (kK 1<|jv [] 2 mH (iD 0) jD<|Cb (jF Nc) (iD 1) jD<|jN<|iT nV (iA 0) M4) iX
def adf:FS:=iG (kK 1<|qz [nX []])<|iG (oQ (yL<|iA 0) (iD 2) zC4)<|iG (qt 1) iX
def oi:O1:=Sr 3 1 [1,2] adf
abbrev Vq:=iN oi [ve]
def ae1:FS:=iG (kL<|jv [0] 1 (jF Vq) (iD 1) (fT<|iN uB [iA 0,iA 1])<|jN<|jI 1) iX
def lN:O1:=Sr 1 1 [] ae1
abbrev Cd:=iG NN iX
abbrev Yt:=oK<|fT<|iN ke [iA 0,iA 1]
def oy:FS:=iG (AH Yt Cd iX) iX
def kU:O1:=Sr 2 2 [] oy
def adK:FS:=iG (kL<|jc (g1 nG) [iP<|jc (g1 wu) [iP<|jv [1] 1 (jF<|jI 0) (iD 1) jD<|jN<|iN nO [iA 0,iA 1]]]) iX
def lJ:O1:=Sr 2 2 [] adK
def Xd:FS:=iG Rw<|iG (pe<|iN kU [iA 2,iA 1])<|iG (kL<|nX [jI 2,jc (g1 nG) [iP<|jc (g1 rW) [iP<|jv [1] 1 (jF<|jI 3) (iD 1) jD<|jN<|iN lJ [(iA 1),(iA 0)]]]]) iX
def Ew:O1:=Sr 4 2 [2,3] Xd
abbrev Yi:=iT (mC .Gt) (iA 3) qV
abbrev YA:=iT Eg (iP<|jc (g1 AX) [iA 3]) lD
abbrev zC6:=iG (wc 1 (Ig (fT Yi) (jI 2)<|qy yM<|iA 2)<|iP YA) iX
def TF:FS:=iG (kK 1<|jc (g1 Gb) [iA 0])<|iG (oQ (Ei 1<|jI 0) Jq zC6)<|iG (kL<|jc (g1 nG) [iA 1]) iX
def uU:O1:=Sr 4 1 [1,2,3] TF
def adL:FS:=iG (pe<|iN kU [E7,iA 1])<|iG (kL<|jc (g1 nG) [iP<|jv [0] 1 (jF<|iN uU [iA 1]) (iD 1) jD<|jN<|Ig (fT<|iN qa [iA 0,iA 1]) (fC<|.int 1)<|fC<|.int 0]) iX
def lr:O1:=Sr 2 2 [] adL
abbrev Rv:=iP<|iT nV (iA 0) lD
def Qb:FS:=iG (kL<|jc (Je .tup U) [lD,Rv]) iX
def xH:O1:=Sr 1 1 [] Qb
def ac9:FS:=iG (kL<|vh (iN ke [ve,iA 1])<|iT BV (iP<|iN Ew [iA 0,iA 1])<|iA 0) iX
def mR:O1:=Sr 2 2 [] ac9
abbrev EX:=jN<|jI 0
def aeo:FS:=iG (kL<|jv [] 1 (zu (iP<|qy yM<|iA 0) Rv) (iD 0) (fT<|iT DO (iA 0) qV) EX) iX
def oh:O1:=Sr 1 1 [] aeo
abbrev M9:=iT oR (iA 2)<|iA 1
abbrev Yb:=iT nV (iA 1)<|iP<|nX [jI 2]
abbrev abg:=iT oR (iP<|qy yM<|iA 2)<|iA 1
abbrev Vp:=fT abg
def yP:FS:=iG (kL<|jv [0] 2 mH (iD 1) jD<|Cb (jF<|iN oh [iA 0]) (iD 2) (uA (fT M9) Vp)<|jN Yb) iX
def mS:O1:=Sr 2 2 [] yP
abbrev EW:=jN<|jI 2
abbrev Nd:=iP Jr
abbrev Vm:=iP<|iT nV (iA 2) lD
abbrev Ym:=iP<|iN lJ [iA 2,iA 1]
abbrev Vn:=jF<|iN mS [iA 2,iA 4]
abbrev YU:=iT BV (iP<|jc (g1 AX) [iP<|iT AK (iA 1) Nd])<|iA 0
abbrev Za:=fT<|jc (g1 vg) [iP<|jv [0,2] 1 mH (iD 2) jD<|jN<|iT L4 Ym<|iA 0]
abbrev zC7:=kK 6<|jv [5] 1 (jF<|jI 3) (iD 1) (fT YU)<|jN<|jI 1
def yQ:FS:=iG Rw<|iG (kK 4<|qz [nX []])<|iG (oQ (zu lD Vm) (iD 5)<|iG zC7<|iG (kK 4<|jv [1,6] 1 Vn (iD 2) Za EW) iX)<|iG (qt 4) iX
def mT:O1:=Sr 7 2 [2,3,4,5,6] yQ
abbrev Vl:=iP<|iT AK (iA 1) lD
def adb:FS:=iG (kL<|Ig (fT<|iT BV (iP<|jc (g1 ur) [iP<|iT AK (iA 0) lD])<|iP<|jc (g1 ur) [Vl]) (iN mT [iA 0,Vl])<|qz []) iX
def qc:O1:=Sr 2 2 [] adb
def adJ:FS:=iG (kL<|iN qc [iA 0,iA 0]) iX
def lI:O1:=Sr 1 1 [] adJ
abbrev M7:=iN lN [iA 0]
abbrev Yl:=fT<|iN lz [iA 1,iA 0]
def wz:FS:=iG (kL<|jv [1] 1 (jF M7) (iD 1) (oK Yl)<|jN<|jI 1) iX
def kE:O1:=Sr 2 2 [] wz
abbrev Ru:=iN lr [iA 0,iA 1]
def ael:FS:=iG (kL<|iT (mC .LtE) (iA 0)<|iP Ru) iX
def nZ:O1:=Sr 2 2 [] ael
abbrev YT:=iG (AH (fT<|iN nZ [iA 2,iA 0]) oI iX) iX
def af2:FS:=iG (oQ mH (iD 2) YT)<|iG (kL EV) iX
def oz:O1:=Sr 3 2 [2] af2
abbrev Ys:=iP<|iN kE [iA 0,iA 1]
def aeY:FS:=iG (AH (BX (oK<|fT<|iN jL [ve,iA 1])<|oK<|fT<|iN mR [iA 0,iA 2]) oI iX)<|iG (kL<|iN oz [iA 2,Ys]) iX
def mh:O1:=Sr 3 3 [] aeY
abbrev Na:=iT uS (iA 4)<|iA 3
def zK(a:O1):FS:=iG (kK 2<|qz [])<|iG (kK 3 Qj)<|iG (oQ (jF<|jI 0) (iD 4)<|iG (AH (fT Na) (iG (NP 5 [4,7] a)<|iG M5<|iG (oQ (jF<|jI 5) (iD 6)<|iG (pe<|Gi 3<|jI 6) iX) iX) iX) iX) EZ
def wy:FS:=iG (kL<|jc (g1 ll) [iP<|Qk [0] 1 mH (iD 1) jD<|wH Ru]) iX
def kc:O1:=Sr 2 2 [] wy
def uv:FS:=iG (kL<|jc (g1 nG) [iP<|iN kc [iA 0,iA 1]]) iX
def kG:O1:=Sr 2 2 [] uv
def ux:FS:=iG (kK 2<|iN lI [iA 0])<|VS 2<|Ft 3 1 [2] 5<|zK kG
def pZ:O1:=Sr 4 2 [2,3] ux
abbrev Yh:=iT (mC .Gt) (iA 0) EY
def nH:FS:=iG (AH (fT Yh) Cd iX) iX
def ly:O1:=Sr 1 1 [] nH
def Ge:FS:=iG (kL<|iN pZ [iA 0,iP M7]) iX
def Bc:O1:=Sr 1 1 [] Ge
def ade:FS:=iG (kK 1<|qz [nX []])<|iG (oQ (zu lD Rv) (iD 2)<|iG (kK 1<|jv [2] 2 mH (iD 1) jD<|Cb (jF<|nX [nX [],nX [qy yM<|iA 0],nX [jI 0]]) (iD 2) jD<|jN<|iT nV (iA 1)<|iA 2) iX)<|iG (kL<|jc (g1 rW) [iP<|jv [] 1 mH (iD 0) (fT<|iT DO (iA 0)<|iP<|nX []) EX]) iX
def qd:O1:=Sr 3 1 [1,2] ade
abbrev YN:=iG (AH (fT<|iN oz [iA 2,iA 1]) EZ iX) iX
def nW:FS:=iG (oQ (jF<|jI 0) (iD 2) YN)<|iG (kL<|fC .VP) iX
def lH:O1:=Sr 3 2 [2] nW
abbrev Yg:=iP<|iT AK (iA 1) qV
abbrev YY:=iN mh [iA 0,Yg,Vl]
def adP:FS:=iG zC9<|iG (kL<|jc (g1 vg) [iP<|jv [0] 1 mH (iD 1) jD<|jN<|vh (iN mQ [iA 1]) YY]) iX
def lM:O1:=Sr 2 2 [] adP
abbrev YF:=iT (mC .Gt) (iP<|jc (g1 ur) [iA 4]) Jp
abbrev YW:=iP<|jc (g1 nG) [iP<|jv [] 2 mH E6 jD EX]
abbrev Zc:=iP<|jc (g1 TC) [iP<|iT nV (iA 3) YW]
def af1:FS:=iG (AH (oK<|fT<|iN lM [iA 0,iA 1]) Cd iX)<|iG Rw<|iG (kK 4<|jc (g1 ll) [Zc])<|iG (AH (fT YF) Cd iX)<|iG (kL<|nX [jI 2,jc (g1 nG) [iA 4]]) iX
def pG:O1:=Sr 5 2 [2,3,4] af1
def yO:FS:=iG (kL<|jv [] 1 (jF<|iN qd [iA 0]) (iD 0) (fT<|iT (mC .LtE) E7 An) EX) iX
def lX:O1:=Sr 1 1 [] yO
abbrev Yr:=iP<|iN kE [iA 0,iA 3]
abbrev zC2:=iG (kK 4<|iN lH [iA 1,Yr])<|iG (AH (fT<|iT yN (iA 4)<|iP<|fC .VP) (iG (pe<|nY 2<|nX [jI 3,jI 4]) iX) iX) iX
def zA:FS:=iG (pe<|iN ly [ve])<|iG (kK 1<|iN lI [iA 0])<|iG (kK 2<|qz [])<|iG (oQ (jF<|iN lX [ve]) (iD 3) zC2) EZ
def nD:O1:=Sr 5 1 [1,2,3,4] zA
def zw:FS:=iG (kL<|fOr (iT P8 (iA 1)<|iP<|nX [])<|iN jL [iA 0,iA 1]) iX
def mw:O1:=Sr 2 2 [] zw
def ae0:FS:=iG (AH (oK<|fT<|iN mw [ve,iA 1]) Cd iX)<|iG (kL<|iT BV Ys wR) iX
def sd:O1:=Sr 2 2 [] ae0
abbrev Vj:=iP<|iT DO (iA 1) wR
abbrev Rz:=iP<|iN jz [iA 0,Ce]
abbrev Y7:=iG (kK 3<|iT nV (iA 3)<|iP<|nX [iT AK (iA 1) Rz]) iX
abbrev Ze:=iP<|iT rB (iP<|iN jz [iA 0,Vm])<|iP<|jc (g1 IC) [Vj]
def sM:FS:=iG (kK 3<|nX [])<|iG (oQ (yL Ze) (iD 4) Y7)<|iG (qt 3) iX
def nC:O1:=Sr 5 3 [3,4] sM
abbrev M8:=iT oR (iA 8)<|iA 7
abbrev X9:=kK 4<|iN nD [iA 3]
abbrev Yf:=iP<|iT AK (iA 3) lD
abbrev Ye:=kK 6<|iN pG [iA 3,iA 5]
abbrev Yd:=iP<|iT AK (iA 3) qV
abbrev Yc:=iP<|iN sd [iA 3,iA 10]
abbrev Yp:=kK 2<|iN mU [iA 0,iA 1]
abbrev Yw:=iP<|TU (iA 5) Nd
abbrev YC:=iT oR Yg<|iA 0
abbrev YD:=iP<|iN xH [Yd]
abbrev YE:=kK 5<|iN nC [iA 2,iA 4,EY]
abbrev abh:=iT yN (iP<|iN pB [iA 6])<|iP EV
abbrev YH:=iT (mC .Lt) (iP<|iN lr [iA 0,iA 2])<|iA 0
abbrev Vr:=fT abh
abbrev YJ:=kK 3<|iN oB [iA 2,lD,EY]
abbrev YL:=iT yN (iP<|iN lM [iA 3,iA 5])<|iP EV
abbrev YO:=kK 10<|iN lK [iA 2,Yd]
abbrev YX:=iT nV (iP<|jc (g1 ur) [Yf])<|iP<|jc (g1 ur) [iA 5]
abbrev Y2:=AH (fT YL) oI iX
abbrev Y5:=iG (AH (uA (fT M8)<|fT<|iT BV (iA 9) wR) oI iX) iX
abbrev Y8:=jv [7] 1 (jF<|iN Bc [iA 3]) (iD 1) (fT YC)<|jN<|jI 1
abbrev Y9:=jc (g1 vg) [iP<|jv [3] 2 (jF<|jI 4) Nb jD<|jN<|iN mh [iA 0,iA 1,iA 2]]
abbrev Zb:=jv [8] 2 (jF<|jI 5) Nb (fT YH) EW
def A0:FS:=iG (oQ (yL<|iP<|jc (g2 P6) [lD,iP<|jc (g2 P5) [E7,EY]]) (iD 1)<|iG Yp<|iG YJ<|iG X9<|iG (AH (oK<|fT Y9) oI iX)<|iG YE<|iG Y2<|iG (AH (fT<|iT (mC .Lt) (iP YX)<|iP<|fC<|.int 31) (iG Ye<|iG (AH (BX Vr<|fT<|iT DO (iP<|iN pG [iA 3,Yw])<|iA 6) oI iX)<|iG (kK 7<|iN lN [iA 6])<|iG (AH (fT<|iT DO (iP Y8) wR) oI iX)<|iG (oQ (jF<|iN lN [iA 3]) (iD 8)<|iG (kK 9 Zb) Y5) iX) iX)<|iG YO<|iG (AH (fT<|iT DO (iP<|iN mh [iA 3,iA 10,YD]) Yc) oI iX) iX)<|iG (kL EV) iX
def vG:O1:=Sr 11 1 [1,2,3,4,5,6,7,8,9,10] A0
end PV
namespace K74
open L2 PX PV
noncomputable def top(i:Nat):Stmt:=PySem.Challenge.pw_twinriddles_k74_whole_clauses_put_in.main.body.getD i<|.Pass ⟨0,0,0,0⟩
abbrev TB74:List (iw×aE):=[(286,"kinds_among.<locals>.reach")]
abbrev AZ(Z:ZZ)(i:Nat):Prop:=Fz Z.K Z.mg (L0<|top i)<|top i
abbrev Ow(Z:ZZ)(k i:Nat)(a:O1):Prop:=Oz Z k (L0<|top i) (Kx<|top i) a
def aS:Lean.Syntax:=ZO [(`QO,3,[(0,[`xV]),(1,[`xO])]),(`QX,3,[(231,[`abn,`xI]),(211,[`xLS,`abm,`abt]),(0,[`x3,`xW,`x2,`x1,`x7]),(221,[`xU]),(111,[`abv,`abu,`xIf,`xCh]),(2311,[`xB,`xT]),(11,[`xIx,`xC,`abw,`Zi,`abl,`abk,`xOr,`abp,`abo]),(1,[`Zh,`abj,`abr,`xBo,`abq]),(2,[`x5]),(2221,[`xUT]),(21,[`xSA])]),(`QA,3,[(11,[`xA]),(0,[`Ld])]),(`QQ,6,[(11,[`s1]),(0,[`s0])]),(`QS,6,[(1,[`sR,`sE]),(21,[`sS]),(111,[`sI,`sF,`I0]),(211,[`sC]),(2,[`sRV]),(11,[`sT,`sW]),(0,[`sX]),(2111,[`sDP])]),(`QG,4,[(2,[`gN]),(11,[`gT])]),(`QP.mk,0,[(0,[`SU,`SM,`SF,`SN,`agm,`SH,`SR]),(11,[`SJ]),(1,[`OJ,`Wz,`agl,`WA,`SQ])]),(`QL,3,[(11,[`xL]),(0,[`xL0])]),(`QT,3,[(111,[`Zw,`tCh]),(1,[`abA,`KG,`tW])]),(`QC.mk,0,[(0,[`age,`zh,`afR,`afm,`afO]),(1,[`afQ,`xJ,`afP,`afl,`aeW]),(11,[`aee,`aga])]),(`QI,5,[(1,[`iS]),(21,[`iR1,`iR2,`iE1]),(211,[`iZ])]),(`QW,3,[(11,[`wOr,`aby]),(1,[`abx,`Zm])]),(`QF,3,[(0,[`f0]),(1,[`f1])]),(`QB,6,[(1,[`bE]),(31111,[`bF])])]
def qS{P:Prop}(h:autoParam P aS):P:=h
def A8{Z:ZZ}{k:Nat}{st:bi}{c:jP}{fs:FS}(a:Fz Z.K Z.mg (L0 st) st)(_:Tx Z.mg)(N:List Str:=loS st)(d:Bd Z k (L0 st) st N (Kx st) c fs:=by exact qS)(S:R1 N (Kx st) (iL st):=by exact KZ)(b:Ii (L0 st) st (Kx st):=by intro _ _ _ _ _ _;repeat' (first|exact KY rfl|refine K9 λ_=>?_)):Oz Z (k+1) (L0 st) (Kx st) (Sr (IX N) (Kx st).length c fs):=ozB a S b d
section
variable {Z:ZZ}{k:Nat}
def aew(a:AZ Z 11)(T:Tx Z.mg):Ow Z (k+1) 11 mP:=A8 a T
def ad6(a:AZ Z 12)(T:Tx Z.mg)(b:Ow Z k 11 mP):Ow Z (k+1) 12 kN:=A8 a T
def agp(a:AZ Z 13)(T:Tx Z.mg)(b:Ow Z k 12 kN):Ow Z (k+1) 13 pH:=A8 a T
def afd(a:AZ Z 14)(T:Tx Z.mg)(b:Ow Z k 12 kN):Ow Z (k+1) 14 qb:=A8 a T
def afb(a:AZ Z 15)(T:Tx Z.mg)(b:Ow Z k 11 mP)(c:Ow Z k 14 qb):Ow Z (k+1) 15 lL:=A8 a T
def afc(a:AZ Z 16)(T:Tx Z.mg):Ow Z (k+1) 16 mQ:=A8 a T
def ad4(a:AZ Z 17)(T:Tx Z.mg):Ow Z (k+1) 17 ml:=A8 a T
def ad7(a:AZ Z 18)(T:Tx Z.mg)(b:∃t,Z.mg "MOST_SIGNS"=Y (.int 5 t))(d:Ow Z k 15 lL)(c:Ow Z k 17 ml):Ow Z (k+1) 18 jL:=A8 a T
def ado(a:AZ Z 19)(T:Tx Z.mg):Ow Z (k+1) 19 qd:=A8 a T
def adm(a:AZ Z 20)(T:Tx Z.mg)(d:∃t,Z.mg "MOST_CLAUSES"=Y (.int 30 t))(b:Ow Z k 18 jL)(c:Ow Z k 17 ml):Ow Z (k+1) 20 og:=A8 a T
def ad5(a:AZ Z 21)(T:Tx Z.mg)(c:∃t,Z.mg "MOST_NAMES"=Y (.int 5 t))(e:Ow Z k 16 mQ)(d:Ow Z k 12 kN)(b:Ow Z k 20 og):Ow Z (k+1) 21 pB:=A8 a T
def wk(a:AZ Z 22)(T:Tx Z.mg)(b:∃t,Z.mg "FEW_NAMES"=Y (.int 4 t)):Ow Z (k+1) 22 ly:=A8 a T
def aei(a:AZ Z 23)(T:Tx Z.mg)(b:Ow Z k 13 pH):Ow Z (k+1) 23 mV:=A8 a T
def OR(a:AZ Z 24)(T:Tx Z.mg):Ow Z (k+1) 24 qa:=A8 a T
def zr(a:AZ Z 25)(T:Tx Z.mg)(b:Ow Z k 24 qa):Ow Z (k+1) 25 lz:=A8 a T
def OQ(a:AZ Z 26)(T:Tx Z.mg)(c:Ow Z k 23 mV)(b:Ow Z k 25 lz):Ow Z (k+1) 26 uB:=A8 a T
def adp(a:AZ Z 27)(T:Tx Z.mg):Ow Z (k+1) 27 oi:=A8 a T
def aff(a:AZ Z 28)(T:Tx Z.mg)(b:Ow Z k 27 oi)(c:Ow Z k 26 uB):Ow Z (k+1) 28 lN:=A8 a T
def wo(a:AZ Z 29)(T:Tx Z.mg)(c:Ow Z k 28 lN)(b:Ow Z k 25 lz):Ow Z (k+1) 29 kE:=A8 a T
def adG(a:AZ Z 31)(T:Tx Z.mg)(b:Ow Z k 15 lL):Ow Z (k+1) 31 ke:=A8 a T
def yH(a:AZ Z 32)(T:Tx Z.mg)(b:Ow Z k 31 ke):Ow Z (k+1) 32 kU:=A8 a T
def aet(a:AZ Z 33)(T:Tx Z.mg):Ow Z (k+1) 33 nO:=A8 a T
def adB(a:AZ Z 34)(T:Tx Z.mg)(b:Ow Z k 33 nO):Ow Z (k+1) 34 lJ:=A8 a T
def WJ(a:AZ Z 35)(T:Tx Z.mg)(b:Ow Z k 32 kU)(c:Ow Z k 34 lJ):Ow Z (k+1) 35 Ew:=A8 a T
def S7(a:AZ Z 37)(T:Tx Z.mg):Ow Z (k+1) 37 uU:=A8 a T
def adC(a:AZ Z 36)(T:Tx Z.mg)(b:Ow Z k 32 kU)(d:Ow Z k 37 uU)(c:Ow Z k 24 qa):Ow Z (k+1) 36 lr:=A8 a T
def ON(a:AZ Z 38)(T:Tx Z.mg):Ow Z (k+1) 38 xH:=A8 a T
def adl(a:AZ Z 40)(T:Tx Z.mg)(b:Ow Z k 31 ke)(c:Ow Z k 35 Ew):Ow Z (k+1) 40 mR:=A8 a T
def aej(a:AZ Z 41)(T:Tx Z.mg):Ow Z (k+1) 41 oh:=A8 a T
def yF(a:AZ Z 42)(T:Tx Z.mg)(b:Ow Z k 41 oh):Ow Z (k+1) 42 mS:=A8 a T
def yG(a:AZ Z 43)(T:Tx Z.mg)(b:Ow Z k 42 mS)(c:Ow Z k 34 lJ):Ow Z (k+1) 43 mT:=A8 a T
def adn(a:AZ Z 44)(T:Tx Z.mg)(b:Ow Z k 43 mT):Ow Z (k+1) 44 qc:=A8 a T
def adA(a:AZ Z 45)(T:Tx Z.mg)(b:Ow Z k 44 qc):Ow Z (k+1) 45 lI:=A8 a T
abbrev Pp(Z:ZZ)(k:Nat):Prop:=LtZ Z k "lots" (top 46) ["things","reach","found","seen","thing","lot","other","0"] ["things","reach"] [2,3,4,5,6] 5 1 zK
def Ub:Ii "lots" (top 46) ["things","reach"]:=λ_ _ _ _ _ _=>K9 λ_=>K9 λ_=>KY C
def S6(a:AZ Z 46)(T:Tx Z.mg):Pp Z k:=by have S:R1 ["things","reach","found","seen","thing","lot","other","0"] ["things","reach"] (iL<|top 46):=KZ;refine ltZ a S Ub λf x A g s O m w v Q u L E q scope c l B hv t N y d e b o=>?_;obtain⟨n,rfl⟩:=X7.mp hv;have r:∀i,(⟨λ_=>False,Y<|pM v m 5 [n]⟩:LL).p i->i<2:=λ_ h=>h.elim;exact(s1 (sS b<|Zh xL0)<|s1 (sS b<|Zf T)<|s1 (sF (iS xW) (gN b)<|s1 (sI (Zw ⟨aeH d⟩ xV xV) (s1 (sCl (j:=1) (z:=pM v m 5 [n]) o C t b)<|s1 (sE<|Zi xV xW)<|s1 (sF (iS xW) (gN b)<|s1 (sE<|Zg e xV xW) s0) s0) s0) s0)<|s1 (sRV r) s0)
def wm(a:AZ Z 47)(T:Tx Z.mg)(b:Ow Z k 36 lr):Ow Z (k+1) 47 kc:=A8 a T
abbrev vC(Z:ZZ)(k:Nat):Prop:=K5 Z TB74 k "kinds_among" ["riddle","some"] pZ
def adV:Ii "kinds_among" (top 48) ["riddle","some"]:=λ_ _ _ _ _ _=>K9 λ_=>K9 λ_=>KY C
def adk(a:TbK Z TB74 "kinds_among" (top 48) "kinds_among.<locals>.reach" 286)(T:Tx Z.mg)(d:Ow Z k 45 lI)(b:Ow Z k 47 kc)(g:Pp Z k):vC Z (k+3):=by have S:R1 ["riddle","some","turnings","reach"] ["riddle","some"] (iL<|top 48):=KZ;have c:=d.up (j:=k+2) (by omega);have e:=b.up (j:=k+2) (by omega);refine ozQ (asg:=[2,3]) (fs:=ux) a S adV λf p A i s Q E L m h r q n o l tb=>?_;exact(s1 (sS l<|xU h c<|xA xV Ld)<|abO<|sLo (N':=["turnings"]) (xp:="answer") (asgR:=[]) g KZ tb h l (cOk S) (by decide+kernel) (λ_ _ _ _ _ _ _ L m h=>s1 (sR<|xT T C ⟨zh⟩<|xA (xO<|xU h b<|xA xV<|xA xV Ld) Ld) s0) C<|acA<|by decide+kernel)
abbrev JB(Z:ZZ)(k:Nat):Prop:=K5 Z TB74 k "kinds" ["riddle"] Bc
def QY:Ii "kinds" (top 49) ["riddle"]:=λ_ _ _ _ _ _=>K9 λ_=>KY C
def OP(a:AZ Z 49)(T:Tx Z.mg)(c:Ow Z k 28 lN)(b:vC Z k):JB Z (k+1):=by have S:R1 ["riddle"] ["riddle"] (iL<|top 49):=KZ;refine ozU (asg:=[]) (fs:=Ge) a S QY λ_ _ _ _ _ _ _ _ _ _ _ _ _ _ _ _=>?_;exact qS
def ad3(a:AZ Z 51)(T:Tx Z.mg)(b:Ow Z k 36 lr):Ow Z (k+1) 51 nZ:=A8 a T
def ago(a:AZ Z 52)(T:Tx Z.mg)(b:Ow Z k 51 nZ):Ow Z (k+1) 52 oz:=A8 a T
def xi(a:AZ Z 53)(T:Tx Z.mg)(b:Ow Z k 52 oz):Ow Z (k+1) 53 lH:=A8 a T
def afa(a:AZ Z 56)(T:Tx Z.mg)(d:Ow Z k 18 jL)(c:Ow Z k 40 mR)(b:Ow Z k 29 kE)(e:Ow Z k 52 oz):Ow Z (k+1) 56 mh:=A8 a T
def adH(a:AZ Z 57)(T:Tx Z.mg)(b:∃t,Z.mg "MOST_PAIRS"=Y (.int 30 t))(c:Ow Z k 16 mQ)(d:Ow Z k 56 mh):Ow Z (k+1) 57 lM:=A8 a T
def agn(a:AZ Z 58)(T:Tx Z.mg)(c:∃t,Z.mg "MOST_CLAUSES"=Y (.int 30 t))(b:Ow Z k 57 lM):Ow Z (k+1) 58 pG:=A8 a T
def yE(a:AZ Z 59)(T:Tx Z.mg)(b:Ow Z k 19 qd):Ow Z (k+1) 59 lX:=A8 a T
def zt(a:AZ Z 60)(T:Tx Z.mg)(c:Ow Z k 22 ly)(f:Ow Z k 45 lI)(e:Ow Z k 59 lX)(b:Ow Z k 29 kE)(d:Ow Z k 53 lH):Ow Z (k+1) 60 nD:=A8 a T
def zp(a:AZ Z 62)(T:Tx Z.mg)(b:Ow Z k 18 jL):Ow Z (k+1) 62 mw:=A8 a T
def afe(a:AZ Z 63)(T:Tx Z.mg)(c:Ow Z k 62 mw)(b:Ow Z k 29 kE):Ow Z (k+1) 63 sd:=A8 a T
def adi(a:AZ Z 65)(T:Tx Z.mg):Ow Z (k+1) 65 lY:=A8 a T
def ad2(a:AZ Z 66)(T:Tx Z.mg)(b:Ow Z k 65 lY):Ow Z (k+1) 66 mU:=A8 a T
def aeu(a:AZ Z 67)(T:Tx Z.mg):Ow Z (k+1) 67 jz:=A8 a T
def adF(a:AZ Z 68)(T:Tx Z.mg)(b:Ow Z k 67 jz):Ow Z (k+1) 68 lK:=A8 a T
def adh(a:AZ Z 69)(T:Tx Z.mg)(b:Ow Z k 67 jz):Ow Z (k+1) 69 mO:=A8 a T
def zq(a:AZ Z 70)(T:Tx Z.mg):Ow Z (k+1) 70 mx:=A8 a T
def xh(a:AZ Z 71)(T:Tx Z.mg)(b:Ow Z k 70 mx):Ow Z (k+1) 71 lG:=A8 a T
def adE(a:AZ Z 73)(T:Tx Z.mg)(b:Ow Z k 71 lG):Ow Z (k+1) 73 oE:=A8 a T
def adD(a:AZ Z 74)(T:Tx Z.mg)(e:Ow Z k 67 jz)(c:Ow Z k 68 lK)(b:Ow Z k 69 mO)(d:Ow Z k 73 oE):Ow Z (k+1) 74 oB:=A8 a T
def aev(a:AZ Z 75)(T:Tx Z.mg)(b:Ow Z k 67 jz):Ow Z (k+1) 75 nC:=A8 a T
def XM:Ii "law" (top 76) ["_law_script"]:=λ_ _ _ _ _ _=>K9 λ_=>KY C
def WK{f:iw}{q:nK}(F:HM Z.K "law" "law" (top 76) f q)(T:Tx Z.mg)(h:Ow Z k 66 mU)(d:Ow Z k 74 oB)(a:Ow Z k 60 nD)(m:Ow Z k 56 mh)(i:Ow Z k 75 nC)(b:Ow Z k 57 lM)(n:Ow Z k 58 pG)(g:Ow Z k 21 pB)(j:Ow Z k 28 lN)(o:JB Z k)(e:Ow Z k 36 lr)(c:Ow Z k 68 lK)(p:Ow Z k 38 xH)(l:Ow Z k 63 sd):BF Z.P Z.w Z.K Z.mg Z.base BU (k+1) f q ["_law_script"] (spT TB74<|Ex Z.K vG):=by have S:R1 ["_law_script","_law_k","_law_state_here","_law_riddle_here","_law_pairs","_law_putting","_law_there","_law_some_here","_law_answer","_law_down","_law_clause_here"] ["_law_script"] (iL<|top 76):=KZ;refine fnU (asg:=[1,2,3,4,5,6,7,8,9,10]) (fs:=A0) F S λ_ _ _ _ _ _ _ _ _ _ _ _ _ _ _ _=>?_;exact qS
end
def all_mk{l:PySem.W.OpenLaw}{w:iY}{K:jd}{a:mE}{fa:iw}(av:a "law"=Go (.ref fa))(T:Tx a)
  (a0:Fz K a "is_whole" (top 11))
  (a1:Fz K a "is_number" (top 12))
  (a2:Fz K a "is_bit" (top 13))
  (a3:Fz K a "is_name" (top 14))
  (a4:Fz K a "is_sign" (top 15))
  (a5:Fz K a "is_pair" (top 16))
  (a6:Fz K a "is_rising" (top 17))
  (a7:Fz K a "is_clause" (top 18))
  (a8:Fz K a "all_clauses" (top 19))
  (a9:Fz K a "are_clauses" (top 20))
  (a10:Fz K a "is_riddle" (top 21))
  (a11:Fz K a "check_few_names" (top 22))
  (a12:Fz K a "is_answer" (top 23))
  (a13:Fz K a "is_so" (top 24))
  (a14:Fz K a "keeps_clause" (top 25))
  (a15:Fz K a "keeps" (top 26))
  (a16:Fz K a "all_answers" (top 27))
  (a17:Fz K a "answers" (top 28))
  (a18:Fz K a "answers_against" (top 29))
  (a19:Fz K a "is_turning" (top 31))
  (a20:Fz K a "check_turning" (top 32))
  (a21:Fz K a "led_sign" (top 33))
  (a22:Fz K a "led_clause" (top 34))
  (a23:Fz K a "led" (top 35))
  (a24:Fz K a "back" (top 37))
  (a25:Fz K a "led_answer" (top 36))
  (a26:Fz K a "still" (top 38))
  (a27:Fz K a "is_likeness" (top 40))
  (a28:Fz K a "all_signs" (top 41))
  (a29:Fz K a "longer_by_one" (top 42))
  (a30:Fz K a "leading_among" (top 43))
  (a31:Fz K a "all_leading" (top 44))
  (a32:Fz K a "likenesses" (top 45))
  (a33:Fz K a "lots" (top 46))
  (a34:Fz K a "answers_reached" (top 47))
  (x:L9 K a "kinds_among" (top 48) 286)
  (a36:Fz K a "kinds" (top 49))
  (a37:Fz K a "keeps_row" (top 51))
  (a38:Fz K a "lowers" (top 52))
  (a39:Fz K a "first_lowering" (top 53))
  (a40:Fz K a "may_put" (top 56))
  (a41:Fz K a "is_putting" (top 57))
  (a42:Fz K a "put_in" (top 58))
  (a43:Fz K a "short_clauses" (top 59))
  (a44:Fz K a "all_puttings" (top 60))
  (a45:Fz K a "may_be_shown" (top 62))
  (a46:Fz K a "follows" (top 63))
  (a47:Fz K a "_law_cell_at" (top 65))
  (a48:Fz K a "_law_state" (top 66))
  (a49:Fz K a "_law_take" (top 67))
  (a50:Fz K a "_law_clause" (top 68))
  (a51:Fz K a "_law_turning" (top 69))
  (a52:Fz K a "_law_led_sign" (top 70))
  (a53:Fz K a "_law_led_clause" (top 71))
  (a54:Fz K a "_law_closed" (top 73))
  (a55:Fz K a "_law_riddle" (top 74))
  (a56:Fz K a "_law_some" (top 75))
  (a57:Fz K a "law" (top 76))
  (e:∃t,a "MOST_SIGNS"=Go (.int 5 t))
  (f9:∃t,a "MOST_CLAUSES"=Go (.int 30 t))
  (b:∃t,a "MOST_NAMES"=Go (.int 5 t))
  (f:∃t,a "FEW_NAMES"=Go (.int 4 t))
  (d:∃t,a "MOST_PAIRS"=Go (.int 30 t))
  :∃y:nK,(∀(s:iB)(v:iI),fD s y ⟨[v],[]⟩ [("_law_script",v)])/\(∀p∈TB74,∃c,PySem.W.codeHdIn K c p.1=IN)/\∀base:jb,K.In base->base.Ns ap a->(∀p∈TB74,base.BuiltinsAt a p.1)->BF l.prog w K a base BU 13 fa y ["_law_script"] (spT TB74<|Ex K vG):=by
 obtain⟨y,F,hb⟩:=fzL a57 av XM;refine⟨y,hb,aC x.cd<|aN,λbase KB _ BB=>?_⟩
 let z:ZZ:=⟨l.prog,w,K,a,base⟩
 have O0:=aew (Z:=z) (k:=0) a0 T;have B:=ad6 (Z:=z) (k:=1) a1 T O0.up;have O2:=agp (Z:=z) (k:=2) a2 T B.up;have O3:=afd (Z:=z) (k:=2) a3 T B.up;have O4:=afb (Z:=z) (k:=3) a4 T O0.up O3.up;have O5:=afc (Z:=z) (k:=0) a5 T;have O6:=ad4 (Z:=z) (k:=0) a6 T;have O7:=ad7 (Z:=z) (k:=4) a7 T e O4.up O6.up;have O8:=ado (Z:=z) (k:=0) a8 T;have O9:=adm (Z:=z) (k:=5) a9 T f9 O7.up O6.up;have C:=ad5 (Z:=z) (k:=6) a10 T b O5.up B.up O9.up;have E:=wk (Z:=z) (k:=0) a11 T f;have H:=aei (Z:=z) (k:=3) a12 T O2.up;have g:=OR (Z:=z) (k:=0) a13 T;have h:=zr (Z:=z) (k:=1) a14 T g.up;have I:=OQ (Z:=z) (k:=4) a15 T H.up h.up;have L:=adp (Z:=z) (k:=0) a16 T;have ip:=aff (Z:=z) (k:=5) a17 T L.up I.up;have il:=wo (Z:=z) (k:=6) a18 T ip.up h.up;have i:=adG (Z:=z) (k:=4) a19 T O4.up;have j:=yH (Z:=z) (k:=5) a20 T i.up;have O:=aet (Z:=z) (k:=0) a21 T;have m:=adB (Z:=z) (k:=1) a22 T O.up;have Q:=WJ (Z:=z) (k:=6) a23 T j.up m.up;have G:=S7 (Z:=z) (k:=0) a24 T;have ik:=adC (Z:=z) (k:=6) a25 T j.up G.up g.up;have J:=ON (Z:=z) (k:=0) a26 T;have M:=adl (Z:=z) (k:=7) a27 T i.up Q.up;have N:=aej (Z:=z) (k:=0) a28 T;have U:=yF (Z:=z) (k:=1) a29 T N.up;have Y:=yG (Z:=z) (k:=2) a30 T U.up m.up;have D:=adn (Z:=z) (k:=3) a31 T Y.up;have n:=adA (Z:=z) (k:=4) a32 T D.up;have P:=S6 (Z:=z) (k:=8) a33 T;have R:=wm (Z:=z) (k:=7) a34 T ik.up;have S:=adk (Z:=z) (k:=8) (x.tb KB BB<|by decide) T n.up R.up P;have V:=OP (Z:=z) (k:=11) a36 T ip.up S.up;have X:=ad3 (Z:=z) (k:=7) a37 T ik.up;have o:=ago (Z:=z) (k:=8) a38 T X.up;have O39:=xi (Z:=z) (k:=9) a39 T o.up;have q:=afa (Z:=z) (k:=9) a40 T O7.up M.up il.up o.up;have r:=adH (Z:=z) (k:=10) a41 T d O5.up q.up;have O42:=agn (Z:=z) (k:=11) a42 T f9 r.up;have O43:=yE (Z:=z) (k:=1) a43 T O8.up;have O44:=zt (Z:=z) (k:=10) a44 T E.up n.up O43.up il.up O39.up;have O45:=zp (Z:=z) (k:=5) a45 T O7.up;have O46:=afe (Z:=z) (k:=7) a46 T O45.up il.up;have O47:=adi (Z:=z) (k:=0) a47 T;have O48:=ad2 (Z:=z) (k:=1) a48 T O47.up;have A:=aeu (Z:=z) (k:=0) a49 T;have u:=adF (Z:=z) (k:=1) a50 T A.up;have O51:=adh (Z:=z) (k:=1) a51 T A.up;have O52:=zq (Z:=z) (k:=0) a52 T;have O53:=xh (Z:=z) (k:=1) a53 T O52.up;have O54:=adE (Z:=z) (k:=2) a54 T O53.up;have O55:=adD (Z:=z) (k:=3) a55 T A.up u.up O51.up O54.up;have O56:=aev (Z:=z) (k:=1) a56 T A.up;exact WK (Z:=z) (k:=12) F T O48.up O55.up O44.up q.up O56.up r.up O42.up C.up ip.up V.up ik.up u.up J.up O46.up
end K74
namespace PV
open L2 PX
@[simp] theorem ac6(d:D)(a:Dn):fC d a=Y ((d,U),a):=rfl
@[simp] theorem ab6(f:F)(a:Dn):iP f a=(f a).bind λp=>Y (.val p.1,p.2):=rfl
@[simp] theorem aa8(x:D×Bool)(a:Dn):iA 0 (Y x::a)=Y (.slot 0,Y x::a):=rfl
@[simp] theorem aa7(a:Sl)(x:D×Bool)(b:Dn):iA 1 (a::Y x::b)=Y (.slot 1,a::Y x::b):=rfl
@[simp] theorem aa6(a b:Sl)(x:D×Bool)(c:Dn):iA 2 (a::b::Y x::c)=Y (.slot 2,a::b::Y x::c):=rfl
@[simp] theorem aa5(a b c:Sl)(x:D×Bool)(d:Dn):iA 3 (a::b::c::Y x::d)=Y (.slot 3,a::b::c::Y x::d):=rfl
@[simp] theorem aa4(a b c d:Sl)(x:D×Bool)(e:Dn):iA 4 (a::b::c::d::Y x::e)=Y (.slot 4,a::b::c::d::Y x::e):=rfl
@[simp] theorem aa3(a b c d e:Sl)(x:D×Bool)(f:Dn):iA 5 (a::b::c::d::e::Y x::f)=Y (.slot 5,a::b::c::d::e::Y x::f):=rfl
@[simp] theorem aa2(a b c d e f:Sl)(x:D×Bool)(g:Dn):iA 6 (a::b::c::d::e::f::Y x::g)=Y (.slot 6,a::b::c::d::e::f::Y x::g):=rfl
@[simp] theorem aa1(a b c d e f g:Sl)(x:D×Bool)(h:Dn):iA 7 (a::b::c::d::e::f::g::Y x::h)=Y (.slot 7,a::b::c::d::e::f::g::Y x::h):=rfl
@[simp] theorem aa0(a b c d e f g h:Sl)(x:D×Bool)(i:Dn):iA 8 (a::b::c::d::e::f::g::h::Y x::i)=Y (.slot 8,a::b::c::d::e::f::g::h::Y x::i):=rfl
@[simp] theorem DU(δ:Dn)(r:D×Bool):res δ (.val r)=Y r.1:=rfl
@[simp] theorem ab5(x:D×Bool)(a:Dn):res (Y x::a) (.slot 0)=Y x.1:=rfl
@[simp] theorem ab4(a:Sl)(x:D×Bool)(b:Dn):res (a::Y x::b) (.slot 1)=Y x.1:=rfl
@[simp] theorem ab3(a b:Sl)(x:D×Bool)(c:Dn):res (a::b::Y x::c) (.slot 2)=Y x.1:=rfl
@[simp] theorem ab2(a b c:Sl)(x:D×Bool)(d:Dn):res (a::b::c::Y x::d) (.slot 3)=Y x.1:=rfl
@[simp] theorem ab1(a b c d:Sl)(x:D×Bool)(e:Dn):res (a::b::c::d::Y x::e) (.slot 4)=Y x.1:=rfl
@[simp] theorem ab0(a b c d e:Sl)(x:D×Bool)(f:Dn):res (a::b::c::d::e::Y x::f) (.slot 5)=Y x.1:=rfl
@[simp] theorem abZ(a b c d e f:Sl)(x:D×Bool)(g:Dn):res (a::b::c::d::e::f::Y x::g) (.slot 6)=Y x.1:=rfl
@[simp] theorem abY(a b c d e f g:Sl)(x:D×Bool)(h:Dn):res (a::b::c::d::e::f::g::Y x::h) (.slot 7)=Y x.1:=rfl
@[simp] theorem abX(a b c d e f g h:Sl)(x:D×Bool)(i:Dn):res (a::b::c::d::e::f::g::h::Y x::i) (.slot 8)=Y x.1:=rfl
@[simp] theorem acg(g:D->Option (D×Bool))(a:FO)(b:Dn):qy g a b=(a b).bind λp=>(res p.2 p.1).bind λx=>(g x).bind λz=>Y (z,p.2):=rfl
@[simp] theorem acf(g:D->D->Option (D×Bool))(a b:FO)(c:Dn):iT g a b c=(a c).bind λp=>(b p.2).bind λq=>(res q.2 p.1).bind λx=>(res q.2 q.1).bind λy=>(g x y).bind λz=>Y (z,q.2):=rfl
@[simp] theorem ZI(a:Dn):lg [] a=Y ([],a):=rfl
@[simp] theorem abc(f:FO)(fs:List FO)(a:Dn):lg (f::fs) a=(f a).bind λp=>(lg fs p.2).bind λq=>Y (p.1::q.1,q.2):=rfl
@[simp] theorem RQ(a:Dn):wd a []=Y []:=rfl
@[simp] theorem V2(a:Dn)(o:A1)(os:List A1):wd a (o::os)=(res a o).bind λd=>(wd a os).bind λl=>Y (d::l):=rfl
@[simp] theorem abb(g:List D->Option (D×Bool))(fs:List FO)(a:Dn):jc g fs a=(lg fs a).bind λp=>(wd p.2 p.1).bind λb=>(g b).bind λz=>Y (z,p.2):=rfl
@[simp] theorem aaY:pP []=Y []:=rfl
@[simp] theorem abQ(r:D×Bool)(os:List A1):pP (.val r::os)=(pP os).map (r.1:: ·):=rfl
@[simp] theorem HR(fs:List F)(δ:Dn):nX fs δ=(lg (fs.map iP) δ).bind λp=>(pP p.1).bind λa=>if (IX a)<=sizeLine then Y ((.tup a,U),p.2)else I:=rfl
@[simp] theorem aci(fs:List F)(b:Dn):qz fs b=(lg (fs.map iP) b).bind λp=>(pP p.1).bind λa=>if (IX a)<=sizeLine then Y ((.lst a,J),p.2)else I:=rfl
@[simp] theorem acZ(b o:Bool)(a:Dn):Ik ((.bl b,o),a)=Y (b,a):=rfl
@[simp] theorem ac5(f:F)(a:Dn):fT f a=(f a).bind Ik:=rfl
@[simp] theorem abd(f g:FT)(a:Dn):uA f g a=(f a).bind λp=>if p.1=J then g p.2 else Y (U,p.2):=rfl
@[simp] theorem ace(f g:FT)(a:Dn):BX f g a=(f a).bind λp=>if p.1=J then Y (J,p.2)else g p.2:=rfl
@[simp] theorem aba(f:FT)(a:Dn):oK f a=(f a).bind λp=>Y (!p.1,p.2):=rfl
@[simp] theorem N2(f g:F)(a:Dn):vh f g a=(f a).bind λp=>(Ik p).bind λq=>if q.1=J then g q.2 else Y ((.bl U,U),q.2):=rfl
@[simp] theorem ach(f:F)(a:Dn):Xp f a=(f a).bind λp=>(Ik p).bind λq=>Y ((.bl (!q.1),U),q.2):=rfl
@[simp] theorem UG(t:FT)(f g:F)(δ:Dn):Ig t f g δ=(t δ).bind λp=>if p.1=J then f p.2 else g p.2:=rfl
@[simp] theorem abV(a:Dn):iX a=Y (.nx a):=rfl
noncomputable def nxt(g:FS):Out->Option Out
 |.nx a=>g a
 |o=>Y o
@[simp] theorem ab8(g:FS)(a:Dn):nxt g (.nx a)=g a:=rfl
@[simp] theorem ab7(g:FS)(r:D×Bool)(a:Dn):nxt g (.rt r a)=Y (.rt r a):=rfl
@[simp] theorem abT(f g:FS)(a:Dn):iG f g a=(f a).bind (nxt g):=by
 unfold iG
 cases f a with
 |none=>rfl
 |some o=>cases o<;>rfl
@[simp] theorem aaZ(f:F)(a:Dn):pe f a=(f a).bind λp=>Y (.nx p.2):=rfl
@[simp] theorem abU(f:F)(a:Dn):kL f a=(f a).bind λp=>Y (.rt p.1 p.2):=rfl
@[simp] theorem acS(t:FT)(f g:FS)(a:Dn):AH t f g a=(t a).bind λp=>if p.1=J then f p.2 else g p.2:=rfl
@[simp] theorem abS(i:Nat)(f:F)(a:Dn):kK i f a=(f a).bind λp=>if i<(IX p.2)then Y (.nx<|p.2.set i<|Y p.1)else I:=rfl
@[simp] theorem V1(b:Tg)(f:F)(c:Dn):NM b f c=(f c).bind λp=>(b p.1.1 p.2).bind λa=>Y (.nx a):=rfl
@[simp] theorem ac4(g:D->Option (D×Bool))(d:D):g1 g [d]=g d:=rfl
@[simp] theorem ac3(g:D->D->Option (D×Bool))(d e:D):g2 g [d,e]=g d e:=rfl
@[simp] theorem UI(i j:Int):nV (.int i) (.int j)=Y (.int<|i+j,U):=rfl
@[simp] theorem acR(i j:Int):PX.Eg (.int i) (.int j)=Y (.int<|i-j,U):=rfl
@[simp] theorem acT(i:Int):yM (.int i)=Y (.int (-i),U):=rfl
@[simp] theorem ac0(i:Int):AX (.int i)=Y (.int (if i<0 then -i else i),U):=rfl
@[simp] theorem DV(l:List D):ur (.tup l)=Y (.int<|IX l,U):=rfl
@[simp] theorem N1(l:List D):ur (.lst l)=Y (.int<|IX l,U):=rfl
@[simp] theorem NZ(l:List D):nG (.lst l)=Y (.tup l,U):=rfl
@[simp] theorem abR(l:List D):nG (.tup l)=Y (.tup l,U):=rfl
@[simp] theorem ab9(l:List D):Gb (.tup l)=Y (.lst l,J):=rfl
@[simp] theorem aca(l:List D):Gb (.lst l)=Y (.lst l,J):=rfl
@[simp] theorem acd(b:Bool):IC (.bl b)=Y (.int (if b then 1 else 0),U):=rfl
@[simp] theorem acb(b:Int):IC (.int b)=Y (.int b,U):=rfl
@[simp] theorem acW(i j:Int):P6 (.int i) (.int j)=Y (.int (if j>i then j else i),U):=rfl
@[simp] theorem acV(i j:Int):P5 (.int i) (.int j)=Y (.int (if j<i then j else i),U):=rfl
@[simp] theorem acX(a:List Ty)(d:D):Gd a d=Y (.bl<|a.any<|Fp d,U):=rfl
@[simp] theorem UH(i j:Int):BV (.int i) (.int j)=Y (.bl<|i==j,U):=by unfold BV;rw[iQ<|by simp[D.dep]];simp[D.P1]
@[simp] theorem acU(i j:Int):DO (.int i) (.int j)=Y (.bl (!(i==j)),U):=by unfold DO;rw[iQ<|by simp[D.dep]];simp[D.P1]
@[simp] theorem acY(i j:Bool):BV (.bl i) (.bl j)=Y (.bl<|i==j,U):=by unfold BV;rw[iQ<|by simp[D.dep]];simp[D.P1]
@[simp] theorem ZH(i j:Bool):DO (.bl i) (.bl j)=Y (.bl (!(i==j)),U):=by unfold DO;rw[iQ<|by simp[D.dep]];simp[D.P1]
@[simp] theorem N0(i j:Int):mC .Lt (.int i) (.int j)=Y (.bl<|decide<|i<j,U):=by kernel_rfl
@[simp] theorem ac1(i j:Int):mC .LtE (.int i) (.int j)=Y (.bl<|decide<|i<=j,U):=by kernel_rfl
@[simp] theorem Fx(i j:Int):mC .Gt (.int i) (.int j)=Y (.bl<|decide<|i>j,U):=by kernel_rfl
@[simp] theorem ac2(i j:Int):mC .GtE (.int i) (.int j)=Y (.bl<|decide<|i>=j,U):=by kernel_rfl
@[simp] theorem RS(f:F)(δ:Dn):jF f δ=(f δ).bind λp=>match p.1.1 with|.lst l=>Y (l,p.2)|.tup l=>Y (l,p.2)|_=>I:=rfl
@[simp] theorem abW(b:B0)(c:Tg)(a:FS)(d:Dn):oQ b c a d=(b d).bind λp=>nk c a p.1 p.2:=rfl
@[simp] theorem JL(a:Dn):jD a=Y (J,a):=rfl
@[simp] theorem DX(f:F)(a:List D)(b:Dn):jN f a b=(f b).bind λp=>if (IX a)<sizeLine then Y (a++[p.1.1],p.2)else I:=rfl
def JG(h:n<=10000):n<=sizeLine:=by rw[kD];lia
def xb(h:n<=10000):n<sizeLine:=by rw[kD];lia
noncomputable abbrev enc(t:iF):D×Bool:=(.tup<|t.map .int,U)
noncomputable abbrev ii(n:Int):Sl:=Y (.int n,U)
abbrev eN(t:iF):Sl:=Y<|enc t
noncomputable abbrev pI(n:Int):D×Bool:=(.int n,U)
noncomputable abbrev pS(a:Int)(b:Bool):D×Bool:=(.lst [.int a,.bl b],J)
def Ic(i:Nat):([i]:List Nat).Nodup:=by simp
noncomputable abbrev V0(a:Int)(b:Bool):Sl:=Y (.lst [.int a,.bl b],J)
noncomputable abbrev K2(l:iF):Sl:=Y (.lst<|l.map .int,J)
@[simp] theorem aa9(b:O1)(fs:List FO)(c:Dn):iN b fs c=(lg fs c).bind λp=>(jM p.2 p.1).bind λa=>if(jf p.1 a).Nodup then(b a).bind λq=>Y (q.1,wb p.1 a q.2 p.2)else I:=rfl
@[simp] theorem uN(δ:Dn):jM δ []=Y []:=rfl
@[simp] theorem ZJ(b:Dn)(o:A1)(os:List A1):jM b (o::os)=(zj b o).bind λa=>(jM b os).bind λl=>Y (a::l):=rfl
@[simp] theorem acj(a:Dn)(r:D×Bool):zj a (.val r)=Y (r.1,U):=rfl
@[simp] theorem ack(a:Dn)(i:Nat):zj a (.slot i)=(a[i]?).join:=rfl
def yy(a:Int)(b:Bool)(m:Int)(c:0<m)(d:m<1073741824):
  ∃v e,0<=v/\v<m/\jz [pS a b,pI m]=Y ((.int v,U),[Y (.lst [.int e,.bl b],J),ii m]):=by
 cases b
 .have h1:∀x:Int, -18446744073709551616<x%2147483647/\x%2147483647<18446744073709551616:=λx=>by lia
  have f:∀x:Int, -18446744073709551616<x%2147483629/\x%2147483629<18446744073709551616:=λx=>by lia
  simp only[jz,uw];simp[Sr,AK,FN,DL,AW,gI,P9,rB,PZ,wc,qt,jn,jf,wb,Ma,EM,B9,c,d,h1,f];exact⟨GL _ (by lia),GN _ c⟩
 simp only[jz,uw];simp[Sr,AK,FN,DL,AW,gI,P9,rB,PZ,wc,qt,jn,jf,wb,Ma,EM,B9,c,d];exact⟨GL _ (by lia),GN _ c⟩
theorem vb(x y:Int):(x==y)=decide (x=y):=rfl
def km{g:List D->Option (D×Bool)}{fs:List FO}{δ a:Dn}{os:List A1}{ds:List D}{z:D×Bool}(h1:lg fs δ=Y (os,a))(b:wd a os=Y ds)(c:g ds=Y z):jc g fs δ=Y (z,a):=by unfold jc;rw[h1];simp;rw[b];simp;rw[c];rfl
def jQ(h1:(IX args)=np/\np<=n/\(args.zipIdx.all λp=>!(p.1.2&&asg.contains p.2))=J)(a:f (args.map Y++ao (n-np) I)=Y (.rt r δ)):Sr n np asg f args=Y (r,jn args δ):=by unfold Sr;rw[iQ h1,a]
def iC(h:f δ=Y (.nx δ1)):iG f g δ=g δ1:=by unfold iG;rw[h];rfl
def jm{r}(h:f δ=Y (.rt r δ1)):iG f g δ=Y (.rt r δ1):=by unfold iG;rw[h];rfl
def kh{r}(h:f δ=Y (r,δ1)):kL f δ=Y (.rt r δ1):=by unfold kL;rw[h];rfl
def jK{r}(h:f δ=Y (r,δ1))(a:i<IX δ1):kK i f δ=Y (.nx<|δ1.set i<|Y r):=by unfold kK;rw[h];simp only[jH];rw[iQ a]
def kg(h:f δ=Y ((.bl b,o),δ1)):fT f δ=Y (b,δ1):=by unfold fT;rw[h];rfl
def iW{r}(h:f δ=Y (r,δ1)):iP f δ=Y (.val r,δ1):=by unfold iP;rw[h];rfl
def jW(h1:a δ=Y (o1,δ1))(b:fb δ1=Y (o2,δ2))(c:res δ2 o1=Y x)(d:res δ2 o2=Y y)(e:g x y=Y z):iT g a fb δ=Y (z,δ2):=by unfold iT;rw[h1];simp;rw[b];simp;rw[c,d];simp;rw[e];rfl
def jJ{b:O1}{fs:List FO}{δ δ1:Dn}{os:List A1}{args:List (D×Bool)}{r:D×Bool}{a:Dn}(h1:lg fs δ=Y (os,δ1))(c:jM δ1 os=Y args)(d:(jf os args).Nodup)(e:b args=Y (r,a)):iN b fs δ=Y (r,wb os args a δ1):=by unfold iN;rw[h1];simp;rw[c];simp only[jH];rw[iQ d,e];rfl
def Eu(h:f δ=Y (U,δ1)):BX f g δ=g δ1:=by unfold BX;rw[h];rfl
def mN(h:f δ=Y (b,δ1)):oK f δ=Y (!b,δ1):=by unfold oK;rw[h];rfl
def lU(h:t δ=Y (U,δ1)):AH t f g δ=g δ1:=by unfold AH;rw[h];rfl
def rm(h:t δ=Y (J,δ1)):AH t f g δ=f δ1:=by unfold AH;rw[h];rfl
def oS{a b:FO}{δ δ1 δ2:Dn}{o1 o2:A1}(h1:a δ=Y (o1,δ1))(c:b δ1=Y (o2,δ2)):lg [a,b] δ=Y ([o1,o2],δ2):=by simp;rw[h1];simp;rw[c];rfl
def nI{a:FO}{δ δ1:Dn}{o1:A1}(h1:a δ=Y (o1,δ1)):lg [a] δ=Y ([o1],δ1):=by simp;rw[h1];rfl
def lE(h:fi δ=Y (ds,δ1)):oQ fi tg fb δ=nk tg fb ds δ1:=by unfold oQ;rw[h];rfl
def ae3{os}(h1:c f=Y (e,a))(d:lg fs a=Y (os,b)):lg (c::fs) f=Y (e::os,b):=by simp;rw[h1];simp;rw[d];rfl
def T7(a:iF)(k:Nat):∃c,lY [(.lst<|a.map .int,U),pI k]=Y ((.int c,U),[Y (.lst<|a.map .int,U),ii k]):=by
 by_cases hk:k<IX a
 .refine⟨a[k],?_⟩;simp[lY,pW,Sr,AK,FN,DL,jn,hk]
 refine⟨0,?_⟩;simp[lY,pW,Sr,jn,hk]
def UM:PZ (.int 10) (.int 18)=ii 1000000000000000000:=by
 have:EM 10 18:=by unfold EM;decide+kernel
 show((if EM 10 18 then Y (D.int (10^(18:Int).toNat))else I).map λz=>(z,U))=_;rw[iQ this];rfl
def Ny(d:iF)(k:Nat):∃a b,mU [(.lst<|d.map .int,U),pI k]=Y ((.lst [.int a,.bl b],J),[Y (.lst<|d.map .int,U),ii k]):=by
 obtain⟨c,e⟩:=T7 d k;by_cases h:c>=1000000000000000000
 .refine⟨c-1000000000000000000,J,?_⟩;simp[mU,rX,Sr,e,jf,wb,UM,h,kD,jn]
 refine⟨c%2147483647,U,?_⟩;simp[mU,rX,Sr,e,jf,wb,UM,h,kD,jn,AW,gI]
noncomputable def st(n:Nat):List Int:=(au n).map λ(k:Nat)=>(1+(k:Int))
def Nz(n:Nat):(st n).map D.int=jo 1 n:=by simp[st,jo]
noncomputable def pT:Nat->List Int->List Int->List (List Int)
 |0,_,f=>[f]
 |k+1,r,f=>(au<|IX r).flatMap λv=>pT k (r.eraseIdx v) (f++[r.getD v 0*1])++pT k (r.eraseIdx v) (f++[r.getD v 0* -1])
theorem CK(f:Int->D):∀(l:iF)(k:Nat),(l.map f).eraseIdx k=(l.eraseIdx k).map f
 |[],k=>by simp
 |x::l,0=>by kernel_rfl
 |x::l,k+1=>by simp[CK f l k]
def af4{i:Nat}{f:FO}{a δ1:Dn}{o:A1}{n l:List D}{k:Int}{j:Nat}{d:D}(b:a[i]?=Y (Y (.lst n,J)))(h1:f a=Y (o,δ1))(c:res δ1 o=Y (.int k))(e:δ1[i]?=Y (Y (.lst l,J)))(g: -(2^63)<=k/\k<2^63)(h:DL (IX l) k=Y j)(m:l[j]?=Y d):
  Bb i f a=Y ((d,U),δ1.set i<|Y (.lst<|l.eraseIdx j,J)):=by
 unfold Bb;rw[b];simp only[];rw[h1];simp only[jH];rw[c,e];simp only[];rw[iQ g,h];simp;rw[m];rfl
def rZ{i:Nat}{f:F}{δ δ1:Dn}{r:D×Bool}{l0 l:List D}(a:δ[i]?=Y (Y (.lst l0,J)))(h1:f δ=Y (r,δ1))(b:δ1[i]?=Y (Y (.lst l,J)))(c:(IX l)<sizeLine):
  nY i f δ=Y ((.VP,U),δ1.set i<|Y (.lst<|l++[r.1],J)):=by
 unfold nY;rw[a];simp;rw[h1];simp;rw[b];simp only[];rw[iQ c]
def oJ{r}(h:f δ=Y (r,δ1)):pe f δ=Y (.nx δ1):=by unfold pe;rw[h];rfl
abbrev aaG:F:=YK
abbrev aaE:F:=Y1
abbrev fbT:FS:=iG (pe<|nY 3<|iT rB (iP aaG)<|iP aaE) iX
def Wl(a:Int)(b:Bool)(n:Sl)(r f:iF)(x:Sl)(i:0<IX r)(l:(IX r)<=5):∃v c,v<IX r/\aaG [V0 a b,n,K2 r,K2 f,x]=Y ((.int<|r.getD v 0,U),[V0 c b,n,K2<|r.eraseIdx v,K2 f,x]):=by
 obtain⟨v,c,d,hv,e⟩:=yy a b (IX r) (by lia) (by lia);have g:v.toNat<(IX r):=by lia
 refine⟨v.toNat,c,g,?_⟩;have h:(K2 (r.eraseIdx v.toNat):Sl)=Y (.lst<|(r.map D.int).eraseIdx v.toNat,J):=by rw[CK]
 rw[h];refine af4 (k:=v) (δ1:=[V0 c b,n,K2 r,K2 f,x]) C (iW (r:=(.int v,U))<|jJ (δ1:=[V0 a b,n,K2 r,K2 f,x]) (os:=[.slot 0,.val (.int<|IX r,U)]) (args:=[pS a b,pI<|IX r]) ?_ C (show([0]:List Nat).Nodup from by decide) e) C C ⟨by lia,by lia⟩ (j:=v.toNat) ?_ ?_
 .show Y ([A1.slot 0,A1.val (D.int ((r.map D.int).length:Nat),U)],_)=_;rw[jU]
 .unfold DL;rw[iQ d,iQ<|by simpa using hv]
 simp[g]
def VN(a:Int)(b:Bool)(n y z x:Sl):∃s c,(s=1\/s= -1)/\aaE [V0 a b,n,y,z,x]=Y ((.int s,U),[V0 c b,n,y,z,x]):=by obtain⟨v,c,f,hv,e⟩:=yy a b 2 (by lia) (by lia);have d:∀δ:Dn,qz [fC<|.int 1,Jr] δ=Y ((.lst [.int 1,.int (-1)],J),δ):=λδ=>rfl;refine⟨if v=0 then 1 else -1,c,by split<;>simp,?_⟩;refine jW (δ1:=[V0 a b,n,y,z,x]) (iW<|d _) (iW (δ1:=[V0 c b,n,y,z,x])<|jJ (δ1:=[V0 a b,n,y,z,x]) (os:=[.slot 0,.val (.int 2,U)]) (args:=[pS a b,pI 2]) C C (show([0]:List Nat).Nodup from by decide) e) C C ?_;rcases(show v=0\/v=1 by lia)with rfl|rfl<;>rfl
def Xh(a:Int)(b:Bool)(n:Sl)(r f:iF)(x:Sl)(j:0<IX r)(k:(IX r)<=5)(m:(IX f)<=5):∃v s c,v<IX r/\(s=1\/s= -1)/\fbT [V0 a b,n,K2 r,K2 f,x]=Y (.nx [V0 c b,n,K2<|r.eraseIdx v,K2<|f++[r.getD v 0*s],x]):=by
 obtain⟨v,a1,hv,e⟩:=Wl a b n r f x j k;obtain⟨s,d,q,g⟩:=VN a1 b n (K2<|r.eraseIdx v) (K2 f) x;refine⟨v,s,d,hv,q,?_⟩
 have p:rB (.int<|r.getD v 0) (.int s)=ii (r.getD v 0*s):=by have:B9 (r.getD v 0) s:=.inr (by lia);show((if B9 (r.getD v 0) s then Y (D.int<|r.getD v 0*s)else I).map λz=>(z,U))=_;rw[iQ this];rfl
 have o:(f.map D.int).length<sizeLine:=by rw[jU];exact zR m (by decide)
 have h:=rZ (i:=3) (δ:=[V0 a b,n,K2 r,K2 f,x]) (l0:=f.map .int) C (jW (iW e) (iW g) C C p) (l:=f.map .int) C o;refine(iC<|oJ h).trans ?_;simp
def aaw(b:Bool)(n:Sl):∀(c:List D)(a:Int)(r f:iF)(x:Sl),IX c=IX r->IX f+IX r<=5->
  ∃g t i j,t∈pT (IX c) r f/\nk (iD 4) fbT c [V0 a b,n,K2 r,K2 f,x]=Y (.nx [V0 g b,n,K2 i,K2 t,j]):=by
 intro p
 induction p with
 |nil=>intro a r f x _ _;exact⟨a,f,r,x,by simp[pT],rfl⟩
 |cons d c o=>
  intro a r f x h q;simp at h;obtain⟨v,s,a1,hv,m,e⟩:=Xh a b n r f (Y (d,U)) (by lia) (by lia) (by lia);obtain⟨g,t,i,j,k,l⟩:=o a1 (r.eraseIdx v) (f++[r.getD v 0*s]) (Y (d,U)) (by rw[C7,iQ hv];lia) (by rw[C7,iQ hv,oG];simp only[mX,vI];lia);refine⟨g,t,i,j,?_,?_⟩
  .simp only[mX,pT,vd,pk,vc];refine⟨v,hv,?_⟩;rcases m with rfl|rfl
   .exact .inl k
   exact .inr k
  unfold nk;rw[show iD 4 d [V0 a b,n,K2 r,K2 f,x]=Y [V0 a b,n,K2 r,K2 f,Y (d,U)]from C];simp only[jH];rw[e];simp;exact l
def VV(n:Nat)(b:n<=5):Je .lst J [.int 1,.int<|(n:Int)+1]=Y (.lst<|(st n).map .int,J):=by
 have:n=0\/n=1\/n=2\/n=3\/n=4\/n=5:=by lia
 have h1:BR 1 ((n:Int)+1):=by rcases this with rfl|rfl|rfl|rfl|rfl|rfl<;>decide+kernel
 have a:((n:Int)+1-1).toNat=n:=by lia
 show(if BR 1 ((n:Int)+1)then Y (D.lst<|jo 1 ((n:Int)+1-1).toNat,J)else I)=_;rw[iQ h1,a,<-Nz]
def uP{f:FO}{δ δ1:Dn}{o:A1}{n:Nat}(h1:f δ=Y (o,δ1))(a:res δ1 o=Y (.int n))(e:n<=63):yL f δ=Y (jo 0 n,δ1):=by
 have d:(-(2^62)<=(n:Int)/\(n:Int)<2^62):=⟨by lia,by lia⟩
 have b:lg [f] δ=Y ([o],δ1):=by simp[h1]
 have c:wd δ1 [o]=Y [.int n]:=by simp[a]
 unfold yL;rw[b];simp only[jH];rw[c];simp only[];rw[iQ d];rfl
def aeI(a:Int)(b:Bool)(n:Nat)(f:n<=5):∃d t,t∈pT n (st n) []/\mO [pS a b,pI n]=Y (enc t,[V0 d b,ii n]):=by
 have c:(jo 0 n).length=n:=by simp[jo]
 have h:(st n).length=n:=by simp[st]
 obtain⟨d,t,j,k,g,e⟩:=aaw b (ii n) (jo 0 n) a (st n) [] I (by rw[c,h]) (by rw[h];simpa using f);rw[c]at g;refine⟨d,t,g,?_⟩;refine jQ (δ:=[V0 d b,ii n,K2 j,K2 t,k]) ⟨rfl,by decide,rfl⟩ ?_;refine(iC (δ1:=[V0 a b,ii n,K2<|st n,I,I])<|jK (i:=2) (δ1:=[V0 a b,ii n,I,I,I]) (km (os:=[.val (.int 1,U),.val (.int<|(n:Int)+1,U)]) C C<|VV n f) (show 2<5 by decide)).trans ?_;refine(iC (δ1:=[V0 a b,ii n,K2<|st n,K2 [],I]) C).trans ?_;refine(iC<|(lE<|uP (o:=.slot 1) C C<|by lia).trans e).trans ?_;exact jm<|kh<|km (os:=[.slot 3]) C C C
def agk:∀(k:Nat)(r f t:iF),IX r=k->t∈pT k r f->IX t=IX f+k:=by
 intro c
 induction c with
 |zero=>intro r f t _ h;simp[pT]at h;subst h;simp
 |succ k b=>
  intro r f t d h;simp only[pT,vd,pk,vc]at h;obtain⟨v,hv,h⟩:=h;have a:(r.eraseIdx v).length=k:=by rw[C7,iQ hv];lia
  rcases h with h|h
  .have:=b _ _ t a h;simp at this;lia
  have:=b _ _ t a h;simp at this;lia
def Nr{n:Nat}{t:iF}(h:t∈pT n (st n) []):(IX t)=n:=by have:=agk n (st n) [] t (by simp[st]) h;simpa using this
def uD:∀t:List Int,D.NL (t.map .int)=0:=by
 intro b
 induction b with
 |nil=>simp[D.NL]
 |cons s t a=>simp[D.NL,D.dep,a]
theorem Be:∀a b:List Int,D.A9 (a.map .int) (b.map .int)=decide (a=b)
 |[],[]=>by kernel_rfl
 |[],_::_=>by kernel_rfl
 |_::_,[]=>by kernel_rfl
 |x::a,y::b=>by simp[D.A9,D.P1,Be a b,vb]
@[simp] theorem CF(a b:iF):BV (.lst<|a.map .int) (.lst<|b.map .int)=Y (.bl<|decide<|a=b,U):=by unfold BV;rw[iQ<|by simp[D.dep,uD]];simp[D.P1,Be]
def JW:∀(l m:iF),l.Nodup->(∀x∈l,x∈m)->IX m<=IX l->l.Perm m:=by
 intro k
 induction k with
 |nil=>intro m _ _ h;have:m=[]:=M0.mp (by simpa using h);subst this;exact vN _
 |cons x l j=>
  intro m a c h;rw[zC]at a;have i:=c x ky;have b:=GC i;refine((j (m.erase x) a.2 (λy d=>?_) ?_).cons x).trans b.symm
  .have f:=c y<|kO _ d;have g:y≠x:=λe=>a.1<|e▸d;exact(Dd g).mpr f
  have:=b.length_eq;simp at this h
  lia
def KJ:x∈st n↔1<=x/\x<=n:=by
 simp only[st,rJ,vc];constructor
 .rintro⟨k,h,rfl⟩;lia
 rintro⟨h1,a⟩;exact⟨(x-1).toNat,by lia,by lia⟩
def Zz(n:Nat):(st n).Pairwise (· < ·):=by simp only[st];rw[oP];exact Rm.imp λh=>by lia
def Uy(n:Nat):(st n).Nodup:=(Zz n).imp λh=>by lia
def HW{n:Nat}{l:iF}:l.Perm (st n)↔(IX l)=n/\(∀x∈l,1<=x/\x<=n)/\l.Nodup:=by
 constructor
 .intro h;refine⟨by rw[h.length_eq];simp[st],λx a=>KJ.mp<|h.mem_iff.mp a,h.symm.nodup<|Uy n⟩
 rintro⟨h1,b,c⟩;exact JW l (st n) c (λx a=>KJ.mpr<|b x a) (by simp[st,h1])
def xw{l:iF}{m:List D}(h:m.Perm (l.map D.int)):∃k:List Int,m=k.map .int:=by
 refine⟨m.map λd=>match d with|D.int i=>i|_=>0,?_⟩;rw[jY]
 symm
 rw[nL (g:=id),sy];intro d hd;obtain⟨i,_,rfl⟩:=iR<|h.mem_iff.mp hd;rfl
def aeE(l:iF):nF (l.map .int)=J:=by
 unfold nF
 cases l with
 |nil=>rfl
 |cons x l=>rw[vM];right;simp;simp[lW,D.pr,D.dep,show ∀i j:Int,oN .Lt (.int i) (.int j)=Y (ma .Lt i j)from λ_ _=>rfl]
def afH:∀l:List Int,(∀k,(ou<|l.reverse.map .int).1 k=decide (k∈l.reverse))/\(ou<|l.reverse.map .int).2<=IX l/\((ou<|l.reverse.map .int).2=(IX l)↔l.Nodup):=by
 intro e
 induction e with
 |nil=>exact⟨λk=>by simp[ou],by simp[ou],by simp[ou]⟩
 |cons x l d=>
  obtain⟨h1,f,c⟩:=d;rw[Ai,pJ,ku,oZ,Co];refine⟨λk=>?_,?_,?_⟩
  .dsimp only;rw[h1 k];by_cases a:k∈l.reverse<;>by_cases b:k=x<;>simp_all
  .dsimp only;rw[mX];split<;>lia
  dsimp only;rw[h1 x,zC];by_cases a:x∈l
  .simp only[Jo,a,decide_true,nr,not_true_eq_false,false_and,iff_false,mX];lia
  simp only[Jo,a,decide_false,kW,mn,not_false_eq_true,true_and,mX];rw[<-c];lia
def RL(l:iF):(ou<|l.map .int).2=(IX l)↔l.Nodup:=by have:=(afH l.reverse).2.2;rw[List.reverse_reverse,Di,zY l |>.nodup_iff]at this;exact this
def Jz(pre:Dn)(x:Sl)(d:D):iD (IX pre) d (pre++[x])=Y (pre++[Y (d,U)]):=by unfold iD;rw[iQ<|by simp];simp
def QN{f:FB}{g:D->D}{pre:Dn}{N:Nat}:∀(l b:List D)(x:Sl),(∀d∈l,∀a:List D,IX a<N->f a (pre++[Y (d,U)])=Y (a++[g d],pre++[Y (d,U)]))->IX b+IX l<=N->
  ∃c,kr (iD<|IX pre) jD f l b (pre++[x])=Y (b++l.map g,pre++[c]):=by
 intro n
 induction n with
 |nil=>exact λb x _ _=>⟨x,by simp[kr]⟩
 |cons d l m=>intro b x h i;obtain⟨c,e⟩:=m (b++[g d]) (Y (d,U)) (λj k=>h j<|kO _ k) (by simp at i ⊢;lia);refine⟨c,?_⟩;rw[kr,Jz];simp;rw[h d ky b<|by simp at i;lia];simp;rw[e];simp
def wG(f:F)(g:D->D)(pre:Dn):∀(l b:List D)(x:Sl),(∀d∈l,∃o,f (pre++[Y (d,U)])=Y ((g d,o),pre++[Y (d,U)]))->IX b+IX l<=sizeLine->
  ∃i,kr (iD<|IX pre) jD (jN f) l b (pre++[x])=Y (b++l.map g,pre++[i]):=λl b x h=>QN l b x λd hd a c=>by
 obtain⟨o,e⟩:=h d hd;show(f _).bind _=_;rw[e];exact iQ c
def XG(f:F)(g:D->Int)(pre:Dn):∀(l b:List D)(x:Sl),(∀d∈l,∃o,f (pre++[Y (d,U)])=Y ((.int<|g d,o),pre++[Y (d,U)]))->IX b+IX l<=1000->
  ∃i,kr (iD<|IX pre) jD (EE f) l b (pre++[x])=Y (b++l.map λd=>.int (g d),pre++[i]):=λl b x h=>QN l b x λd hd a c=>by
 obtain⟨o,e⟩:=h d hd;show(f _).bind _=_;rw[e];exact iQ (show (IX a)+1<gz from Ae (Nat.succ_lt_succ c)<|by decide)
def CW(p:D->Bool):∀l:List D,pE (l.map λd=>.bl (p d))=Y (l.map p):=by
 intro b
 induction b with
 |nil=>exact C
 |cons d l a=>simp[pE,a]
def sj(p:D->Bool)(l:List D):vg (.lst<|l.map λd=>.bl (p d))=Y (.bl<|l.all p,U):=by simp[vg,CW,dS]
def afN(p:D->Bool)(l:List D):ID (.lst<|l.map λd=>.bl (p d))=Y (.bl<|l.any p,U):=by simp[ID,CW,dQ]
noncomputable def ab(s:Int):Int:=if s<0 then -s else s
noncomputable def wh:D->Bool
 |.int _=>J
 |_=>U
def sg(n:Int):D->Bool
 |.int s=>decide (1<=ab s)&&decide (ab s<=n)
 |_=>U
noncomputable def A7:D->Int
 |.int s=>s
 |_=>0
def wU(d:D):mP [(d,U)]=Y ((.bl<|wh d,U),[Y (d,U)]):=by
 cases d<;>(first|rfl|simp[mP,zd,Sr,jn,wh,Fp])
def yI(d:D)(lo a:Int):kN [(d,U),(.int lo,U),(.int a,U)]=Y ((.bl (match d with|.int s=>decide (lo<=s)&&decide (s<=a)|_=>U),U),[Y (d,U),Y (.int lo,U),Y (.int a,U)]):=by
 cases d with
 |int s=>by_cases h:lo<=s<;>simp[kN,rY,Sr,jn,wU,wh,jf,wb,pY,ma,h]
 |_=>(first|rfl|simp[kN,rY,Sr,jn,wU,wh,jf,wb])
def JX(d:D)(n:Int):qb [(.int n,U),(d,U)]=Y ((.bl (match d with|.int s=>decide (1<=s)&&decide (s<=n)|_=>U),U),[Y (.int n,U),Y (d,U)]):=by simp[qb,A4,Sr,jn,yI,jf]
def DR(n:Int)(d:D):lL [pI n,(d,U)]=Y ((.bl<|sg n d,U),[ii n,Y (d,U)]):=by
 cases d with
 |int s=>simp[lL,wx,Sr,jn,wU,JX,wh,jf,wb,sg,ab];rfl
 |_=>(first|rfl|simp[lL,wx,Sr,jn,wU,JX,wh,jf,wb,sg,ab])
def Ax(h:sg n d=J):d=.int (A7 d):=by cases d<;>simp_all [sg,A7]
def Nk(h:wh d=J):d=.int (A7 d):=by cases d<;>simp_all [wh,A7]
def tB(n:Nat):D->Bool
 |.tup l=>decide (IX l=n)&&(l.all (sg n)&&decide ((l.map λd=>ab<|A7 d).Nodup))
 |_=>U
def lB(n:Nat):D->Bool
 |.tup l=>l.all wh&&decide ((l.map λd=>ab<|A7 d).Perm<|st n)
 |_=>U
def Nw(n:Nat)(d:D):tB n d=lB n d:=by
 cases d with
 |tup l=>
  rw[tB,lB,tH];simp only[lR,oW,kT,HW,jU,rJ];constructor
  .rintro⟨h1,a,b⟩;refine⟨λd hd=>?_,h1,?_,b⟩
   .rw[Ax<|a d hd];rfl
   rintro x ⟨d,hd,rfl⟩;have:=a d hd;rw[Ax this]at this;simpa[sg]using this
  rintro⟨h1,a,b,c⟩;refine⟨a,λd hd=>?_,c⟩;have:=b _ ⟨d,hd,rfl⟩;rw[Nk<|h1 d hd];simpa[sg]using this
 |_=>rfl
abbrev E5:=jc (g1 AX) [iA 0]
def uf(n:Nat)(d:D)(hd:∀l,d=.tup l->IX l<=60):ke [pI n,(d,U)]=Y ((.bl<|tB n d,U),[ii n,Y (d,U)]):=by
 cases d with
 |tup l=>
  have i:=hd l C;by_cases h1:(IX l)=n
  .obtain⟨x1,b⟩:=wG (iN lL [iA 0,iA 1]) (λd=>.bl (sg n d)) [ii n] l [] I (λd _=>⟨U,by simp[DR,jf,wb]⟩) (by rw[kD];simp;lia);simp at b;by_cases a:l.all (sg n)=J
   .have g:∀d∈l,∃o,E5 ([]++[Y (d,U)])=Y ((.int<|ab<|A7 d,o),([]++[Y (d,U)]:Dn)):=λd hd=>⟨U,by rw[kT]at a;rw[Ax<|a d hd];rfl⟩
    obtain⟨x2,c⟩:=XG E5 (λd=>ab<|A7 d) [] l [] I g (by simp;lia);simp at c
    have e:(ou<|l.map λd=>D.int<|ab<|A7 d).2=(IX l)↔(l.map λd=>ab<|A7 d).Nodup:=by have:=RL<|l.map λd=>ab<|A7 d;rw[jY,jU]at this;exact this
    have f:(((ou<|l.map λd=>D.int<|ab<|A7 d).2:Int)==(n:Int))=decide ((l.map λd=>ab<|A7 d).Nodup):=by
     rw[vb,<-h1];by_cases q:(l.map λd=>ab<|A7 d).Nodup
     .rw[lO q,e.mpr q];simp
     rw[lb q];simp only[decide_eq_false_iff_not,nt];exact λz=>q<|e.mp z
    simp[ke,nA,Sr,Fp,h1,jv,uT,jI,b,c,sj,a,jn,jf,wb,tB,f]
   have h:l.all (sg n)=U:=by simpa using a
   simp[ke,nA,Sr,Fp,h1,jv,uT,jI,b,sj,h,jn,jf,wb,tB]
  have: ¬(((IX l):Int)=(n:Int)):=by lia
  simp[ke,nA,Sr,Fp,this,h1,jn,jf,wb,tB]
 |_=>(first|rfl|simp[ke,nA,Sr,Fp,jn,tB])
def Lw(d:D):Prop:= ∀l,d=.tup l->IX l<=60
def ixt(a:0<=v)(h:v<L.length):AK (.tup L) (.int v)=Y (L.getD v.toNat .VP,U):=by
 have h1:v.toNat<L.length:=by lia
 simp[AK,FN,DL,a,h]
def Lj{t:iF}{v:Int}(a:0<=v)(h:v<IX t):AK (.tup<|t.map .int) (.int v)=ii (t.getD v.toNat 0):=by
 have h1:v.toNat<(IX t):=by lia
 simp[AK,FN,DL,a,h]
def aam{t:iF}{v:Int}(a:0<=v)(h:v<IX t):AK (.lst<|t.map .int) (.int v)=ii (t.getD v.toNat 0):=by
 have h1:v.toNat<(IX t):=by lia
 simp[AK,FN,DL,a,h]
def aaU(h1:(IX l)<=1000)(a:(IX m)<=1000):nV (.tup l) (.tup m)=Y (.tup<|l++m,U):=by simp only[nV];rw[iQ<|by rw[kD];lia]
inductive TkI(m:Int)(P:Int->Int->Prop):Prop where
 |mk (v a:Int) (_:0<=v) (_:v<m) (_:P v a)
def nR(a:Int)(b:Bool)(m:Int)(j:0<m)(f:m<1073741824):TkI m λv c=>∀(d:FO)(δ:Dn)(o:A1),d (V0 a b::δ)=Y (o,V0 a b::δ)->zj (V0 a b::δ) o=ii m->iN jz [iA 0,d] (V0 a b::δ)=Y ((.int v,U),V0 c b::δ):=by
 obtain⟨v,c,g,h1,e⟩:=yy a b m j f;refine⟨v,c,g,h1,λd δ o h i=>?_⟩;refine(jJ (os:=[.slot 0,o]) (args:=[pS a b,pI m]) (oS C h) ?_ ?_ e).trans ?_
 .simp[i]
 .cases o<;>simp[jf]
 cases o<;>kernel_rfl
noncomputable def led(u:iF)(s:Int):Int:=if 0<s then u.getD (s-1).toNat 0 else -(u.getD (-s-1).toNat 0)
def WU(u:iF)(s:Int)(a:s≠0)(h1: -((IX u):Int)<=s)(b:s<=IX u):
  nO [enc u,pI s]=Y ((.int<|led u s,U),[eN u,ii s]):=by
 simp only[nO,zc];by_cases h:0<s
 .have:=Lj (t:=u) (v:=s-1) (by lia) (by lia);simp only[Sr];simp[h,led,this,jn]
 have:=Lj (t:=u) (v:= -s-1) (by lia) (by lia);simp only[Sr];simp[h,led,this,jn]
def acr(x:Int):rB (.int x) (.int 1)=ii x:=by have:B9 x 1:=.inr (by lia);show((if B9 x 1 then Y (D.int<|x*1)else I).map λz=>(z,U))=_;rw[iQ this,DF];rfl
def acq(x:Int):rB (.int x) (.int (-1))=ii (-x):=by have:B9 x (-1):=.inr (by lia);show((if B9 x (-1)then Y (D.int<|x*(-1))else I).map λz=>(z,U))=_;rw[iQ this,Int.mul_neg,DF];rfl
def SI(n:Nat)(c:iF):Prop:=c≠[]/\(c.map ab).Pairwise (· < ·)/\∀s∈c,1<=ab s/\ab s<=n
def CA(j:Int)(c:iF):Prop:=(c.map ab).Pairwise (· < ·)/\∀s∈c,1<=ab s/\ab s<j
def qj(h:0<=i):ab i=i:=by unfold ab;rw[je<|by lia]
def Jl(h:0<=i):ab (-i)=i:=by unfold ab;split<;>lia
def CA.snoc{j s:Int}{c:iF}(h:CA j c)(h1:ab s=j)(e:1<=j):CA (j+1) (c++[s]):=by
 refine⟨?_,λx a=>?_⟩
 .rw[pJ,sP];refine⟨h.1,by simp,λx a y b=>?_⟩;obtain⟨z,d,rfl⟩:=iR a;simp at b;subst b;have:=h.2 z d;lia
 rcases pk.mp a with a|a
 .have:=h.2 x a;lia
 simp at a;subst a;lia
def CA.up(h:CA j c):CA (j+1) c:=⟨h.1,λx a=>by have:=h.2 x a;lia⟩
abbrev fbC:FS:=zC3
def wA{i:Nat}{f:F}{δ δ1:Dn}{r:D×Bool}{l0 l:List D}(a:δ[i]?=Y (Y (.lst l0,J)))(h1:f δ=Y (r,δ1))(b:δ1[i]?=Y (Y (.lst l,J)))(c:(IX l)<=10000):
  iG (pe<|nY i f) iX δ=Y (.nx<|δ1.set i<|Y (.lst<|l++[r.1],J)):=
 (iC<|oJ<|rZ a h1 b<|xb c).trans rfl
def Xm(a:Int)(b:Bool)(n w:Int)(p:0<w)(s:w<100)(j:Int)(o:1<=j)(c:iF)(m:CA j c)(t:(IX c)<=10)(x:Sl):∃d f q,CA (j+1) f/\(IX f)<=IX c+1/\fbC [V0 a b,ii n,ii w,K2 c,ii j,x]=Y (.nx [V0 d b,ii n,ii w,K2 f,ii j,q]):=by
 obtain⟨v,d,u,y,e⟩:=nR a b w p (by lia)
 have s1:∀g,iG Yn g [V0 a b,ii n,ii w,K2 c,ii j,x]=g [V0 d b,ii n,ii w,K2 c,ii j,ii v]:=λg=>iC<|jK (i:=5) (δ1:=[V0 d b,ii n,ii w,K2 c,ii j,x]) (e _ [ii n,ii w,K2 c,ii j,x] (.slot 2) rfl rfl) (show 5<6 by decide)
 by_cases h:v<2
 .have k:AK (.lst [.int j,.int (-j)]) (.int v)=ii (if v=0 then j else -j):=by rcases(show v=0\/v=1 by lia)with rfl|rfl<;>rfl
  refine⟨d,c++[if v=0 then j else -j],ii v,m.snoc (by split;exact qj (by lia);exact Jl<|by lia) o,by simp,?_⟩;refine(s1 _).trans ((iC<|(rm (δ1:=[V0 d b,ii n,ii w,K2 c,ii j,ii v])<|by simp[h]).trans<|wA (δ1:=[V0 d b,ii n,ii w,K2 c,ii j,ii v]) (r:=(.int (if v=0 then j else -j),U)) (l0:=c.map .int) (l:=c.map .int) C (by simp[jI,kD,k]) C<|by simp;lia).trans ?_);simp
 refine⟨d,c,ii v,m.up,by lia,?_⟩;exact(s1 _).trans ((iC<|(lU<|by simp[h]).trans C).trans C)
def acE(b:Bool)(n w:Int)(u:0<w)(o:w<100):∀(m:Nat)(j:Nat)(a:Int)(c:iF)(e x5:Sl),1<=j->CA j c->IX c+m<=10->∃f d h i,CA (j+m:Nat) d/\(IX d)<=10/\nk (iD 4) fbC ((bM j m).map λ(k:Nat)=>D.int (k:Int)) [V0 a b,ii n,ii w,K2 c,e,x5]=Y (.nx [V0 f b,ii n,ii w,K2 d,h,i]):=by
 intro x
 induction x with
 |zero=>intro j a c e x5 s g t;exact⟨a,c,e,x5,by simpa using g,by lia,rfl⟩
 |succ m v=>intro j a c e x5 s g t;obtain⟨a1,l,x1,h1,z,p⟩:=Xm a b n w u o j (by lia) c g (by lia) x5;obtain⟨f,d,h,i,r,y,q⟩:=v (j+1) a1 l (ii j) x1 (by lia) (by simpa using h1) (by lia);refine⟨f,d,h,i,by rw[show j+(m+1)=j+1+m by lia];exact r,y,?_⟩;rw[zZ,ku];unfold nk;rw[show iD 4 (.int (j:Int)) [V0 a b,ii n,ii w,K2 c,e,x5]=Y [V0 a b,ii n,ii w,K2 c,ii j,x5]from C];simp only[jH];rw[p];simp;exact q
def Ka(h1:f δ=Y (o1,δ1))(a:g δ1=Y (o2,δ2))(b:res δ2 o1=Y (.int i))(c:res δ2 o2=Y (.int j))(d:0<=i/\i<=1000)(e:0<=j/\j<=1000):zu f g δ=Y (jo i (j-i).toNat,δ2):=by unfold zu;rw[oS h1 a];simp only[jH,V2,RQ,b,c];rw[iQ ⟨by lia,by lia,by lia,by lia⟩]
def CS(a:Int)(b:Bool)(n:Nat)(h1:1<=n)(M:n<=5):∃B c,SI n c/\lK [pS a b,pI n]=Go (enc c,[V0 B b,ii n]):=by
 obtain⟨v,a1,G,J,C⟩:=nR a b 3 (by lia) (by lia)
 let p:List Int:=[3,4,6]
 let w:=p.getD v.toNat 0
 have z:0<w/\w<100:=by rcases(show v=0\/v=1\/v=2 by lia)with rfl|rfl|rfl<;>decide
 obtain⟨e,c,d,x5,u,N,E⟩:=acE b n w z.1 z.2 n 1 a1 [] Ix Ix (by lia) ⟨by simp,by simp⟩ (by simp;lia)
 have T:zu lD Rx [V0 a1 b,ii n,ii w,K2 [],Ix,Ix]=Go ((bM 1 n).map λ(k:Nat)=>D.int (k:Int),[V0 a1 b,ii n,ii w,K2 [],Ix,Ix]):=by
  rw[Ka (o1:=.val (.int 1,IP)) (o2:=.val (.int<|(n:Int)+1,IP)) (i:=1) (j:=(n:Int)+1) IR IR IR IR (by lia)<|by lia];rw[show((n:Int)+1-1).toNat=n by lia]
  congr 2
  unfold jo;rw[Ml,jY];apply nL;intro k _;simp
 have pre:∀g,(iG Y3<|iG (kK 3<|qz [])<|iG (oQ (zu lD Rx) (iD 4) fbC) g) [V0 a b,ii n,Ix,Ix,Ix,Ix]=g [V0 e b,ii n,ii w,K2 c,d,x5]:=by
  intro g;refine(iC (δ1:=[V0 a1 b,ii n,ii w,Ix,Ix,Ix]) ?_).trans ?_
  .refine jK (i:=2) (δ1:=[V0 a1 b,ii n,Ix,Ix,Ix,Ix]) (jW (o1:=.val (.lst<|p.map .int,IN)) (o2:=.val (.int v,IP)) (iW (δ1:=[V0 a b,ii n,Ix,Ix,Ix,Ix])<|by kernel_rfl) (iW<|C _ [ii n,Ix,Ix,Ix,Ix] _ rfl rfl) IR IR<|aam G<|by simpa[p]using J) (show 2<6 by decide)
  refine(iC (δ1:=[V0 a1 b,ii n,ii w,K2 [],Ix,Ix])<|by kernel_rfl).trans ?_;exact iC<|(lE T).trans E
 by_cases m:c=[]
 .subst m;obtain⟨s,t,s0,s1,H⟩:=nR e b 2 (by lia) (by lia);obtain⟨i,h,U,Y,I⟩:=nR t b n (by lia) (by lia);refine⟨h,[if s=0 then 1+i else -(1+i)],?_,?_⟩
  .refine⟨by simp,by simp,λx A=>?_⟩;simp at A;subst A;split
   .rw[qj<|by lia];lia
   rw[show -(1+i)= -(1+i)from IR,Jl<|by lia];lia
  refine jQ (δ:=[V0 h b,ii n,ii w,K2 [if s=0 then 1+i else -(1+i)],d,x5]) ⟨rfl,by decide,rfl⟩ ((pre _).trans ?_)
  have L:∀q,AK (.lst [.int 1,.int (-1)]) (.int s)=Go q->rB q.1 (.int (1+i))=ii (if s=0 then 1+i else -(1+i)):=by
   intro q y;have O:B9 1 (1+i):=by unfold B9;lia
   have Q:B9 (-1) (1+i):=by unfold B9;lia
   rcases(show s=0\/s=1 by lia)with rfl|rfl
   .cases y;simp[rB,gI,O]
   cases y;simp[rB,gI,Q]
  have f:AK (.lst [.int 1,.int (-1)]) (.int s)=ii (if s=0 then 1 else -1):=by rcases(show s=0\/s=1 by lia)with rfl|rfl<;>rfl
  refine(iC<|(rm (δ1:=[V0 e b,ii n,ii w,K2 [],d,x5])<|kg<|jW (o1:=.slot 3) (o2:=.val (.lst [],IN)) (δ2:=[V0 e b,ii n,ii w,K2 [],d,x5]) IR (iW<|by kernel_rfl) IR IR<|CF [] []).trans<|wA (r:=(.int (if s=0 then 1+i else -(1+i)),IP)) (δ1:=[V0 h b,ii n,ii w,K2 [],d,x5]) (l0:=[]) (l:=[]) IR ?_ IR<|by simp).trans ?_
  .refine jW (δ1:=[V0 t b,ii n,ii w,K2 [],d,x5]) (iW<|jW (δ1:=[V0 e b,ii n,ii w,K2 [],d,x5]) (o1:=.val (.lst [.int 1,.int (-1)],IN)) (iW<|by kernel_rfl) (iW<|H _ _ _ rfl rfl) IR IR f) (iW<|jW (o1:=.val (.int 1,IP)) IR (iW<|I _ _ (.slot 1) rfl rfl) IR IR IR) IR IR (L _ f)
  exact jm (kh<|km (os:=[.slot 3]) IR IR IR)
 refine⟨e,c,⟨m,u.1,λs f=>by have:=u.2 s f;lia⟩,?_⟩;refine jQ (δ:=[V0 e b,ii n,ii w,K2 c,d,x5]) ⟨rfl,by decide,rfl⟩<|(pre _).trans ?_;refine(iC<|(lU (δ1:=[V0 e b,ii n,ii w,K2 c,d,x5])<|kg (o:=IP)<|jW (o1:=.slot 3) (o2:=.val (.lst [],IN)) (δ2:=[V0 e b,ii n,ii w,K2 c,d,x5]) IR (iW<|by kernel_rfl) IR IR<|(CF c []).trans<|by rw[lb m]).trans IR).trans ?_;exact jm<|kh<|km (os:=[.slot 3]) IR IR IR
def mz(h:f δ=Y ((.lst l,o),δ1)):jF f δ=Y (l,δ1):=by unfold jF;rw[h];rfl
def uj{b:Type}[BEq b][LawfulBEq b]:∀(l m:List b),l.Nodup->(∀x∈l,x∈m)->IX l<=(IX m):=by
 intro n
 induction n with
 |nil=>intro m _ _;exact mD _
 |cons x l k=>
  intro m a c;rw[zC]at a;have j:=c x ky;have i:=GC j
  have:=k (m.erase x) a.2 (λy d=>by have f:=c y<|kO _ d;have h:y≠x:=λe=>a.1<|e▸d;exact(Dd h).mpr f)
  have g:=i.length_eq;simp at g ⊢
  lia
def Cr{l:iF}(h:l.Pairwise (· < ·)):l.Nodup:=h.imp λh=>by lia
def SI.len{n:Nat}{c:iF}(h:SI n c):(IX c)<=n:=by
 have:=uj (c.map ab) (st n) (Cr h.2.1) (λx b=>by obtain⟨s,a,rfl⟩:=iR b;exact KJ.mpr<|h.2.2 s a)
 simpa[st]using this
def HK(n:Nat)(t:iF):Prop:=IX t=n/\∀x∈t,1<=ab x/\ab x<=n
theorem mp0:AK (.lst [.int (-1),.int 1]) (.int 0)=ii (-1):=rfl
theorem mp1:AK (.lst [.int (-1),.int 1]) (.int 1)=ii 1:=rfl
def Z9(u:iF)(s:Int)(b:s≠0)(h1: -((IX u):Int)<=s)(c:s<=IX u):
  mx [enc u,pI s]=Y ((.int<|led u s,U),[eN u,ii s]):=by
 simp only[mx,sN];by_cases h:0<s
 .have:=Lj (t:=u) (v:=s-1) (by lia) (by lia);have a: ¬s<0:=by lia
  simp only[Sr];simp[h,a,led,this,jn,kD,mp1,acr]
 have:=Lj (t:=u) (v:= -s-1) (by lia) (by lia);have a:s<0:=by lia
 simp only[Sr];simp[h,a,led,this,jn,kD,mp0,acq]
def oA(i:Int):ab (-i)=ab i:=by unfold ab;split<;>split<;>lia
def mB{l:iF}{k:Nat}(h:k<IX l):l.getD k 0∈l:=by rw[sA,jZ h];exact yb h
def Pl{n:Nat}{t:iF}(b:HK n t){s:Int}(h1:1<=ab s)(a:ab s<=n):1<=ab (led t s)/\ab (led t s)<=n:=by
 unfold led;unfold ab at h1 a;have c:=b.1;split
 .rename_i h;rw[je<|by omega]at h1 a;exact b.2 _ (mB<|by omega)
 rename_i h;rw[oA];split at h1
 .rw[iQ<|by assumption]at a;exact b.2 _ (mB<|by omega)
 omega
def dD(a:iF):D:=.Q2 .dct (a.map λw=>.int (ab w)) (a.map .int)
def DY(a:iF)(w:Int):List Int:=if ab w∈a.map ab then a.map λx=>if ab x=ab w then w else x else a++[w]
def XO(w:Int):∀a:List Int,((a.map λw=>D.int<|ab w).any (D.P1 · (.int<|ab w)))=decide (ab w∈a.map ab):=by
 intro c
 induction c with
 |nil=>kernel_rfl
 |cons x a b=>
  simp only[ku,tJ,b,D.P1];by_cases h:ab x=ab w
  .simp[h]
  have: ¬ab w=ab x:=λe=>h e.symm;simp[h,this]
def RP(w:Int):∀a:List Int,Ay (a.map λw=>D.int<|ab w) (a.map .int) (.int<|ab w) (.int w)=(a.map λx=>if ab x=ab w then w else x).map .int:=by
 intro c
 induction c with
 |nil=>kernel_rfl
 |cons x a b=>simp only[ku,Ay,b,D.P1];by_cases h:ab x=ab w<;>simp[h]
def Wf(a:iF)(w:Int):D.Q2 .dct (yD (a.map λw=>.int (ab w)) (a.map .int) (.int<|ab w)<|.int w).1 (yD (a.map λw=>.int (ab w)) (a.map .int) (.int<|ab w)<|.int w).2=dD (DY a w):=by
 unfold yD DY dD;rw[XO];by_cases h:ab w∈a.map ab
 .rw[iQ<|by simpa using h,iQ h,RP]
  congr 1
  show(a.map λw=>D.int<|ab w)=cF (λw=>D.int<|ab w) (a.map λx=>if ab x=ab w then w else x);rw[jY];apply nL;intro x _;simp;split
  .rename_i e;rw[e]
  rfl
 rw[je<|by simpa using h,je h];simp
def DW(n:Nat)(a:iF):Prop:=(a.map ab).Nodup/\∀w∈a,1<=ab w/\ab w<=n
def DW.put(h:DW n ws)(h1:1<=ab w/\ab w<=n):DW n (DY ws w):=by
 unfold DY;split
 .rename_i c;refine⟨?_,λx a=>?_⟩
  .have:((ws.map λx=>if ab x=ab w then w else x).map ab)=ws.map ab:=by
    rw[jY];apply nL;intro x _;simp;split
    .rename_i e;rw[e]
    rfl
   rw[this];exact h.1
  obtain⟨y,b,rfl⟩:=iR a;split
  .exact h1
  exact h.2 y b
 rename_i c;refine⟨?_,λx a=>?_⟩
 .rw[pJ,zQ];refine⟨h.1,by simp,λx a y b e=>?_⟩;simp at b;subst b;subst e;exact c a
 rcases pk.mp a with a|a
 .exact h.2 x a
 simp at a;subst a;exact h1
def R9(a:iF)(w:Int):DY a w≠[]:=by
 unfold DY;split
 .rename_i h
  cases a with
  |nil=>simp at h
  |cons=>simp
 simp
def DW.len(h:DW n ws):(IX ws)<=n:=by
 have:=uj (ws.map ab) (st n) h.1 (λx b=>by obtain⟨s,a,rfl⟩:=iR b;exact KJ.mpr<|h.2 s a)
 simpa[st]using this
def J3(k:Int):∀a:List Int,k∈a.map ab->∃w∈a,ab w=k/\mZ (a.map λw=>D.int<|ab w) (a.map .int) (.int k)=Y (.int w):=by
 intro f
 induction f with
 |nil=>intro h;simp at h
 |cons x a d=>
  intro h;simp only[ku,mZ,D.P1];by_cases e:ab x=k
  .exact⟨x,by simp,e,by simp[e]⟩
  have:k∈a.map ab:=by
   simp only[ku,oq]at h;rcases h with h|h
   .exact absurd h.symm e
   exact h
  obtain⟨w,c,h1,b⟩:=d this;exact⟨w,by simp[c],h1,by simp[e,b]⟩
def F5(a:iF)(k:Int):um (a.map λw=>D.int<|ab w) (.int k)=J:=by simp[um,wt]
abbrev fbL:FS:=YZ
def Xk{n:Nat}{t:iF}(g:HK n t)(k:n<=5){s:Int}(h1:1<=ab s/\ab s<=n){a:iF}(h:DW n a)(b d:Sl):fbL [eN t,b,Y (dD a,J),ii s,d]=Y (.nx [eN t,b,Y (dD<|DY a<|led t s,J),ii s,ii<|led t s]):=by
 have j:=g.1
 have c:s≠0/\ -((IX t):Int)<=s/\s<=(IX t):=by have:=h1;unfold ab at this;split at this<;>lia
 refine(iC (δ1:=[eN t,b,Y (dD a,J),ii s,ii<|led t s]) ?_).trans ?_
 .exact jK (i:=4) (δ1:=[eN t,b,Y (dD a,J),ii s,d]) (jJ (δ1:=[eN t,b,Y (dD a,J),ii s,d]) (os:=[.slot 0,.slot 3]) (args:=[enc t,pI s]) C C lu<|Z9 t s c.1 c.2.1 c.2.2) (show 4<5 by decide)
 refine(iC (δ1:=[eN t,b,Y (dD<|DY a<|led t s,J),ii s,ii<|led t s]) ?_).trans C;have e:jI 4 [eN t,b,Y (dD a,J),ii s,ii<|led t s]=Y ((.int<|led t s,U),[eN t,b,Y (dD a,J),ii s,ii<|led t s]):=rfl;have f:iP (jc (g1 AX) [iA 4]) [eN t,b,Y (dD a,J),ii s,ii<|led t s]=Y (.val (.int<|ab<|led t s,U),[eN t,b,Y (dD a,J),ii s,ii<|led t s]):=rfl;unfold NO;rw[e];simp only[jH,zT];rw[f];simp only[jH,DU,yc,zT,dD];rw[iQ ⟨F5 a _,by have:=h.len;simp;lia⟩,Wf];rfl
def aaz{n:Nat}{t:iF}(l:HK n t)(o:n<=5)(f:Sl):∀(c a:iF)(x3 b:Sl),(∀s∈c,1<=ab s/\ab s<=n)->DW n a->∃d i k,DW n d/\(a≠[]\/c≠[]->d≠[])/\nk (iD 3) fbL (c.map .int) [eN t,f,Y (dD a,J),x3,b]=Y (.nx [eN t,f,Y (dD d,J),i,k]):=by
 intro r
 induction r with
 |nil=>intro a x3 b _ g;exact⟨a,x3,b,g,λh=>h.elim id λh=>absurd C h,rfl⟩
 |cons s c q=>intro a x3 b h g;have j:=h s ky;obtain⟨d,i,k,h1,m,e⟩:=q (DY a<|led t s) (ii s) (ii<|led t s) (λx p=>h x<|kO _ p)<|g.put<|Pl l j.1 j.2;refine⟨d,i,k,h1,λ_=>m<|.inl<|R9 _ _,?_⟩;rw[ku];unfold nk;rw[show iD 3 (.int s) [eN t,f,Y (dD a,J),x3,b]=Y [eN t,f,Y (dD a,J),ii s,b]from C];simp only[jH];rw[Xk l o j g];simp;exact e
def VJ{l k:iF}(m:l.Nodup)(h:nN A5 (l.map .int)=k.map .int):k.Perm l/\k.Pairwise (· < ·):=by
 have f:=kJ A5<|l.map D.int;rw[h]at f;have c:=(f.map λd=>match d with|D.int i=>i|_=>0)
 simp at c;have e:((λd=>match d with|D.int i=>i|_=>0)∘D.int)=id:=rfl;rw[e,sy,sy]at c;refine⟨c,?_⟩;have g:=ot<|l.map D.int;rw[h,oP]at g;have j:=c.symm.nodup m;have:=g.and j;refine this.imp λ{a b} h=>?_;have h1:=h.1;rw[rp]at h1;simp only[cT]at h1;by_cases q:b<a
 .simp[q]at h1
 have:=h.2;lia
def agv(a:iF):∀k:List Int,(∀x∈k,x∈a.map ab)->∃c:List Int,c.map ab=k/\(∀w∈c,w∈a)/\k.map (λx=>(mZ (a.map λw=>D.int<|ab w) (a.map .int)<|.int x).getD .VP)=c.map .int:=by
 intro l
 induction l with
 |nil=>intro _;exact⟨[],rfl,by simp,rfl⟩
 |cons x k j=>intro h;obtain⟨w,g,h1,f⟩:=J3 x a<|h x ky;obtain⟨c,b,d,e⟩:=j λy i=>h y<|kO _ i;exact⟨w::c,by simp[h1,b],by simp[g];exact d,by simp[f,e]⟩
def Tj{n:Nat}(T:n<=5){t c a:iF}{x3 f:Sl}(l:DW n a)(u:a≠[])(e:nk (iD 3) fbL (c.map .int) [eN t,eN c,Y (dD [],J),I,I]=Y (.nx [eN t,eN c,Y (dD a,J),x3,f])):
  ∃b,((b.map ab).Pairwise (· < ·)/\(∀w∈b,w∈a)/\(b.map ab).Perm (a.map ab))/\lG [enc t,enc c]=Y (enc b,[eN t,eN c]):=by
 have j:=l.len;obtain⟨k,hk⟩:=xw<|kJ A5<|(a.map ab).map D.int;obtain⟨kp,z⟩:=VJ l.1 hk;obtain⟨b,i,o,p⟩:=agv a k λx h=>kp.mem_iff.mp h;refine⟨b,⟨by rw[i];exact z,o,by rw[i];exact kp⟩,?_⟩
 have m:(IX k)<=5:=by have:=kp.length_eq;simp at this;lia
 have s1:ll (dD a)=Y (.lst<|k.map .int,J):=by
  unfold ll dD;have q:((a.map λw=>D.int<|ab w).all λk=>(wt k).isSome)=J:=by simp[wt]
  have B:(a.map λw=>D.int<|ab w)≠[]:=by simpa using u
  simp only;rw[iQ ⟨q,B⟩];have r:(a.map λw=>D.int<|ab w)=(a.map ab).map D.int:=by rw[jY];rfl
  unfold kM;rw[r,iQ ⟨aeE _,by rw[kD];simp;lia⟩,hk]
 obtain⟨E,g⟩:=wG (iT IB (iA 0)<|iA 1) (λd=>match d with|.int x=>(mZ (a.map λw=>D.int<|ab w) (a.map .int)<|.int x).getD .VP|_=>.VP) [Y (dD a,J)] (k.map .int) [] I (by intro d hd;obtain⟨x,h,rfl⟩:=iR hd;obtain⟨w,v,h1,s⟩:=J3 x a<|kp.mem_iff.mp h;refine⟨U,jW (o1:=.slot 0) (o2:=.slot 1) C C C C ?_⟩;simp only[IB,dD];rw[iQ<|F5 a x,s];rfl) (by rw[kD];simp;lia)
 have A:((k.map D.int).map λd=>match d with|.int x=>(mZ (a.map λw=>D.int<|ab w) (a.map .int)<|.int x).getD .VP|_=>.VP)=b.map .int:=by rw[jY,<-p];rfl
 rw[A]at g;simp at g;refine jQ (δ:=[eN t,eN c,Y (dD a,J),x3,f]) ⟨rfl,by decide,rfl⟩ ?_;refine(iC (δ1:=[eN t,eN c,Y (dD [],J),I,I]) C).trans ?_;refine(iC<|(lE (ds:=c.map .int) (δ1:=[eN t,eN c,Y (dD [],J),I,I]) C).trans e).trans ?_;refine jm<|kh<|km (os:=[.val (.lst<|b.map .int,J)]) (nI<|iW ?_) C C;have y:jF (jc (g1 ll) [iA 2]) [eN t,eN c,Y (dD a,J),x3,f]=Y (k.map .int,[eN t,eN c,Y (dD a,J),x3,f]):=mz<|km (os:=[.slot 2]) C C s1;unfold jv;rw[y];simp only[jH,ku,oZ];rw[show jM [eN t,eN c,Y (dD a,J),x3,f] [.slot 2]=Y [(dD a,J)]from C];simp only[jH];rw[iQ (show(jf [A1.slot 2] [(dD a,J)]).Nodup from(Ic 2))];rw[show(cF Y [(dD a,J)]++ao 1 I:Dn)=[Y (dD a,J),I]from C,g];rfl
def adI{n:Nat}(f:n<=5){t c:iF}(k:HK n t)(d:SI n c):∃a,SI n a/\lG [enc t,enc c]=Y (enc a,[eN t,eN c]):=by obtain⟨l,x3,m,g,b,e⟩:=aaz k f (eN c) c [] I I d.2.2 ⟨by simp,by simp⟩;have b:=b<|.inr d.1;obtain⟨a,⟨h1,h,i⟩,e⟩:=Tj f g b e;refine⟨a,⟨λz=>b ?_,h1,λs j=>g.2 s<|h s j⟩,e⟩;have:=i.length_eq;rw[z]at this;exact M0.mp (by simpa using this.symm)
noncomputable abbrev cD(c:iF):D:=.tup (c.map .int)
def qe(c:iF):D.dep (cD c)=1:=by simp[D.dep,uD]
def zL:∀a:List (List Int),D.NL (a.map cD)<=1:=by
 intro d
 induction d with
 |nil=>simp[D.NL]
 |cons c a b=>have:=b;simp only[ku,D.NL,qe];lia
def IT(a b:iF):D.P1 (cD a) (cD b)=decide (a=b):=by simp[D.P1,Be]
def Jf(c:iF):∀a:List (List Int),(a.map cD).any (λd=>D.P1 d<|cD c)=decide (c∈a):=by
 intro f
 induction f with
 |nil=>kernel_rfl
 |cons x a b=>
  simp only[ku,tJ,b,IT];by_cases h:x=c
  .simp[h]
  have: ¬c=x:=λe=>h e.symm;simp[h,this]
def xj(c:iF)(a:ja):oR (cD c) (.lst<|a.map cD)=Y (.bl (!decide (c∈a)),U):=by
 have:inD (cD c) (.lst<|a.map cD)=Y (decide<|c∈a):=by have hd:=zL a;show(if D.NL (a.map cD)<=50/\(cD c).dep<=50 then Y ((a.map cD).any λd=>D.P1 d<|cD c)else I)=_;rw[iQ ⟨by lia,by rw[qe];lia⟩,Jf]
 unfold oR;rw[this];rfl
noncomputable def Bu:Nat->List (List Int)
 |0=>[[]]
 |k+1=>Bu k++((Bu k).map λc=>c++[(k:Int)+1])++((Bu k).map λc=>c++[-((k:Int)+1)])
def Q4:∀(k:Nat)(c:iF),(c.map ab).Pairwise (· < ·)->(∀s∈c,1<=ab s/\ab s<=k)->c∈Bu k:=by
 intro j
 induction j with
 |zero=>
  intro c _ h
  cases c with
  |nil=>simp[Bu]
  |cons s c=>have:=h s ky;lia
 |succ k f=>
  intro c b h;simp only[Bu,pk,rJ];by_cases d:c=[]
  .subst d;exact .inl<|.inl<|f [] (by simp) (by simp)
  have hd:=Mk d;generalize c.dropLast=i at hd;generalize c.getLast d=s at hd;subst hd;rw[pJ,sP]at b;have l:=h s (by simp);have g:∀x∈i,1<=ab x/\ab x<ab s:=λx a=>⟨(h x<|by simp[a]).1,b.2.2 (ab x) (qJ a) (ab s)<|by simp⟩
  by_cases q:ab s<=k
  .refine .inl (.inl<|f _ ?_ λx a=>?_)
   .rw[pJ,sP];exact b
   rcases pk.mp a with a|a
   .have:=g x a;lia
   simp at a;subst a;lia
  have e:ab s=(k:Int)+1:=by lia
  have hk:=f i b.1 λx a=>by have:=g x a;lia
  unfold ab at e;split at e
  .exact .inr ⟨i,hk,by rw[show s= -((k:Int)+1) by lia]⟩
  exact .inl (.inr ⟨i,hk,by rw[show s=((k:Int)+1) by lia]⟩)
def afU:∀(k:Nat)(n:Nat),n<=k->(Bu n).length<=(Bu k).length:=by
 intro b
 induction b with
 |zero=>intro n h;rw[show n=0 by lia];exact jT _
 |succ k a=>
  intro n h;by_cases e:n=k+1
  .subst e;exact jT _
  have:=a n (by lia);simp only[Bu,oG,jU];lia
def BE(n:Nat)(a:ja):Prop:=a.Nodup/\∀c∈a,SI n c
def BE.len(b:n<=5)(h:BE n cs):(IX cs)<=243:=by
 have h1:=uj cs (Bu n) h.1 λc a=>Q4 n c (h.2 c a).2.1 (h.2 c a).2.2;have d:=afU 5 n b;have e:(Bu 5).length=243:=by decide
 lia
def BE.snoc{n:Nat}{b:ja}{c:iF}(h:BE n b)(f:SI n c)(g:c∉b):BE n (b++[c]):=by
 refine⟨?_,λx a=>?_⟩
 .rw[zQ];exact⟨h.1,by simp,λx a y d e=>by simp at d;subst d;subst e;exact g a⟩
 rcases pk.mp a with a|a
 .exact h.2 x a
 simp at a;subst a;exact f
abbrev D0(a:ja):Sl:=Y (.lst<|a.map cD,J)
abbrev Xi:FS:=zC5
def ixc{a:ja}{i:Nat}(h:i<IX a):AK (.lst<|a.map cD) (.int i)=Y (cD<|a.getD i [],U):=by
 have:(i:Int)<(IX a):=by lia
 simp[AK,FN,DL,h]
def af0{a:ja}{i:Nat}(h:i<IX a):a.getD i []∈a:=by rw[sA,jZ h];exact yb h
def TL{n:Nat}(p:n<=5){t:iF}(q:HK n t){a:ja}(f:BE n a){i:Nat}(m:i<IX a)(c d x5:Sl):∃j s,BE n j/\(IX a)<=IX j/\Xi [c,d,D0 a,ii i,eN t,x5]=Y (.nx [c,d,D0 j,ii i,eN t,s]):=by
 obtain⟨b,u,e⟩:=adI p q<|f.2 _ (af0 m);have v:=f.len p
 have s1:∀g,iG YI g [c,d,D0 a,ii i,eN t,x5]=g [c,d,D0 a,ii i,eN t,eN b]:=λg=>iC<|jK (i:=5) (δ1:=[c,d,D0 a,ii i,eN t,x5]) (jJ (δ1:=[c,d,D0 a,ii i,eN t,x5]) (os:=[.slot 4,.val<|enc<|a.getD i []]) (args:=[enc t,enc<|a.getD i []]) (oS C<|iW<|jW (o1:=.slot 2) (o2:=.slot 3) C C C C<|ixc m) C lu e) (show 5<6 by decide)
 have k:(fT<|iT oR (iA 5)<|iA 2) [c,d,D0 a,ii i,eN t,eN b]=Y (!decide (b∈a),[c,d,D0 a,ii i,eN t,eN b]):=
  kg (o:=U) (jW (o1:=.slot 5) (o2:=.slot 2) C C C C<|xj b a)
 by_cases h:b∈a
 .refine⟨a,eN b,f,jT _,(s1 _).trans<|(iC<|(lU ?_).trans C).trans C⟩;rw[k,lO h];rfl
 refine⟨a++[b],eN b,f.snoc u h,by simp,(s1 _).trans ?_⟩;rw[lb h]at k;refine(iC<|(rm k).trans<|wA (δ1:=[c,d,D0 a,ii i,eN t,eN b]) (r:=enc b) (l0:=a.map cD) (l:=a.map cD) C C C<|by simp;lia).trans ?_;simp
def aax{n:Nat}(r:n<=5)(i:Nat)(b c:Sl):∀(h:ja)(a:ja)(e x5:Sl),(∀t∈h,HK n t)->BE n a->i<IX a->∃d g j,BE n d/\(IX a)<=IX d/\nk (iD 4) Xi (h.map cD) [b,c,D0 a,ii i,e,x5]=Y (.nx [b,c,D0 d,ii i,g,j]):=by
 intro w
 induction w with
 |nil=>intro a e x5 _ f k;exact⟨a,e,x5,f,jT _,rfl⟩
 |cons t h v=>intro a e x5 l f k;obtain⟨m,x,h1,y,o⟩:=TL r (l t ky) f k b c x5;obtain⟨d,g,j,q,z,p⟩:=v m (eN t) x (λu s=>l u<|kO _ s) h1 (by lia);refine⟨d,g,j,q,by lia,?_⟩;rw[ku];unfold nk;rw[show iD 4 (cD t) [b,c,D0 a,ii i,e,x5]=Y [b,c,D0 a,ii i,eN t,x5]from C];simp only[jH];rw[o];simp;exact p
abbrev ftW:FT:=Yz
abbrev fbW:FS:=iG (oQ mH (iD 4) Xi) Yx
def Vz{n:Nat}(x:n<=5)(e:Sl)(c:ja)(z:∀t∈c,HK n t):∀(m a i:Nat)(o:Bool)(b:ja)(d x5:Sl),i+m=243->m<a->BE n b->∃k s q r u,BE n k/\(IX b)<=IX k/\pX ftW fbW a [e,Y (.lst<|c.map cD,o),D0 b,ii i,d,x5]=Y (.nx [e,Y (.lst<|c.map cD,s),D0 k,ii q,r,u]):=by
 intro m
 induction m with
 |zero=>
  intro a i o b d x5 p E j;have T:=j.len x;obtain⟨f,rfl⟩:∃f,a=f+1:=⟨a-1,by lia⟩
  refine⟨b,o,i,d,x5,j,jT _,?_⟩;have h: ¬((i:Int)<IX b):=by lia
  have g:ftW [e,Y (.lst<|c.map cD,o),D0 b,ii i,d,x5]=Y (U,[e,Y (.lst<|c.map cD,o),D0 b,ii i,d,x5]):=
   kg (o:=U) (jW (o1:=.slot 3) (o2:=.val (.int<|IX b,U)) C (iW<|km (os:=[.slot 2]) C C<|by simp) C C<|by rw[N0,lb h])
  unfold pX;rw[g];rfl
 |succ m Q=>
  intro a i o b d x5 p E j;obtain⟨f,rfl⟩:∃f,a=f+1:=⟨a-1,by lia⟩
  have g:ftW [e,Y (.lst<|c.map cD,o),D0 b,ii i,d,x5]=Y (decide<|(i:Int)<IX b,[e,Y (.lst<|c.map cD,o),D0 b,ii i,d,x5]):=
   kg (o:=U) (jW (o1:=.slot 3) (o2:=.val (.int<|IX b,U)) C (iW<|km (os:=[.slot 2]) C C<|by simp) C C<|by rw[N0])
  by_cases h:((i:Int)<IX b)
  .rw[lO h]at g;obtain⟨l,v,w,h1,L,A⟩:=aax x i e (Y (.lst<|c.map cD,U)) c b d x5 z j (by lia);obtain⟨k,s,q,r,u,N,O,B⟩:=Q f (i+1) U l v w (by lia) (by lia) h1;refine⟨k,s,q,r,u,N,by lia,?_⟩;unfold pX;rw[g];simp only[jH]
   have y:fbW [e,Y (.lst<|c.map cD,o),D0 b,ii i,d,x5]=Y (.nx [e,Y (.lst<|c.map cD,U),D0 l,ii (i+1:Nat),v,w]):=by refine(iC<|(lE (ds:=c.map cD) (δ1:=[e,Y (.lst<|c.map cD,U),D0 b,ii i,d,x5]) C).trans A).trans ?_;refine(iC<|jK (i:=3) (δ1:=[e,Y (.lst<|c.map cD,U),D0 l,ii i,v,w]) (jW (o1:=.slot 3) (o2:=.val (.int 1,U)) C C C C C) (show 3<6 by decide)).trans ?_;simp
   rw[y];simp;exact B
  rw[lb h]at g;refine⟨b,o,i,d,x5,j,jT _,?_⟩;unfold pX;rw[g];rfl
def af9{n:Nat}(i:n<=5){b a:ja}(f:∀t∈b,HK n t)(h:BE n a)(o:Bool):∃c m,BE n c/\(IX a)<=IX c/\oE [(.lst<|a.map cD,U),(.lst<|b.map cD,o)]=Y ((.lst<|c.map cD,J),[Y (.lst<|a.map cD,U),m]):=by
 obtain⟨c,d,j,l,p,g,k,e⟩:=Vz i (Y (.lst<|a.map cD,U)) b f 243 aaX 0 o a I I (by lia) (by decide) h;refine⟨c,if o=J then Y (.lst<|b.map cD,d)else Y (.lst<|b.map cD,o),g,k,?_⟩;refine(jQ (r:=(.lst<|c.map cD,J)) (δ:=[Y (.lst<|a.map cD,U),Y (.lst<|b.map cD,d),I,ii j,l,p]) ⟨rfl,(show 2<=6 by decide),by cases o<;>rfl⟩ ?_).trans ?_
 .refine(iC (δ1:=[Y (.lst<|a.map cD,U),Y (.lst<|b.map cD,o),D0 a,I,I,I]) C).trans ?_;refine(iC (δ1:=[Y (.lst<|a.map cD,U),Y (.lst<|b.map cD,o),D0 a,ii 0,I,I]) C).trans ?_;exact(iC e).trans (jm C)
 cases o<;>rfl
noncomputable def sv(a:ja)(c:iF):List (List Int):=if c∈a then a else a++[c]
def dd(cs:ja):List (List Int):=cs.foldl sv []
def EI(a:ja)(c:iF):oO (a.map cD) (cD c)=(sv a c).map cD:=by unfold oO sv;rw[show(a.map cD).any (D.P1 · (cD c))=decide (c∈a)from Jf c a];by_cases h:c∈a<;>simp[h]
def Qu:∀(b a:ja),(b.map cD).foldl oO (a.map cD)=(b.foldl sv a).map cD:=by
 intro e
 induction e with
 |nil=>intro a;exact C
 |cons c b d=>intro a;rw[ku,vQ,vQ,EI,d]
def Q9:x∈sv a c↔x∈a\/x=c:=by
 unfold sv;by_cases h:c∈a
 .rw[iQ h];constructor
  .exact .inl
  rintro(h1|rfl)
  .exact h1
  exact h
 rw[je h];simp
def rC:∀(cs a:ja)(x:iF),x∈cs.foldl sv a↔x∈a\/x∈cs:=by
 intro d
 induction d with
 |nil=>intro a x;simp
 |cons c cs b=>intro a x;rw[vQ,b,Q9,oq,or_assoc]
def Ul(h:f.Nodup):(sv f c).Nodup:=by
 unfold sv;split
 .exact h
 rename_i b;rw[zQ];exact⟨h,by simp,λx d y a e=>by simp at a;subst a;subst e;exact b d⟩
def xF:∀(cs a:ja),a.Nodup->(cs.foldl sv a).Nodup:=by
 intro d
 induction d with
 |nil=>intro a h;exact h
 |cons c cs b=>intro a h;rw[vQ];exact b _ (Ul h)
def nv:∀l:List Int,D.Fo (l.map .int)=J:=by
 intro b
 induction b with
 |nil=>simp[D.Fo]
 |cons x l a=>simp[D.Fo,D.pr,a]
def WL(c:iF):BC (cD c)=J:=by simp[BC,nv,uD]
def rQ(cs:ja):(cs.map cD).all BC=J:=by rw[kT];intro d hd;obtain⟨c,_,rfl⟩:=iR hd;exact WL c
theorem uY(c:cc):∀a b:List Int,(oM c (a.map .int)<|b.map .int).isSome=J
 |[],b=>by kernel_rfl
 |x::a,[]=>by kernel_rfl
 |x::a,y::b=>by
  simp only[ku,oM];split
  .exact uY c a b
  simp[oN]
def yA(cs:ja)(h:∀c∈cs,c≠[]):nF (cs.map cD)=J:=by
 have hk:∀c:List Int,c≠[]->lW (cD c)=Y 1:=λc g=>by
  cases c with
  |nil=>exact absurd C g
  |cons=>rfl
 unfold nF
 cases cs with
 |nil=>rfl
 |cons c cs=>
  rw[vM];right;simp only[ku];rw[lR,lR,hk c<|h c ky];refine⟨⟨rfl,?_⟩,?_⟩
  .rw[kT];intro d hd;rw[<-ku (f:=cD)]at hd;obtain⟨x,b,rfl⟩:=iR hd;rw[hk x<|h x b,qe];simp[D.pr,nv]
  rw[kT];intro d hd;rw[kT];intro e a;rw[<-ku (f:=cD)]at hd a;obtain⟨x,b,rfl⟩:=iR hd;obtain⟨y,i,rfl⟩:=iR a;simp only[oN];rw[iQ<|.inl trivial];exact uY _ _ _
def Fb:D->List Int
 |.tup l=>l.map A7
 |_=>[]
def ni(c:iF):Fb (cD c)=c:=by simp only[Fb,jY];rw[nL (g:=id),sy];intro x _;rfl
def wC(h:m.Perm (cs.map cD)):∃a:List (List Int),m=a.map cD/\a.Perm cs:=by
 refine⟨m.map Fb,?_,?_⟩
 .rw[jY]
  symm
  rw[nL (g:=id),sy];intro d hd;obtain⟨c,_,rfl⟩:=iR<|h.mem_iff.mp hd;simp only[cy,ni];rfl
 have:=h.map Fb;rw[jY]at this;rw[show cF (Fb∘cD) cs=cF id cs from nL λc _=>ni c,sy]at this;exact this
def D4(c:ja):Prop:=c.Pairwise λa b=>A5 (cD b) (cD a)=U
def VH{n:Nat}{cs:ja}(i:∀c∈cs,SI n c)(k:(IX cs)<500):∃j a:List (List Int),BE n a/\D4 a/\(∀c,c∈a↔c∈cs)/\(IX a)<=IX cs/\TC (.lst<|cs.map cD)=Y (.Q2 .set []<|j.map cD,J)/\ll (.Q2 .set []<|j.map cD)=Y (.lst<|a.map cD,J):=by
 have f:∀c,c∈dd cs↔c∈cs:=λc=>by unfold dd;rw[rC];simp
 have d:(dd cs).Nodup:=xF cs [] (by simp);obtain⟨a,e,g⟩:=wC<|kJ A5<|(dd cs).map cD;have b:(dd cs).length<=(IX cs):=uj _ _ d λc h=>(f c).mp h;refine⟨dd cs,a,⟨g.symm.nodup d,λc h=>i c<|(f c).mp<|g.mem_iff.mp h⟩,?_,λc=>g.mem_iff.trans<|f c,by rw[g.length_eq];exact b,?_,?_⟩
 .have:=ot<|(dd cs).map cD;rw[e,oP]at this;exact this
 .show(if(cs.map cD).all BC=J/\(cs.map cD).length<500 then Y (D.Q2 .set []<|oj<|cs.map cD,J)else I)=_;rw[iQ ⟨rQ cs,by simpa using k⟩];unfold oj;rw[show([]:List D)=([]:List (List Int)).map cD from C,Qu];rfl
 show(if((dd cs).map cD).all BC=J then kM ((dd cs).map cD)else I)=_;rw[iQ<|rQ _];unfold kM;rw[iQ ⟨yA _ λc h=>(i c<|(f c).mp h).1,by rw[kD];simp;lia⟩,e]
def agj:∀(k:Nat)(r f t:iF),t∈pT k r f->∀x∈t,x∈f\/∃y∈r,x=y*1\/x=y* -1:=by
 intro e
 induction e with
 |zero=>intro r f t h x a;simp[pT]at h;subst h;exact .inl a
 |succ k d=>
  intro r f t h x a;simp only[pT,vd,pk,vc]at h;obtain⟨v,hv,h⟩:=h
  have key:∀s:Int,(s=1\/s= -1)->t∈pT k (r.eraseIdx v) (f++[r.getD v 0*s])->x∈f\/∃y∈r,x=y*1\/x=y* -1:=by
   intro s b h;rcases d _ _ t h x a with h1|⟨y,c,h1⟩
   .rcases pk.mp h1 with h1|h1
    .exact .inl h1
    simp at h1;refine .inr ⟨r.getD v 0,mB hv,?_⟩;rw[sA];rcases b with rfl|rfl<;>simp[h1]
   exact .inr ⟨y,List.mem_of_mem_eraseIdx c,h1⟩
  rcases h with h|h
  .exact key 1 (.inl C) h
  exact key (-1) (.inr C) h
def Nt{n:Nat}{t:iF}(h:t∈pT n (st n) []):HK n t:=by
 refine⟨Nr h,λx a=>?_⟩;rcases agj n _ _ t h x a with h1|⟨y,b,h1⟩
 .simp at h1
 have:=KJ.mp b;unfold ab;rcases h1 with rfl|rfl<;>split<;>omega
def HK.abs(h:HK n t):HK n (t.map ab):=by refine⟨by simpa using h.1,λx a=>?_⟩;obtain⟨y,b,rfl⟩:=iR a;have:=h.2 y b;rw[qj (i:=ab y)<|by lia];exact this
def QM(l:O1)(P:List Int->Prop)(b:Bool)(n:Int)(h:∀a,∃i c,P c/\l [pS a b,pI n]=Y (enc c,[V0 i b,ii n])):∀(k:List D)(f:ja)(a:Int)(x:Sl),(∀c∈f,P c)->IX f+IX k<=1000->
  ∃(i:Int)(j:ja)(o:Sl),(∀c∈j,P c)/\(IX j)=IX f+IX k/\kr (iD 2) jD (jN<|iN l [iA 0,iA 1]) k (f.map cD) [V0 a b,ii n,x]=Y (j.map cD,[V0 i b,ii n,o]):=by
 intro A
 induction A with
 |nil=>intro f a x m _;exact⟨a,f,x,m,by simp,rfl⟩
 |cons d k w=>
  intro f a x m p;obtain⟨a1,z,v,r⟩:=h a
  obtain⟨i,j,o,t,q,e⟩:=w (f++[z]) a1 (Y (d,U)) (λy g=>by
   rcases pk.mp g with g|g
   .exact m y g
   simp at g;subst g;exact v) (by simp at p ⊢;lia)
  refine⟨i,j,o,t,by simp at q ⊢;lia,?_⟩;have u:(f.map cD).length<sizeLine:=by rw[kD];simp at p ⊢;lia
  have s:iN l [iA 0,iA 1] [V0 a b,ii n,Y (d,U)]=Y (enc z,[V0 a1 b,ii n,Y (d,U)]):=
   jJ (δ1:=[V0 a b,ii n,Y (d,U)]) (os:=[.slot 0,.slot 1]) (args:=[pS a b,pI n]) rfl rfl (Ic 0) r
  rw[kr,show iD 2 d [V0 a b,ii n,x]=Y [V0 a b,ii n,Y (d,U)]from C];simp only[jH,JL,DX];rw[s];simp only[jH];rw[iQ u];rw[pJ]at e;exact e
def Bl(l:O1)(P:List Int->Prop)(b:Bool)(n:Int)(h:∀a,∃f c,P c/\l [pS a b,pI n]=Y (enc c,[V0 f b,ii n]))(k:List D)(hd:(IX k)<=1000)(a:Int)(g i:Sl)(d:Dn)(o:B0)(m:o (V0 a b::g::i::ii n::d)=Y (k,V0 a b::g::i::ii n::d)):
  ∃(f:Int)(j:ja),(∀c∈j,P c)/\(IX j)=IX k/\jv [0,3] 1 o (iD 2) jD (jN<|iN l [iA 0,iA 1]) (V0 a b::g::i::ii n::d)=Y ((.lst<|j.map cD,J),V0 f b::g::i::ii n::d):=by
 obtain⟨f,j,q,h1,p,e⟩:=QM l P b n h k [] a I (by simp) (by simpa using hd);refine⟨f,j,h1,by simpa using p,?_⟩;unfold jv;rw[m];simp only[jH,ku,oZ];rw[show jM (V0 a b::g::i::ii n::d) [.slot 0,.slot 3]=Y [pS a b,pI n]from C];simp only[jH];rw[iQ (show(jf [A1.slot 0,A1.slot 3] [(D.lst [.int a,.bl b],J),pI n]).Nodup from(Ic 0))];rw[show(cF Y [(D.lst [.int a,.bl b],J),(D.int n,U)]++ao 1 I:Dn)=[V0 a b,ii n,I]from C];rw[show([]:List D)=([]:List (List Int)).map cD from C,e];rfl
def Qv(a:ja)(v:Nat):∃m,m<=v/\PX.zM (a.map cD) I (Y (v:Int))=(a.take m).map cD:=by refine⟨min v<|IX a,by lia,?_⟩;unfold PX.zM;rw[HT.UC,HT.VQ,o8,jU,List.drop_zero,Nat.sub_zero]
def D4.take(h:D4 a)(m:Nat):D4 (a.take m):=s8 (yt m a) h
def BE.take(h:BE n a)(m:Nat):BE n (a.take m):=⟨List.Nodup.sublist (yt m a) h.1,λc b=>h.2 c<|vR b⟩
def Rf(t:iF)(a:(IX t)<=100):Vt [Y (cD t,U)]=Y ((cD<|t.map ab,U),[Y (cD t,U)]):=by
 obtain⟨b,e⟩:=wG E5 (λd=>.int (ab<|A7 d)) [] (t.map .int) [] I (by intro d hd;obtain⟨i,_,rfl⟩:=iR hd;exact⟨U,rfl⟩) (by rw[kD];simp;lia)
 simp at e;refine km (os:=[.val (.lst<|(t.map ab).map .int,J)]) (nI<|iW ?_) C C;unfold jv;rw[show jF (jI 0) [Y (cD t,U)]=Y (t.map .int,[Y (cD t,U)])from C];simp only[jH,oZ,uN,jf,lu,nr,rK,cY,xY];rw[e,jY];rfl
def Ve{f:F}{fi:B0}{δ δ1:Dn}{ds a:List D}{c:Sl}(h1:fi δ=Y (ds,δ1))(b:kr (iD 0) jD (jN f) ds [] [I]=Y (a,[c])):jv [] 1 fi (iD 0) jD (jN f) δ=Y ((.lst a,J),δ1):=by unfold jv;rw[h1];simp only[jH,oZ,uN,jf,lu,nr,rK,cY,xY];rw[b];rfl
def afV(a:ja)(m:(IX a)<=1000)(l:∀t∈a,IX t<=100)(b c f g i j k:Sl)(o:Bool):jv [] 1 (jF<|jI 7) (iD 0) jD YV [b,c,f,g,i,j,k,Y (.lst<|a.map cD,o)]=Y ((.lst<|(a.map<|cF ab).map cD,J),[b,c,f,g,i,j,k,Y (.lst<|a.map cD,U)]):=by
 obtain⟨n,e⟩:=wG Vt (λd=>cD<|(Fb d).map ab) [] (a.map cD) [] I (by intro d hd;obtain⟨t,h,rfl⟩:=iR hd;refine⟨U,?_⟩;rw[ni];exact Rf t<|l t h) (by rw[kD];simp;lia)
 simp at e;have:(a.map<|(λd=>cD<|(Fb d).map ab)∘cD)=a.map (cD∘cF ab):=nL λt _=>by simp only[cy,ni]
 rw[this]at e;rw[jY];exact Ve C e
def om(n:Nat)(a:ja):Prop:=n<=5/\BE n a/\D4 a/\(IX a)<=30
abbrev BO(n:Nat)(a:ja):D:=.tup [.int n,.tup<|a.map cD]
abbrev rS(n:Nat)(a:ja):Sl:=Y (BO n a,U)
noncomputable abbrev lv(L:List D):Sl:=Y (.lst L,J)
def ae2(h:lg fs δ=lg b a):iN ev fs δ=iN ev b a:=by unfold iN;rw[h]
def afK(a:Int)(b:Bool)(lo d:Nat)(h1:lo<=d)(h5:d<=5):∃Y' n h,om n h/\lo<=n/\n<=d/\oB [pS a b,pI lo,pI d]=Y ((BO n h,IP),[V0 Y' b,ii lo,ii d]):=by
 obtain⟨v,a1,v0,v1,e1⟩:=nR a b ((d:Int)-lo+1) (by lia) (by lia);obtain⟨w,s,w0,w1,e2⟩:=nR a1 b 4 (by lia) (by lia);obtain⟨n,hn⟩:∃n:Nat,(lo:Int)+v=n:=⟨(lo+v).toNat,by lia⟩
 have pre:∀g,iG Y6 (iG Yv g) [V0 a b,ii lo,ii d,Ix,Ix,Ix,Ix,Ix]=g [V0 s b,ii lo,ii d,ii n,ii w,Ix,Ix,Ix]:=by
  intro g;refine(iC (δ1:=[V0 a1 b,ii lo,ii d,ii n,Ix,Ix,Ix,Ix]) ?_).trans ?_
  .refine jK (i:=3) (δ1:=[V0 a1 b,ii lo,ii d,Ix,Ix,Ix,Ix,Ix]) (jW (o1:=.slot 1) (o2:=.val (.int v,IP)) IR (iW<|e1 _ _ _ rfl rfl) IR IR ?_) (show 3<8 by decide);rw[UI,hn]
  exact iC (jK (i:=4) (δ1:=[V0 s b,ii lo,ii d,ii n,Ix,Ix,Ix,Ix]) (e2 _ [ii lo,ii d,ii n,Ix,Ix,Ix,Ix] _ rfl rfl) (show 4<8 by decide))
 by_cases hz:n=0
 .subst hz;refine⟨s,0,[],⟨by lia,⟨by simp,by simp⟩,cb,by simp⟩,by lia,by lia,?_⟩;refine jQ (δ:=[V0 s b,ii lo,ii d,ii (0:Nat),ii w,Ix,Ix,Ix]) ⟨rfl,by decide,rfl⟩<|(pre _).trans ?_;refine jm ((rm (δ1:=[V0 s b,ii lo,ii d,ii (0:Nat),ii w,Ix,Ix,Ix])<|by kernel_rfl).trans<|jm<|kh ?_)
  kernel_rfl
 have n1:1<=n:=by lia
 have G:n<=5:=by lia
 obtain⟨u,I,u0,u1,e3⟩:=nR s b 3 (by lia) (by lia)
 let Z:List Int:=[4,8,13]
 let m:=Z.getD u.toNat 0
 have hm:0<m/\m<=13:=by rcases(show u=0\/u=1\/u=2 by lia)with rfl|rfl|rfl<;>decide
 obtain⟨c,L,q0,q1,e4⟩:=nR I b m hm.1 (by lia);obtain⟨f,rfl⟩:∃f:Nat,c=f:=⟨c.toNat,by lia⟩
 have i1:yL (iA 5) [V0 L b,ii lo,ii d,ii n,ii w,ii f,Ix,Ix]=Y (jo 0 f,[V0 L b,ii lo,ii d,ii n,ii w,ii f,Ix,Ix]):=uP (o:=.slot 5) IR IR (by lia);obtain⟨C,l,bt,m6,e5⟩:=Bl lK (SI n) b n (λa=>CS a b n n1 G) (jo 0 f) (by simp[jo];lia) L (ii lo) (ii d) [ii w,ii f,Ix,Ix] (yL<|iA 5) i1;have j6:(IX l)<13:=by simp[jo]at m6;lia
 have H:∃(j:Int)(A:ja)(q:Sl),(∀c∈A,SI n c)/\(IX A)<500/\zC0 [V0 C b,ii lo,ii d,ii n,ii w,ii f,lv<|l.map cD,Ix]=Y (.nx [V0 j b,ii lo,ii d,ii n,ii w,ii f,lv<|A.map cD,q]):=by
  by_cases hw:0<w
  .obtain⟨k,hk,bL⟩:∃k:Nat,(1:Int)+w%2=k/\k<=2:=⟨(1+w%2).toNat,by lia,by lia⟩
   have i2:yL YM [V0 C b,ii lo,ii d,ii n,ii w,ii f,lv<|l.map cD,Ix]=Y (jo 0 k,[V0 C b,ii lo,ii d,ii n,ii w,ii f,lv<|l.map cD,Ix]):=by
    refine uP (o:=.val (.int k,IP)) (iW ?_) IR (by lia);rw[<-hk]
    kernel_rfl
   obtain⟨j,B,D,W,e6⟩:=Bl mO (HK n) b n (λa=>by obtain⟨Y',t,O,e⟩:=aeI a b n G;exact⟨Y',t,Nt O,e⟩) (jo 0 k) (by simp[jo];lia) C (ii lo) (ii d) [ii w,ii f,lv<|l.map cD,Ix] _ i2
   have Q:(IX B)<=1000:=by simp[jo]at W;lia
   have th:∃x:List (List Int),(∀t∈x,HK n t)/\∀g,iG zC1 g [V0 j b,ii lo,ii d,ii n,ii w,ii f,lv<|l.map cD,lv<|B.map cD]=g [V0 j b,ii lo,ii d,ii n,ii w,ii f,lv<|l.map cD,lv<|x.map cD]:=by
    by_cases h3:w=3
    .refine⟨B.map<|cF ab,λt O=>?_,λg=>?_⟩
     .obtain⟨t',V,rfl⟩:=iR O;exact(D t' V).abs
     refine iC ((rm (δ1:=[V0 j b,ii lo,ii d,ii n,ii w,ii f,lv<|l.map cD,lv<|B.map cD])<|kg (o:=IP)<|jW (o1:=.slot 4) (o2:=.val (.int 3,IP)) IR IR IR IR<|by rw[UH,h3];rfl).trans<|(iC<|jK (i:=7) (δ1:=[V0 j b,ii lo,ii d,ii n,ii w,ii f,lv<|l.map cD,Y (.lst<|B.map cD,IP)]) (afV B Q (λt O=>by have:=(D t O).1;lia) _ _ _ _ _ _ _ IN) (show 7<8 by decide)).trans IR)
    refine⟨B,D,λg=>iC<|(lU (δ1:=[V0 j b,ii lo,ii d,ii n,ii w,ii f,lv<|l.map cD,lv<|B.map cD])<|kg (o:=IP)<|jW (o1:=.slot 4) (o2:=.val (.int 3,IP)) IR IR IR IR<|by rw[UH,vb,lb h3]).trans IR⟩
   obtain⟨x,T,th⟩:=th;obtain⟨vs,h,N,K,R,P,t7,X⟩:=VH bt (by lia);obtain⟨y,S,ct⟩:=Qv h 2;obtain⟨A,q,M,_,e7⟩:=af9 G T (N.take y) IN;refine⟨j,A,q,M.2,by have:=M.len G;lia,?_⟩;refine(rm (δ1:=[V0 C b,ii lo,ii d,ii n,ii w,ii f,lv<|l.map cD,Ix])<|kg (o:=IP)<|jW (o1:=.slot 4) (o2:=.val (.int 0,IP)) IR IR IR IR<|by rw[Fx,lO (show w>0 from hw)]).trans ?_;refine(iC<|jK (i:=7) e6 (show 7<8 by decide)).trans ((th _).trans<|(iC<|jK (i:=6) (δ1:=[V0 j b,ii lo,ii d,ii n,ii w,ii f,lv<|l.map cD,q]) (jJ (δ1:=[V0 j b,ii lo,ii d,ii n,ii w,ii f,lv<|l.map cD,lv<|x.map cD]) (os:=[.val (.lst<|(h.take y).map cD,IN),.slot 7]) (args:=[(.lst<|(h.take y).map cD,IP),(.lst<|x.map cD,IN)]) (oS (δ1:=[V0 j b,ii lo,ii d,ii n,ii w,ii f,lv<|l.map cD,lv<|x.map cD]) (iW ?_) IR) IR (Ic 7) e7) (show 6<8 by decide)).trans IR)
   have f1:Ry [V0 j b,ii lo,ii d,ii n,ii w,ii f,lv<|l.map cD,lv<|x.map cD]=Y ((.lst<|h.map cD,IN),[V0 j b,ii lo,ii d,ii n,ii w,ii f,lv<|l.map cD,lv<|x.map cD]):=
    km (os:=[.val (.Q2 .set []<|vs.map cD,IN)]) (nI<|iW<|km (os:=[.slot 6]) IR IR t7) rfl X
   unfold CJ;rw[iW f1];simp only[jH];rw[show An [V0 j b,ii lo,ii d,ii n,ii w,ii f,lv<|l.map cD,lv<|x.map cD]=Y (.val (.int 2,IP),[V0 j b,ii lo,ii d,ii n,ii w,ii f,lv<|l.map cD,lv<|x.map cD])from IR];simp only[jH,DU];rw[show LN Ix (Y 2) (.lst<|h.map cD)=Y (.lst<|PX.zM (h.map cD) Ix<|Y 2,IN)from IR];simp only[jH];rw[show PX.zM (h.map cD) Ix (Y 2)=(h.take y).map cD from ct]
  refine⟨C,l,Ix,bt,by lia,?_⟩;exact(lU (δ1:=[V0 C b,ii lo,ii d,ii n,ii w,ii f,lv<|l.map cD,Ix])<|kg (o:=IP)<|jW (o1:=.slot 4) (o2:=.val (.int 0,IP)) IR IR IR IR<|by rw[Fx,lb (show ¬w>0 from hw)]).trans IR
 obtain⟨j,A,q,M,bT,H⟩:=H;obtain⟨vs,h,N,K,R,P,t7,X⟩:=VH M bT
 have f1:Ry [V0 j b,ii lo,ii d,ii n,ii w,ii f,lv<|A.map cD,q]=Y ((.lst<|h.map cD,IN),[V0 j b,ii lo,ii d,ii n,ii w,ii f,lv<|A.map cD,q]):=
  km (os:=[.val (.Q2 .set []<|vs.map cD,IN)]) (nI<|iW<|km (os:=[.slot 6]) IR IR t7) rfl X
 have last:∃(z:Int)(E:ja),BE n E/\D4 E/\(IX E)<=30/\AH Vs YQ iX [V0 j b,ii lo,ii d,ii n,ii w,ii f,lv<|h.map cD,q]=Y (.nx [V0 z b,ii lo,ii d,ii n,ii w,ii f,lv<|E.map cD,q]):=by
  have U:Vs [V0 j b,ii lo,ii d,ii n,ii w,ii f,lv<|h.map cD,q]=Y (decide<|((IX h):Int)>30,[V0 j b,ii lo,ii d,ii n,ii w,ii f,lv<|h.map cD,q]):=
   kg (o:=IP) (jW (o1:=.val (.int<|IX h,IP)) (o2:=.val (.int 30,IP)) (iW<|km (os:=[.slot 6]) IR IR<|by simp) IR IR IR<|Fx _ _)
  by_cases hb:((IX h):Int)>30
  .obtain⟨p,z,p0,p1,e8⟩:=nR j b 30 (by lia) (by lia);obtain⟨J,rfl⟩:∃J:Nat,p=J:=⟨p.toNat,by lia⟩
   obtain⟨y,S,ct⟩:=Qv h J;refine⟨z,h.take y,N.take y,K.take y,by rw[uc];lia,?_⟩;rw[lO hb]at U;refine(rm U).trans ((iC<|jK (i:=6) (δ1:=[V0 z b,ii lo,ii d,ii n,ii w,ii f,lv<|h.map cD,q]) (r:=(.lst<|(h.take y).map cD,IN)) ?_ (show 6<8 by decide)).trans IR);unfold CJ;rw[show iA 6 [V0 j b,ii lo,ii d,ii n,ii w,ii f,lv<|h.map cD,q]=Y (.slot 6,[V0 j b,ii lo,ii d,ii n,ii w,ii f,lv<|h.map cD,q])from IR];simp only[jH];rw[iW<|e8 _ [ii lo,ii d,ii n,ii w,ii f,lv<|h.map cD,q] _ rfl rfl];simp only[jH,DU];rw[show res (V0 z b::[ii lo,ii d,ii n,ii w,ii f,lv<|h.map cD,q]) (.slot 6)=Y (.lst<|h.map cD)from IR];simp only[jH];rw[show LN Ix (Y (J:Int)) (.lst<|h.map cD)=Y (.lst<|PX.zM (h.map cD) Ix<|Y (J:Int),IN)from IR,ct];rfl
  rw[lb hb]at U;exact⟨j,h,N,K,by lia,(lU U).trans IR⟩
 obtain⟨z,E,k1,k2,k3,last⟩:=last;refine⟨z,n,E,⟨G,k1,k2,k3⟩,by lia,by lia,?_⟩;refine jQ (δ:=[V0 z b,ii lo,ii d,ii n,ii w,ii f,lv<|E.map cD,q]) ⟨rfl,by decide,rfl⟩<|(pre _).trans ?_;refine(iC<|(lU (δ1:=[V0 s b,ii lo,ii d,ii n,ii w,Ix,Ix,Ix])<|by simp[hz]).trans IR).trans ?_;refine(iC (δ1:=[V0 L b,ii lo,ii d,ii n,ii w,ii f,Ix,Ix]) ?_).trans ?_
 .refine jK (i:=5) (δ1:=[V0 L b,ii lo,ii d,ii n,ii w,Ix,Ix,Ix]) ?_ (show 5<8 by decide)
  have em:iP Vu [V0 s b,ii lo,ii d,ii n,ii w,Ix,Ix,Ix]=Y (.val (.int m,IP),[V0 I b,ii lo,ii d,ii n,ii w,Ix,Ix,Ix]):=
   iW (jW (o1:=.val (.lst<|Z.map .int,IN)) (o2:=.val (.int u,IP)) (iW (δ1:=[V0 s b,ii lo,ii d,ii n,ii w,Ix,Ix,Ix])<|by kernel_rfl) (iW<|e3 _ [ii lo,ii d,ii n,ii w,Ix,Ix,Ix] _ rfl rfl) IR IR<|aam u0<|by simpa[Z]using u1)
  have F:=e4 (λ_=>Y (.val (.int m,IP),[V0 I b,ii lo,ii d,ii n,ii w,Ix,Ix,Ix])) [ii lo,ii d,ii n,ii w,Ix,Ix,Ix] (.val (.int m,IP)) IR IR
  have hf:lg [iA 0,iP Vu] [V0 s b,ii lo,ii d,ii n,ii w,Ix,Ix,Ix]=lg [iA 0,λ_=>Y (.val (.int m,IP),[V0 I b,ii lo,ii d,ii n,ii w,Ix,Ix,Ix])] (V0 I b::[ii lo,ii d,ii n,ii w,Ix,Ix,Ix]):=by rw[oS (o1:=.slot 0) IR em];rfl
  exact(ae2 hf).trans F
 refine(iC<|jK (i:=6) e5 (show 6<8 by decide)).trans ?_;refine(iC H).trans ?_;refine(iC<|jK (i:=6) f1 (show 6<8 by decide)).trans ?_;refine(iC last).trans (jm<|kh ?_)
 kernel_rfl
noncomputable abbrev AL(a:List D):Dn:=a.map λd=>Y (d,U)
theorem rq:∀(os:List A1)(a:List D),jf os (a.map λd=>(d,U))=[]
 |[],_=>by simp[jf]
 |_::_,[]=>by simp[jf]
 |o::os,d::a=>by cases o<;>simp[jf,rq os a]
theorem Cf:∀(os:List A1)(b:List D)(a c:Dn),wb os (b.map λd=>(d,U)) a c=c
 |[],_,_,_=>by simp[wb]
 |_::_,[],_,_=>by kernel_rfl
 |_::_,_::_,[],_=>by kernel_rfl
 |o::os,d::b,x::xs,c=>by cases o<;>simp[wb,Cf os b xs]
def XH{f:F}{ti:FT}{g:D->D}{p:D->Bool}{pre:Dn}:∀(l a:List D)(x:Sl),(∀d∈l,ti (pre++[Y (d,U)])=Y (p d,pre++[Y (d,U)])/\(p d=J->∃o,f (pre++[Y (d,U)])=Y ((g d,o),pre++[Y (d,U)])))->IX a+IX l<=sizeLine->
  ∃b,kr (iD<|IX pre) ti (jN f) l a (pre++[x])=Y (a++(l.filter p).map g,pre++[b]):=by
 intro r
 induction r with
 |nil=>intro a x _ _;exact⟨x,by simp[kr]⟩
 |cons d l m=>
  intro a x h j;obtain⟨h1,n⟩:=h d ky;have q:(IX a)<sizeLine:=by simp at j;lia
  rw[kr,Jz];simp;rw[h1]
  cases k:p d
  .obtain⟨b,e⟩:=m a (Y (d,U)) (λc i=>h c<|kO _ i) (by simp at j ⊢;lia);exact⟨b,by simp[e,k]⟩
  obtain⟨o,hd⟩:=n k;obtain⟨b,e⟩:=m (a++[g d]) (Y (d,U)) (λc i=>h c<|kO _ i) (by simp at j ⊢;lia);refine⟨b,?_⟩;simp;rw[hd];simp;rw[iQ q];simp;rw[e];simp[k]
def Bk{caps:jP}{fi:B0}{f:F}{ti:FT}{δ δ1:Dn}{l args:List D}(g:D->D)(p:D->Bool)(h1:fi δ=Y (l,δ1))(a:jM δ1 (caps.map .slot)=Y (args.map λd=>(d,U)))(b:(IX args)=IX caps)
  (h:∀d∈l,ti (AL args++[Y (d,U)])=Y (p d,AL args++[Y (d,U)])/\(p d=J->∃o,f (AL args++[Y (d,U)])=Y ((g d,o),AL args++[Y (d,U)])))(c:(IX l)<=10000):
  jv caps 1 fi (iD<|IX caps) ti (jN f) δ=Y ((.lst<|(l.filter p).map g,J),δ1):=by
 obtain⟨i,e⟩:=XH (f:=f) (ti:=ti) (g:=g) (p:=p) (pre:=AL args) l [] I h (by rw[kD];simp;lia);unfold jv;rw[h1];simp only[jH];rw[a];simp only[jH,rq,nr,jY,Cf];rw[show iD (IX caps)=iD (AL args).length from by rw[jU,b]];rw[show((args.map<|Y∘λd=>(d,U))++ao 1 I:Dn)=AL args++[I]from C,e];simp
def Bj{caps:jP}{fi:B0}{f:F}{δ δ1:Dn}{l args:List D}(g:D->D)(h1:fi δ=Y (l,δ1))(a:jM δ1 (caps.map .slot)=Y (args.map λd=>(d,U)))(b:(IX args)=IX caps)
  (h:∀d∈l,∃o,f (AL args++[Y (d,U)])=Y ((g d,o),AL args++[Y (d,U)]))(c:(IX l)<=10000):
  jv caps 1 fi (iD<|IX caps) jD (jN f) δ=Y ((.lst<|l.map g,J),δ1):=by
 rw[Bk g (λ_=>J) h1 a b (λd hd=>⟨rfl,λ_=>h d hd⟩) c,Vh.mpr λ_ _=>rfl]
def rF{caps:jP}{fi:B0}{f:F}{δ δ1:Dn}{l args:List D}(p:D->Bool)(h1:fi δ=Y (l,δ1))(a:jM δ1 (caps.map .slot)=Y (args.map λd=>(d,U)))(b:(IX args)=IX caps)
  (h:∀d∈l,∃o,f (AL args++[Y (d,U)])=Y ((.bl<|p d,o),AL args++[Y (d,U)]))(c:(IX l)<=10000):
  jc (g1 vg) [iP<|jv caps 1 fi (iD<|IX caps) jD<|jN f] δ=Y ((.bl<|l.all p,U),δ1):=
 km (nI<|iW<|Bj (λd=>.bl (p d)) h1 a b h c) rfl (sj p l)
def Qw{caps:jP}{fi:B0}{f:F}{δ a:Dn}{l args:List D}(p:D->Bool)(h1:fi δ=Y (l,a))(b:jM a (caps.map .slot)=Y (args.map λd=>(d,U)))(c:(IX args)=IX caps)
  (h:∀d∈l,∃o,f (AL args++[Y (d,U)])=Y ((.bl<|p d,o),AL args++[Y (d,U)]))(e:(IX l)<=10000):
  jc (g1 ID) [iP<|jv caps 1 fi (iD<|IX caps) jD<|jN f] δ=Y ((.bl<|l.any p,U),a):=
 km (nI<|iW<|Bj (λd=>.bl (p d)) h1 b c h e) rfl (afN p l)
def acI{f:F}{c:B0}{g:D->D->D}{m:List D}(r:∀d y,c [Y (d,U),y]=Y (m,[Y (d,U),y])):∀(l a:List D)(x y:Sl),(∀d∈l,∀e∈m,∃o,f [Y (d,U),Y (e,U)]=Y ((g d e,o),[Y (d,U),Y (e,U)]))->IX a+(IX l)*(IX m)<=sizeLine->
  ∃v b,kr (iD 0) jD (Cb c (iD 1) jD<|jN f) l a [x,y]=Y (a++l.flatMap λd=>m.map<|g d,[v,b]):=by
 intro u
 induction u with
 |nil=>intro a x y _ _;exact⟨x,y,by simp[kr]⟩
 |cons d l t=>
  intro a x y h s;have A:(IX a)+IX m+(IX l)*(IX m)<=sizeLine:=by simp[fg]at s;omega
  obtain⟨b,j⟩:=wG f (g d) [Y (d,U)] m a y (λe q=>h d ky e q) (by omega);obtain⟨x2,w,k⟩:=t (a++m.map (g d)) (Y (d,U)) b (λi n=>h i<|kO _ n) (by simp;omega);refine⟨x2,w,?_⟩;rw[kr];rw[show iD 0 d [x,y]=Y [Y (d,U),y]from C];simp;unfold Cb;rw[r];simp;rw[show kr (iD 1) jD (jN f) m a [Y (d,U),y]=_ from j];simp only[jH];rw[show kr (iD 0) jD (λa z=>(c z).bind λp=>kr (iD 1) jD (jN f) p.1 a p.2) l (a++m.map (g d)) ([Y (d,U)]++[b])=_ from k];simp
def Xx{fi fi2:B0}{f:F}{δ δ1:Dn}{l m:List D}(g:D->D->D)(h1:fi δ=Y (l,δ1))(a:∀d y,fi2 [Y (d,U),y]=Y (m,[Y (d,U),y]))(h:∀d∈l,∀e∈m,∃o,f [Y (d,U),Y (e,U)]=Y ((g d e,o),[Y (d,U),Y (e,U)]))(b:(IX l)*(IX m)<=10000):
  jv [] 2 fi (iD 0) jD (Cb fi2 (iD 1) jD<|jN f) δ=Y ((.lst<|l.flatMap λd=>m.map<|g d,J),δ1):=by
 obtain⟨c,i,e⟩:=acI (f:=f) (g:=g) a l [] I I h (by rw[kD];simp;lia);unfold jv;rw[h1];simp only[jH,oZ,uN,jf,lu,nr,rK,cY,xY];rw[e];simp[wb]
inductive FIv(P:Dn->Prop)(x:Option Out):Prop where
 |mk (δ:Dn) (_:P δ) (_:x=Go (.nx δ))
def xE{tg:Tg}{fb:FS}(T:List D->Dn->Prop)(step:∀d ds δ,T (d::ds) δ->∃δ1 δ2,tg d δ=Y δ1/\fb δ1=Y (.nx δ2)/\T ds δ2):∀(ds:List D)(δ:Dn),T ds δ->FIv (T []) (nk tg fb ds δ):=by
 intro i
 induction i with
 |nil=>intro δ h;exact⟨δ,h,rfl⟩
 |cons d ds g=>intro δ h;obtain⟨δ1,δ2,h1,b,c⟩:=step d ds δ h;obtain⟨a,e,f⟩:=g δ2 c;refine⟨a,e,?_⟩;unfold nk;rw[h1];simp;rw[b];exact f
theorem QJ{tg:Tg}{f:F}(T:List D->List D->Dn->Prop)(step:∀d e a δ,T (d::e) a δ->∃g r o c,tg d δ=Y g/\f g=Y ((r,o),c)/\(IX a)<=10000/\T e (a++[r]) c):∀(e a:List D)(δ:Dn),T e a δ->∃i b,T [] i b/\kr tg jD (jN f) e a δ=Y (i,b)
 |[],a,δ,h=>⟨a,δ,h,rfl⟩
 |d::e,a,δ,h=>by obtain⟨g,r,o,c,h1,j,n,k⟩:=step d e a δ h;obtain⟨i,b,l,m⟩:=QJ T step e _ c k;refine⟨i,b,l,?_⟩;unfold kr;rw[h1];simp;rw[j];simp;rw[iQ<|xb n];exact m
def uz{caps:jP}{k:Nat}{fi:B0}{tg:Tg}{ti:FT}{fb:FB}{δ δ1 δ':Dn}{l acc:List D}{args:List (D×Bool)}(h1:fi δ=Y (l,δ1))(a:jM δ1 (caps.map .slot)=Y args)(b:(jf (caps.map .slot) args).Nodup)(c:kr tg ti fb l [] (args.map Y++ao k I)=Y (acc,δ')):
  jv caps k fi tg ti fb δ=Y ((.lst acc,J),wb (caps.map .slot) args (jn args δ') δ1):=by
 unfold jv;rw[h1];simp;rw[a];simp only[jH];rw[iQ b,c];rfl
noncomputable def QU:D->Bool
 |.int i=>decide (0<=i)&&decide (i<=1)
 |_=>U
def XI(d:D):pH [(d,U)]=Y ((.bl<|QU d,U),[Y (d,U)]):=by
 cases d<;>(first|rfl|simp[pH,CG,Sr,jn,yI,jf,wb,QU])
def isA(n:Nat):D->Bool
 |.tup l=>decide (IX l=n)&&l.all QU
 |_=>U
def wB(h:f δ=Y ((.bl J,o),δ1)):vh f g δ=g δ1:=by rw[N2,h];rfl
def IM(h:f δ=Y ((.bl U,o),δ1)):vh f g δ=Y ((.bl U,U),δ1):=by rw[N2,h];rfl
def afT(n:Nat)(d:D)(hd:Lw d):mV [pI n,(d,U)]=Y ((.bl<|isA n d,U),[ii n,Y (d,U)]):=by
 cases d with
 |tup l=>
  have c:=rF (caps:=[]) (fi:=jF<|jI 1) (f:=iN pH [iA 0]) (δ:=[ii n,Y (.tup l,U)]) (l:=l) (args:=[]) QU C C C (λd _=>⟨U,by simp[XI,jf,wb]⟩) (by have:=hd l C;lia)
  have e:iT BV Ce (iA 0) [ii n,Y (.tup l,U)]=Y ((.bl<|decide<|IX l=n,U),[ii n,Y (.tup l,U)]):=by simp[vb,nt]
  refine jQ (δ:=[ii n,Y (.tup l,U)]) ⟨rfl,by decide,rfl⟩<|jm<|kh<|(wB C).trans ?_;rw[isA];by_cases h:(IX l)=n
  .rw[lO h]at e ⊢;exact(wB e).trans c
  rw[lb h]at e ⊢;exact IM e
 |_=>(first|rfl|simp[mV,xD,Sr,jn,Fp,isA])
noncomputable def zk:D->List D
 |.tup l=>l
 |.lst l=>l
 |_=>[]
def EG(t:iF)(s:Int):Bool:=t.getD ((ab s).toNat-1) 0==(if s>0 then 1 else 0)
def acv(t:iF)(s:Int)(h:1<=ab s/\ab s<=IX t):AK (.tup<|t.map .int) (.int<|ab s-1)=ii (t.getD ((ab s).toNat-1) 0):=by
 have h1:0<=ab s-1:=by lia
 have b:ab s-1<((t.map D.int).length:Int):=by simp;lia
 have c:(ab s-1).toNat=(ab s).toNat-1:=by lia
 have d:(ab s).toNat-1<(IX t):=by lia
 have a:DL (t.map D.int).length (ab s-1)=Y ((ab s).toNat-1):=by unfold DL;rw[iQ h1,iQ b,c]
 rw[jU]at a;simp[AK,FN,a,d]
def Uz(t:iF)(s:Int)(h:1<=ab s/\ab s<=IX t):qa [enc t,pI s]=Y ((.bl<|EG t s,U),[eN t,ii s]):=by have:=acv t s h;unfold ab at this;by_cases a:s>0<;>simp[qa,Gf,Sr,jn,this,a,EG,ab]
def kC(t c:iF):Bool:=c.any<|EG t
def Ug(p:Int->Bool)(c:iF):(c.map D.int).any (λd=>p<|A7 d)=c.any p:=by simp[rL,A7]
def aak(n:Nat)(i:n<=5)(t c:iF)(j:(IX t)=n)(g:SI n c)(a:O1)(b:∀s,1<=ab s/\ab s<=IX t->a [enc t,pI s]=Y ((.bl<|EG t s,U),[eN t,ii s])):
  Sr 2 2 [] (iG (kL<|jc (g1 ID) [iP<|jv [0] 1 mH (iD 1) jD<|jN<|iN a [iA 0,iA 1]]) iX) [enc t,enc c]=Y ((.bl<|kC t c,U),[eN t,eN c]):=by
 have e:=Qw (caps:=[0]) (fi:=jF<|jI 1) (f:=iN a [iA 0,iA 1]) (δ:=[eN t,eN c]) (l:=c.map .int) (args:=[cD t]) (λd=>EG t<|A7 d) C C C (λd hd=>⟨U,by obtain⟨s,h,rfl⟩:=iR hd;have:=g.2.2 s h;simp[b s<|by lia,jf,wb,A7]⟩) (by have:=SI.len g;simp;lia)
 rw[Ug]at e;exact jQ ⟨rfl,by decide,rfl⟩<|jm<|kh e
def Pz{n:Nat}(b:n<=5){t c:iF}(d:(IX t)=n)(a:SI n c):lz [enc t,enc c]=Y ((.bl<|kC t c,U),[eN t,eN c]):=aak n b t c d a _ λs h=>Uz t s h
def kB(n:Nat)(a:ja)(d:D):Bool:=isA n d&&a.all (kC<|(zk d).map A7)
def Tu(h:isA n d=J):∃t:List Int,d=cD t/\(IX t)=n:=by
 cases d with
 |tup l=>
  rw[isA,lR,oW,kT]at h;refine⟨l.map A7,?_,by simp[h.1]⟩;rw[cD,jY]
  congr 1
  rw[nL (g:=id),sy];intro x a;have:=h.2 x a;cases x<;>simp[QU,A7]at this ⊢
 |_=>cases h
def Ui{n:Nat}(k:n<=5){a:ja}(hk:∀c∈a,SI n c)(j:(IX a)<=30){t:iF}(m:(IX t)=n){b:O1}(e:∀c,SI n c->b [enc t,enc c]=Y ((.bl<|kC t c,U),[eN t,eN c])){fi:B0}{δ:Dn}{i:Nat}(h:δ[i]?=Y (eN t))(h1:fi δ=Y (a.map cD,δ)):
  jc (g1 vg) [iP<|jv [i] 1 fi (iD 1) jD<|jN<|iN b [iA 0,iA 1]] δ=Y ((.bl<|a.all<|kC t,U),δ):=by
 have:=rF (caps:=[i]) (fi:=fi) (f:=iN b [iA 0,iA 1]) (δ:=δ) (l:=a.map cD) (args:=[cD t]) (λd=>kC t<|(zk d).map A7) h1 (by simp[h]) C (λd hd=>⟨U,by obtain⟨c,g,rfl⟩:=iR hd;simp[e c<|hk c g,jf,wb,zk,rL,A7]⟩) (by simp;lia)
 refine this.trans ?_;simp[rL,zk,A7]
def Py{n:Nat}{a:ja}(h:om n a)(d:D)(hd:Lw d):uB [(BO n a,U),(d,U)]=Y ((.bl<|kB n a d,U),[rS n a,Y (d,U)]):=by
 let δ:Dn:=[rS n a,Y (d,U),ii n,Y (.tup<|a.map cD,U)]
 have e:iN mV [iA 2,iA 1] δ=Y ((.bl<|isA n d,U),δ):=jJ (os:=[.slot 2,.slot 1]) (args:=[pI n,(d,U)]) C C lu<|afT n d hd;refine jQ (δ:=δ) ⟨rfl,by decide,rfl⟩<|(iC (δ1:=δ) C).trans<|jm<|kh ?_;rw[kB]
 cases b:isA n d with
 |false=>rw[b]at e;exact IM e
 |true=>rw[b]at e;refine(wB e).trans ?_;obtain⟨t,rfl,f⟩:=Tu b;refine(Ui h.1 h.2.1.2 h.2.2.2 f (λc g=>Pz h.1 f g) (i:=1) C C).trans ?_;simp[zk,rL,A7]
noncomputable def kP:Nat->List (List Int)
 |0=>[[]]
 |n+1=>(kP n).flatMap λt=>[t++[0],t++[1]]
theorem C4:∀n:Nat,(kP n).length=2^n
 |0=>rfl
 |n+1=>by
  rw[kP,List.length_flatMap,vn,<-C4 n];generalize kP n=L
  induction L with
  |nil=>rfl
  |cons t L a=>simp at a ⊢;lia
def xR:∀{n:Nat}{t:iF},t∈kP n->IX t=n/\∀x∈t,x=0\/x=1:=by
  intro e
  induction e with
  |zero=>intro t h;simp[kP]at h;simp[h]
  |succ n d=>
    intro t h;rw[kP,vd]at h;obtain⟨u,c,h⟩:=h;obtain⟨h1,b⟩:=d c;simp at h
    rcases h with rfl|rfl<;>
      (refine⟨by simp[h1],λx a=>?_⟩
       rcases pk.mp a with a|a
       · exact b x a
       · simp at a;simp[a])
def Jh{n:Nat}(a:n<=5):(kP n).length<=32:=by rw[C4];exact yd (n:=2) (by decide) a
noncomputable abbrev Ua:List D:=[.int 0,.int 1]
def Rb(d e:D):D:=.tup (zk d++[e])
def Ra(L:ja):(L.map cD).flatMap (λd=>Ua.map<|Rb d)=(L.flatMap λt=>[t++[0],t++[1]]).map cD:=by simp[List.flatMap_map,List.map_flatMap,Rb,zk,cD]
def Um(t:iF)(a:(IX t)<=100)(e:D):iT nV (iA 0) M4 [Y (cD t,U),Y (e,U)]=Y ((Rb (cD t) e,U),[Y (cD t,U),Y (e,U)]):=by
 have:=kD;have h:(IX t)<=16777215:=by lia
 simp[jI,this,nV,Rb,zk,h]
def af7(δ:Dn):jF Nc δ=Y (Ua,δ):=by kernel_rfl
abbrev fbA:FS:=zC4
def adW{n:Nat}(k:n<=5):oi [pI n]=Y ((.lst<|(kP n).map cD,J),[ii n]):=by
 let z:Sl:=ii n
 obtain⟨i,⟨j,x,a,rfl⟩,e⟩:=xE (tg:=iD 2) (fb:=fbA) (λb δ=>∃j x,j+IX b=n/\δ=[z,Y (.lst<|(kP j).map cD,J),x]) (λd b δ g=>by
  obtain⟨j,x,a,e⟩:=g;subst e
  have c:=Xx (fi:=jF<|jI 1) (fi2:=jF Nc) (f:=iT nV (iA 0) M4) (δ:=[z,Y (.lst<|(kP j).map cD,J),Y (d,U)]) (δ1:=[z,Y (.lst<|(kP j).map cD,U),Y (d,U)]) (l:=(kP j).map cD) (m:=Ua) Rb C (λd y=>af7 _) (λd hd e _=>by obtain⟨t,h,rfl⟩:=iR hd;exact⟨U,Um t (by have:=(xR h).1;simp at a;lia) e⟩) (by have:=Jh (n:=j) (by lia);simp;lia)
  rw[Ra]at c;exact⟨_,_,rfl,(iC<|jK c (show 1<3 by decide)).trans C,j+1,_,by simp at a;lia,rfl⟩) (jo 0 n) [z,Y (.lst<|(kP 0).map cD,J),I] ⟨0,I,by simp[jo],rfl⟩
 have:j=n:=by simpa using a
 subst this;exact jQ (δ:=[z,I,x]) ⟨rfl,by decide,rfl⟩<|(iC (δ1:=[z,Y (.lst<|(kP 0).map cD,J),I]) C).trans<|(iC<|(lE<|uP (o:=.slot 0) C C<|by lia).trans e).trans<|jm C
def kf(n:Nat)(a:ja):List (List Int):=(kP n).filter λt=>a.all<|kC t
def Tv{n:Nat}{t:iF}(h:t∈kP n):isA n (cD t)=J:=by obtain⟨h1,a⟩:=xR h;simp only[isA,jU,h1,decide_true,de,dS,kT,cy];intro x b;rcases a x b with rfl|rfl<;>rfl
def WZ{n:Nat}{a:ja}{t:iF}(h:t∈kP n):kB n a (cD t)=a.all (kC t):=by rw[kB,Tv h];simp[zk,rL,A7]
def UQ{t:iF}(h:(IX t)<=60):Lw (cD t):=λl e=>by cases e;simpa using h
def yR(p:D->Bool)(L:ja):((L.map cD).filter p).map (λd=>d)=(L.filter λt=>p<|cD t).map cD:=by rw[rc,GB];rfl
def si{n:Nat}{a:ja}(h:om n a):lN [(BO n a,U)]=Y ((.lst<|(kf n a).map cD,J),[rS n a]):=by
 have h1:jF Vq [rS n a]=Y ((kP n).map cD,[rS n a]):=
  mz (jJ (os:=[.val (.int n,U)]) (args:=[pI n]) C C lu<|adW h.1)
 have c:=Bk (caps:=[0]) (fi:=jF Vq) (f:=jI 1) (ti:=fT<|iN uB [iA 0,iA 1]) (δ:=[rS n a]) (l:=(kP n).map cD) (args:=[BO n a]) (λd=>d) (kB n a) h1 C C (λd hd=>by obtain⟨t,b,rfl⟩:=iR hd;have:=(xR b).1;have e:=h.1;exact⟨kg<|jJ (os:=[.slot 0,.slot 1]) (args:=[(BO n a,U),(cD t,U)]) C C lu<|Py h _ (UQ<|by lia),λ_=>⟨U,rfl⟩⟩) (by have:=Jh h.1;simp;lia)
 rw[yR,GA λt b=>WZ b]at c;exact jQ ⟨rfl,by decide,rfl⟩<|jm<|kh c
def Uh{p:List Int->Bool}{k l:ja}(h:∀c,c∈k↔c∈l):k.all p=l.all p:=by rw[tH,kT,kT];exact⟨λa c b=>a c<|(h c).mpr b,λa c b=>a c<|(h c).mp b⟩
def aaT(x:Int)(c:iF):(c.map D.int).any (λd=>D.P1 d<|.int x)=c.contains x:=by
 induction c with
 |nil=>rfl
 |cons y c a=>rw[ku,tJ,a,List.contains_cons];simp[D.P1,vb,eq_comm]
def JV(x:Int)(c:iF):oR (.int x) (cD c)=Y (.bl (!c.contains x),U):=by
 have:inD (.int x) (cD c)=Y (c.contains x):=by show(if D.NL (c.map .int)<=50/\(D.int x).dep<=50 then Y ((c.map D.int).any λd=>D.P1 d<|.int x)else I)=_;rw[iQ ⟨by rw[uD];lia,by simp[D.dep]⟩,aaT]
 unfold oR;rw[this];rfl
def aap(c:iF)(a:ja):L4 (cD c) (.lst<|a.map cD)=Y (.bl<|decide<|c∈a,U):=by
 have h:=xj c a;unfold oR at h;unfold L4
 cases d:inD (cD c) (.lst<|a.map cD)with
 |none=>rw[d]at h;cases h
 |some b=>rw[d]at h;simp at h ⊢;cases b<;>simp at h ⊢ <;>exact h
theorem Al{a:Type}{R:a->a->Prop}:∀{l:List a},l.Pairwise R->∀p∈l.zip l.tail,R p.1 p.2
 |[],_,p,h=>by simp at h
 |[_],_,p,h=>by simp at h
 |x::y::l,c,p,h=>by
  simp only[fL]at h;obtain⟨h1,b⟩:=zP.mp c;rcases oq.mp h with rfl|h
  .exact h1 y ky
  exact Al b p h
def Vd(l:List D):PX.zM l (Y 1) I=l.tail:=by
 unfold PX.zM;rw[show(Y (1:Int))=Y ((1:Nat):Int)from C,HT.VQ,HT.UC]
 cases l with
 |nil=>rfl
 |cons x l=>rw[show min 1 (x::l).length=1 from by simp];simp
def JI(l:List D)(d:D)(hd:d=.lst l\/d=.tup l)(h:∀p∈l.zip l.tail,mC .Lt p.1 p.2=Y (.bl J,U))(x:(IX l)<=1000):ml [(d,U)]=Y ((.bl J,U),[Y (d,U)]):=by
 have t:vF (jI 0) Ao [Y (d,U)]=Y ((l.zip l.tail).map λp=>.tup [p.1,p.2],[Y (d,U)]):=by
  rcases hd with rfl|rfl
  .have:Ao [Y (.lst l,U)]=Y ((.lst l.tail,J),[Y (.lst l,U)]):=by rw[<-Vd l];rfl
   simp[vF,jI,this,rk]
  have:Ao [Y (.tup l,U)]=Y ((.tup l.tail,U),[Y (.tup l,U)]):=by rw[<-Vd l];rfl
  simp[vF,jI,this,rk]
 have j:(l.zip l.tail).length<=1000:=by rw[List.length_zip];lia
 obtain⟨a,w,⟨b,c,u,v,h1,g,i,n,rfl⟩,e⟩:=QJ (tg:=wX [iD 0,iD 1]) (f:=iT (mC .Lt) (iA 0)<|iA 1) (λm a δ=>∃(b:List (D×D))(c:List D)(u v:Sl),m=b.map (λp=>.tup [p.1,p.2])/\(∀p∈b,mC .Lt p.1 p.2=Y (.bl J,U))/\a=c.map (λ_=>.bl J)/\(IX a)+IX b<=1000/\δ=[u,v]) (λd m a δ r=>by
  obtain⟨b,c,u,v,h1,g,i,n,o⟩:=r;subst o
  cases b with
  |nil=>cases h1
  |cons p b=>obtain⟨rfl,rfl⟩:=vP h1;exact⟨[Y (p.1,U),Y (p.2,U)],.bl J,U,[Y (p.1,U),Y (p.2,U)],rfl,jW (o1:=.slot 0) (o2:=.slot 1) C C C C<|g p ky,by lia,b,c++[.VP],_,_,rfl,λq s=>g q<|kO _ s,by simp[i],by simp at n ⊢;lia,rfl⟩) ((l.zip l.tail).map λp=>.tup [p.1,p.2]) [] [I,I] ⟨l.zip l.tail,[],I,I,rfl,h,rfl,by simpa using j,rfl⟩
 refine jQ (δ:=[Y (d,U)]) ⟨rfl,by decide,rfl⟩<|jm<|kh<|km (nI<|iW<|uz (caps:=[]) (k:=2) (args:=[]) t C lu e) C ?_;subst i;refine(sj (λ_=>J) c).trans ?_;simp
def W6{n:Nat}(u:n<=5){c:iF}(h:SI n c):jL [pI n,enc c]=Y ((.bl J,U),[ii n,eN c]):=by
 have t:=SI.len h;have h1:1<=(IX c):=M1.mpr h.1;have k:(1:Int)<=(IX c):=by lia
 have m:((IX c):Int)<=5:=by lia
 have q:Vv [ii n,eN c]=Y (U,[ii n,eN c]):=by simp[Fp,pY,ma,k,m]
 have e:=rF (caps:=[0]) (fi:=jF<|jI 1) (f:=iN lL [iA 0,iA 1]) (δ:=[ii n,eN c]) (δ1:=[ii n,eN c]) (l:=c.map .int) (args:=[.int n]) (λ_=>J) C C C (λd hd=>⟨U,by obtain⟨s,i,rfl⟩:=iR hd;have:=h.2.2 s i;refine(jJ (δ1:=[ii n,ii s]) (os:=[.slot 0,.slot 1]) (args:=[pI n,pI s]) C C lu<|DR n<|.int s).trans ?_;rw[sg,lO this.1,lO this.2];rfl⟩) (by simp;lia)
 rw[show(c.map D.int).all (λ_=>J)=J by simp]at e
 have g:=Bj (caps:=[]) (fi:=jF<|jI 1) (f:=jc (g1 AX) [iA 0]) (δ:=[ii n,eN c]) (δ1:=[ii n,eN c]) (l:=c.map .int) (args:=[]) (λd=>.int (ab<|A7 d)) C C C (λd hd=>⟨U,by obtain⟨s,i,rfl⟩:=iR hd;rfl⟩) (by simp;lia)
 rw[show(c.map D.int).map (λd=>D.int<|ab<|A7 d)=(c.map ab).map D.int by rw[jY,jY];rfl]at g
 have r:=JI ((c.map ab).map .int) (.lst<|(c.map ab).map .int) (.inl C) (λp j=>by have:=Al (R:=λa b:D=>mC .Lt a b=Y (.bl J,U)) (l:=(c.map ab).map .int) (oP.mpr<|h.2.1.imp λ{a b} o=>by rw[N0,lO o]) p j;exact this) (by simp;lia)
 refine jQ (δ:=[ii n,eN c]) ⟨rfl,by decide,rfl⟩<|(iC<|(lU q).trans C).trans<|(iC<|(lU<|mN<|kg e).trans C).trans ?_;exact jm<|kh<|jJ (δ1:=[ii n,eN c]) (args:=[(.lst<|(c.map ab).map .int,U)]) (nI<|iW g) C lu r
def WN{a b:iF}(h:A5 (cD b) (cD a)=U)(g:a≠b):mC .Lt (cD a) (cD b)=Y (.bl J,U):=by
 obtain⟨r,f⟩:∃r,oN .Lt (cD a) (cD b)=Y r:=Mb.mp<|uY .Lt a b;have c:∀x:List Int,D.pr (cD x)=J:=λx=>by simp[D.pr,nv]
 have e:=uZ (cD a) (cD b) (c a) (c b) r f
 have i:A5 (cD a) (cD b)=J:=by
  rw[rp,sf]at h;rw[Il]
  cases d:cT (cD a) (cD b)with
  |lt=>rfl
  |gt=>rw[d]at h;exact absurd C h
  |eq=>have:=qg _ _ (c a) (c b) d;exact absurd (by simpa[ni]using mG Fb this) g
 unfold mC;rw[iQ ⟨by rw[qe];lia,by rw[qe];lia⟩,f,e,i];rfl
def W5{n:Nat}{e:ja}(h:om n e):pB [(BO n e,U)]=Y ((.bl J,U),[rS n e]):=by
 have p:=h.1;have t:=h.2.2.2;have q:(e.map cD).Pairwise λa b=>mC .Lt a b=Y (.bl J,U):=oP.mpr<|(tf h.2.2.1 h.2.1.1).imp λ{a b} i=>WN i.1 i.2;have r:=JI (e.map cD) (.tup<|e.map cD) (.inr C) (Al q) (by simp;lia)
 have g:=rF (caps:=[0]) (fi:=jF<|jI 1) (f:=iN jL [iA 0,iA 1]) (δ:=[ii n,Y (.tup<|e.map cD,U)]) (δ1:=[ii n,Y (.tup<|e.map cD,U)]) (l:=e.map cD) (args:=[.int n]) (λ_=>J) C C C (λd hd=>⟨U,by obtain⟨c,m,rfl⟩:=iR hd;exact jJ (δ1:=[ii n,eN c]) (os:=[.slot 0,.slot 1]) (args:=[pI n,enc c]) C C lu<|W6 p<|h.2.1.2 c m⟩) (by simp;lia)
 rw[show(e.map cD).all (λ_=>J)=J by simp]at g
 have s:Y0 [ii n,Y (.tup<|e.map cD,U)]=Y (U,[ii n,Y (.tup<|e.map cD,U)]):=
  (Eu (δ1:=[ii n,Y (.tup<|e.map cD,U)]) C).trans (kg (o:=U)<|jW (o1:=.val (.int (e.map cD).length,U)) (o2:=.val (.int 30,U)) C C C C<|by rw[Fx,lb<|by simp;lia])
 have are:og [pI n,(.tup<|e.map cD,U)]=Y ((.bl J,U),[ii n,Y (.tup<|e.map cD,U)]):=
  jQ (δ:=[ii n,Y (.tup<|e.map cD,U)]) ⟨rfl,by decide,rfl⟩ ((iC<|(lU s).trans C).trans<|jm<|kh<|(wB g).trans<|jJ (δ1:=[ii n,Y (.tup<|e.map cD,U)]) (os:=[.slot 1]) (args:=[(.tup<|e.map cD,U)]) C C lu r)
 let R:Sl:=rS n e
 let δ:Dn:=[R,ii n,Y (.tup<|e.map cD,U)]
 have k:mQ [(BO n e,U)]=Y ((.bl J,U),[R]):=by kernel_rfl
 have j:kN [pI n,pI 0,pI 5]=Y ((.bl J,U),[ii n,ii 0,ii 5]):=by rw[yI];simp;lia
 refine jQ (δ:=δ) ⟨rfl,by decide,rfl⟩<|(iC<|(lU (δ1:=[R,I,I])<|mN (b:=J)<|kg (o:=U)<|jJ (δ1:=[R,I,I]) (os:=[.slot 0]) (args:=[(BO n e,U)]) C C lu k).trans C).trans<|(iC (δ1:=δ) C).trans<|jm<|kh<|(wB (o:=U) (δ1:=δ) ?_).trans ?_
 .exact jJ (δ1:=δ) (os:=[.slot 1,.val (.int 0,U),.val (.int 5,U)]) (args:=[pI n,pI 0,pI 5]) C C lu j
 exact jJ (δ1:=δ) (os:=[.slot 1,.slot 2]) (args:=[pI n,(.tup<|e.map cD,U)]) C C lu are
def P7{d:D}(h:d.dep<=50):BV d d=Y (.bl J,U):=by unfold BV;rw[iQ ⟨h,h⟩,D.B7]
def Qp(n:Nat)(a:ja):(BO n a).dep<=50:=by have:=zL a;simp only[D.dep,D.NL];lia
def VI{n:Nat}{k l:ja}(h1:om n k)(d:om n l)(h:∀c,c∈k↔c∈l):k=l:=by
 have i:k.Perm l:=(Mj h1.2.1.1 d.2.1.1).mpr h;refine i.eq_of_pairwise (le:=λa b=>A5 (cD b) (cD a)=U) (λa b _ _ x y=>?_) h1.2.2.1 d.2.2.1;rw[rp]at x y;have g:∀x:List Int,D.pr (cD x)=J:=λx=>by simp[D.pr,nv]
 have e:cT (cD a) (cD b)=.eq:=by
  rw[sf]at x
  cases f:cT (cD a) (cD b)with
  |lt=>exact absurd f y
  |gt=>rw[f]at x;exact absurd C x
  |eq=>rfl
 have:=qg _ _ (g a) (g b) e;simpa[ni]using mG Fb this
def TT(n:Nat)(t:iF):Prop:=(t.map ab).Perm<|st n
def SG(n:Nat)(s:Int):Prop:=1<=ab s/\ab s<=n
def Bh(t u:iF):List Int:=t.map<|led u
def TT.len{n:Nat}{t:iF}(h:TT n t):(IX t)=n:=by simpa using(HW.mp h).1
def TT.sg{n:Nat}{t:iF}(h:TT n t){x:Int}(a:x∈t):SG n x:=(HW.mp h).2.1 _ (qJ a)
def TT.tok{n:Nat}{t:iF}(h:TT n t):HK n t:=⟨h.len,λx a=>h.sg a⟩
def UB{n:Nat}{s:Int}(h:SG n s):s≠0:=by rintro rfl;have:=h.1;simp[ab]at this
def VO{n:Nat}{s:Int}(h:SG n s):SG n (-s):=by unfold SG;rw[oA];exact h
def mJ{n:Nat}{s:Int}(h:SG n s):∃k:Nat,k<n/\(s=(k:Int)+1\/s= -((k:Int)+1)):=by
 have:=h;unfold SG ab at this;split at this
 .exact⟨(-s-1).toNat,by omega,.inr<|by omega⟩
 exact⟨(s-1).toNat,by omega,.inl<|by omega⟩
def JH{n k:Nat}(h:k<n):SG n ((k:Int)+1):=by unfold SG;rw[qj<|by lia];lia
def lF(t:iF)(k:Nat):led t ((k:Int)+1)=t.getD k 0:=by unfold led;rw[iQ<|by lia,show((k:Int)+1-1).toNat=k by lia]
def mv(t:iF)(k:Nat):led t (-((k:Int)+1))= -t.getD k 0:=by unfold led;rw[je<|by lia,show(- -((k:Int)+1)-1).toNat=k by lia]
def xm{n:Nat}(t:iF){s:Int}(h:SG n s):led t (-s)= -led t s:=by
 obtain⟨k,_,rfl|rfl⟩:=mJ h
 .rw[lF,mv]
 rw[gy,lF,mv,gy]
def EJ{n:Nat}{t:iF}(a:(IX t)=n){s:Int}(h:SG n s):ab (led t s)=(t.map ab).getD ((ab s).toNat-1) 0:=by
 obtain⟨k,hk,rfl|rfl⟩:=mJ h
 .rw[lF,qj (i:=(k:Int)+1)<|by lia,show(((k:Int)+1).toNat-1)=k by lia];simp[a,hk]
 rw[mv,oA,Jl<|by lia,show(((k:Int)+1).toNat-1)=k by lia];simp[a,hk]
def TT.led{n:Nat}{t:iF}(h:TT n t){s:Int}(a:SG n s):SG n (led t s):=Pl h.tok a.1 a.2
def rT{n:Nat}{t:iF}(h:TT n t)(u:iF){s:Int}(b:SG n s):PV.led (Bh t u) s=PV.led u (PV.led t s):=by
 obtain⟨k,hk,rfl|rfl⟩:=mJ b
 .rw[lF,lF];simp[Bh,h.len,hk]
 have a:t.getD k 0∈t:=mB (by rw[h.len];exact hk);rw[mv,mv,xm u<|h.sg a];simp[Bh,h.len,hk]
def TT.Bh{n:Nat}{t u:iF}(h:TT n t)(a:TT n u):TT n (Bh t u):=by
 unfold TT
 have e:(PV.Bh t u).map ab=(t.map ab).map λj=>(u.map ab).getD (j.toNat-1) 0:=by unfold PV.Bh;rw[jY,jY];refine nL λx d=>?_;exact EJ a.len<|h.sg d
 rw[e];refine(h.map _).trans (gm (Gz ?_) a);apply Ad
 .simp[st,a.len]
 intro i h1 f;have c:i<n:=by simpa[st]using h1
 have b:((1:Int)+(i:Int)).toNat-1=i:=by lia
 simp only[st,jY,kS,gZ,cy,b];simp[sA,a.len,c]
def xo{n:Nat}{t:iF}(h:TT n t){s r:Int}(g:SG n s)(f:SG n r)(e:PV.led t s=PV.led t r):s=r:=by
 have k:=(HW.mp h).2.2
 have c:∀{i j:Nat},i<n->j<n->ab (t.getD i 0)=ab (t.getD j 0)->i=j:=λ{i j} a b e=>by
  have l:=h.len
  have:=(DH (xs:=t.map ab) (i:=i) (j:=j) (h₀:=by simpa[l]using a) (h₁:=by simpa[l]using b) k).mp (by simp;simpa[sA,l,a,b]using e)
  exact this
 have d:∀{i:Nat},i<n->t.getD i 0≠0:=λ{i} a=>UB<|h.sg<|mB (by rw[h.len];exact a);obtain⟨i,a,rfl|rfl⟩:=mJ g<;>obtain⟨j,b,rfl|rfl⟩:=mJ f
 .rw[lF,lF]at e;rw[c a b<|by rw[e]]
 .rw[lF,mv]at e;have:=c a b (by rw[e,oA]);subst this;exact absurd (show t.getD i 0=0 by lia)<|d a
 .rw[lF,mv]at e;have:=c a b (by rw[<-e,oA]);subst this;exact absurd (show t.getD i 0=0 by lia)<|d a
 rw[mv,mv]at e;rw[c a b<|by rw[show t.getD i 0=t.getD j 0 by lia]]
def xq{n:Nat}{t u:iF}(h1:(IX t)=n)(a:(IX u)=n)(h:∀s,SG n s->PV.led t s=PV.led u s):t=u:=by apply Ad (by rw[h1,a]);intro i b c;have:=h _ (JH (n:=n) (k:=i)<|by lia);rw[lF,lF]at this;simpa[sA,b,c]using this
def yz(n:Nat):(st n).length=n:=by simp[st]
def Au(n:Nat):TT n (st n):=by
 have:(st n).map ab=st n:=by
  conv=>rhs;rw[<-sy (st n)]
  refine nL λx a=>?_;have:=KJ.mp a;exact qj (by lia)
 unfold TT;rw[this]
def pV{n:Nat}{s:Int}(h:SG n s):PV.led (st n) s=s:=by
 obtain⟨k,hk,rfl|rfl⟩:=mJ h
 .rw[lF];simp[st,hk];lia
 rw[mv];simp[st,hk];lia
def BK(n:Nat)(t w:iF):Prop:=IX w=n/\∀s,SG n s->PV.led w (PV.led t s)=s
def BK.tt{n:Nat}{t w:iF}(h:BK n t w)(f:TT n t):TT n w:=by
 refine(JW (st n) (w.map ab) (Uy n) (λx g=>?_)<|by simp[yz,h.1]).symm;have i:=KJ.mp g;have c:SG n x:=by unfold SG;rw[qj<|by lia];lia
 have e:=h.2 x c;have a:=f.led c;have b:ab (PV.led w<|PV.led t x)=x:=by rw[e,qj<|by lia]
 rw[EJ h.1 a]at b;rw[<-b];have d:(ab<|PV.led t x).toNat-1<(w.map ab).length:=by have:=a.2;have:=a.1;rw[jU,h.1];lia
 exact mB d
def BK.sym{n:Nat}{t w:iF}(h:BK n t w)(b:TT n t):BK n w t:=by refine⟨b.len,λs a=>?_⟩;have c:=h.tt b;exact xo c (b.led<|c.led a) a<|h.2 _ (c.led a)
def BK.LD{n:Nat}{t w:iF}(h:BK n t w)(b:TT n t):Bh t w=st n:=
 xq (n:=n) (by simp[Bh,b.len]) (yz n) λs a=>by rw[rT b w a,h.2 s a,pV a]
def BK.Bh{n:Nat}{t u d j k:iF}(c:TT n t)(h:TT n u)(h1:BK n t d)(f:BK n u j)(g:BK n (Bh t u) k):k=Bh j d:=by have i:=h1.tt c;have b:=f.tt h;refine xq (n:=n) g.1 (by simp[PV.Bh,b.len]) λs a=>?_;have e:=g.2 _ (i.led<|b.led a);rw[rT c u<|i.led<|b.led a,(h1.sym c).2 _ (b.led a),(f.sym h).2 _ a]at e;rw[e,rT b d a]
def Ff(n:Nat)(t:iF):Nat->List Int
 |0=>st n
 |k+1=>Bh (Ff n t k) t
theorem pR{n:Nat}{t:iF}(h:TT n t):∀k,TT n<|Ff n t k
 |0=>Au n
 |k+1=>(pR h k).Bh h
theorem zE{n:Nat}{t:iF}(h:TT n t)(i:Nat){s:Int}(a:SG n s):∀j,PV.led (Ff n t<|i+j) s=PV.led (Ff n t j) (PV.led (Ff n t i) s)
 |0=>by rw[show Ff n t 0=st n from C,pV<|(pR h i).led a];rfl
 |j+1=>by show PV.led (PV.Bh (Ff n t<|i+j) t) s=PV.led (PV.Bh (Ff n t j) t) _;rw[rT (pR h _) t a,rT (pR h j) t<|(pR h i).led a,zE h i a j]
theorem JM{n:Nat}{t:iF}(h:TT n t){d:Nat}{s:Int}(a:SG n s)(e:PV.led (Ff n t d) s=s):∀q,PV.led (Ff n t<|d*q) s=s
 |0=>pV a
 |q+1=>by rw[Nat.mul_succ,zE h _ a,JM h a e q,e]
def Wm{c:Type}[DecidableEq c](f:Nat->c)(m:List c):∀k:Nat,(∀i,i<=k->f i∈m)->IX m<=k->∃i j,i<j/\j<=k/\f i=f j:=λk h s=>by
 apply Mi;intro l
 have p:((au<|k+1).map f).Nodup:=by rw[fM,oP];refine(Rm (n:=k+1)).imp_of_mem λ{a b} r d q e=>l ⟨a,b,q,?_,e⟩;have:=vc.mp d;lia
 have:=uj _ m p λx o=>by obtain⟨i,g,rfl⟩:=iR o;exact h i (by have:=vc.mp g;lia)
 simp at this;lia
def ZY{n:Nat}(f:n<=5){t:iF}(h:TT n t){s:Int}(a:SG n s):∃d,1<=d/\d<=10/\PV.led (Ff n t d) s=s:=by
 obtain⟨i,j,g,c,e⟩:=Wm (λi=>PV.led (Ff n t i) s) (st n++(st n).map λx=> -x) 10 (λi _=>by
  have:=(pR h i).led a;rw[pk,rJ];obtain⟨k,hk,e|e⟩:=mJ this
  .left;rw[e];exact KJ.mpr (by lia)
  right;exact⟨(k:Int)+1,KJ.mpr<|by lia,by rw[e]⟩) (by simp[yz];lia)
 refine⟨j-i,by lia,by lia,?_⟩;have b:=zE h (j-i) a i;rw[show j-i+i=j by lia]at b;exact xo (pR h i) ((pR h _).led a) a (by rw[<-b];exact e.symm)
def Wd{n:Nat}(b:n<=5){t:iF}(h:TT n t):Ff n t 2520=st n:=by
 refine xq (n:=n) (pR h _).len (yz n) λs a=>?_;obtain⟨d,h1,c,e⟩:=ZY b h a
 have hd:d*(2520 / d)=2520:=by
  have:d=1\/d=2\/d=3\/d=4\/d=5\/d=6\/d=7\/d=8\/d=9\/d=10:=by lia
  rcases this with rfl|rfl|rfl|rfl|rfl|rfl|rfl|rfl|rfl|rfl<;>rfl
 rw[<-hd,JM h a e,pV a]
def R8{n:Nat}{t:iF}(h:TT n t):Ff n t 1=t:=
 xq (n:=n) (pR h 1).len h.len λs a=>by rw[show Ff n t 1=PV.Bh (st n) t from C,rT (Au n) t a,pV a]
def lc(t c:iF):List Int:=(nN FU<|(c.map<|led t).map D.int).map A7
def K8(t c d:iF):Prop:=d.Perm (c.map<|led t)/\(d.map ab).Pairwise (· < ·)
def F8{m:List D}{l:iF}(h:m.Perm (l.map D.int)):m=(m.map A7).map D.int/\(m.map A7).Perm l:=by
 obtain⟨k,rfl⟩:=xw h;have e:(k.map D.int).map A7=k:=by rw[jY];exact sy k
 rw[e];refine⟨rfl,?_⟩;have:=h.map A7
 rwa [e,jY,show cF (A7∘D.int) l=l from sy l]at this
def C5{n:Nat}{t c:iF}(g:TT n t)(h1:(c.map ab).Nodup)(f:∀s∈c,SG n s):((c.map<|led t).map ab).Nodup:=by
 rw[jY,fM,oP];rw[fM,oP]at h1;refine h1.imp_of_mem λ{a b} i j k e=>k ?_;have e:ab (led t a)=ab (led t b):=e;have h:=f a i;have d:=f b j;by_cases q:led t a=led t b
 .rw[xo g h d q]
 have:led t a=led t (-b):=by rw[xm t d];unfold ab at e;split at e<;>split at e<;>lia
 rw[xo g h (VO d) this,oA]
def pz{n:Nat}{t c:iF}(j:TT n t)(g:SI n c):K8 t c (lc t c)/\(nN FU<|(c.map<|led t).map D.int)=(lc t c).map D.int:=by
 obtain⟨e,i⟩:=F8<|kJ FU<|(c.map<|led t).map D.int;refine⟨⟨i,?_⟩,e⟩;have k:=C5 j (Cr g.2.1) λs d=>g.2.2 s d;have f:((lc t c).map ab).Nodup:=(i.map ab).symm.nodup k;have d:=Cn<|(c.map<|led t).map D.int;rw[e,oP]at d;rw[oP];rw[fM,oP]at f;refine(d.and f).imp λ{a b} h=>?_;have h1:ab a<=ab b:=h.1;have l:ab a≠ab b:=h.2
 lia
def K8.uniq{n:Nat}{t c d e:iF}(h1:K8 t c d)(f:K8 t c e):d=e:=by have g:=h1.2;have h:=f.2;rw[oP]at g h;refine(h1.1.trans f.1.symm).eq_of_pairwise (le:=λa b=>ab a<ab b) (λa b _ _ x y=>absurd x<|by lia) g h
def K8.cl{n:Nat}{t c d:iF}(h:K8 t c d)(f:TT n t)(a:SI n c):SI n d:=by
 refine⟨λe=>a.1 ?_,h.2,λs b=>?_⟩
 .have:=h.1.length_eq;rw[e]at this;simp at this;exact M0.mp this.symm
 obtain⟨x,g,rfl⟩:=iR<|h.1.mem_iff.mp b;exact f.led<|a.2.2 x g
def UW{n:Nat}{t c:iF}(b:TT n t)(a:SI n c):SI n (lc t c):=(pz b a).1.cl b a
def aah{n:Nat}{t u c:iF}(b:TT n t)(e:TT n u)(a:SI n c):lc u (lc t c)=lc (Bh t u) c:=by have h1:=(pz b a).1;have d:=(pz e<|UW b a).1;refine K8.uniq (n:=n) (t:=Bh t u) (c:=c) ⟨d.1.trans ?_,d.2⟩ (pz (b.Bh e) a).1;refine(h1.1.map _).trans (Gz ?_);rw[jY];exact nL λs f=>(rT b u<|a.2.2 s f).symm
def aag{n:Nat}{c:iF}(a:SI n c):lc (st n) c=c:=by
 refine K8.uniq (n:=n) (t:=st n) (c:=c) (pz (Au n) a).1 ⟨Gz ?_,a.2.1⟩
 conv=>lhs;rw[<-sy c]
 exact nL λs b=>(pV<|a.2.2 s b).symm
def LR(t:iF)(cs a:ja):Prop:=a.Perm (cs.map<|lc t)/\D4 a
def my(n:Nat)(a:iF):Prop:=IX a=n/\∀x∈a,x=0\/x=1
def Jg:∀{n:Nat}{a:iF},a∈kP n↔my n a:=λ{n a}=>by
 constructor
 .exact λh=>xR h
 intro h
 induction n generalizing a with
 |zero=>rw[M0.mp h.1];simp[kP]
 |succ n f=>
  have b:a≠[]:=λe=>by have:=h.1;rw[e]at this;simp at this
  have e:=Mk b;have c:=h.2 _ (List.getLast_mem b);have:=f (a:=a.dropLast) ⟨by rw[List.length_dropLast,h.1];rfl,λx d=>h.2 x<|List.dropLast_subset _ d⟩;simp only[kP,vd];refine⟨a.dropLast,this,?_⟩;rcases c with z|z
  .rw[z]at e;rw[e];simp
  rw[z]at e;rw[e];simp
def Ea(w a:iF):List Int:=w.map λs=>if EG a s=J then 1 else 0
def JE{n:Nat}{a:iF}(c:my n a){s:Int}(b:SG n s):EG a (-s)=!EG a s:=by
 have d:a.getD ((ab s).toNat-1) 0=0\/a.getD ((ab s).toNat-1) 0=1:=c.2 _ (mB (by have:=b.1;have:=b.2;rw[c.1];omega));have f:=UB b;unfold EG;rw[oA];by_cases h:0<s
 .rw[je<|by omega,iQ<|by omega];rcases d with e|e<;>rw[e]<;>rfl
 rw[iQ<|by omega,je<|by omega];rcases d with e|e<;>rw[e]<;>rfl
def Po{n:Nat}{w:iF}(b:TT n w)(a:iF):my n (Ea w a):=by refine⟨by simp[Ea,b.len],λx c=>?_⟩;obtain⟨s,_,rfl⟩:=iR c;split<;>simp
def NG{n:Nat}{w a:iF}(c:TT n w)(d:my n a){s:Int}(f:SG n s):EG (Ea w a) s=EG a (led w s):=by
 have b:∀k:Nat,k<n->EG (Ea w a) ((k:Int)+1)=EG a (led w<|(k:Int)+1):=λk hk=>by
  rw[lF];have e:(Ea w a).getD k 0=if EG a (w.getD k 0)=J then 1 else 0:=by simp[Ea,c.len,hk]
  conv=>lhs;unfold EG
  rw[qj<|by lia,show(((k:Int)+1).toNat-1)=k by lia,e,iQ (show(k:Int)+1>0 by lia)];cases EG a (w.getD k 0)<;>rfl
 obtain⟨k,hk,rfl|rfl⟩:=mJ f
 .exact b k hk
 have h1:=JH hk;rw[JE (Po c a) h1,b k hk,xm w h1,JE d<|c.led h1]
def Ou{l m:iF}(p:Int->Bool)(h:l.Perm m):l.any p=m.any p:=by rw[tH,KC,KC];exact⟨λ⟨x,a,e⟩=>⟨x,h.mem_iff.mp a,e⟩,λ⟨x,a,e⟩=>⟨x,h.mem_iff.mpr a,e⟩⟩
def QZ{a:Type}{l:List a}{p q:a->Bool}(h:∀x∈l,p x=q x):l.any p=l.any q:=by
 induction l with
 |nil=>rfl
 |cons x l c=>rw[tJ,tJ,h x ky,c λy b=>h y<|kO _ b]
def UZ{n:Nat}{t w a c:iF}(b:TT n t)(e:BK n t w)(f:my n a)(d:SI n c):kC (Ea w a) (lc t c)=kC a c:=by unfold kC;rw[Ou _ (pz b d).1.1,dQ];refine QZ λs g=>?_;have h:=d.2.2 s g;show EG (Ea w a) (led t s)=EG a s;rw[NG (e.tt b) f<|b.led h,e.2 s h]
def XQ{n:Nat}{t w a:iF}{d f:ja}(j:TT n t)(k:BK n t w)(g:my n a)(i:om n d)(h:LR t d f):f.all (kC<|Ea w a)=d.all (kC a):=by
 rw[Uh λc=>h.1.mem_iff,dS,tH,kT,kT];refine Gy λc=>?_;constructor
 .intro e b;rw[<-UZ j k g (i.2.1.2 c b)];exact e b
 intro e b;exact(UZ j k g<|i.2.1.2 c b).trans (e b)
def aaj{n:Nat}{b c a:iF}(h1:TT n b)(d:TT n c)(e:my n a):Ea c (Ea b a)=Ea (Bh c b) a:=by unfold Bh Ea;rw[jY];refine nL λs f=>?_;have:=NG h1 e<|d.sg f;unfold Ea at this;simp only[cy,this]
def UX{n:Nat}{a:iF}(c:my n a):Ea (st n) a=a:=by
 apply Ad (by simp[Ea,st,c.1]);intro i h1 b;have f:i<n:=by rw[<-c.1];exact b
 have d:=c.2 _ (yb b)
 have e:EG a ((i:Int)+1)=(a[i]==1):=by unfold EG;rw[qj<|by lia,show(((i:Int)+1).toNat-1)=i by lia,iQ<|by lia];simp[b]
 simp only[Ea,st,kS,gZ,tz 1 (i:Int),e];rcases d with z|z<;>rw[z]<;>rfl
def Uj:∀n:Nat,n<6->(kP n).Nodup:=by decide+kernel
def RJ(b:FO)(a:Dn)(d:D):Prop:= ∃o,b a=Y (o,a)/\res a o=Y d
def FJ(a:FO)(δ:Dn)(d:D):Prop:= ∃o,a δ=Y (o,δ)/\res δ o=Y d/\zj δ o=Y (d,U)
def FJ.r{c:FO}{δ:Dn}{d:D}(h:FJ c δ d):RJ c δ d:=let⟨o,a,b,_⟩:=h;⟨o,a,b⟩
def jV{i:Nat}{δ:Dn}{d:D}(h:δ[i]?=Y (Y (d,U))):FJ (iA i) δ d:=⟨.slot i,by unfold iA;rw[h],by unfold res;simp[h],by simp[h]⟩
def jR{i:Nat}{δ:Dn}{d:D}{b:Bool}(h:δ[i]?=Y (Y (d,b))):RJ (iA i) δ d:=⟨.slot i,by unfold iA;rw[h],by unfold res;simp[h]⟩
def jE{f:F}{δ:Dn}{d:D}{b:Bool}(h:f δ=Y ((d,b),δ)):FJ (iP f) δ d:=⟨.val (d,b),iW h,rfl,rfl⟩
def HJ{c:O1}{e:FO}{δ:Dn}{a:D}{r:D×Bool}{b:Dn}(h:c [(a,U)]=Y (r,b))(g:FJ e δ a):iN c [e] δ=Y (r,δ):=by obtain⟨o,h1,_,f⟩:=g;refine(jJ (nI h1) (args:=[a].map λd=>(d,U)) (by simp[f]) (by rw[rq];exact lu) h).trans ?_;rw[Cf]
def BJ{c:O1}{fa fb:FO}{δ:Dn}{a b:D}{r:D×Bool}{outs:Dn}(h:c [(a,U),(b,U)]=Y (r,outs))(f:FJ fa δ a)(g:FJ fb δ b):iN c [fa,fb] δ=Y (r,δ):=by obtain⟨o,h1,_,e⟩:=f;obtain⟨k,i,_,j⟩:=g;refine(jJ (oS h1 i) (args:=[a,b].map λd=>(d,U)) (by simp[e,j]) (by rw[rq];exact lu) h).trans ?_;rw[Cf]
def jO{g:D->D->Option (D×Bool)}{fa fb:FO}{δ:Dn}{a b:D}{r:D×Bool}(h:g a b=Y r)(d:RJ fa δ a)(e:RJ fb δ b):iT g fa fb δ=Y (r,δ):=by obtain⟨o,h1,c⟩:=d;obtain⟨j,f,i⟩:=e;exact jW h1 f c i h
def jC{g:D->Option (D×Bool)}{b:FO}{δ:Dn}{a:D}{r:D×Bool}(h:g a=Y r)(d:RJ b δ a):jc (g1 g) [b] δ=Y (r,δ):=by obtain⟨o,h1,c⟩:=d;exact km (ds:=[a]) (nI h1) (by simp[c]) h
def zm{f:F}{np:Nat}{args:List (D×Bool)}{r:D×Bool}{δ:Dn}(h1:(IX args)=np/\np<=np/\(args.zipIdx.all λp=>!(p.1.2&&([]:List Nat).contains p.2))=J)(a:f (args.map Y++ao (np-np) I)=Y (r,δ)):Sr np np [] (iG (kL f) iX) args=Y (r,jn args δ):=
 jQ h1 (jm<|kh a)
def ZG{n:Nat}{s:Int}(h:SG n s):s≠0/\ -(n:Int)<=s/\s<=n:=by obtain⟨k,hk,rfl|rfl⟩:=mJ h<;>lia
def aae{n:Nat}{u:iF}(d:(IX u)=n){s:Int}(h:SG n s):nO [enc u,pI s]=Y ((.int<|led u s,U),[eN u,ii s]):=by obtain⟨a,b,c⟩:=ZG h;exact WU u s a (by rw[d];exact b) (by rw[d];exact c)
def Pf(f:Int->Int)(l:iF):(l.map D.int).map (λd=>D.int<|f<|A7 d)=(l.map f).map D.int:=by rw[jY,jY];rfl
def yU{a:jP}{fi:B0}{f:F}{δ b:Dn}{l:iF}{args:List D}(g:Int->Int)(h1:fi δ=Y (l.map D.int,b))(c:jM b (a.map .slot)=Y (args.map λd=>(d,U)))(e:(IX args)=IX a)
  (h:∀x∈l,∃o,f (AL args++[ii x])=Y ((.int<|g x,o),AL args++[ii x]))(i:(IX l)<=10000):
  jv a 1 fi (iD<|IX a) jD (jN f) δ=Y ((.lst<|(l.map g).map D.int,J),b):=by
 rw[Bj (λd=>.int (g<|A7 d)) h1 c e (λd hd=>by obtain⟨x,j,rfl⟩:=iR hd;exact h x j)<|by simpa using i,Pf]
def VU(n:Nat)(b:n<=5):Je .tup U [.int 1,.int<|(n:Int)+1]=Y (.tup<|(st n).map .int,U):=by
 have:n=0\/n=1\/n=2\/n=3\/n=4\/n=5:=by lia
 have h1:BR 1 ((n:Int)+1):=by rcases this with rfl|rfl|rfl|rfl|rfl|rfl<;>decide+kernel
 have a:((n:Int)+1-1).toNat=n:=by lia
 show(if BR 1 ((n:Int)+1)then Y (D.tup<|jo 1 ((n:Int)+1-1).toNat,U)else I)=_;rw[iQ h1,a,<-Nz]
def Nx{n:Nat}(a:n<=5):xH [pI n]=Y (enc<|st n,[ii n]):=
 zm ⟨rfl,by decide,rfl⟩ (km (os:=[.val (.int 1,U),.val (.int<|(n:Int)+1,U)]) C C<|VU n a)
def aeC{n:Nat}(b:n<=5){t:iF}(a:TT n t):ke [pI n,enc t]=Y ((.bl J,U),[ii n,eN t]):=by
 have h:tB n (cD t)=J:=by rw[Nw];simp only[lB,lR,kT,oW,jY];refine⟨λd hd=>?_,a⟩;obtain⟨x,_,rfl⟩:=iR hd;rfl
 rw[uf n (cD t) (λl e=>by cases e;rw[jU,a.len];lia),h]
def Gp{n:Nat}(a:n<=5){t:iF}(b:TT n t):kU [pI n,enc t]=Y ((.VP,U),[ii n,eN t]):=by
 have:AH Yt Cd iX [ii n,eN t]=Y (.nx [ii n,eN t]):=
  (lU<|mN<|kg<|BJ (aeC a b) (jV C)<|jV C).trans rfl
 have e:oy [ii n,eN t]=Y (.nx [ii n,eN t]):=(iC this).trans C;simp only[kU,Sr];rw[iQ ⟨rfl,by decide,rfl⟩];show(match oy [ii n,Y<|enc t]with|some (.rt r δ)=>Y (r,jn _ δ)|some (.nx δ)=>Y ((D.VP,U),jn _ δ)|_=>I)=_;rw[e];rfl
noncomputable def KH(t:iF)(j:Nat):Int:=if t.getD j 0>0 then(j:Int)+1 else -((j:Int)+1)
def LX(n:Nat)(t:iF)(k:Nat)(w:iF):Prop:=IX w=n/\∀j,j<k->w.getD ((ab<|t.getD j 0).toNat-1) 0=KH t j
def W3{n:Nat}{t w:iF}(a:TT n t)(h:LX n t n w):BK n t w:=by
 refine⟨h.1,λs g=>?_⟩
 have one:∀j,j<n->led w (t.getD j 0)=(j:Int)+1:=λj b=>by
  have c:=a.sg<|mB (l:=t) (k:=j) (by rw[a.len];exact b);have e:=h.2 j b;unfold KH at e;unfold led;unfold SG at c;by_cases d:t.getD j 0>0
  .rw[iQ d]at e ⊢;rw[qj<|by lia]at e;rw[show(t.getD j 0-1).toNat=(t.getD j 0).toNat-1 by lia,e]
  have f:ab (t.getD j 0)= -t.getD j 0:=by unfold ab;split<;>lia
  rw[je d]at e ⊢;rw[f]at e c;rw[show(-t.getD j 0-1).toNat=(-t.getD j 0).toNat-1 by lia,e]
  lia
 obtain⟨k,hk,rfl|rfl⟩:=mJ g
 .rw[lF];exact one k hk
 rw[xm t<|JH hk,xm w<|a.led<|JH hk,lF,one k hk]
def PC{n:Nat}{t w:iF}(a:TT n t){k:Nat}(hk:k<n)(h:LX n t k w):LX n t (k+1) (w.set ((ab<|t.getD k 0).toNat-1)<|KH t k):=by
 have b:∀j,j<n->1<=ab (t.getD j 0)/\ab (t.getD j 0)<=n:=λj c=>a.sg<|mB (l:=t) (k:=j) (by rw[a.len];exact c);refine⟨by simp[h.1],λj c=>?_⟩;have d:=b k hk;have f:=b j (by lia);by_cases e:j=k
 .subst e;rw[sA,tx<|by rw[h.1];lia];rfl
 have ne:ab (t.getD j 0)≠ab (t.getD k 0):=λq=>e (by
  have l:=a.len
  have:=(DH (xs:=t.map ab) (i:=j) (j:=k) (h₀:=by simp[l];lia) (h₁:=by simp[l];lia) (HW.mp a).2.2).mp (by simp;simpa[sA,l,hk,show j<n by lia]using q)
  exact this)
 rw[sA,nu<|by lia,<-sA];exact h.2 j (by lia)
abbrev fbB:FS:=zC6
def Xn{n:Nat}{t w:iF}(c:TT n t){k:Nat}(hk:k<n)(f:(IX w)=n):fbB [eN t,K2 w,ii<|(k:Int)+1,ii<|t.getD k 0]=Y (.nx [eN t,K2<|w.set ((ab<|t.getD k 0).toNat-1)<|KH t k,ii<|(k:Int)+1,ii<|t.getD k 0]):=by
 have b:=c.sg<|mB (l:=t) (k:=k) (by rw[c.len];exact hk)
 have d:Ig (fT Yi) (jI 2) (qy yM<|iA 2) [eN t,K2 w,ii<|(k:Int)+1,ii<|t.getD k 0]=Y ((.int<|KH t k,U),[eN t,K2 w,ii<|(k:Int)+1,ii<|t.getD k 0]):=by
  rw[UG,kg (o:=U)<|jO (Fx _ _) (jV C).r (jE C).r];simp only[jH];unfold KH;by_cases a:t.getD k 0>0
  .rw[iQ<|by simpa using a,iQ a];rfl
  rw[je<|by simpa using a,je a];rfl
 have e:iP YA [eN t,K2 w,ii<|(k:Int)+1,ii<|t.getD k 0]=Y (.val (.int<|ab (t.getD k 0)-1,U),[eN t,K2 w,ii<|(k:Int)+1,ii<|t.getD k 0]):=rfl
 have g:DL (w.map D.int).length (ab (t.getD k 0)-1)=Y ((ab<|t.getD k 0).toNat-1):=by
  have:=b.1;have:=b.2;unfold DL;rw[jU,f,iQ<|by lia,iQ<|by lia]
  congr 1;lia
 refine(iC (δ1:=[eN t,K2<|w.set ((ab<|t.getD k 0).toNat-1)<|KH t k,ii<|(k:Int)+1,ii<|t.getD k 0]) ?_).trans rfl;unfold wc;rw[d];simp only[jH,zT];rw[e];simp only[jH,DU,yc,zT];rw[g];simp
def acF{n:Nat}{t:iF}(f:TT n t):∀(m k:Nat)(w:iF)(x y:Sl),k+m=n->LX n t k w->∃b c d,LX n t n b/\nk Jq fbB ((bM k m).map λ(j:Nat)=>.tup [.int<|(j:Int)+1,.int<|t.getD j 0]) [eN t,K2 w,x,y]=Y (.nx [eN t,K2 b,c,d]):=by
 intro i
 induction i with
 |zero=>intro k w x y h a;exact⟨w,x,y,by rw[show k=n by lia]at a;exact a,rfl⟩
 |succ m g=>intro k w x y h a;obtain⟨b,c,d,h1,e⟩:=g (k+1) _ (ii<|(k:Int)+1) (ii<|t.getD k 0) (by lia) (PC f (by lia) a);refine⟨b,c,d,h1,?_⟩;rw[zZ,ku];unfold nk;rw[show Jq (.tup [.int<|(k:Int)+1,.int<|t.getD k 0]) [eN t,K2 w,x,y]=Y [eN t,K2 w,ii<|(k:Int)+1,ii<|t.getD k 0]from C];simp only[jH];rw[Xn f (by lia) a.1];exact e
def Xs(t:iF):(((t.map D.int).zipIdx).map λq=>D.tup [.int (1+q.2),q.1])=(bM 0<|IX t).map λ(j:Nat)=>.tup [.int<|(j:Int)+1,.int<|t.getD j 0]:=by
 apply Ad
 .simp
 intro i h1 b;have a:i<(IX t):=by simpa using h1
 simp[a,tz]
def Uc{n:Nat}{t:iF}(b:TT n t):∃w,BK n t w/\uU [enc t]=Y (enc w,[eN t]):=by
 obtain⟨w,x,y,h,e⟩:=acF b n 0 t I I (by lia) ⟨b.len,λj c=>absurd c<|by lia⟩;refine⟨w,W3 b h,?_⟩;refine jQ (δ:=[eN t,K2 w,x,y]) ⟨rfl,by decide,rfl⟩ ?_;refine(iC (δ1:=[eN t,K2 t,I,I]) C).trans ((iC<|(lE (δ1:=[eN t,K2 t,I,I]) (ds:=(bM 0 n).map λ(j:Nat)=>.tup [.int<|(j:Int)+1,.int<|t.getD j 0]) ?_).trans e).trans ?_)
 .show Y (((t.map D.int).zipIdx).map λq=>D.tup [.int (1+q.2),q.1],([eN t,K2 t,I,I]:Dn))=_;rw[Xs,b.len]
 exact jm (kh<|jC (a:=.lst (w.map D.int)) C<|jR C)
def BK.uniq{n:Nat}{t w v:iF}(c:TT n t)(h1:BK n t w)(a:BK n t v):w=v:=
 xq h1.1 a.1 λs b=>by have e:=(h1.sym c).2 s b;have:=a.2 _ ((h1.tt c).led b);rw[e]at this;exact this.symm
def Ud{n:Nat}{t w:iF}(a:TT n t)(b:BK n t w):uU [enc t]=Y (enc w,[eN t]):=by obtain⟨v,h1,e⟩:=Uc a;rw[b.uniq a h1];exact e
def Xb(a b:iF):BV (cD a) (cD b)=Y (.bl<|decide<|a=b,U):=by unfold BV;rw[iQ<|by rw[qe,qe];decide,IT]
def aac{n:Nat}{t:iF}(h:(IX t)=n):ur (cD t)=ii n:=by rw[DV,jU,h]
def ND{n:Nat}{t c:iF}(h:n<=5)(b:TT n t)(a:SI n c):wu (.lst<|(c.map<|led t).map D.int)=Y (.lst<|(lc t c).map D.int,J):=by
 have:=a.len;show(if((c.map<|led t).map D.int).all KR=J/\(((c.map<|led t).map D.int).map aD).Nodup/\((c.map<|led t).map D.int).length<64 then Y (D.lst<|nN FU<|(c.map<|led t).map D.int,J)else I)=_
 have e:((c.map<|led t).map D.int).all KR=J:=by rw[kT];intro d hd;obtain⟨x,_,rfl⟩:=iR hd;rfl
 have f:(((c.map<|led t).map D.int).map aD).Nodup:=by rw[jY];exact C5 b (Cr a.2.1) λs g=>a.2.2 s g
 rw[iQ ⟨e,f,by simp;lia⟩,(pz b a).2]
def Th{n:Nat}(f:n<=5){t c:iF}(e:TT n t)(d:SI n c):lJ [enc c,enc t]=Y (enc<|lc t c,[eN c,eN t]):=by have:=d.len;refine zm ⟨rfl,by decide,rfl⟩<|jC (a:=.lst ((lc t c).map D.int)) C (jE (b:=J)<|jC (ND f e d) (jE (b:=J)<|yU (args:=[cD t]) (led t) C C C (λx g=>⟨U,?_⟩)<|by lia).r).r;exact BJ (aae e.len<|d.2.2 x g) (jV C)<|jV C
def T4{a:jP}{b:B0}{f:F}{δ δ1:Dn}{l:ja}{args:List D}(g:List Int->List Int)(h1:b δ=Y (l.map cD,δ1))(c:jM δ1 (a.map .slot)=Y (args.map λd=>(d,U)))(e:(IX args)=IX a)
  (h:∀x∈l,∃o,f (AL args++[Y (cD x,U)])=Y ((cD<|g x,o),AL args++[Y (cD x,U)]))(i:(IX l)<=10000):
  jv a 1 b (iD<|IX a) jD (jN f) δ=Y ((.lst<|(l.map g).map cD,J),δ1):=by
 rw[Bj (λd=>cD<|g<|Fb d) h1 c e (λd hd=>by obtain⟨x,j,rfl⟩:=iR hd;rw[ni];exact h x j)<|by simpa using i];rw[jY,jY,nL (g:=cD∘g) λx _=>by simp only[cy,ni]]
def RH{cs:ja}(h:nF (cs.map cD)=J)(b:(IX cs)<=10000):∃a:List (List Int),a.Perm cs/\D4 a/\kM (cs.map cD)=Y (.lst<|a.map cD,J):=by
 obtain⟨a,e,c⟩:=wC<|kJ A5<|cs.map cD;refine⟨a,c,?_,?_⟩
 .have:=ot<|cs.map cD;rw[e,oP]at this;exact this
 unfold kM;rw[iQ ⟨h,by rw[jU];exact JG b⟩,e]
def aaD{f g:F}{δ:Dn}{a b:D×Bool}(h1:f δ=Y (a,δ))(c:g δ=Y (b,δ)):nX [f,g] δ=Y ((.tup [a.1,b.1],U),δ):=by
 rw[HR,show[f,g].map iP=[iP f,iP g]from C,oS (iW h1)<|iW c]
 kernel_rfl
def UT{n:Nat}{t:iF}{cs:ja}(g:TT n t)(f:om n cs):∃d,LR t cs d/\Ew [(BO n cs,U),enc t]=Y ((BO n d,U),[rS n cs,eN t]):=by
 have i:=f.1;have j:=f.2.2.2
 obtain⟨d,m,o,e⟩:=RH (cs:=cs.map<|lc t) (yA _ λc k=>by obtain⟨x,h,rfl⟩:=iR k;exact(UW g<|f.2.1.2 x h).1) (by simp;lia)
 refine⟨d,⟨m,o⟩,?_⟩;refine jQ (δ:=[rS n cs,eN t,ii n,Y (.tup<|cs.map cD,U)]) ⟨rfl,by decide,rfl⟩ ?_;refine(iC (δ1:=[rS n cs,eN t,ii n,Y (.tup<|cs.map cD,U)]) C).trans ?_;refine(iC<|oJ<|BJ (Gp i g) (jV C)<|jV C).trans (jm<|kh<|aaD (a:=(.int n,U)) (b:=(.tup<|d.map cD,U)) C<|jC (a:=.lst (d.map cD)) C (jE (b:=J)<|jC e (jE (b:=J)<|T4 (l:=cs) (args:=[cD t]) (lc t) C C C (λx h=>⟨U,?_⟩)<|by lia).r).r);exact BJ (Th i g<|f.2.1.2 x h) (jV C)<|jV C
def Ef{n:Nat}(g:n<=5){t w a:iF}(c:TT n t)(e:BK n t w)(d:my n a):lr [enc a,enc t]=Y (enc<|Ea w a,[eN a,eN t]):=by
 have f:=e.tt c;refine jQ (δ:=[eN a,eN t]) ⟨rfl,by decide,rfl⟩ ?_;refine(iC<|oJ<|BJ (Gp g c) (jE<|jC (aac d.1) (jV C).r)<|jV C).trans (jm<|kh<|jC (a:=.lst ((Ea w a).map D.int)) C (jE (b:=J)<|yU (args:=[cD a]) (λs=>if EG a s=J then 1 else 0) (fi:=jF<|iN uU [iA 1]) (l:=w) ?_ C C (λx h=>⟨U,?_⟩)<|by rw[f.len];lia).r)
 .rw[RS,HJ (Ud c e)<|jV C];rfl
 rw[UG,kg<|BJ (Uz a x (by have:=f.sg h;rw[d.1];exact this)) (jV C)<|jV C];cases EG a x<;>rfl
def afs(n:Nat):jo 1 n=(bM 1 n).map λ(k:Nat)=>D.int (k:Int):=by unfold jo;rw[Ml,jY];exact nL λk _=>by simp
def no{t:FT}{f:FS}{δ:Dn}(g:FS)(h:t δ=Y (U,δ)):iG (AH t f iX) g δ=g δ:=iC<|(lU h).trans C
def Fm{k l:ja}(g:k.Perm l)(h1:D4 k)(f:D4 l):k=l:=by
 refine g.eq_of_pairwise (le:=λa b=>A5 (cD b) (cD a)=U) (λa b _ _ x y=>?_) h1 f;rw[rp]at x y;have d:∀x:List Int,D.pr (cD x)=J:=λx=>by simp[D.pr,nv]
 have e:cT (cD a) (cD b)=.eq:=by
  rw[sf]at x
  cases c:cT (cD a) (cD b)with
  |lt=>exact absurd c y
  |gt=>rw[c]at x;exact absurd C x
  |eq=>rfl
 have:=qg _ _ (d a) (d b) e;simpa[ni]using mG Fb this
def Q5:∀n:Nat,n<6->(kP n).Pairwise λa b=>A5 (cD b) (cD a)=U:=by decide+kernel
def RN{tg:Tg}{f:F}{δ δ1 δ2:Dn}{r:D×Bool}(h:f δ=Y (r,δ1))(a:tg r.1 δ1=Y δ2):NM tg f δ=Y (.nx δ2):=by rw[V1,h];simp;rw[a];rfl
def WS(a:ja):ur (.tup<|a.map cD)=ii (IX a):=by rw[DV,jU]
def PT(n m:Nat)(p:iF):Prop:=IX p=m/\(∀x∈p,SG n x)/\(p.map ab).Nodup
def PT.tt{n:Nat}{t:iF}(h:PT n n t):TT n t:=HW.mpr ⟨by simp[h.1],λx a=>by obtain⟨y,b,rfl⟩:=iR a;exact h.2.1 y b,h.2.2⟩
def WM{n m:Nat}{p c:iF}(h:PT n m p)(d:SI m c):((c.map<|led p).map ab).Nodup:=by
 rw[jY];have f:=Cr d.2.1;rw[KA]at f ⊢;rw[oP]at f ⊢;refine Mh ?_ f;intro a b g i o e;simp at e;rw[EJ h.1<|d.2.2 a g,EJ h.1<|d.2.2 b i]at e;have h1:=d.2.2 a g;have l:=d.2.2 b i;have j:(ab a).toNat-1<(p.map ab).length:=by simp[h.1];lia
 have k:(ab b).toNat-1<(p.map ab).length:=by simp[h.1];lia
 simp only[sA,jZ j,jZ k]at e;have:=(DH h.2.2).mp e
 lia
def Tn(p c:iF):nN FU ((c.map<|led p).map D.int)=(lc p c).map D.int:=(F8<|kJ FU _).1
def WT{n m:Nat}(l:m<=5){p c:iF}(h:PT n m p)(e:SI m c):lJ [enc c,enc p]=Y (enc<|lc p c,[eN c,eN p]):=by
 have k:=e.len
 have i:wu (.lst<|(c.map<|led p).map D.int)=Y (.lst<|(lc p c).map D.int,J):=by
  show(if((c.map<|led p).map D.int).all KR=J/\(((c.map<|led p).map D.int).map aD).Nodup/\((c.map<|led p).map D.int).length<64 then Y (D.lst<|nN FU<|(c.map<|led p).map D.int,J)else I)=_
  have f:((c.map<|led p).map D.int).all KR=J:=by rw[kT];intro d hd;obtain⟨x,_,rfl⟩:=iR hd;rfl
  have g:(((c.map<|led p).map D.int).map aD).Nodup:=by rw[jY];exact WM h e
  rw[iQ ⟨f,g,by simp;lia⟩,Tn]
 refine zm ⟨rfl,by decide,rfl⟩<|jC (a:=.lst ((lc p c).map D.int)) C (jE (b:=J)<|jC i (jE (b:=J)<|yU (args:=[cD p]) (led p) C C C (λx j=>⟨U,?_⟩)<|by lia).r).r;exact BJ (aae h.1<|e.2.2 x j) (jV C)<|jV C
def Ti{m:Nat}{p:iF}(a:(IX p)=m)(r:iF){s:Int}(h:SG m s):led (p++r) s=led p s:=by
 obtain⟨k,hk,rfl|rfl⟩:=mJ h
 .rw[lF,lF];simp[qk (show k<(IX p) by lia)]
 rw[mv,mv];simp[qk (show k<(IX p) by lia)]
def WV{m:Nat}{p c:iF}(b:(IX p)=m)(r:iF)(a:SI m c):lc (p++r) c=lc p c:=by unfold lc;rw[nL λs d=>Ti b r<|a.2.2 s d]
noncomputable def IY(n:Nat):List Int:=((au (2*n+1)).map λ(k:Nat)=> -(n:Int)+k).filter λs=>!(s==0)
def KS(n:Nat)(t:iF):List Int:=(IY n).filter λs=>!t.contains s&&!t.contains (-s)
def HX(n:Nat)(L:ja):List (List Int):=L.flatMap λt=>(KS n t).map λs=>t++[s]
def nJ(n:Nat):Nat->List (List Int)
 |0=>[[]]
 |m+1=>HX n<|nJ n m
def XX{n:Nat}{s:Int}:s∈IY n↔SG n s:=by
 unfold IY SG;simp only[sL,rJ,vc];constructor
 .rintro⟨⟨k,hk,rfl⟩,b⟩;unfold ab;simp at b;split<;>lia
 rintro⟨h1,a⟩;unfold ab at h1 a;refine⟨⟨(s+n).toNat,by split at a<;>lia,by split at a<;>lia⟩,by simp;split at h1<;>lia⟩
def uF{n:Nat}:∀{m:Nat}{t:iF},t∈nJ n m->PT n m t:=by
 intro r
 induction r with
 |zero=>intro t h;simp[nJ]at h;subst h;exact⟨rfl,λx c=>by simp at c,lu⟩
 |succ m q=>
  intro t h;simp only[nJ,HX,vd,rJ]at h;obtain⟨p,o,s,d,rfl⟩:=h;obtain⟨h1,j,k⟩:=q o;unfold KS at d;simp at d;obtain⟨d,f,g⟩:=d;have sg:=XX.mp d;refine⟨by simp[h1],λx c=>?_,?_⟩
  .rcases pk.mp c with c|c
   .exact j x c
   simp at c;subst c;exact sg
  rw[pJ,zQ];refine⟨k,by simp,λa l b i e=>?_⟩;simp at i;subst i;subst e;obtain⟨x,c,e⟩:=iR l;unfold ab at e;have:x=s\/x= -s:=by split at e<;>split at e<;>lia
  rcases this with rfl|rfl
  .exact f c
  exact g c
def Q3:∀n,n<6->∀m,m<6->(nJ n m).length<=3840:=by decide+kernel
def W4{f g:FO}{δ δ1 δ2:Dn}{o1 o2:A1}{i j:Int}(h1:f δ=Y (o1,δ1))(a:g δ1=Y (o2,δ2))(b:res δ2 o1=Y (.int i))(c:res δ2 o2=Y (.int j))(d: -1000<=i/\i<=1000)(e: -1000<=j/\j<=1000):zu f g δ=Y (jo i (j-i).toNat,δ2):=by unfold zu;rw[oS h1 a];simp only[jH,wd,b,c];rw[iQ<|by lia]
def aeh{n:Nat}(b:n<=5):oh [pI n]=Y ((.lst<|(IY n).map .int,J),[ii n]):=by
 have e:=Bk (caps:=[]) (fi:=zu (iP<|qy yM<|iA 0) Rv) (f:=jI 0) (ti:=fT<|iT DO (iA 0) qV) (δ:=[ii n]) (δ1:=[ii n]) (l:=jo (-(n:Int)) (2*n+1)) (args:=[]) (λd=>d) (λd=>!(A7 d==0)) ?_ C C (λd hd=>?_) (by simp[jo];lia)
 .have a:((jo (-(n:Int)) (2*n+1)).filter λd=>!(A7 d==0)).map (λd=>d)=(IY n).map .int:=by rw[rc];unfold jo IY;rw[show(λ(k:Nat)=>D.int (-(n:Int)+k))=D.int∘(λ(k:Nat)=> -(n:Int)+k)from C,<-jY,GB];rfl
  rw[a]at e;exact zm ⟨rfl,by decide,rfl⟩ e
 .rw[W4 (o1:=.val (.int (-n),U)) (o2:=.val (.int<|n+1,U)) (δ1:=[ii n]) (δ2:=[ii n]) C C C C (by lia)<|by lia,show((n:Int)+1- -n).toNat=2*n+1 by lia]
 obtain⟨k,_,rfl⟩:=iR hd;exact⟨by kernel_rfl,λ_=>⟨U,rfl⟩⟩
abbrev LA:FT:=uA (fT M9) Vp
abbrev fE:F:=Yb
def VC(n:Nat)(t:iF)(s:Int):LA [ii n,eN t,ii s]=Y (!t.contains s&&!t.contains (-s),[ii n,eN t,ii s]):=by
 have h1:fT M9 [ii n,eN t,ii s]=Y (!t.contains s,[ii n,eN t,ii s]):=kg<|jO (JV s t) (jV C).r (jV C).r;have a:Vp [ii n,eN t,ii s]=Y (!t.contains (-s),[ii n,eN t,ii s]):=kg<|jO (JV (-s) t) (jE (b:=U) C).r (jV C).r;unfold LA uA;rw[h1];simp only[jH];cases t.contains s
 .simp only[nw,de];exact a
 rfl
def aaH(n:Nat)(t:iF)(a:(IX t)<=100)(s:Int):fE [ii n,eN t,ii s]=Y ((cD<|t++[s],U),[ii n,eN t,ii s]):=by refine jO (b:=.tup [.int s]) ?_ (jV C).r (jE (b:=U)<|by kernel_rfl).r;show nV (.tup<|t.map .int) (.tup [.int s])=_;simp only[nV];rw[iQ<|JG<|by simp;lia,<-List.map_singleton,<-pJ]
theorem QK{n:Nat}(e:n<=5):∀(L:ja)(a:List D)(x y:Sl),(∀t∈L,IX t<=100)->IX a+10*(IX L)<=sizeLine->
  ∃u b,kr (iD 1) jD (Cb (jF<|iN oh [iA 0]) (iD 2) LA<|jN fE) (L.map cD) a [ii n,x,y]=Y (a++(HX n L).map cD,[ii n,u,b])
 |[],a,x,y,_,_=>⟨x,y,by simp[kr,HX]⟩
 |t::L,a,x,y,h,o=>by
  have q:(IY n).length<=10:=by have:=tE (λs:Int=>!(s==0))<|(au (2*n+1)).map λ(k:Nat)=> -(n:Int)+k;rcases(show n=0\/n=1\/n=2\/n=3\/n=4\/n=5 by lia)with rfl|rfl|rfl|rfl|rfl|rfl<;>decide
  simp at o
  obtain⟨b,c⟩:=XH (f:=fE) (ti:=LA) (g:=λd=>cD<|t++[A7 d]) (p:=λd=>!t.contains (A7 d)&&!t.contains (-(A7 d))) (pre:=[ii n,eN t]) ((IY n).map .int) a y (λd hd=>by obtain⟨s,_,rfl⟩:=iR hd;exact⟨VC n t s,λ_=>⟨U,aaH n t (h t ky) s⟩⟩) (by simp;lia)
  have j:(((IY n).map D.int).filter λd=>!t.contains (A7 d)&&!t.contains (-(A7 d))).map (λd=>cD<|t++[A7 d])=((KS n t).map λs=>t++[s]).map cD:=by rw[GB,jY,jY];rfl
  rw[j]at c
  have m:((KS n t).map λs=>t++[s]).length<=10:=by rw[jU];exact mq (tE _ _) q
  obtain⟨x2,v,i⟩:=QK e L (a++((KS n t).map λs=>t++[s]).map cD) (eN t) b (λr l=>h r<|kO _ l) (by rw[oG,jU];lia);refine⟨x2,v,?_⟩;rw[ku,kr];rw[show iD 1 (cD t) [ii n,x,y]=Y [ii n,eN t,y]from C];simp;unfold Cb;rw[mz<|HJ (aeh e)<|jV C];simp;rw[show kr (iD 2) LA (jN fE) ((IY n).map .int) a [ii n,eN t,y]=_ from c];simp only[jH];refine(show _=_ from i).trans ?_;simp[HX]
def agt{n:Nat}(a:n<=5)(L:ja)(h:∀t∈L,IX t<=100)(b:(IX L)<=4000):mS [pI n,(.lst<|L.map cD,J)]=Y ((.lst<|(HX n L).map cD,J),[ii n,Y (.lst<|L.map cD,U)]):=by obtain⟨c,d,e⟩:=QK a L [] I I h (by rw[kD];simp;lia);refine jQ (δ:=[ii n,Y (.lst<|L.map cD,U)]) ⟨rfl,by decide,rfl⟩<|jm<|kh ?_;exact(uz (caps:=[0]) (l:=L.map cD) (δ1:=[ii n,Y (.lst<|L.map cD,U)]) (args:=[pI n]) (mz (o:=U) C) C lu e).trans C
def ln(c:iF):Nat:=(ab<|c.getLastD 0).toNat
def J6{n:Nat}{c:iF}(h:SI n c):1<=ln c/\ln c<=n/\SI (ln c) c:=by
 obtain⟨b,h1,d⟩:=h;rcases zV c with rfl|⟨l,x,rfl⟩
 .exact absurd C b
 rw[Dh]at b h1 d ⊢;have e:ln (l++[x])=(ab x).toNat:=by simp[ln]
 have f:=d x (by simp);rw[e];refine⟨by lia,by lia,b,h1,λs a=>⟨(d s a).1,?_⟩⟩;rcases pk.mp a with a|a
 .rw[pJ,sP]at h1;have:=h1.2.2 (ab s) (qJ a) (ab x) (by simp)
  lia
 simp at a;subst a;lia
def SI.up{n m:Nat}{c:iF}(h:SI n c)(b:n<=m):SI m c:=⟨h.1,h.2.1,λs a=>by have:=h.2.2 s a;lia⟩
def Tp{n:Nat}{c:iF}(h:SI n c):AK (cD c) (.int (-1))=ii (c.getLastD 0):=by
 rcases zV c with rfl|⟨l,x,rfl⟩
 .exact absurd C h.1
 simp;simp[AK,FN,DL];rw[iQ<|by lia,show(-1+(((IX l):Int)+1)).toNat=(IX l) by lia];simp
def W8(c:iF)(a:ja):L4 (cD c) (.tup<|a.map cD)=Y (.bl<|decide<|c∈a,U):=aap c a
def Ca(js a:ja)(m:Nat)(t:iF):Bool:=a.all λc=>!decide (ln c<=m)||decide (lc t c∈js)
def IH(a:ja)(m:Nat):List (List Int):=a.filter λc=>ln c==m
theorem CH{d e:Type}{P:d->Bool}{Q R:e->Bool}{f:d->List e}:∀L:List d,(∀t∈L,∀u∈f t,R u=(P t&&Q u))->((L.filter P).flatMap f).filter Q=(L.flatMap f).filter R
 |[],_=>rfl
 |t::L,h=>by
  have g:=CH L λt b=>h t<|kO _ b;have b:=h t ky;rw[Gx,c9,<-g]
  cases a:P t with
  |true=>
   rw[xX a,Gx,c9]
   congr 1
   exact GA λu c=>by rw[b u c,a];rfl
  |false=>
   rw[xS<|by rw[a];decide];have:(f t).filter R=[]:=X3.mpr λu c=>by rw[b u c,a,yv];exact kY
   rw[this];rfl
def OS{n m:Nat}{b a:ja}(hk:∀c∈a,SI n c){t:iF}(f:(IX t)=m)(s:Int):Ca b a (m+1) (t++[s])=(Ca b a m t&&(IH a<|m+1).all λc=>decide<|lc (t++[s]) c∈b):=by
 unfold Ca IH
 induction a with
 |nil=>rfl
 |cons c a g=>
  have e:=J6<|hk c ky;rw[tQ,tQ,g λc h=>hk c<|kO _ h];by_cases h1:ln c=m+1
  .rw[xX<|by simp[h1],tQ,lO (show ln c<=m+1 by lia),lb (show ¬ln c<=m by lia)];simp;cases decide (lc (t++[s]) c∈b)<;>cases(a.all λc=>!decide (ln c<=m)||decide (lc t c∈b))<;>rfl
  rw[xS<|by simpa using h1];by_cases d:ln c<=m
  .rw[lO (show ln c<=m+1 by lia),lO d,WV f [s]<|e.2.2.up d,fP]
  rw[lb (show ¬ln c<=m+1 by lia),lb d,fP];rfl
def Ql{n m:Nat}{js a:ja}(hk:∀c∈a,SI n c):(HX n<|(nJ n m).filter<|Ca js a m).filter (λu=>(IH a<|m+1).all λc=>decide<|lc u c∈js)=(nJ n<|m+1).filter (Ca js a<|m+1):=by refine CH _ λt b u d=>?_;obtain⟨s,_,rfl⟩:=iR d;exact OS hk (uF b).1 s
def Z6{n:Nat}{js a:ja}(hk:∀c∈a,SI n c)(t:iF):Ca js a 0 t=J:=kT.mpr λc b=>by rw[lb (by have:=(J6<|hk c b).1;lia)];rfl
def Z5{n:Nat}{js a:ja}(hk:∀c∈a,SI n c)(t:iF):Ca js a n t=a.all λc=>decide (lc t c∈js):=by unfold Ca;rw[tH,kT,kT];refine Gy λc=>Gy λb=>?_;rw[lO (J6<|hk c b).2.1];rfl
abbrev RE:FT:=Za
abbrev aaC:FS:=iG zC7<|iG (kK 4<|jv [1,6] 1 Vn (iD 2) RE EW) iX
abbrev AY(L:ja)(o:Bool):Sl:=Y (.lst<|L.map cD,o)
abbrev D8(L:ja):Sl:=Y (.tup<|L.map cD,U)
def RD{n m:Nat}(g:m<=5){js a:ja}(h:∀c∈a,SI m c)(j:(IX a)<=30){t:iF}(i:PT n m t)(o:Bool):RE [D8 js,AY a o,eN t]=Y (a.all λc=>decide<|lc t c∈js,[D8 js,AY a U,eN t]):=by
 have c:=rF (caps:=[0,2]) (fi:=jF<|jI 1) (f:=iT L4 Ym<|iA 0) (δ:=[D8 js,AY a o,eN t]) (δ1:=[D8 js,AY a U,eN t]) (l:=a.map cD) (args:=[.tup<|js.map cD,cD t]) (λd=>decide<|lc t (Fb d)∈js) (by cases o<;>exact mz (o:=U) C) C C (λd hd=>by obtain⟨c,e,rfl⟩:=iR hd;rw[ni];exact⟨U,jO (b:=.tup (js.map cD)) (W8 _ _) (jE (b:=U)<|BJ (WT g i<|h c e) (jV C)<|jV C).r (jV C).r⟩) (by simp;lia)
 rw[show(a.map cD).all (λd=>decide<|lc t (Fb d)∈js)=a.all λc=>decide (lc t c∈js) by rw[dS];simp only[rL,ni]]at c;exact kg c
theorem QH{n m:Nat}(i:m<=5){js b:ja}(j:∀c∈b,SI m c)(g:(IX b)<=30):∀(L:ja)(a:List D)(o:Bool)(x:Sl),(∀t∈L,PT n m t)->IX a+IX L<=sizeLine->
  ∃d f,kr (iD 2) RE EW (L.map cD) a [D8 js,AY b o,x]=Y (a++(L.filter λt=>b.all λc=>decide<|lc t c∈js).map cD,[D8 js,AY b d,f])
 |[],a,o,x,_,_=>⟨o,x,by simp[kr]⟩
 |t::L,a,o,x,h,r=>by
  have q:=RD i j g (h t ky) (js:=js) o;have k:∀t∈L,PT n m t:=λt s=>h t<|kO _ s;simp at r;rw[ku,kr,show iD 2 (cD t) [D8 js,AY b o,x]=Y [D8 js,AY b o,eN t]from C];simp only[jH];rw[q];simp only[jH]
  cases l:b.all λc=>decide (lc t c∈js)with
  |false=>obtain⟨d,f,e⟩:=QH i j g L a U (eN t) k (by lia);exact⟨d,f,by rw[je kY,xS (p:=λt=>b.all λc=>decide<|lc t c∈js)<|by rw[l];exact kY];exact e⟩
  |true=>obtain⟨d,f,e⟩:=QH i j g L (a++[cD t]) U (eN t) k (by simp;lia);refine⟨d,f,?_⟩;rw[iQ C,xX (p:=λt=>b.all λc=>decide<|lc t c∈js) l];simp;rw[show jI 2 [D8 js,AY b U,eN t]=Y ((cD t,U),[D8 js,AY b U,eN t])from C];simp;rw[iQ<|by lia];simp;rw[e];simp
def Xq{t:FT}{f g:F}{δ δ1:Dn}{b:Bool}(h:t δ=Y (b,δ1)):Ig t f g δ=if b=J then f δ1 else g δ1:=by unfold Ig;rw[h];rfl
theorem Kf{n:Nat}(a:n<=5):∀L:List (List Int),(HX n L).length<=10*(IX L)
 |[]=>by simp[HX]
 |t::L=>by
  have:=Kf a L
  have b:((KS n t).map λs=>t++[s]).length<=10:=by rw[jU];refine mq (tE _ _) ?_;rcases(show n=0\/n=1\/n=2\/n=3\/n=4\/n=5 by lia)with rfl|rfl|rfl|rfl|rfl|rfl<;>decide
  unfold HX at*;rw[Gx,oG,mX]
  lia
section
variable {n:Nat}{g js:ja}(j:n<=5)(hk:∀c∈g,SI n c)(q:g.length<=30)
include j hk q
abbrev IV(n:Nat)(g js L:ja)(x y:Sl):Dn:=[Y (BO n g,U),D8 js,ii n,D8 g,AY L J,x,y]
theorem TQ{m:Nat}(G:m+1<=n)(y:Sl):∃Q,aaC (IV n g js ((nJ n m).filter<|Ca js g m) (ii<|(m:Int)+1) y)=Y (.nx<|IV n g js ((nJ n<|m+1).filter<|Ca js g<|m+1) (ii<|(m:Int)+1) Q):=by
 have s:=Bk (caps:=[5]) (fi:=jF<|jI 3) (f:=jI 1) (ti:=fT YU) (δ:=IV n g js ((nJ n m).filter<|Ca js g m) (ii<|(m:Int)+1) y) (δ1:=IV n g js ((nJ n m).filter<|Ca js g m) (ii<|(m:Int)+1) y) (l:=g.map cD) (args:=[.int<|(m:Int)+1]) (λd=>d) (λd=>ln (Fb d)==m+1) IR IR IR (λd hd=>by
  obtain⟨c,u,rfl⟩:=iR hd;rw[ni];refine⟨kg (o:=U)<|jO (a:=.int (ab<|c.getLastD 0)) ?_ (jE (b:=U)<|jC IR (jE (b:=U)<|jO (Tp<|hk c u) (jV IR).r (jE (b:=U) IR).r).r).r (jV IR).r,λ_=>⟨U,rfl⟩⟩;have T:0<=ab (c.getLastD 0):=by unfold ab;split<;>lia
  have:(ln c==m+1)=decide (ab (c.getLastD 0)=(m:Int)+1):=by
   unfold ln;generalize ab (c.getLastD 0)=x at*;by_cases h:x=(m:Int)+1
   .rw[lO h,h];simp
   rw[lb h];simp;lia
  rw[this];generalize ab (c.getLastD 0)=x
  kernel_rfl) (by simp;lia)
 rw[yR]at s;have er:(g.filter λt=>ln (Fb<|cD t)==m+1)=IH g (m+1):=by simp only[ni];rfl
 rw[er]at s
 have O:∀c∈IH g (m+1),SI (m+1) c:=λc u=>by obtain⟨h1,z⟩:=sL.mp u;have:=J6<|hk c h1;rw[beq_iff_eq]at z;rw[<-z];exact this.2.2
 have v:(IH g<|m+1).length<=30:=mq (tE _ _) q;have B:∀t∈(nJ n m).filter (Ca js g m),PT n m t:=λt k=>uF (sL.mp k).1;have C:((nJ n m).filter<|Ca js g m).length<=3840:=mq (tE _ _)<|Q3 n (by lia) m (by lia)
 have E:∀t∈HX n ((nJ n m).filter<|Ca js g m),PT n (m+1) t:=λt k=>by refine uF (m:=m+1) ?_;obtain⟨p,N,L⟩:=vd.mp k;exact vd.mpr ⟨p,(sL.mp N).1,L⟩
 have H:(HX n<|(nJ n m).filter<|Ca js g m).length<=38400:=by
  have:=Kf j<|(nJ n m).filter<|Ca js g m
  lia
 obtain⟨w,M,e⟩:=QH (n:=n) (m:=m+1) (by lia) (js:=js) O v (HX n<|(nJ n m).filter<|Ca js g m) [] J I E (by rw[kD];simp;lia);rw[rK,Ql hk]at e;refine⟨AY (IH g<|m+1) w,?_⟩
 have A:jv [1,6] 1 Vn (iD 2) RE EW (IV n g js ((nJ n m).filter<|Ca js g m) (ii<|(m:Int)+1)<|AY (IH g<|m+1) J)=Y ((.lst<|((nJ n<|m+1).filter<|Ca js g<|m+1).map cD,J),[rS n g,D8 js,ii n,D8 g,AY ((nJ n m).filter<|Ca js g m) U,ii<|(m:Int)+1,AY (IH g<|m+1) w]):=by
  refine(uz (caps:=[1,6]) (args:=[(.tup<|js.map cD,U),(.lst<|(IH g<|m+1).map cD,J)]) (δ1:=[rS n g,D8 js,ii n,D8 g,AY ((nJ n m).filter<|Ca js g m) U,ii<|(m:Int)+1,AY (IH g<|m+1) J]) (mz (o:=J) ?_) IR (Ic 6) e).trans ?_
  .exact jJ (δ1:=IV n g js ((nJ n m).filter<|Ca js g m) (ii<|(m:Int)+1)<|AY (IH g<|m+1) J) (os:=[.slot 2,.slot 4]) (args:=[pI n,(.lst<|((nJ n m).filter<|Ca js g m).map cD,J)]) IR IR (Ic 4) (agt j _ (λt k=>by have:=(B t k).1;lia) (by lia))
  cases w<;>rfl
 exact(iC<|jK s (show 6<7 by decide)).trans ((iC<|jK (i:=4) A (show 4<7 by decide)).trans IR)
theorem afi:mT [(BO n g,U),(.tup<|js.map cD,U)]=Y ((.lst<|((nJ n n).filter λt=>g.all λc=>decide<|lc t c∈js).map cD,J),[rS n g,D8 js]):=by
 obtain⟨_,⟨m,x,y,i,rfl⟩,e⟩:=xE (tg:=iD 5) (fb:=aaC) (λds δ=>∃(m:Nat)(x y:Sl),(m<=n/\ds=(bM (m+1)<|n-m).map λ(k:Nat)=>D.int (k:Int))/\δ=IV n g js ((nJ n m).filter<|Ca js g m) x y) (λd ds δ T=>by
  obtain⟨m,x,y,⟨h1,a⟩,h⟩:=T
  subst h
  have l:m<n:=by
   rcases sx m n with h|h
   .exact h
   rw[show n-m=0 by lia]at a;cases a
  rw[show n-m=(n-(m+1))+1 by lia,zZ,ku]at a;obtain⟨rfl,rfl⟩:=vP a;obtain⟨o,e⟩:=TQ (js:=js) j hk q (m:=m) (by lia) y
  exact⟨_,_,rfl,e,m+1,_,o,⟨l,rfl⟩,rfl⟩) ((bM 1 n).map λ(k:Nat)=>D.int (k:Int)) (IV n g js [[]] I I) ⟨0,I,I,⟨mD _,rfl⟩,by rw[Vh.mpr λt _=>Z6 hk t];rfl⟩
 obtain⟨p,f⟩:=i
 have b:m=n:=by
  rcases sx m n with h|h
  .rw[show n-m=(n-(m+1))+1 by lia,zZ]at f;cases f
  lia
 subst b;rw[GA λt _=>Z5 hk t]at e;refine jQ (δ:=[rS m g,D8 js,ii m,D8 g,I,x,y]) ⟨rfl,by decide,rfl⟩ ?_;refine(iC (δ1:=[rS m g,D8 js,ii m,D8 g,I,I,I]) C).trans ((iC (δ1:=IV m g js [[]] I I)<|by kernel_rfl).trans ?_);refine(iC<|(lE (ds:=(bM 1 m).map λ(k:Nat)=>D.int (k:Int)) (δ1:=IV m g js [[]] I I) ?_).trans e).trans (jm ?_)
 .rw[Ka (o1:=.val (.int 1,U)) (o2:=.val (.int<|(m:Int)+1,U)) (δ2:=IV m g js [[]] I I) C C C C (by lia)<|by lia,show((m:Int)+1-1).toNat=m by lia,afs]
 rfl
theorem vE:lI [(BO n g,U)]=Y ((.lst<|((nJ n n).filter λt=>g.all λc=>decide<|lc t c∈g).map cD,J),[rS n g]):=by
 refine zm ⟨rfl,by decide,rfl⟩<|BJ (b:=BO n g) (outs:=[rS n g,rS n g]) ?_ (jV C)<|jV C;refine zm ⟨rfl,by decide,rfl⟩ (δ:=[rS n g,rS n g])<|(Xq (b:=J) (δ1:=[rS n g,rS n g])<|kg (o:=U)<|jO (a:=.int (IX g)) (P7<|by simp[D.dep]) (jE (b:=U)<|jC ?_ (jE (b:=U)<|jO C (jV C).r (jE C).r).r).r (jE (b:=U)<|jC ?_ (jE (b:=U)<|jO C (jV C).r (jE C).r).r).r).trans ?_
 .simp
 .simp
 exact BJ (afi j hk q) (jV C) (jE (b:=U)<|jO C (jV C).r (jE C).r)
end
def OY{l:iF}(h:(l.map ab).Nodup):l.Nodup:=te ab (λ_ _ h e=>h<|mG ab e) h
def FP{f:Type}[DecidableEq f]:∀(l m:List f),l.Nodup->(∀x∈l,x∈m)->IX m<=IX l->l.Perm m:=by
 intro j
 induction j with
 |nil=>intro m _ _ h;rw[M0.mp<|Nat.le_zero.mp h]
 |cons x l i=>intro m a b g;rw[zC]at a;have c:=b x ky;have k:=i (m.erase x) a.2 (λy d=>(Dd (show y≠x from λe=>a.1<|e▸d)).mpr<|b y<|kO _ d) (by rw[MH c];simp at g;omega);exact(k.cons x).trans (GC c).symm
def WW{n:Nat}{t a b:iF}(f:TT n t)(c:SI n a)(d:SI n b)(e:lc t a=lc t b):a=b:=by
 have i:=(pz f c).1.1;have m:=(pz f d).1.1;rw[e]at i;have j:=i.symm.trans m;have k:=j.length_eq;simp at k
 have l:a.Perm b:=FP _ _ (OY<|Cr c.2.1) (λs h=>by obtain⟨r,g,e⟩:=iR<|j.mem_iff.mp<|qJ h;rw[<-xo f (d.2.2 r g) (c.2.2 s h) e];exact g) (by lia)
 have o:=oP.mp c.2.1;have p:=oP.mp d.2.1;exact l.eq_of_pairwise (λx y _ _ h1 q=>by lia) o p
def FX{n:Nat}{t:iF}{d g:ja}(o:TT n t)(f:om n d)(h:LR t d g):(g=d)↔ ∀c∈d,lc t c∈d:=by
 constructor
 .rintro rfl c i;exact h.1.mem_iff.mpr<|qJ i
 intro j
 have q:(d.map<|lc t).Nodup:=by rw[KA,oP];refine Mh ?_<|KA.mp f.2.1.1;intro a b k l r e;exact r<|WW o (f.2.1.2 a k) (f.2.1.2 b l) e
 have m:g.Perm d:=by refine h.1.trans<|FP _ _ q (λx p=>?_) (by simp);obtain⟨c,i,rfl⟩:=iR p;exact j c i
 exact Fm m h.2 f.2.2.1
def abM{n:Nat}{d:D}(h:tB n d=J):∃t,d=cD t/\TT n t:=by
 rw[Nw]at h
 cases d with
 |tup l=>
  simp only[lB,lR,kT,oW]at h;refine⟨l.map A7,?_,?_⟩
  .have:l=(l.map A7).map D.int:=by
    rw[jY]
    conv=>lhs;rw[<-sy l]
    exact nL λd hd=>Nk<|h.1 d hd
   exact mG D.tup this
  unfold TT;rw[jY];exact h.2
 |_=>cases h
def liB(n:Nat)(a:ja)(d:D):Bool:=tB n d&&a.all λc=>decide<|lc ((zk d).map A7) c∈a
def DS(t:iF):(zk<|cD t).map A7=t:=ni t
theorem Ki:∀a b:List (List Int),D.A9 (a.map cD) (b.map cD)=decide (a=b)
 |[],[]=>rfl
 |[],_::_=>rfl
 |_::_,[]=>rfl
 |x::a,y::b=>by rw[ku,ku,D.A9,IT,Ki a b];simp
def Xa(n:Nat)(a b:ja):BV (BO n a) (BO n b)=Y (.bl<|decide<|a=b,U):=by unfold BV;rw[iQ ⟨Qp n a,Qp n b⟩];simp only[D.P1,D.A9];rw[Ki];simp
def W0{f:O1}{g i j:FO}{δ:Dn}{a b c:D}{r:D×Bool}{e:Dn}(h:f [(a,U),(b,U),(c,U)]=Y (r,e))(l:FJ g δ a)(m:FJ i δ b)(n:FJ j δ c):iN f [g,i,j] δ=Y (r,δ):=by obtain⟨o,h1,_,k⟩:=l;obtain⟨u,p,_,q⟩:=m;obtain⟨v,s,_,t⟩:=n;refine(jJ (ae3 h1<|oS p s) (args:=[a,b,c].map λd=>(d,U)) (by simp[k,q,t]) (by rw[rq];exact lu) h).trans ?_;rw[Cf]
section
variable {n:Nat}{a:ja}(h:om n a){d:D}(hd:Lw d)
include h hd
theorem Lz:mR [(BO n a,U),(d,U)]=Y ((.bl<|liB n a d,U),[rS n a,Y (d,U)]):=by
 have c:iN ke [ve,iA 1] [rS n a,Y (d,U)]=Y ((.bl<|tB n d,U),[rS n a,Y (d,U)]):=BJ (uf n d hd) (jE (b:=U)<|jO C (jV C).r (jE C).r)<|jV C;refine zm ⟨rfl,by decide,rfl⟩ (δ:=[rS n a,Y (d,U)]) ?_;unfold liB
 cases e:tB n d with
 |false=>rw[e]at c;exact IM c
 |true=>
  rw[e]at c;obtain⟨t,rfl,f⟩:=abM e;obtain⟨j,i,g⟩:=UT f h;refine(wB c).trans (jO ?_ (jE (b:=U)<|BJ g (jV C)<|jV C).r (jV C).r);rw[Xa,DS,de]
  congr 3
  rw[tH,oW,kT,FX f h i];simp
end
section
variable {n:Nat}{t w a:iF}(b:TT n t)(c:my n a)
include b c
end
noncomputable def Iy(lt:D->D->Bool):List D->Bool
 |x::y::l=>lt x y&&Iy lt (y::l)
 |_=>J
theorem QR(lt:D->D->Bool):∀(l c:List D)(u v:Sl),(∀x∈l,∀y∈l,mC .Lt x y=Y (.bl<|lt x y,U))->IX c+IX l<=10000->∃f g i,(pE f=Y (f.map λd=>match d with|.bl b=>b|_=>U))/\((f.map λd=>match d with|.bl b=>b|_=>U).all id=Iy lt l)/\kr E6 jD Ya ((l.zip l.tail).map λp=>.tup [p.1,p.2]) c [u,v]=Y (c++f,[g,i])
 |[],c,u,v,_,_=>⟨[],u,v,rfl,rfl,by simp[kr]⟩
 |[x],c,u,v,_,_=>⟨[],u,v,rfl,rfl,by simp[kr]⟩
 |x::y::l,c,u,v,h,j=>by
  obtain⟨f,g,i,h1,m,e⟩:=QR lt (y::l) (c++[.bl<|lt x y]) (Y (x,U)) (Y (y,U)) (λa n b o=>h a (kO _ n) b<|kO _ o) (by simp at j ⊢;lia);refine⟨.bl (lt x y)::f,g,i,?_,?_,?_⟩
  .simp[pE,h1]
  .simp only[ku,tQ,id,Iy,m]
  have q:(IX c)<sizeLine:=by rw[kD];simp at j;lia
  have k:iT (mC .Lt) (iA 0) (iA 1) [Y (x,U),Y (y,U)]=Y ((.bl<|lt x y,U),[Y (x,U),Y (y,U)]):=
   jW (o1:=.slot 0) (o2:=.slot 1) rfl rfl rfl rfl (h x (by simp) y<|by simp)
  simp only[fL,tM,ku,kr];rw[show E6 (.tup [x,y]) [u,v]=Y [Y (x,U),Y (y,U)]from C];simp only[jH,JL,nr,DX];rw[k];simp only[jH];rw[iQ q];simp only[jH];rw[fL]at e;rw[e];simp
def aaM(l:List D):PX.zM l (Y 1) I=l.tail:=by
 unfold PX.zM;rw[show(Y (1:Int))=Y ((1:Nat):Int)from C,HT.VQ,HT.UC]
 cases l with
 |nil=>rfl
 |cons x l=>rw[show min 1 (x::l).length=1 from by simp];simp
def afJ(lt:D->D->Bool)(l:List D)(d:D)(hd:d=.lst l\/d=.tup l)(h:∀x∈l,∀y∈l,mC .Lt x y=Y (.bl<|lt x y,U))(f:(IX l)<=1000):ml [(d,U)]=Y ((.bl<|Iy lt l,U),[Y (d,U)]):=by
 obtain⟨a,g,i,h1,b,e⟩:=QR lt l [] I I h (by simp;lia)
 have c:vF (jI 0) Ao [Y (d,U)]=Y ((l.zip l.tail).map λp=>.tup [p.1,p.2],[Y (d,U)]):=by
  rcases hd with rfl|rfl
  .have:Ao [Y (.lst l,U)]=Y ((.lst l.tail,J),[Y (.lst l,U)]):=by rw[<-aaM l];rfl
   simp[vF,jI,this,rk]
  have:Ao [Y (.tup l,U)]=Y ((.tup l.tail,U),[Y (.tup l,U)]):=by rw[<-aaM l];rfl
  simp[vF,jI,this,rk]
 refine jQ (δ:=[Y (d,U)]) ⟨rfl,by decide,rfl⟩<|jm<|kh<|km (os:=[.val (.lst a,J)]) (nI<|iW ?_) C ?_
 .show jv [] 2 _ _ _ _ [Y (d,U)]=_;unfold jv;rw[c];simp only[jH,oZ,uN,jf,lu,nr,rK,cY,xY];rw[e];rfl
 show(pE a).map _=_;rw[h1];simp only[i7];rw[b]
noncomputable def ltI:D->D->Bool
 |.int i,.int j=>decide<|i<j
 |_,_=>U
theorem Q7:∀l:List Int,Iy ltI (l.map .int)=J↔l.Pairwise (· < ·)
 |[]=>by simp[Iy]
 |[x]=>by simp[Iy]
 |x::y::l=>by
  simp only[ku,Iy,lR];rw[<-ku (f:=D.int),Q7 (y::l)];simp only[ltI,oW];constructor
  .rintro⟨h1,b⟩;refine zP.mpr ⟨λz a=>?_,b⟩;have c:=(zP.mp b).1;rcases oq.mp a with rfl|a
   .exact h1
   have:=c z a;lia
  intro h;have h:=zP.mp h;exact⟨h.1 y ky,h.2⟩
def aI(l:List D):List Int:=l.map λd=>ab<|A7 d
def pC(n:Int):D->Bool
 |.tup l=>decide (1<=IX l/\(IX l)<=5)&&(l.all (sg n)&&decide ((aI l).Pairwise (· < ·)))
 |_=>U
def lC(n:Int):D->Bool
 |.tup l=>decide (l≠[])&&(l.all (sg n)&&decide ((aI l).Pairwise (· < ·)))
 |_=>U
def ZX(n:Nat)(h:n<=5)(d:D):pC n d=lC n d:=by
 cases d with
 |tup l=>
  rw[pC,lC,tH];simp only[lR,oW,kT];constructor
  .rintro⟨h1,a,b⟩;exact⟨λe=>by subst e;simp at h1,a,b⟩
  rintro⟨h1,a,b⟩
  have c:=uj (aI l) (st n) (Cr b) (λx g=>by obtain⟨d,hd,rfl⟩:=iR g;have:=a d hd;rw[Ax this]at this;exact KJ.mpr<|by simpa[sg]using this)
  have f:0<(IX l):=M1.mpr h1;simp only[aI,st,jU,eL]at c;exact⟨⟨f,by lia⟩,a,b⟩
 |_=>rfl
def adx(n:Int)(d:D)(hd:∀l,d=.tup l->IX l<=100):jL [pI n,(d,U)]=Y ((.bl<|pC n d,U),[ii n,Y (d,U)]):=by
 cases d with
 |tup l=>
  have w:=hd l C;by_cases h1:1<=IX l/\(IX l)<=5
  .have e:(1:Int)<=(IX l):=by lia
   have f:((IX l):Int)<=5:=by lia
   have m:Vv [ii n,Y (.tup l,U)]=Y (U,[ii n,Y (.tup l,U)]):=by simp[Fp,pY,ma,e,f]
   obtain⟨x1,h⟩:=wG (iN lL [iA 0,iA 1]) (λd=>.bl (sg n d)) [ii n] l [] I (λd _=>⟨U,by simp[DR,jf,wb]⟩) (by rw[kD];simp;lia);simp only[eY,rK,mX,vI,d1]at h
   have q:jv [0] 1 mH (iD 1) jD Yk [ii n,Y (.tup l,U)]=Y ((.lst<|l.map λd=>.bl (sg n d),J),[ii n,Y (.tup l,U)]):=by simp[jv,jI,h,jf,wb,jn]
   have c:jc (g1 vg) [YS] [ii n,Y (.tup l,U)]=Y ((.bl<|l.all<|sg n,U),[ii n,Y (.tup l,U)]):=
    km (nI<|iW q) rfl (sj (sg n) l)
   by_cases a:l.all (sg n)=J
   .have t:∀d∈l,∃o,E5 ([]++[Y (d,U)])=Y ((.int<|ab<|A7 d,o),([]++[Y (d,U)]:Dn)):=λd hd=>⟨U,by rw[kT]at a;rw[Ax<|a d hd];rfl⟩
    obtain⟨x2,k⟩:=wG E5 (λd=>.int (ab<|A7 d)) [] l [] I t (by rw[kD];simp;lia);simp only[eY,rK,mX,vI]at k;have g:=Ve (fi:=jF<|jI 1) (δ:=[ii n,Y (.tup l,U)]) (δ1:=[ii n,Y (.tup l,U)]) (ds:=l) C k;have s:(l.map λd=>D.int<|ab<|A7 d)=(aI l).map .int:=by rw[aI,jY];rfl
    rw[s]at g
    have r:=afJ ltI ((aI l).map .int) (.lst<|(aI l).map .int) (.inl C) (by intro x u y v;obtain⟨i,_,rfl⟩:=iR u;obtain⟨j,_,rfl⟩:=iR v;rw[N0];rfl) (by simp[aI];lia)
    have b:pC n (.tup l)=Iy ltI ((aI l).map .int):=by rw[pC,a,lO h1,de,de,tH,oW];exact(Q7 _).symm
    rw[b];rw[a]at c;refine jQ (δ:=[ii n,Y (.tup l,U)]) ⟨rfl,by decide,rfl⟩ ?_;refine(iC<|(lU m).trans C).trans ?_;refine(iC<|(lU<|mN<|kg c).trans C).trans ?_;exact jm<|kh<|jJ (δ1:=[ii n,Y (.tup l,U)]) (os:=[.val (.lst<|(aI l).map .int,J)]) (args:=[(.lst<|(aI l).map .int,U)]) (nI<|iW g) C lu r
   have p:l.all (sg n)=U:=by simpa using a
   have b:pC n (.tup l)=U:=by rw[pC,p,yv,fO]
   rw[b];rw[p]at c;refine jQ (δ:=[ii n,Y (.tup l,U)]) ⟨rfl,by decide,rfl⟩ ?_;refine(iC<|(lU m).trans C).trans ?_;exact jm<|(rm<|mN<|kg c).trans<|jm<|kh C
  have b:pC n (.tup l)=U:=by rw[pC,lb h1,yv]
  rw[b];by_cases e:(1:Int)<=IX l
  .have f: ¬((IX l):Int)<=5:=by lia
   simp[jL,pA,Sr,Fp,pY,ma,e,f,jn]
  simp[jL,pA,Sr,Fp,pY,ma,e,jn]
 |_=>(first|rfl|simp[jL,pA,Sr,Fp,jn,pC])
def Z8(a b:iF):mC .Lt (cD a) (cD b)=Y (.bl<|A5 (cD a)<|cD b,U):=by
 have h:∃r,oN .Lt (cD a) (cD b)=Y r:=by have:=uY .Lt a b;exact Mb.mp this
 obtain⟨r,c⟩:=h;have e:=uZ (cD a) (cD b) (by simp[D.pr,nv]) (by simp[D.pr,nv]) r c;unfold mC;rw[iQ ⟨by rw[qe];lia,by rw[qe];lia⟩,c,e];rfl
theorem UU:∀a b:List Int,∃r,oM .LtE (a.map .int) (b.map .int)=Y (!r)/\oM .Lt (b.map .int) (a.map .int)=Y r
 |[],[]=>⟨U,by kernel_rfl,by kernel_rfl⟩
 |[],y::b=>⟨U,by simp[oM,ma];lia,by simp[oM,ma];lia⟩
 |x::a,[]=>⟨J,by kernel_rfl<;>lia,by simp[oM,ma]<;>lia⟩
 |x::a,y::b=>by
  obtain⟨r,h1,d⟩:=UU a b;by_cases h:x=y
  .subst h;exact⟨r,by simp[oM,D.P1,h1],by simp[oM,D.P1,d]⟩
  have c: ¬y=x:=λe=>h e.symm;refine⟨decide<|y<x,?_,?_⟩
  .simp only[ku,oM,D.P1,vb,lb h,oN,ma];simp;by_cases q:y<x
   .have: ¬x<=y:=by lia
    simp[q,this]
   have:x<=y:=by lia
   simp[q,this]
  simp[oM,D.P1,c,oN,ma]
def aaf(a b:iF):mC .LtE (cD a) (cD b)=Y (.bl (!A5 (cD b) (cD a)),U):=by obtain⟨r,h1,c⟩:=UU a b;have e:=uZ (cD b) (cD a) (by simp[D.pr,nv]) (by simp[D.pr,nv]) r (by simpa[oN]using c);unfold mC;rw[iQ ⟨by rw[qe];omega,by rw[qe];omega⟩,show oN .LtE (cD a) (cD b)=Y (!r)from by simpa[oN]using h1,e];rfl
def brk(n:Nat)(b:ja)(c:iF):List (List Int):=(kf n b).filter λa=>!kC a c
abbrev HV(w a:iF):Bool:=A5 (cD<|Ea w a)<|cD a
def xv{n:Nat}{b:ja}{a:iF}(h:a∈kf n b):my n a:=Jg.mp (sL.mp h).1
def F6{n:Nat}(a:n<=5)(b:ja):(kf n b).length<=32:=mq (tE _ _)<|Jh a
def wI{n:Nat}{a:ja}(h:om n a){c:iF}(b:SI n c):kE [(BO n a,U),enc c]=Y ((.lst<|(brk n a c).map cD,J),[rS n a,eN c]):=by
 have q:=Bk (caps:=[1]) (fi:=jF M7) (f:=jI 1) (ti:=oK Yl) (δ:=[rS n a,eN c]) (l:=(kf n a).map cD) (args:=[cD c]) (λd=>d) (λd=>!kC ((zk d).map A7) c) (mz<|HJ (si h)<|jV C) C C (λd hd=>by obtain⟨t,e,rfl⟩:=iR hd;rw[DS];exact⟨mN<|kg (o:=U)<|BJ (Pz h.1 (xv e).1 b) (jV C)<|jV C,λ_=>⟨U,rfl⟩⟩) (by have:=F6 h.1 a;simp;lia)
 rw[yR]at q;simp only[DS]at q;exact jQ ⟨rfl,by decide,rfl⟩<|jm<|kh q
section
variable {n:Nat}(g:n<=5){t w:iF}(f:TT n t)(d:BK n t w)
include g f d
theorem VT{a:iF}(c:my n a):nZ [enc a,enc t]=Y ((.bl (!HV w a),U),[eN a,eN t]):=
 zm ⟨rfl,by decide,rfl⟩ (jO (aaf _ _) (jV C).r (jE (b:=U)<|BJ (Ef g f d c) (jV C)<|jV C).r)
abbrev II:FS:=YT
theorem aay(i:Sl):∀(L:ja)(x:Sl),(∀a∈L,my n a)->∃k,nk (iD 2) II (L.map cD) [eN t,i,x]=if L.all (HV w)=J then Y (.nx [eN t,i,k])else Y (.rt (.bl U,U) [eN t,i,k]):=by
 intro s
 induction s with
 |nil=>intro x _;exact⟨x,rfl⟩
 |cons a L q=>
  intro x h;have j:fT (iN nZ [iA 2,iA 0]) [eN t,i,eN a]=Y (!HV w a,[eN t,i,eN a]):=kg (o:=U)<|BJ (VT g f d<|h a ky) (jV C)<|jV C
  have m:nk (iD 2) II ((a::L).map cD) [Y<|enc t,i,x]=(II [Y<|enc t,i,Y<|enc a]).bind λo=>match o with
   |.nx b=>nk (iD 2) II (L.map cD) b
   |.ct b=>nk (iD 2) II (L.map cD) b
   |.bk b=>Y<|.nx b
   |.rt r b=>Y (.rt r b):=rfl
  rw[m,tQ];cases l:HV w a
  .rw[l]at j;refine⟨eN a,?_⟩;have s1:II [eN t,i,eN a]=Y (.rt (.bl U,U) [eN t,i,eN a]):=jm<|(rm j).trans C;rw[s1];rfl
  rw[l]at j;obtain⟨k,e⟩:=q (eN a) λc p=>h c<|kO _ p;refine⟨k,?_⟩;have s1:II [eN t,i,eN a]=Y (.nx [eN t,i,eN a]):=(iC<|(lU j).trans C).trans C;rw[s1];exact e
theorem Cy(L:ja)(c:∀a∈L,my n a):oz [enc t,(.lst<|L.map cD,U)]=Y ((.bl<|L.all<|HV w,U),[eN t,Y (.lst<|L.map cD,U)]):=by
 obtain⟨x,e⟩:=aay g f d (Y (.lst<|L.map cD,U)) L I c
 cases b:L.all (HV w)with
 |true=>rw[b,iQ C]at e;exact jQ (δ:=[eN t,Y (.lst<|L.map cD,U),x]) ⟨rfl,by decide,rfl⟩<|(iC<|(lE C).trans e).trans<|jm C
 |false=>rw[b,je kY]at e;exact jQ (δ:=[eN t,Y (.lst<|L.map cD,U),x]) ⟨rfl,by decide,rfl⟩<|jm<|(lE C).trans e
end
section
variable {n:Nat}{a:ja}(h:om n a)
include h
abbrev Ms(n:Nat)(a:ja):List (List Int):=(nJ n n).filter λt=>a.all λc=>decide<|lc t c∈a
theorem lV{t:iF}(b:t∈Ms n a):TT n t:=(uF (sL.mp b).1).tt
end
section
variable {n:Nat}{a:ja}(h:om n a)(h1:1<=n)
include h h1
end
def Xy{n:Nat}(a:n<=5){c:iF}(h:SI n c):(IX c)<=5:=by have:=h.len;lia
def fTp{f g:F}{δ δ1 δ2:Dn}{a b:D×Bool}(h1:f δ=Y (a,δ1))(c:g δ1=Y (b,δ2)):nX [f,g] δ=Y ((.tup [a.1,b.1],U),δ2):=by rw[HR];simp only[ku,oZ];rw[oS (iW h1)<|iW c];simp[kD,pP]
section
variable {d:D}{lo a:Int}
end
section
variable {n m:Nat}{V R:ja}{d:D}
end
def XB{a b:iF}(h:cD a=cD b):a=b:=by have:=mG Fb h;rwa [ni,ni]at this
section
variable {n:Nat}{L a V R:ja}{d:D}
end
section
variable {a b c:D}
end
section
variable {n:Nat}{d:D}
end
section
variable {n:Nat}{L a c V F:ja}{d:D}{b:iF}
end
def Pd{n:Nat}:∀{m:Nat}{t:iF},PT n m t->t∈nJ n m:=by
 intro m
 induction m with
 |zero=>intro t h;rw[M0.mp h.1];simp[nJ]
 |succ m e=>
  intro t h;obtain⟨h1,c,a⟩:=h;rcases zV t with rfl|⟨p,s,rfl⟩
  .simp at h1
  rw[Dh]at*;rw[pJ,zQ]at a;have d:∀x∈p,ab x≠ab s:=λx b=>a.2.2 _ (qJ b) _ (by simp);simp only[nJ,HX,vd,rJ];refine⟨p,e ⟨by simpa using h1,λx b=>c x<|by simp[b],a.1⟩,s,?_,rfl⟩;unfold KS;simp;refine⟨XX.mpr<|c s<|by simp,λz=>d s z C,λz=>d (-s) z ?_⟩;unfold ab;split<;>split<;>lia
def TT.all{n:Nat}{t:iF}(h:TT n t):t∈nJ n n:=Pd ⟨h.len,λx a=>h.sg a,(HW.mp h).2.2⟩
section
variable {n:Nat}{d:ja}(h:om n d)
include h
theorem Ee{v t:iF}(hv:v∈Ms n d)(a:t∈Ms n d):Bh v t∈Ms n d:=by have f:=lV h hv;have e:=lV h a;refine sL.mpr ⟨(f.Bh e).all,kT.mpr λc b=>?_⟩;have hv:=tL<|kT.mp (sL.mp hv).2 c b;have a:=tL<|kT.mp (sL.mp a).2 _ hv;rw[aah f e<|h.2.1.2 c b]at a;exact lO a
theorem HG:st n∈Ms n d:=sL.mpr ⟨(Au n).all,kT.mpr λc a=>by rw[aag<|h.2.1.2 c a,lO a]⟩
omit h in
theorem acH:fT Yh [ii n]=Y (decide<|(n:Int)>4,[ii n]):=kg (o:=U)<|jO (a:=.int n) (b:=.int 4) (Fx _ _) (jV C).r (jE C).r
omit h in
theorem Xz(a:n<=4):ly [pI n]=Y ((.VP,U),[ii n]):=by have e:nH [ii n]=Y (.nx [ii n]):=(no (δ:=[ii n]) _ (acH.trans<|by rw[lb<|by lia])).trans C;simp only[ly,Sr];rw[iQ ⟨rfl,by decide,rfl⟩];show(match nH [ii n]with|some (.rt r δ)=>Y (r,jn _ δ)|some (.nx δ)=>Y ((D.VP,U),jn _ δ)|_=>I)=_;rw[e];rfl
end
section
variable {n:Nat}{a:ja}{t u v w:iF}
@[irreducible] def bkF(n:Nat)(t:iF):List Int:=Ff n t 2519
def pj(d:n<=5)(b:TT n t):BK n t (bkF n t):=by unfold bkF;refine⟨(pR b _).len,λs c=>?_⟩;have:=zE b 1 c 2519;rw[Wd d b,pV c,R8 b]at this;exact this.symm
theorem UJ{V:ja}(b:st n∈V)(c:∀v∈V,Bh v t∈V):∀k,Ff n t k∈V
 |0=>b
 |k+1=>c _ (UJ b c k)
def aaa:t∈Ms n a↔TT n t/\∀c∈a,lc t c∈a:=by refine⟨λh=>⟨(uF (sL.mp h).1).tt,λc b=>tL<|kT.mp (sL.mp h).2 c b⟩,λh=>sL.mpr ⟨h.1.all,kT.mpr λc b=>lO<|h.2 c b⟩⟩
def WR(h:om n a)(b:u∈Ms n a)(c:BK n u w):w∈Ms n a:=by rw[BK.uniq (lV h b) c<|pj h.1<|lV h b];unfold bkF;exact UJ (HG h) (λv hv=>Ee h hv b) _
end
def ac(n:Nat)(t a:iF):List Int:=Ea (bkF n t) a
section
variable {n:Nat}{c:ja}{t u v w a y:iF}(b:n<=5)
include b
theorem aaV(d:TT n t)(e:BK n t w):ac n t a=Ea w a:=by unfold ac;rw[BK.uniq d e<|pj b d]
theorem Rc(d:TT n t):my n (ac n t a):=Po ((pj b d).tt d) a
theorem Jk(d:TT n t)(e:TT n u)(f:my n a):ac n (Bh t u) a=ac n u (ac n t a):=by unfold ac;rw[aaj ((pj b d).tt d) ((pj b e).tt e) f,BK.Bh d e (pj b d) (pj b e)<|pj b<|d.Bh e]
theorem Vg(e:my n a):ac n (st n) a=a:=by rw[aaV b (Au n) (w:=st n) ⟨yz n,λs d=>by rw[pV d,pV d]⟩,UX e]
theorem aaW(d:TT n t)(f:BK n t w)(e:my n a):ac n w (ac n t a)=a:=by rw[<-Jk b d (f.tt d) e,f.LD d,Vg b e]
end
structure FR(n:Nat)(ks:ja)(a:iF)(O:ja):Prop where
 nd:O.Nodup
 sr:D4 O
 im:∀y,y∈O↔ ∃t∈Ms n ks,ac n t a=y
section
variable {n:Nat}{b O P:ja}{t u v w a y:iF}(h:om n b)
include h
theorem FR.ok(o:FR n b a O)(d:y∈O):my n y:=by obtain⟨t,c,rfl⟩:=(o.im y).mp d;exact Rc h.1<|lV h c
theorem FR.me(o:FR n b a O)(c:my n a):a∈O:=(o.im a).mpr ⟨_,HG h,Vg h.1 c⟩
theorem aaR(c:t∈Ms n b):∃w∈Ms n b,BK n t w:=⟨_,WR h c<|pj h.1<|lV h c,pj h.1<|lV h c⟩
theorem FR.eq(o:FR n b a O)(p:FR n b y P)(e:my n a)(j:y∈O):P=O:=by
 refine Fm ((Mj p.nd o.nd).mpr λx=>?_) p.sr o.sr;rw[p.im,o.im];obtain⟨g,d,rfl⟩:=(o.im y).mp j;have g1:=lV h d;constructor
 .rintro⟨t,c,rfl⟩;exact⟨_,Ee h d c,Jk h.1 g1 (lV h c) e⟩
 rintro⟨t,c,rfl⟩;obtain⟨w,f,i⟩:=aaR h d;refine⟨_,Ee h f c,?_⟩;rw[Jk h.1 (lV h f) (lV h c)<|Rc h.1 g1,aaW h.1 g1 i e]
theorem WQ(e:t∈Ms n b):LR t b b:=by
 obtain⟨d,f⟩:=aaa.mp e;obtain⟨g,c,_⟩:=UT d h;have:=(FX d h c).mpr f
 rwa [this]at c
theorem FR.kp(o:FR n b a O)(d:my n a)(e:y∈O):b.all (kC y)=b.all (kC a):=by obtain⟨t,c,rfl⟩:=(o.im y).mp e;exact XQ (lV h c) (pj h.1<|lV h c) d h<|WQ h c
end
abbrev sT(V:ja):Sl:=Y (.Q2 .set []<|V.map cD,J)
def afg(c:iF)(V:ja):uS (cD c) (.Q2 .set []<|V.map cD)=Y (.bl (!decide (c∈V)),U):=by
 have h1:BC (cD c)=J:=by have:=rQ [c];simpa using this
 unfold uS W9 Lk;simp only;rw[iQ ⟨rQ V,h1⟩,Jf];rfl
theorem aaQ{f:F}{pre:Dn}(g:List Int->List Int):∀(l a:ja)(x:Sl),(∀t∈l,∃o,f (pre++[Y (cD t,U)])=Y ((cD<|g t,o),pre++[Y (cD t,U)]))->(∀m:Nat,(((l.take m).map g).foldl sv a).length<500)->
  ∃b,kr (iD<|IX pre) jD (wH f) (l.map cD) (a.map cD) (pre++[x])=Y (((l.map g).foldl sv a).map cD,pre++[b])
 |[],a,x,_,_=>⟨x,by kernel_rfl⟩
 |t::l,a,x,h,c=>by
  obtain⟨o,d⟩:=h t ky;obtain⟨b,e⟩:=aaQ g l (sv a<|g t) (Y (cD t,U)) (λt j=>h t<|kO _ j) (λm=>by have:=c<|m+1;simpa using this);refine⟨b,?_⟩;have i:(IX a)<500:=by have:=c 0;simpa using this
  have h1:BC (cD<|g t)=J:=by have:=rQ [g t];simpa using this
  rw[ku,kr,show iD (IX pre) (cD t) (pre++[x])=Y (pre++[Y (cD t,U)]) by unfold iD;simp];simp;unfold wH;rw[d];simp only[jH];rw[iQ ⟨rQ a,h1,by simpa using i⟩];simp only[jH];rw[EI];exact e
section
variable {n:Nat}(b:n<=5)(h1:1<=n){L:ja}(c:∀t∈L,TT n t)(a:L.length<=3840)
include b h1 c a
end
def Gv(R:List Int->List (List Int))(p:List D×List (List Int))(a:iF):List D×List (List Int):=if a∈p.2 then p else(p.1++[.tup<|(R a).map cD],(R a).foldl sv p.2)
def GV(n:Nat)(V:ja):Prop:=V.Nodup/\∀v∈V,v∈kP n
def GV.fold{n:Nat}{V cs:ja}(h:GV n V)(a:∀c∈cs,c∈kP n):GV n (cs.foldl sv V):=⟨xF cs V h.1,λv hv=>((rC cs V v).mp hv).elim (h.2 v)<|a v⟩
def GV.len{n:Nat}(a:n<=5){V:ja}(h:GV n V):V.length<=32:=mq (uj V (kP n) h.1 h.2) (by rcases(show n=0\/n=1\/n=2\/n=3\/n=4\/n=5 by lia)with rfl|rfl|rfl|rfl|rfl|rfl<;>decide)
abbrev TM:FS:=iG (pe<|Gi 3<|jI 6) iX
section
variable {n:Nat}(b:n<=5)
include b
theorem U3(a d f i j k:Sl):∀(cs V:ja)(l:Sl),(∀c∈cs,c∈kP n)->GV n V->∃m,nk (iD 6) TM (cs.map cD) [a,d,f,sT V,i,j,l,k]=Y (.nx [a,d,f,sT<|cs.foldl sv V,i,j,m,k])
 |[],V,l,_,_=>⟨l,rfl⟩
 |c::cs,V,l,h,g=>by
  obtain⟨m,e⟩:=U3 a d f i j k cs (sv V c) (eN c) (λc o=>h c<|kO _ o) (g.fold (cs:=[c]) λx p=>by cases EU.mp p;exact h c ky);refine⟨m,?_⟩;have h1:BC (cD c)=J:=by have:=rQ [c];simpa using this
  have q:=g.len b
  have s1:TM [a,d,f,sT V,i,j,eN c,k]=Y (.nx [a,d,f,sT<|sv V c,i,j,eN c,k]):=by refine(iC<|oJ (r:=(.VP,U)) (δ1:=[a,d,f,sT<|sv V c,i,j,eN c,k]) ?_).trans rfl;show(if(V.map cD).all BC=J/\BC (cD c)=J/\(V.map cD).length<500 then Y ((D.VP,U),[a,d,f,Y (D.Q2 .set []<|oO (V.map cD)<|cD c,J),i,j,eN c,k])else I)=_;rw[iQ ⟨rQ V,h1,by simp;lia⟩,EI]
  show(TM [a,d,f,sT V,i,j,eN c,k]).bind _=_;rw[s1];exact e
variable {L:ja}{R:List Int->List (List Int)}(d:∀a∈kP n,(∀c∈R a,c∈kP n)/\(R a).length<=100/\∃o,kG [enc a,(.lst<|L.map cD,IP)]=Go ((.tup<|(R a).map cD,IP),o))
include d
abbrev Xj:FS:=iG (AH (fT Na) (iG (NP 5 [4,7] kG)<|iG M5<|iG (oQ (jF<|jI 5) (iD 6) TM) iX) iX) iX
abbrev IU(a:Sl)(L:ja)(p:List D×List (List Int))(c e f:Sl):Dn:=[a,I,Y (.lst p.1,J),sT p.2,c,e,f,AY L U]
theorem TN(c:Sl){a:iF}(s:a∈kP n)(p:List D×List (List Int))(g:GV n p.2)(v:(IX p.1)<=1000)(j f:Sl):∃q m,Xj (IU c L p (eN a) j f)=Y (.nx<|IU c L (Gv R p a) (eN a) q m):=by
 obtain⟨t,w,o,u⟩:=d a s;have k:fT Na (IU c L p (eN a) j f)=Y (!decide (a∈p.2),IU c L p (eN a) j f):=kg (o:=U)<|jO (afg a p.2) (jV C).r<|jR C;unfold Gv;by_cases h:a∈p.2
 .rw[lO h]at k;rw[iQ h];exact⟨j,f,(iC<|(lU k).trans C).trans C⟩
 rw[lb h]at k;rw[je h];obtain⟨m,e⟩:=U3 b c I (Y (.lst<|p.1++[.tup<|(R a).map cD],J)) (eN a) (Y (.tup<|(R a).map cD,U)) (AY L U) (R a) p.2 f t g;refine⟨Y (.tup<|(R a).map cD,U),m,(iC<|(rm k).trans<|(iC (δ1:=IU c L p (eN a) (Y (.tup<|(R a).map cD,U)) f) ?_).trans<|(iC<|oJ<|rZ (i:=2) (l0:=p.1) (l:=p.1) (r:=(.tup<|(R a).map cD,U)) (δ1:=IU c L p (eN a) (Y (.tup<|(R a).map cD,U)) f) C C C<|xb<|by lia).trans<|(iC<|(lE (ds:=(R a).map cD) C).trans e).trans C).trans C⟩;unfold NP;rw[show jM (IU c L p (eN a) j f) (([4,7]:List Nat).map .slot)=Y [enc a,(.lst<|L.map cD,U)]from C];simp only[jH];rw[iQ ⟨rfl,show 5<8 by decide⟩,u];rfl
theorem WO{p:List D×List (List Int)}{a:iF}(c:a∈kP n)(g:GV n p.2):GV n (Gv R p a).2/\(Gv R p a).1.length<=IX p.1+1:=by
 unfold Gv;split
 .exact⟨g,by lia⟩
 exact⟨g.fold (d a c).1,by simp⟩
theorem U4(i:Sl):∀(as:ja)(p:List D×List (List Int))(j c f:Sl),(∀a∈as,a∈kP n)->GV n p.2->IX p.1+IX as<=1000->∃m l k,nk (iD 4) Xj (as.map cD) (IU i L p j c f)=Y (.nx<|IU i L (as.foldl (Gv R) p) m l k)
 |[],p,j,c,f,_,_,_=>⟨j,c,f,rfl⟩
 |a::as,p,j,c,f,h,g,u=>by have o:=h a ky;obtain⟨g1,g2⟩:=WO b d o g;simp at u;obtain⟨q,r,s⟩:=TN b d i o p g (by lia) c f;obtain⟨m,l,k,e⟩:=U4 i as (Gv R p a) (eN a) q r (λa t=>h a<|kO _ t) g1 (by lia);refine⟨m,l,k,?_⟩;show(Xj<|IU i L p (eN a) c f).bind _=_;rw[s];exact e
end
abbrev tK(K:ja):D:=.tup (K.map cD)
def UL(a:iF):D.pr (cD a)=J:=by simp[D.pr,nv]
def ltc{a b:iF}(h1:A5 (cD b) (cD a)=U)(d:a≠b):A5 (cD a) (cD b)=J:=by
 rw[Rk]at h1;rw[Il]
 cases c:cT (cD a) (cD b)with
 |lt=>rfl
 |eq=>exact absurd (XB<|qg _ _ (UL a) (UL b) c) d
 |gt=>exact absurd c h1
def ltr(x:D):A5 x x=U:=by
 cases e:A5 x x
 .rfl
 rw[XN x x e]at e;cases e
def Ie(R:List Int->List (List Int))(a:iF):Bool:=(R a).all λb=>!A5 (cD b) (cD a)
section
variable {n:Nat}{f:ja}{R:List Int->List (List Int)}{a b y:iF}(h:om n f)(d:∀a∈kP n,FR n f a<|R a)
include h d
theorem F1(g:a∈kf n f)(c:y∈R a):y∈kf n f:=by obtain⟨h1,e⟩:=sL.mp g;have o:=d a h1;exact sL.mpr ⟨Jg.mpr<|o.ok h c,by rw[o.kp h (Jg.mp h1) c];exact e⟩
theorem kEq(c:a∈kP n)(e:y∈R a):R y=R a:=(d a c).eq h (d y<|Jg.mpr<|(d a c).ok h e) (Jg.mp c) e
theorem kMe(c:a∈kP n):a∈R a:=(d a c).me h<|Jg.mp c
theorem acu:(kf n f).Pairwise λa b=>A5 (cD b) (cD a)=U/\a≠b:=by
 have c:n<6:=by have:=h.1;lia
 exact((Q5 n c).filter _).and (KA.mp<|(Uj n c).filter _)
theorem UY:∀(l pre:ja)(p:List D×List (List Int)),pre++l=kf n f->p.1=(pre.filter<|Ie R).map (λa=>tK<|R a)->(∀x,x∈p.2↔ ∃b∈pre,x∈R b)->(l.foldl (Gv R) p).1=((kf n f).filter<|Ie R).map λa=>tK<|R a
 |[],pre,p,e,h1,_=>by rw[wN]at e;rw[<-e];exact h1
 |a::l,pre,p,e,h1,o=>by
  have u:a∈kf n f:=by rw[<-e];simp
  have s:=(sL.mp u).1;have v:=acu h d;rw[<-e,sP]at v;obtain⟨_,r,w⟩:=v;have r:=(zP.mp r).1;rw[vQ]
  have key:(Gv R p a).1=((pre++[a]).filter<|Ie R).map (λa=>tK<|R a)/\∀x,x∈(Gv R p a).2↔ ∃b∈pre++[a],x∈R b:=by
   unfold Gv;by_cases m:a∈p.2
   .rw[iQ m];obtain⟨b,j,ab⟩:=(o a).mp m;have k:b∈kf n f:=by rw[<-e];simp[j]
    have t:=kEq h d (sL.mp k).1 ab
    have:Ie R a=U:=by refine j3.mpr λq=>?_;have:=kT.mp q b (by rw[t];exact kMe h d (sL.mp k).1);obtain⟨A,B⟩:=w b j a ky;rw[ltc A B]at this;cases this
    refine⟨by rw[h1,c9];simp[this],λx=>(o x).trans ⟨λ⟨c,g,i⟩=>⟨c,by simp[g],i⟩,λ⟨c,g,i⟩=>?_⟩⟩;rcases pk.mp g with g|g
    .exact⟨c,g,i⟩
    rw[EU.mp g,t]at i;exact⟨b,j,i⟩
   rw[je m]
   have:Ie R a=J:=by
    refine kT.mpr λb j=>?_
    cases q:A5 (cD b) (cD a)with
    |false=>rfl
    |true=>
     have k:=F1 h d u j;rw[<-e]at k;rcases pk.mp k with z|z
     .exact absurd ((o a).mpr ⟨b,z,by rw[kEq h d s j];exact kMe h d s⟩) m
     rcases oq.mp z with rfl|z
     .rw[ltr]at q;cases q
     rw[(r b z).1]at q;cases q
   refine⟨by simp only;rw[h1,c9];simp[this],λx=>?_⟩;rw[rC,o];constructor
   .rintro(⟨c,g,i⟩|i)
    .exact⟨c,by simp[g],i⟩
    exact⟨a,by simp,i⟩
   rintro⟨c,g,i⟩;rcases pk.mp g with g|g
   .exact .inl ⟨c,g,i⟩
   rw[EU.mp g]at i;exact .inr i
  exact UY l (pre++[a]) _ (by simpa using e) key.1 key.2
theorem kHd(c:a∈kP n)(j:Ie R a=J):∃r,R a=a::r:=by
 have me:=kMe h d c;have g:=(d a c).sr
 cases e:R a with
 |nil=>rw[e]at me;cases me
 |cons b r=>
  rw[e]at me g;refine⟨r,?_⟩;rcases oq.mp me with rfl|z
  .rfl
  have k:=(zP.mp g).1 a z;have i:=kT.mp j b (by rw[e];simp);by_cases q:b=a
  .rw[q]
  rw[ltc k q]at i;cases i
end
section
variable {n:Nat}{b:ja}{R:List Int->List (List Int)}(h:om n b)(c:∀a∈kP n,FR n b a<|R a)
include h c
end
def ZC{cs:ja}(a:(∀c∈cs,c≠[])\/(dd cs).length<=1)(f:(dd cs).length<=100):∃O:List (List Int),(∀c,c∈O↔c∈cs)/\O.Nodup/\D4 O/\(IX O)<=100/\ll (.Q2 .set []<|(dd cs).map cD)=Y (.lst<|O.map cD,J):=by
 have d:∀c,c∈dd cs↔c∈cs:=λc=>by unfold dd;rw[rC];simp
 obtain⟨O,e,b⟩:=wC<|kJ A5<|(dd cs).map cD;refine⟨O,λc=>b.mem_iff.trans<|d c,b.nodup_iff.mpr<|xF cs []<|by simp,?_,by rw[b.length_eq];exact f,?_⟩
 .have:=ot<|(dd cs).map cD;rw[e,oP]at this;exact this
 show(if((dd cs).map cD).all BC=J then kM ((dd cs).map cD)else I)=_;rw[iQ<|rQ _]
 have g:nF ((dd cs).map cD)=J:=by
  rcases a with a|a
  .exact yA _ λc h=>a c<|(d c).mp h
  unfold nF;rw[jU,lO a];rfl
 unfold kM;rw[iQ ⟨g,by rw[kD];simp;lia⟩,e]
def aad{n:Nat}(a:n<=5):(kP n).length<=32:=by rcases(show n=0\/n=1\/n=2\/n=3\/n=4\/n=5 by lia)with rfl|rfl|rfl|rfl|rfl|rfl<;>decide
section
variable {n:Nat}{b:ja}(h:om n b)
include h
theorem VY:∃R:List Int->List (List Int),∀a∈kP n,FR n b a (R a)/\(R a).length<=100/\kc [enc a,(.lst<|(Ms n b).map cD,U)]=Y ((.lst<|(R a).map cD,J),[eN a,AY (Ms n b) U])/\ll (.Q2 .set []<|(dd<|(Ms n b).map λt=>ac n t a).map cD)=Y (.lst<|(R a).map cD,J):=by
 have j:=h.1;refine(ads (p:=λa O=>a∈kP n->FR n b a O/\(IX O)<=100/\kc [enc a,(.lst<|(Ms n b).map cD,U)]=Y ((.lst<|O.map cD,J),[eN a,AY (Ms n b) U])/\ll (.Q2 .set []<|(dd<|(Ms n b).map λt=>ac n t a).map cD)=Y (.lst<|O.map cD,J))).mp λa=>?_;by_cases d:a∈kP n
 .have w:=Jg.mp d;have o:∀t∈Ms n b,ac n t a∈kP n:=λt g=>Jg.mpr (Rc j<|lV h g)
  have k:∀cs:List (List Int),(∀c∈cs,c∈kP n)->(dd cs).length<=(kP n).length:=λcs i=>uj _ (kP n) (xF cs []<|by simp) λc z=>by unfold dd at z;rw[rC]at z;exact z.elim (λz=>absurd z sD)<|i c
  have T:=aad j;have l:∀c∈(Ms n b).map λt=>ac n t a,c∈kP n:=λc i=>by obtain⟨t,g,rfl⟩:=iR i;exact o t g
  obtain⟨O,x,A,B,Q,s⟩:=ZC (cs:=(Ms n b).map λt=>ac n t a) (by
   by_cases q:n=0
   .right;subst q;exact k _ l
   left;intro c i e;have:=(Jg.mp<|l c i).1;rw[e]at this;exact q this.symm) (by have:=k _ l;lia)
  refine⟨O,λ_=>⟨⟨A,B,λy=>by rw[x,rJ]⟩,Q,?_⟩⟩
  obtain⟨E,e⟩:=aaQ (f:=iN lr [iA 0,iA 1]) (pre:=[eN a]) (λt=>ac n t a) (Ms n b) [] I (λt g=>⟨U,BJ (Ef j (lV h g) (pj j<|lV h g) w) (jV C)<|jV C⟩) (λm=>by have:=k (((Ms n b).take m).map λt=>ac n t a) (λc i=>by obtain⟨t,g,rfl⟩:=iR i;exact o t<|vR g);unfold dd at this;lia)
  have u:Qk [0] 1 mH (iD 1) jD (wH Ru) [eN a,AY (Ms n b) U]=Y ((.Q2 .set []<|(dd<|(Ms n b).map λt=>ac n t a).map cD,J),[eN a,AY (Ms n b) U]):=by unfold Qk IK;rw[show mH [eN a,AY (Ms n b) U]=Y ((Ms n b).map cD,[eN a,AY (Ms n b) U])from C];simp only[jH];rw[show jM [eN a,AY (Ms n b) U] (([0]:List Nat).map .slot)=Y [enc a]from C];simp only[jH];rw[iQ (show(jf (([0]:List Nat).map .slot) [enc a]).Nodup by simp[jf])];have v:kr (iD 1) jD (wH Ru) ((Ms n b).map cD) [] (([enc a].map Y)++ao 1 I)=Y ((dd<|(Ms n b).map λt=>ac n t a).map cD,[eN a,E]):=e;rw[v];rfl
  exact⟨zm (np:=2) ⟨rfl,by decide,rfl⟩ (δ:=[eN a,AY (Ms n b) U])<|jC s (jE u).r,s⟩
 exact⟨[],λz=>absurd z d⟩
theorem VZ:∃R:List Int->List (List Int),∀a∈kP n,FR n b a (R a)/\(R a).length<=100/\kc [enc a,(.lst<|(Ms n b).map cD,U)]=Y ((.lst<|(R a).map cD,J),[eN a,AY (Ms n b) U]):=by obtain⟨R,c⟩:=VY h;exact⟨R,λa d=>let⟨x,y,z,_⟩:=c a d;⟨x,y,z⟩⟩
theorem Tf(δ:Dn){i:Nat}(a:δ[i]?=Y (rS n b)):iN lI [iA i] δ=Y ((.lst<|(Ms n b).map cD,J),δ):=HJ (vE h.1 h.2.1.2 h.2.2.2)<|jV a
variable {a:iF}(d:a∈kP n)
include d
end
section
variable {n:Nat}{d:ja}(h:om n d){R:List Int->List (List Int)}
 (f:∀a∈kP n,FR n d a (R a)/\(R a).length<=100/\kc [enc a,(.lst<|(Ms n d).map cD,IP)]=Go ((.lst<|(R a).map cD,IN),[eN a,AY (Ms n d) IP]))
include h f
theorem Tr:Bc [(BO n d,U)]=Y ((.lst<|((kf n d).filter<|Ie R).map λa=>tK<|R a,J),[rS n d]):=by
 have k:=h.1;have j:∀a∈kP n,FR n d a (R a):=λa g=>(f a g).1
 have v:∀a∈kP n,(∀c∈R a,c∈kP n)/\(R a).length<=100/\∃o,kG [enc a,(.lst<|(Ms n d).map cD,U)]=Y ((.tup<|(R a).map cD,U),o):=λa g=>⟨λc u=>Jg.mpr<|(j a g).ok h u,(f a g).2.1,[eN a,AY (Ms n d) U],zm (np:=2) ⟨rfl,by decide,rfl⟩ (δ:=[eN a,AY (Ms n d) U])<|jC (a:=.lst ((R a).map cD)) C (jE (b:=J)<|BJ (f a g).2.2 (jV C)<|jV C).r⟩
 have lk:(kf n d).length<=32:=mq (tE _ _)<|aad k;have t:=UY h j (kf n d) [] ([],[]) C C (λx=>by simp);obtain⟨l,m,p,e⟩:=U4 k v (Y (.lst<|(kf n d).map cD,U)) (kf n d) ([],[]) I I I (λa g=>(sL.mp g).1) ⟨lu,by simp⟩ (by simp;lia);rw[<-t];generalize (kf n d).foldl (Gv R) ([],[])=F at e
 have s:zK kG (uE (.lst<|(kf n d).map cD,U) 5 [(.lst<|(Ms n d).map cD,U)])=Y (.rt (.lst F.1,J) [Y (.lst<|(kf n d).map cD,U),I,I,sT F.2,l,m,p,AY (Ms n d) U]):=by refine(iC (δ1:=[Y (.lst<|(kf n d).map cD,U),I,Y (.lst [],J),I,I,I,I,AY (Ms n d) U])<|by simp[uE,kD]).trans ((iC (δ1:=IU (Y (.lst<|(kf n d).map cD,U)) (Ms n d) ([],[]) I I I) C).trans<|(iC<|(lE (ds:=(kf n d).map cD) C).trans e).trans<|jm C)
 have q:pZ [(BO n d,U),(.lst<|(kf n d).map cD,U)]=Y ((.lst F.1,J),[rS n d,Y (.lst<|(kf n d).map cD,U)]):=by refine jQ (δ:=[rS n d,Y (.lst<|(kf n d).map cD,U),AY (Ms n d) U,I]) ⟨rfl,by decide,rfl⟩<|(iC<|jK (i:=2) (δ1:=[rS n d,Y (.lst<|(kf n d).map cD,U),I,I]) (Tf h _ rfl) (show 2<4 by decide)).trans ?_;show Ft 3 1 [2] 5 (zK kG) [rS n d,Y (.lst<|(kf n d).map cD,U),AY (Ms n d) U,I]=_;unfold Ft;rw[show jM [rS n d,Y (.lst<|(kf n d).map cD,U),AY (Ms n d) U,I] (([1,2]:List Nat).map .slot)=Y [(.lst<|(kf n d).map cD,U),(.lst<|(Ms n d).map cD,U)]from C];simp only[jH];rw[iQ ⟨rfl,by decide,show 3<4 by decide⟩,s];rfl
 exact zm (np:=1) ⟨rfl,by decide,rfl⟩<|BJ q (jV C)<|jE (b:=J)<|HJ (si h)<|jV C
end
def P4{i j:Int}(c:B9 i j):rB (.int i) (.int j)=Y (.int<|i*j,U):=by show((if B9 i j then Y (D.int<|i*j)else I).map λz=>(z,U))=_;rw[iQ c];rfl
def OX{d:D}(h:d.dep<=50):DO d d=Y (.bl U,U):=by unfold DO;rw[iQ ⟨h,h⟩,D.B7];rfl
section
variable {n:Nat}{b:ja}(d:n<=4)(h:om n b){R:List Int->List (List Int)}
 (c:∀a∈kP n,FR n b a (R a)/\(R a).length<=100/\kc [enc a,(.lst<|(Ms n b).map cD,IP)]=Go ((.lst<|(R a).map cD,IN),[eN a,AY (Ms n b) IP]))
include d h c
end
@[irreducible] def sh(n:Nat):List (List Int):=match lX [pI n]with
 |some ((.lst l,_),_)=>l.map Fb
 |_=>[]
def ZE{n:Nat}(h1:1<=n)(a:n<=4):lX [pI n]=Y ((.lst<|(sh n).map cD,J),[ii n]):=by rcases(show n=1\/n=2\/n=3\/n=4 by lia)with rfl|rfl|rfl|rfl<;>kernel_rfl
def ZF:∀n,n<5->∀c∈sh n,c≠[]/\(c.map ab).Pairwise (· < ·)/\∀s∈c,1<=ab s/\ab s<=n:=by decide+kernel
def NH:∀n,n<5->(sh n).length<=100:=by decide+kernel
def Es{b:Tg}{a:FS}{d:D}{l:List D}{δ δ1 δ2:Dn}{r:Option Out}(h1:b d δ=Y δ1)(c:a δ1=Y (.nx δ2))(e:nk b a l δ2=r):nk b a (d::l) δ=r:=by unfold nk;rw[h1];simp only[jH];rw[c];exact e
def TH{c:Tg}{b:FS}{d:D}{l:List D}{e δ1 a:Dn}{r:D×Bool}(h1:c d e=Y δ1)(f:b δ1=Y (.rt r a)):nk c b (d::l) e=Y (.rt r a):=by unfold nk;rw[h1];simp only[jH];rw[f];rfl
def Kp{n:Nat}(b:n<=5){c:iF}(a:SI n c):jL [pI n,enc c]=Y ((.bl J,U),[ii n,eN c]):=by
 have h:=Xy b a;have q:=adx n (cD c) λl f=>by cases f;simp;lia
 have:(c.map D.int).all (sg n)=J:=kT.mpr λd hd=>by obtain⟨s,g,rfl⟩:=rJ.mp hd;have:=a.2.2 s g;simp[sg,this]
 have e:aI (c.map .int)=c.map ab:=by rw[aI,jY];rfl
 rw[ZX n b,lC,this,e,lO a.2.1,lO<|by simpa using a.1]at q;exact q
def RG{n:Nat}{t:iF}(a:TT n t):tB n (cD t)=J:=by rw[Nw];show(((t.map D.int).all wh)&&decide (((t.map D.int).map λd=>ab<|A7 d).Perm<|st n))=J;rw[lR,oW,jY];exact⟨kT.mpr λd hd=>by obtain⟨i,_,rfl⟩:=iR hd;rfl,a⟩
section
variable {n:Nat}{ks:ja}(h:om n ks)
abbrev BL(n:Nat)(B:ja)(t:iF):Bool:=B.all<|HV<|bkF n t
structure GP(n:Nat)(ks:ja)(p:List Int×List Int):Prop where
 cl:SI n p.1
 li:p.2∈Ms n ks
 lo:BL n (brk n ks p.1) p.2=IN
abbrev pD(p:List Int×List Int):D:=.tup [cD p.1,cD p.2]
include h
theorem Pe{c t:iF}(e:SI n c)(f:t∈Ms n ks):mh [(BO n ks,U),enc c,enc t]=Y ((.bl<|BL n (brk n ks c) t,U),[rS n ks,eN c,eN t]):=by
 have tt:=lV h f;have j:=pj h.1 tt
 let δ:Dn:=[rS n ks,eN c,eN t]
 have g:iN jL [ve,iA 1] δ=Y ((.bl J,U),δ):=BJ (Kp h.1 e) (jE (b:=U)<|jO C (jV C).r (jE C).r)<|jV C
 have k:iN mR [iA 0,iA 2] δ=Y ((.bl J,U),δ):=by have:=Lz h (d:=cD t)<|UQ (by rw[tt.len];have:=h.1;lia);rw[liB,RG tt,DS,(sL.mp f).2]at this;exact BJ this (jV C)<|jV C
 refine jQ (δ:=δ) ⟨rfl,by decide,rfl⟩<|(iC<|(lU (δ1:=δ)<|(Eu<|mN<|kg g).trans<|mN<|kg k).trans C).trans<|jm<|kh ?_;exact BJ (Cy h.1 tt j (brk n ks c) λa i=>xv (sL.mp i).1) (jV C)<|jE<|BJ (wI h e) (jV C)<|jV C
abbrev Xl:FS:=YN
theorem U5(b:Sl){B:ja}(i:∀a∈B,my n a):∀(L:ja)(x:Sl),(∀t∈L,TT n t)->∃g,nk (iD 2) Xl (L.map cD) [b,Y (.lst<|B.map cD,U),x]=match L.find? (BL n B)with
  |some t=>Y<|.rt (enc t) [b,Y (.lst<|B.map cD,U),g]
  |none=>Y<|.nx [b,Y (.lst<|B.map cD,U),g]
 |[],x,_=>⟨x,rfl⟩
 |t::L,x,j=>by
  have k:=j t ky;have f:fT (iN oz [iA 2,iA 1]) [b,Y (.lst<|B.map cD,U),eN t]=Y (BL n B t,[b,Y (.lst<|B.map cD,U),eN t]):=kg (o:=U)<|BJ (Cy h.1 k (pj h.1 k) B i) (jV C)<|jV C
  cases c:BL n B t with
  |true=>rw[c]at f;refine⟨eN t,?_⟩;have s1:Xl [b,Y (.lst<|B.map cD,U),eN t]=Y (.rt (enc t) [b,Y (.lst<|B.map cD,U),eN t]):=jm<|(rm f).trans<|jm C;rw[List.find?_cons_of_pos c];exact TH (δ1:=[b,Y (.lst<|B.map cD,U),eN t]) (d:=cD t) C s1
  |false=>rw[c]at f;obtain⟨g,e⟩:=U5 b i L (eN t) λm l=>j m<|kO _ l;refine⟨g,?_⟩;have s1:Xl [b,Y (.lst<|B.map cD,U),eN t]=Y (.nx [b,Y (.lst<|B.map cD,U),eN t]):=(iC<|(lU f).trans C).trans C;rw[List.find?_cons_of_neg<|by rw[c];exact kY];exact Es (δ1:=[b,Y (.lst<|B.map cD,U),eN t]) (d:=cD t) C s1 e
def oD:Option (List Int)->D
 |some t=>cD t
 |none=>.VP
theorem TK{B:ja}(d:∀a∈B,my n a)(o:Bool):lH [(.lst<|(Ms n ks).map cD,o),(.lst<|B.map cD,U)]=Y ((oD<|(Ms n ks).find?<|BL n B,U),[Y (.lst<|(Ms n ks).map cD,U),Y (.lst<|B.map cD,U)]):=by
 obtain⟨i,e⟩:=U5 h (Y (.lst<|(Ms n ks).map cD,U)) d (Ms n ks) I λt g=>lV h g;have s:jF (jI 0) [Y (.lst<|(Ms n ks).map cD,o),Y (.lst<|B.map cD,U),I]=Y ((Ms n ks).map cD,[Y (.lst<|(Ms n ks).map cD,U),Y (.lst<|B.map cD,U),I]):=by cases o<;>rfl
 have c:∀x,jn [(.lst<|(Ms n ks).map cD,o),(.lst<|B.map cD,U)] [Y (.lst<|(Ms n ks).map cD,U),Y (.lst<|B.map cD,U),x]=[Y (.lst<|(Ms n ks).map cD,U),Y (.lst<|B.map cD,U)]:=λx=>by cases o<;>rfl
 cases b:(Ms n ks).find? (BL n B)with
 |some t=>
  rw[b]at e;have q:=jQ (n:=3) (np:=2) (asg:=[2]) (f:=nW) (args:=[(.lst<|(Ms n ks).map cD,o),(.lst<|B.map cD,U)]) ⟨rfl,by decide,by cases o<;>rfl⟩<|jm<|(lE s).trans e
  rwa [c]at q
 |none=>
  rw[b]at e;have q:=jQ (n:=3) (np:=2) (asg:=[2]) (f:=nW) (args:=[(.lst<|(Ms n ks).map cD,o),(.lst<|B.map cD,U)]) (r:=(.VP,U)) ⟨rfl,by decide,by cases o<;>rfl⟩<|(iC<|(lE s).trans e).trans<|jm C
  rwa [c]at q
abbrev pf(n:Nat)(ks:ja)(c:iF):Option (List Int):=(Ms n ks).find?<|BL n<|brk n ks c
abbrev Ib(n:Nat)(ks a:ja):List (List Int×List Int):=a.filterMap λc=>(pf n ks c).map λt=>(c,t)
abbrev TR:FS:=zC2
theorem Qe:∀(j:ja)(P:List (List Int×List Int))(o:Bool)(x3 k:Sl),(∀c∈j,SI n c)->P.length+IX j<=1000->∃s p q,nk (iD 3) TR (j.map cD) [rS n ks,AY (Ms n ks) o,Y (.lst<|P.map pD,J),x3,k]=Y (.nx [rS n ks,AY (Ms n ks) s,Y (.lst<|(P++Ib n ks j).map pD,J),p,q])
 |[],P,o,x3,k,_,_=>⟨o,x3,k,by rw[show P++Ib n ks []=P from wN P];rfl⟩
 |c::j,P,o,x3,k,w,T=>by
  have cl:=w c ky;rw[mX]at T;have y:∀c∈j,SI n c:=λc A=>w c<|kO _ A
  let δ:Bool->Sl->Dn:=λo x=>[rS n ks,AY (Ms n ks) o,Y (.lst<|P.map pD,J),eN c,x]
  have z:iN lH [iA 1,Yr] (δ o k)=Y ((oD<|pf n ks c,U),δ U k):=
   (jJ (δ1:=δ o k) (os:=[.slot 1,.val (.lst<|(brk n ks c).map cD,J)]) (args:=[(.lst<|(Ms n ks).map cD,o),(.lst<|(brk n ks c).map cD,U)]) (oS C<|iW<|BJ (wI h cl) (jV C)<|jV C) C (by cases o<;>simp[jf])<|TK h (λa B=>xv (sL.mp B).1) o).trans (by cases o<;>rfl)
  have s0:TR (δ o k)=_:=iC<|jK (i:=4) (δ1:=δ U k) z (show 4<5 by decide)
  cases u:pf n ks c with
  |none=>rw[u]at s0;obtain⟨s,p,q,e⟩:=Qe j P U (eN c) (Y (.VP,U)) y (by lia);refine⟨s,p,q,?_⟩;have s1:TR (δ o k)=Y (.nx [rS n ks,AY (Ms n ks) U,Y (.lst<|P.map pD,J),eN c,Y (.VP,U)]):=s0.trans C;have v:Ib n ks (c::j)=Ib n ks j:=List.filterMap_cons_none (by rw[u];rfl);rw[v];exact Es (d:=cD c) (δ1:=δ o k) C s1 e
  |some t=>
   rw[u]at s0;obtain⟨s,p,q,e⟩:=Qe j (P++[(c,t)]) U (eN c) (eN t) y (by simp;lia);refine⟨s,p,q,?_⟩
   let m:Dn:=[rS n ks,AY (Ms n ks) U,Y (.lst<|P.map pD,J),eN c,eN t]
   have E:fT (iT yN (iA 4)<|iP<|fC .VP) m=Y (J,m):=rfl
   have s1:TR (δ o k)=Y (.nx [rS n ks,AY (Ms n ks) U,Y (.lst<|(P++[(c,t)]).map pD,J),eN c,eN t]):=by
    refine s0.trans<|(iC<|(rm (δ1:=m) E).trans<|(iC<|oJ<|rZ (i:=2) (l0:=P.map pD) (l:=P.map pD) (r:=(pD (c,t),U)) (δ1:=m) C ?_ C<|xb<|by simp;lia).trans C).trans ?_
    .exact fTp (f:=jI 3) (g:=jI 4) (a:=(cD c,U)) (b:=(cD t,U)) (δ:=m) (δ1:=m) (δ2:=m) C C
    rw[pJ];rfl
   have v:Ib n ks (c::j)=(c,t)::Ib n ks j:=MI (by rw[u];rfl);rw[v,show P++(c,t)::Ib n ks j=(P++[(c,t)])++Ib n ks j by simp];exact Es (d:=cD c) (δ1:=δ o k) C s1 e
end
theorem QE{f:F}{l:FT}{k:Tg}{pre:Dn}{g:(List Int×List Int)->D}{q:(List Int×List Int)->Bool}(c:∀p u v,k (pD p) (pre++[u,v])=Y (pre++[eN p.1,eN p.2])):∀(P:List (List Int×List Int))(acc:List D)(u v:Sl),(∀p∈P,l (pre++[eN p.1,eN p.2])=Y (q p,pre++[eN p.1,eN p.2])/\∃o,f (pre++[eN p.1,eN p.2])=Y ((g p,o),pre++[eN p.1,eN p.2]))->IX acc+P.length<=10000->∃a b,kr k l (jN f) (P.map pD) acc (pre++[u,v])=Y (acc++(P.filter q).map g,pre++[a,b])
 |[],acc,u,v,_,_=>⟨u,v,by simp[kr]⟩
 |p::P,acc,u,v,h,r=>by
  obtain⟨h1,o,n⟩:=h p ky;have d:=λj (m:j∈P)=>h j<|kO _ m;rw[mX]at r;rw[ku,kr,c];simp only[jH];rw[h1];simp only[jH]
  cases i:q p
  .obtain⟨a,b,e⟩:=QE c P acc (eN p.1) (eN p.2) d (by lia);exact⟨a,b,by rw[je kY,xS<|by rw[i];exact kY];exact e⟩
  obtain⟨a,b,e⟩:=QE c P (acc++[g p]) (eN p.1) (eN p.2) d (by simp;lia);refine⟨a,b,?_⟩;rw[iQ C,xX i,DX,n];simp only[jH];rw[iQ<|xb<|by lia];simp only[jH];rw[e,qO];rfl
def EA{caps:jP}{fi:B0}{f:F}{ti:FT}{tg:Tg}{δ δ1:Dn}{args:List D}{P:List (List Int×List Int)}(g:(List Int×List Int)->D)(q:(List Int×List Int)->Bool)(h1:fi δ=Y (P.map pD,δ1))(b:jM δ1 (caps.map .slot)=Y (args.map λd=>(d,U)))(a:∀p u v,tg (pD p) (AL args++[u,v])=Y (AL args++[eN p.1,eN p.2]))
  (h:∀p∈P,ti (AL args++[eN p.1,eN p.2])=Y (q p,AL args++[eN p.1,eN p.2])/\∃o,f (AL args++[eN p.1,eN p.2])=Y ((g p,o),AL args++[eN p.1,eN p.2]))(c:P.length<=10000):
  jv caps 2 fi tg ti (jN f) δ=Y ((.lst<|(P.filter q).map g,J),δ1):=by
 obtain⟨u,v,e⟩:=QE a P [] I I h (by simpa using c);refine(uz (caps:=caps) (k:=2) (args:=args.map λd=>(d,U)) h1 b (by rw[rq];exact lu) (acc:=(P.filter q).map g) (δ':=AL args++[u,v]) ?_).trans (by rw[Cf]);rw[jY];exact e
def Xw(p:List Int×List Int):D.dep (pD p)=2:=by simp[D.dep,D.NL,uD]
theorem Kl:∀P:List (List Int×List Int),D.NL (P.map pD)<=2
 |[]=>by simp[D.NL]
 |p::P=>by have:=Kl P;rw[ku,D.NL,Xw];lia
def Sy(p:List Int×List Int):mQ [(pD p,U)]=Y ((.bl J,U),[Y (pD p,U)]):=by kernel_rfl
abbrev AI(P:List (List Int×List Int)):Sl:=Y (.tup<|P.map pD,U)
section
variable {n:Nat}{e:ja}(h:om n e){P:List (List Int×List Int)}(j:∀p∈P,GP n e p)(k:P.length<=30)
include h j k
theorem U1:lM [(BO n e,U),(.tup<|P.map pD,U)]=Y ((.bl J,U),[rS n e,AI P]):=by
 let δ:Dn:=[rS n e,AI P]
 have t:fT YG δ=Y (U,δ):=kg (o:=U)<|jO (a:=.int P.length) (by rw[Fx,lb<|by lia]) (jE (b:=U)<|jC (by rw[DV,jU])<|jR C).r (jE C).r
 have c:=rF (caps:=[0]) (fi:=jF<|jI 1) (f:=vh (iN mQ [iA 1]) YY) (δ:=δ) (δ1:=δ) (l:=P.map pD) (args:=[BO n e]) (λ_=>J) C C C (λd hd=>by obtain⟨p,s,rfl⟩:=iR hd;obtain⟨g,i,q⟩:=j p s;have m:=Pe h g i;rw[q]at m;exact⟨U,(wB<|HJ (Sy p)<|jV C).trans<|W0 m (jV C) (jE (b:=U)<|jO C (jV C).r (jE C).r)<|jE (b:=U)<|jO C (jV C).r (jE C).r⟩) (by simp;lia)
 rw[show(P.map pD).all (λ_=>J)=J from kT.mpr λ_ _=>rfl]at c;exact jQ (δ:=δ) ⟨rfl,by decide,rfl⟩<|(iC<|(lU (δ1:=δ)<|(Eu (δ1:=δ) C).trans t).trans C).trans<|jm<|kh c
theorem UK(hk:(IX e)+P.length<=30):∃d,om n d/\(∀c,c∈d↔c∈e\/∃p∈P,p.1=c)/\pG [(BO n e,U),(.tup<|P.map pD,U)]=Y ((BO n d,U),[rS n e,AI P]):=by
 have x:=h.1
 obtain⟨O,d,y,z,A,B,L,E⟩:=VH (n:=n) (cs:=e++P.map (·.1)) (λc m=>by
  rcases pk.mp m with m|m
  .exact h.2.1.2 c m
  obtain⟨p,q,rfl⟩:=iR m;exact(j p q).cl) (by simp;lia)
 have N:(IX d)<=30:=by rw[oG,jU]at B;lia
 refine⟨d,⟨x,y,z,N⟩,λc=>(A c).trans<|by rw[pk,rJ],?_⟩
 let l:Dn:=[rS n e,AI P,I,I,I]
 let δ1:Dn:=[rS n e,AI P,ii n,D8 e,I]
 let δ2:Dn:=[rS n e,AI P,ii n,D8 e,Y (.lst<|d.map cD,J)]
 have Q:iN lM [iA 0,iA 1] l=Y ((.bl J,U),l):=BJ (U1 h j k) (jV C)<|jV C
 have s:jv [] 2 mH E6 jD EX δ1=Y ((.lst ((P.map (·.1)).map cD),J),δ1):=by have:=EA (caps:=[]) (fi:=jF<|jI 1) (f:=jI 0) (ti:=jD) (tg:=wX [iD 0,iD 1]) (δ:=δ1) (δ1:=δ1) (args:=[]) (P:=P) (λp=>cD p.1) (λ_=>J) C C (λp u v=>rfl) (λp q=>⟨rfl,U,rfl⟩) (by lia);rw[Vh.mpr λ_ _=>rfl]at this;rw[jY];exact this
 have t:iT nV (iA 3) YW δ1=Y ((.tup ((e++P.map (·.1)).map cD),U),δ1):=by refine jO (a:=.tup (e.map cD)) (b:=.tup ((P.map (·.1)).map cD)) ?_ (jV C).r (jE (b:=U)<|jC (NZ _) (jE s).r).r;rw[aaU (by simp;lia)<|by simp;lia,pJ]
 have w:jc (g1 ll) [Zc] δ1=Y ((.lst<|d.map cD,J),δ1):=jC E (jE (b:=J) (jC (a:=.tup ((e++P.map (·.1)).map cD)) L (jE t).r)).r;have T:fT YF δ2=Y (U,δ2):=kg (o:=U)<|jO (a:=.int (IX d)) (by rw[Fx,lb<|by lia]) (jE (b:=U)<|jC (by rw[N1,jU])<|jR C).r (jE C).r;refine jQ (n:=5) (np:=2) (asg:=[2,3,4]) (δ:=δ2) ⟨rfl,by decide,rfl⟩<|(iC<|(lU<|mN (b:=J)<|kg (o:=U) Q).trans C).trans ?_;refine(iC (δ1:=δ1)<|RN (r:=(BO n e,U)) (δ1:=l) C C).trans ((iC<|jK (i:=4) w (show 4<5 by decide)).trans<|(iC<|(lU (δ1:=δ2) T).trans C).trans<|jm<|kh ?_);exact fTp (f:=jI 2) (g:=jc (g1 nG) [iA 4]) (a:=(.int n,U)) (b:=(.tup<|d.map cD,U)) (δ:=δ2) (δ1:=δ2) (δ2:=δ2) C<|jC (NZ _)<|jR C
end
def Kc(L:ja):BV (.lst<|L.map cD) (.lst [])=Y (.bl<|decide<|L=[],U):=by unfold BV;rw[iQ ⟨by rw[D.dep];have:=zL L;lia,by decide⟩];cases L<;>rfl
section
variable {n:Nat}{g:ja}(h:om n g)
include h
theorem aaA{c:iF}(d:SI n c):sd [(BO n g,U),enc c]=Y ((.bl<|decide<|brk n g c=[],U),[rS n g,eN c]):=by
 have f:mw [pI n,enc c]=Y ((.bl J,U),[ii n,eN c]):=by
  refine zm (np:=2) (δ:=[ii n,eN c]) ⟨rfl,by decide,rfl⟩ ?_
  have e:iT P8 (iA 1) (iP<|nX []) [ii n,eN c]=Y ((.bl U,U),[ii n,eN c]):=by refine jO (a:=cD c) (b:=cD []) ?_ (jV C).r (jE (b:=U) C).r;have:=Xb c [];rw[lb d.1]at this;exact this
  show(iT P8 (iA 1) (iP<|nX []) [ii n,eN c]).bind _=_;rw[e];exact BJ (fa:=iA 0) (fb:=iA 1) (δ:=[ii n,eN c]) (Kp h.1 d) (jV C)<|jV C
 let δ:Dn:=[rS n g,eN c]
 have i:iN mw [ve,iA 1] δ=Y ((.bl J,U),δ):=BJ f (jE (b:=U)<|jO C (jV C).r (jE C).r)<|jV C;exact jQ (δ:=δ) ⟨rfl,by decide,rfl⟩<|(iC<|(lU<|mN (b:=J)<|kg (o:=U) i).trans C).trans<|jm<|kh<|jO (Kc _) (jE (b:=J)<|BJ (wI h d) (jV C)<|jV C).r (jE (b:=J) C).r
theorem Te(B:ja)(d:∀a∈B,my n a):BL n B (st n)=decide (B=[]):=by
 cases B with
 |nil=>rfl
 |cons a B=>have b:=pj h.1<|Au n;have e:bkF n (st n)=st n:=BK.uniq (Au n) b ⟨yz n,λs c=>by rw[pV c,pV c]⟩;rw[lb<|by simp];show(HV (bkF n<|st n) a&&_)=U;rw[e];unfold HV;rw[UX<|d a ky,ltr];rfl
abbrev acG:FS:=Y7
omit h in
theorem P0(P:List (List Int×List Int)):DO (.lst<|P.map pD) (.lst [])=Y (.bl<|decide<|P≠[],U):=by unfold DO;rw[iQ ⟨by rw[D.dep];have:=Kl P;lia,by decide⟩];cases P<;>rfl
omit h in
theorem VL(a:Int)(b o:Bool)(Q:List (List Int×List Int))(Y:(IX Q)<=1000):∃(H:Int)(P:List (List Int×List Int)),(∀p∈P,p∈Q)/\P.length<=4/\nC [pS a b,(.lst<|Q.map pD,o),pI 4]=Go ((.tup<|P.map pD,IP),[V0 H b,Go (.lst<|Q.map pD,o),ii 4]):=by
 let qS:Sl:=Go (.lst<|Q.map pD,o)
 obtain⟨v,a1,U,D,I⟩:=nR a b 5 (by lia) (by lia);have C:iN jz [iA 0,Vm] [V0 a b,qS,ii 4,AI [],Ix]=Go ((.int v,IP),[V0 a1 b,qS,ii 4,AI [],Ix]):=I _ [qS,ii 4,AI [],Ix] (.val (.int 5,IP)) (iW IR) rfl;have A:iT DO (iA 1) wR [V0 a1 b,qS,ii 4,AI [],Ix]=Go ((.bl<|decide<|Q≠[],IP),[V0 a1 b,qS,ii 4,AI [],Ix]):=jO (P0 Q) (jR IR) (jE (b:=IN) IR).r
 let m:Nat:=if Q=[]then 0 else v.toNat
 have T:m<=4:=by simp only[m];split<;>lia
 have G:yL Ze [V0 a b,qS,ii 4,AI [],Ix]=Go (jo 0 m,[V0 a1 b,qS,ii 4,AI [],Ix]):=by
  refine uP (o:=.val (.int m,IP)) (iW ?_) IR (by lia);by_cases e:Q=[]
  .have s:jc (g1 IC) [Vj] [V0 a1 b,qS,ii 4,AI [],Ix]=Go ((.int 0,IP),[V0 a1 b,qS,ii 4,AI [],Ix]):=jC (a:=.bl (decide<|Q≠[])) (by rw[lb<|by simpa using e];rfl) (jE A).r;refine jW (o1:=.val (.int v,IP)) (o2:=.val (.int 0,IP)) (iW C) (iW s) IR IR ?_;rw[P4<|.inl<|by lia,Int.mul_zero,show m=0 from iQ e];rfl
  have s:jc (g1 IC) [Vj] [V0 a1 b,qS,ii 4,AI [],Ix]=Go ((.int 1,IP),[V0 a1 b,qS,ii 4,AI [],Ix]):=jC (a:=.bl (decide<|Q≠[])) (by rw[lO e];rfl) (jE A).r;refine jW (o1:=.val (.int v,IP)) (o2:=.val (.int 1,IP)) (iW C) (iW s) IR IR ?_;rw[P4<|.inl<|by lia,DF,show m=v.toNat from je e,Int.toNat_of_nonneg U]
 obtain⟨_,⟨c,P,x,u,y,rfl⟩,L⟩:=xE (tg:=iD 4) (fb:=acG) (λl δ=>∃(c:Int)(P:List (List Int×List Int))(x:Sl),(∀p∈P,p∈Q)/\(P.length+IX l<=4/\(l≠[]->Q≠[]))/\δ=[V0 c b,qS,ii 4,AI P,x]) (λd l δ a'=>by
  obtain⟨c,P,x,u,⟨y,E⟩,hd⟩:=a'
  subst hd;have e:=M1.mpr<|E<|k5 _ _;obtain⟨w,k,F,K,O⟩:=nR c b (IX Q) (by lia) (by lia);obtain⟨j,rfl⟩:∃j:Nat,w=j:=⟨w.toNat,by lia⟩
  have B:j<(IX Q):=by lia
  let δ:Int->Dn:=λa=>[V0 a b,qS,ii 4,AI P,Go (d,IP)]
  have J:iT AK (iA 1) Rz (δ c)=Go ((pD Q[j],IP),δ k):=jW (o1:=.slot 1) (o2:=.val (.int j,IP)) IR (iW<|O _ [qS,ii 4,AI P,Go (d,IP)] (.val (.int<|IX Q,IP)) (iW<|jC (a:=.lst (Q.map pD)) (by rw[N1,jU])<|jR IR) rfl) IR IR (by simp[AK,FN,DL,B])
  have M:nX [iT AK (iA 1) Rz] (δ c)=Go ((.tup [pD Q[j]],IP),δ k):=by rw[HR];simp only[ku,oZ];rw[nI<|iW J];simp[kD,pP]
  rw[mX]at y;have N:iT nV (iA 3) (iP<|nX [iT AK (iA 1) Rz]) (δ c)=Go ((.tup<|(P++[Q[j]]).map pD,IP),δ k):=jW (o1:=.slot 3) (o2:=.val (.tup [pD Q[j]],IP)) IR (iW M) IR IR (by rw[aaU (by simp;lia)<|by simp,pJ];rfl);refine⟨_,_,rfl,(iC<|jK (i:=3) N (show 3<5 by decide)).trans IR,k,P++[Q[j]],Go (d,IP),λp t=>?_,⟨by simp;lia,λ_=>E<|k5 _ _⟩,rfl⟩;rcases pk.mp t with z|z
  .exact u p z
  rw[EU.mp z];exact yb B) (jo 0 m) [V0 a1 b,qS,ii 4,AI [],Ix] ⟨a1,[],Ix,(λp t=>by cases t),⟨by simp[jo];exact T,λhd e=>hd<|by simp only[m];rw[iQ e];rfl⟩,rfl⟩
 refine⟨c,P,u,by have:=y.1;simpa using this,?_⟩;have q:=jQ (n:=5) (np:=3) (asg:=[3,4]) (f:=sM) (args:=[pS a b,(.lst<|Q.map pD,o),pI 4]) (r:=(.tup<|P.map pD,IP)) (δ:=[V0 c b,qS,ii 4,AI P,x]) ⟨rfl,by decide,by cases o<;>rfl⟩<|(iC (δ1:=[V0 a b,qS,ii 4,AI [],Ix]) IR).trans<|(iC<|(lE G).trans L).trans<|jm IR;exact q.trans (by cases o<;>rfl)
end
def TV{f g:FT}{δ δ1:Dn}(h:f δ=Y (J,δ1)):uA f g δ=g δ1:=by unfold uA;rw[h];rfl
def TX{f g:FT}{δ δ1:Dn}(h:f δ=Y (U,δ1)):uA f g δ=Y (U,δ1):=by unfold uA;rw[h];rfl
section
variable {n:Nat}{d:ja}(h:om n d)
include h
abbrev Lv(n:Nat)(d:ja):List (List Int×List Int):=Ib n d<|sh n
omit h in
theorem Sg(a:ja):(Ib n d a).length<=(IX a):=List.length_filterMap_le _ _
theorem UA{c:iF}(a:c∈sh n)(b:n<=4):SI n c:=ZF n (by lia) c a
theorem Wk(b:n<=4):∀p∈Lv n d,GP n d p:=λp g=>by obtain⟨c,f,e⟩:=c7.mp g;obtain⟨t,a,rfl⟩:=dr.mp e;exact⟨UA h f b,MQ a,mu (p:=BL n<|brk n d c) a⟩
theorem acJ(h1:1<=n)(f:n<=4):nD [(BO n d,U)]=Y ((.lst<|(Lv n d).map pD,J),[rS n d]):=by
 obtain⟨k,x3,l,e⟩:=Qe h (sh n) [] J I I (λc j=>UA h j f) (by have:=NH n (by lia);simp;lia);rw[rK]at e
 let a:Dn:=[rS n d,I,I,I,I]
 let δ1:Dn:=[rS n d,AY (Ms n d) J,Y (.lst [],J),I,I]
 have g:∀{δ:Dn},δ[0]?=Y (rS n d)->FJ ve δ (.int n):=λhd=>jE (b:=U)<|jO C (jV hd).r (jE C).r;refine jQ (n:=5) (np:=1) (asg:=[1,2,3,4]) (δ:=[rS n d,AY (Ms n d) k,I,x3,l]) ⟨rfl,by decide,rfl⟩<|(iC<|oJ<|HJ (Xz f)<|g (δ:=a) C).trans<|(iC<|jK (i:=1) (δ1:=a) (HJ (vE h.1 h.2.1.2 h.2.2.2)<|jV C) (show 1<5 by decide)).trans<|(iC (δ1:=δ1) C).trans<|(iC<|(lE<|mz<|HJ (ZE h1 f)<|g (δ:=δ1) C).trans e).trans<|jm C
variable {P:List (List Int×List Int)}(k:∀p∈P,GP n d p){j:ja}(l:∀c,c∈j↔c∈d\/∃p∈P,p.1=c)
include k l
theorem Ph{a:iF}(b:a∈kf n d)(m:a∉kf n j):∃p∈P,HV (bkF n p.2) a=J:=by
 obtain⟨a1,g⟩:=sL.mp b;have: ¬ ∀c∈j,kC a c=J:=λq=>m<|sL.mpr ⟨a1,kT.mpr q⟩;obtain⟨c,q⟩:=adu.mp this;obtain⟨i,hk⟩:=adt.mp q;rcases(l c).mp i with z|⟨p,f,rfl⟩
 .exact absurd (kT.mp g c z) hk
 exact⟨p,f,kT.mp (k p f).lo a<|sL.mpr ⟨b,by cases e:kC a p.1 with|true=>exact absurd e hk|false=>rfl⟩⟩
theorem Qg{R:List Int->List (List Int)}(c:∀a∈kP n,FR n d a<|R a){a:iF}(b:a∈kf n d)(f:Ie R a=J):a∈kf n j:=by refine Mi λq=>?_;obtain⟨p,g,e⟩:=Ph h k l b q;have:=kT.mp f (ac n p.2 a)<|((c a (sL.mp b).1).im _).mpr ⟨p.2,(k p g).li,rfl⟩;unfold HV at e;unfold ac at this;rw[e]at this;cases this
abbrev fDn:F:=Zb
abbrev fb8:FS:=iG (kK 9 fDn) Y5
abbrev dI(n:Nat)(d j:ja)(P:List (List Int×List Int))(g i a b:Sl)(e f c:Sl):Dn:=[g,i,a,rS n d,b,AI P,rS n j,Y (.lst<|(kf n j).map cD,J),e,f,c]
theorem Xo(O:P.length<=30)(w x m q:Sl){a:iF}(N:a∈kf n d)(A s:Sl):∃L,fb8 (dI n d j P w x m q (eN a) A s)=Y (.nx<|dI n d j P w x m q (eN a) L s):=by
 have E:=h.1;have T:=xv N
 let W:List (List Int):=(P.filter λp=>HV (bkF n p.2) a).map (·.2)
 have c:=EA (caps:=[8]) (fi:=jF<|jI 5) (f:=jI 2) (ti:=fT YH) (tg:=wX [iD 1,iD 2]) (δ:=dI n d j P w x m q (eN a) A s) (δ1:=dI n d j P w x m q (eN a) A s) (args:=[cD a]) (P:=P) (λp=>cD p.2) (λp=>HV (bkF n p.2) a) C C (λp u v=>rfl) (λp y=>⟨kg (o:=U)<|jO (Z8 _ _) (jE (b:=U)<|BJ (Ef E (lV h (k p y).li) (pj E<|lV h (k p y).li) T) (jV C)<|jV C).r (jV C).r,U,rfl⟩) (by lia);have Q:(P.filter λp=>HV (bkF n p.2) a).map (λp=>cD p.2)=W.map cD:=by simp only[W];rw[jY];rfl
 rw[Q]at c;refine⟨Y (.lst<|W.map cD,J),?_⟩
 let δ1:Dn:=dI n d j P w x m q (eN a) (Y (.lst<|W.map cD,J)) s
 have z:fT M8 δ1=Y (!decide (a∈kf n j),δ1):=kg<|jO (xj a<|kf n j) (jV C).r<|jR C
 have t:uA (fT M8) (fT<|iT BV (iA 9) wR) δ1=Y (U,δ1):=by
  by_cases B:a∈kf n j
  .rw[lO B]at z;exact TX z
  rw[lb B]at z;obtain⟨p,y,e⟩:=Ph h k l N B;have:W≠[]:=List.ne_nil_of_mem<|qJ<|sL.mpr ⟨y,e⟩;refine(TV z).trans (kg (o:=U)<|jO ?_ (jR C) (jE (b:=J) C).r);have g:=Kc W;rw[lb this]at g;exact g
 exact(iC<|jK (i:=9) (δ1:=dI n d j P w x m q (eN a) A s) c (show 9<11 by decide)).trans ((iC<|(lU (δ1:=δ1) t).trans C).trans C)
end
abbrev fKd:F:=Y8
abbrev aaF:F:=iN pG [iA 3,Yw]
abbrev Xr:FS:=iG Ye<|iG (AH (BX Vr<|fT<|iT DO (iP aaF)<|iA 6) oI iX)<|iG (kK 7<|iN lN [iA 6])<|iG (AH (fT<|iT DO (iP fKd) wR) oI iX)<|iG (oQ (jF<|iN lN [iA 3]) (iD 8) fb8) iX
def Xv(n:Nat)(a:ja):(BO n a).dep<=50:=by have:=zL a;simp only[D.dep,D.NL];lia
section
variable {n:Nat}{j:ja}(h:om n j){P:List (List Int×List Int)}(u:∀p∈P,GP n j p)(m l t s:Sl)
include h u
theorem aaP(hk:(IX j)+P.length<=30)(Y x7 E H A:Sl):∃y6 y7 C' B,Xr [m,l,t,rS n j,s,AI P,Y,x7,E,H,A]=Go (.nx [m,l,t,rS n j,s,AI P,y6,y7,C',B,A]):=by
 have V:=h.1;have I:P.length<=30:=by lia
 obtain⟨Z,O,Q,D⟩:=UK h u I hk;obtain⟨y,k1,k2,F⟩:=UK h (P:=P.reverse) (λp W=>u p<|Jo.mp W) (by simpa using I) (by simpa using hk);have S:y=Z:=VI k1 O λc=>by rw[Q,k2];simp
 subst S;obtain⟨R,N⟩:=VZ h;have M:∀a∈kP n,FR n j a (R a):=λa z=>(N a z).1
 let T:Dn:=[m,l,t,rS n j,s,AI P,Y,x7,E,H,A]
 let δ1:Dn:=[m,l,t,rS n j,s,AI P,rS n y,x7,E,H,A]
 let w:Dn:=dI n j y P m l t s E H A
 have t1:Vr δ1=Go (U,δ1):=kg (o:=U)<|jO (a:=.bl J) (b:=.bl J) C (jE (b:=U)<|HJ (W5 O)<|jV C).r (jE C).r
 have rv:TU (iA 5) Nd δ1=Go ((.tup<|P.reverse.map pD,U),δ1):=by rw[List.map_reverse];rfl
 have t2:fT (iT DO (iP aaF)<|iA 6) δ1=Go (U,δ1):=kg (o:=U)<|jO (OX<|Xv n y) (jE (b:=U)<|BJ F (jV C)<|jE (b:=U) rv).r (jV C).r
 have c:fKd w=Go ((.lst [],J),w):=by
  obtain⟨x',e⟩:=XH (f:=jI 1) (ti:=fT YC) (g:=λd=>d) (p:=λ_=>U) (pre:=[Go (.lst<|(kf n y).map cD,J)]) (((kf n j).filter<|Ie R).map λa=>tK<|R a) [] Ix (λd hd=>by
   obtain⟨a,z,rfl⟩:=iR hd;obtain⟨a1,G⟩:=sL.mp z;obtain⟨r,er⟩:=kHd h M (sL.mp a1).1 G;refine⟨kg (o:=U)<|jO (a:=cD a) ?_ (jE (b:=U)<|jO (a:=tK<|R a) (b:=.int 0) (by rw[er];exact(ixt (L:=(a::r).map cD) (v:=0) (by lia)<|by simp).trans C) (jV C).r (jE C).r).r<|jR C,λq=>by cases q⟩;rw[xj,lO<|Qg h u Q M a1 G];rfl) (by
   have:=mq (tE (Ie R)<|kf n j)<|F6 V j;rw[kD];simp;lia)
  rw[X3.mpr λ_ _=>kY]at e;exact(uz (caps:=[7]) (k:=1) (δ1:=w) (args:=[(.lst<|(kf n y).map cD,J)]) (mz<|HJ (Tr h N)<|jV C) C (Ic 7) e).trans C
 have t3:fT (iT DO (iP fKd) wR) w=Go (U,w):=kg (o:=U)<|jO (a:=.lst []) (b:=.lst []) (OX<|by decide) (jE c).r (jE (b:=J) C).r
 obtain⟨_,⟨C',B,_,rfl⟩,K⟩:=xE (tg:=iD 8) (fb:=fb8) (λJ' δ=>∃C' B,(∀d∈J',∃a∈kf n j,d=cD a)/\δ=dI n j y P m l t s C' B A) (λd J' δ a'=>by
  obtain⟨C',B,U',q2⟩:=a'
  subst q2;obtain⟨a,z,rfl⟩:=U' d ky;obtain⟨w9,e⟩:=Xo h u Q I m l t s z B A;exact⟨_,_,rfl,e,_,_,λx X=>U' x<|kO _ X,rfl⟩) ((kf n j).map cD) w ⟨E,H,λd hd=>by obtain⟨a,z,rfl⟩:=iR hd;exact⟨a,z,rfl⟩,rfl⟩
 refine⟨rS n y,Go (.lst<|(kf n y).map cD,J),C',B,?_⟩;refine(iC<|jK (i:=6) (δ1:=T) (BJ D (jV C)<|jV C) (show 6<11 by decide)).trans ((no (δ:=δ1) _ ((Eu t1).trans t2)).trans<|(iC<|jK (i:=7) (δ1:=δ1) (HJ (si O)<|jV C) (show 7<11 by decide)).trans<|(no (δ:=w) _ t3).trans<|(iC<|(lE (δ1:=w)<|mz<|HJ (si h)<|jV C).trans K).trans C)
end
abbrev fAl:F:=Y9
def acK{a:Type}(q:a->D):∀l:List a,vg (.lst<|l.map λ_=>.bl J)=Y (.bl J,U):=λl=>by have:=sj (λ_=>J)<|l.map q;rw[jY]at this;refine this.trans ?_;rw[show(l.map q).all (λ_=>J)=J from kT.mpr λ_ _=>rfl]
def acL{n:Nat}{a:ja}(g:om n a){QS:List (List Int×List Int)}(gp:∀p∈QS,GP n a p)(h:QS.length<=10000){δ δ1:Dn}(d:jF (jI 4) δ=Y (QS.map pD,δ1))(c:jM δ1 (([3]:List Nat).map .slot)=Y [(BO n a,U)]):fT fAl δ=Y (J,δ1):=by
 have q:=EA (caps:=[3]) (fi:=jF<|jI 4) (f:=iN mh [iA 0,iA 1,iA 2]) (ti:=jD) (tg:=wX [iD 1,iD 2]) (args:=[BO n a]) (P:=QS) (λ_=>.bl J) (λ_=>J) d c (λp u v=>rfl) (λp e=>⟨rfl,U,by obtain⟨g1,g2,b⟩:=gp p e;have:=Pe g g1 g2;rw[b]at this;exact W0 this (jV C) (jV C)<|jV C⟩) h
 rw[Vh.mpr λ_ _=>rfl]at q;exact kg (o:=U)<|km (nI<|iW q) C<|acK pD QS
abbrev fLs:F:=YX
abbrev fMs:F:=iN mh [iA 3,iA 10,YD]
abbrev abf:=iT (mC .Lt) (iP fLs)<|iP<|fC<|.int 31
abbrev Vo:=fT abf
abbrev YB:=iT DO (iP fMs) Yc
abbrev U8:FS:=iG Yp<|iG YJ<|iG X9<|iG (AH (oK<|fT fAl) oI iX)<|iG YE<|iG Y2<|iG (AH Vo Xr iX)<|iG YO<|iG (AH (fT YB) oI iX) iX
def Qh(E:iF)(k:Nat)(B C y m f g h j d:Sl):∃U' Y' d4 d5 q s t u dY,U8 [Y (.lst<|E.map .int,U),ii k,B,C,y,m,f,g,h,j,d]=Y (.nx [Y (.lst<|E.map .int,U),ii k,U',Y',d4,d5,q,s,t,u,dY]):=by
 let z:Sl:=Y (.lst<|E.map .int,U)
 let A:Sl:=ii k
 obtain⟨a,b,D⟩:=Ny E k;obtain⟨a1,n,v,w,h1,T,F⟩:=afK a b 1 4 (by lia) (by lia);have N:=w.1;have hk:=w.2.2.2;have gp:=Wk w T;have lp:(Lv n v).length<=100:=mq (Sg _)<|NH n (by lia);have O:=acJ w h1 T;generalize Lv n v=QS at gp lp O;obtain⟨l,P,p1,p2,K⟩:=VL a1 b U QS (by lia);have G:∀p∈P,GP n v p:=λp V=>gp p<|p1 p V;obtain⟨x,c,J,I⟩:=CS l b n h1 N
 let Q:Bool->Sl:=λo=>Y (.lst<|QS.map pD,o)
 let δ:Sl->Sl->Sl->Sl->Sl->Sl->Sl->Sl->Dn:=λB y m f g h j d=>[z,A,B,rS n v,y,m,f,g,h,j,d]
 have s4:fT fAl (δ (V0 a1 b) (Q IN) m f g h j d)=Y (IN,δ (V0 a1 b) (Q U) m f g h j d):=acL w gp (by lia) IR IR;have s6:fT YL (δ (V0 l b) (Q U) (AI P) f g h j d)=Y (U,δ (V0 l b) (Q U) (AI P) f g h j d):=kg (o:=U)<|jO (a:=.bl IN) (b:=.bl IN) IR (jE (b:=U)<|BJ (U1 w G<|by lia) (jV IR)<|jV IR).r (jE IR).r
 have H:Vo (δ (V0 l b) (Q U) (AI P) f g h j d)=Y (decide<|(((IX v):Int)+(P.length:Int))<31,δ (V0 l b) (Q U) (AI P) f g h j d):=by have W:jc (g1 ur) [Yf] (δ (V0 l b) (Q U) (AI P) f g h j d)=Y ((.int<|IX v,U),δ (V0 l b) (Q U) (AI P) f g h j d):=jC (WS v) (jE (b:=U)<|jO IR (jV IR).r (jE IR).r).r;have X:jc (g1 ur) [iA 5] (δ (V0 l b) (Q U) (AI P) f g h j d)=Y ((.int P.length,U),δ (V0 l b) (Q U) (AI P) f g h j d):=jC (a:=.tup (P.map pD)) (by rw[DV,jU])<|jR IR;have Z:fLs (δ (V0 l b) (Q U) (AI P) f g h j d)=Y ((.int<|IX v+P.length,U),δ (V0 l b) (Q U) (AI P) f g h j d):=jO (UI _ _) (jE (b:=U) W).r (jE (b:=U) X).r;exact kg (o:=U)<|jO (N0 _ _) (jE (b:=U) Z).r (jE (b:=U) IR).r
 obtain⟨q,s,t,u,R⟩:∃q s t u,AH Vo Xr iX (δ (V0 l b) (Q U) (AI P) f g h j d)=Y (.nx<|δ (V0 l b) (Q U) (AI P) q s t u d):=by
  by_cases M:(((IX v):Int)+(P.length:Int))<31
  .rw[lO M]at H;obtain⟨y6,y7,y8,y9,e⟩:=aaP w G z A (V0 l b) (Q U) (by lia) f g h j d;exact⟨y6,y7,y8,y9,(rm H).trans e⟩
  rw[lb M]at H;exact⟨f,g,h,j,(lU H).trans IR⟩
 have m1:fMs (δ (V0 x b) (Q U) (AI P) q s t u<|eN c)=Y ((.bl<|decide<|brk n v c=[],U),δ (V0 x b) (Q U) (AI P) q s t u<|eN c):=by have:=Pe w J<|HG w;rw[Te w (brk n v c) λa S=>xv (sL.mp S).1]at this;exact W0 this (jV IR) (jV IR)<|jE (b:=U)<|HJ (Nx N)<|jE (b:=U)<|jO IR (jV IR).r (jE IR).r
 have L:fT YB (δ (V0 x b) (Q U) (AI P) q s t u<|eN c)=Y (U,δ (V0 x b) (Q U) (AI P) q s t u<|eN c):=kg (o:=U)<|jO (by rw[ZH,beq_self_eq_true];rfl) (jE m1).r (jE (b:=U)<|BJ (aaA w J) (jV IR)<|jV IR).r;refine⟨V0 x b,rS n v,Q U,AI P,q,s,t,u,eN c,?_⟩;refine(iC<|jK (i:=2) (δ1:=[z,A,B,C,y,m,f,g,h,j,d]) (BJ D (jV IR)<|jV IR) (show 2<11 by decide)).trans ?_;refine(iC<|jK (i:=3) (δ1:=[z,A,V0 a1 b,C,y,m,f,g,h,j,d]) ((jJ (δ1:=[z,A,V0 a b,C,y,m,f,g,h,j,d]) (os:=[.slot 2,.val (.int 1,U),.val (.int 4,U)]) (args:=[pS a b,pI (1:Nat),pI (4:Nat)]) IR IR (Ic 2) F).trans IR) (show 3<11 by decide)).trans ?_;refine(iC<|jK (i:=4) (δ1:=δ (V0 a1 b) y m f g h j d) (HJ O<|jV IR) (show 4<11 by decide)).trans ?_;refine(iC<|(lU (δ1:=δ (V0 a1 b) (Q U) m f g h j d)<|mN s4).trans IR).trans ?_;refine(iC<|jK (i:=5) (δ1:=δ (V0 l b) (Q U) m f g h j d) ((jJ (δ1:=δ (V0 a1 b) (Q U) m f g h j d) (os:=[.slot 2,.slot 4,.val (.int 4,U)]) (args:=[pS a1 b,(.lst<|QS.map pD,U),pI 4]) IR IR (Ic 2) K).trans IR) (show 5<11 by decide)).trans ?_;refine(no (δ:=δ (V0 l b) (Q U) (AI P) f g h j d) _ s6).trans ((iC R).trans ?_);refine(iC<|jK (i:=10) (δ1:=δ (V0 x b) (Q U) (AI P) q s t u d) ((jJ (δ1:=δ (V0 l b) (Q U) (AI P) q s t u d) (os:=[.slot 2,.val (.int n,U)]) (args:=[pS l b,pI n]) (oS IR<|iW<|jO IR (jV IR).r (jE IR).r) IR (Ic 2) I).trans IR) (show 10<11 by decide)).trans ?_;exact(no (δ:=δ (V0 x b) (Q U) (AI P) q s t u<|eN c) _ L).trans IR
def XZ(a:iF)(T:(IX a)<=63):∃o b,vG [(.lst<|a.map .int,U)]=Y ((.bl J,o),b):=by
 let c:Sl:=Y (.lst<|a.map .int,U)
 let N:Nat:=if 1<min (IX a) 4 then min (IX a) 4 else 1
 obtain⟨r,_,e⟩:=xE (tg:=iD 1) (fb:=U8) (λds δ=>∃s f g i j l m n p q,(∀d∈ds,∃k:Nat,d=.int k)/\δ=[c,s,f,g,i,j,l,m,n,p,q]) (λd ds δ O=>by
  obtain⟨s,f,g,i,j,l,m,n,p,q,h1,h⟩:=O
  subst h;obtain⟨k,rfl⟩:=h1 d ky;obtain⟨g2,w,y,z,A,B,Q,E,t,e⟩:=Qh a k f g i j l m n p q
  exact⟨_,_,rfl,e,_,_,_,_,_,_,_,_,_,_,λx v=>h1 x<|kO _ v,rfl⟩) (jo 0 N) [c,I,I,I,I,I,I,I,I,I,I] ⟨_,_,_,_,_,_,_,_,_,_,λd hd=>by obtain⟨k,_,rfl⟩:=rJ.mp hd;exact⟨k,by simp⟩,rfl⟩
 refine⟨U,_,jQ (δ:=r) ⟨rfl,by decide,rfl⟩ ?_⟩;refine(iC<|(lE (ds:=jo 0 N) (δ1:=[c,I,I,I,I,I,I,I,I,I,I]) ?_).trans e).trans (jm C);refine uP (o:=.val (.int N,U)) (iW ?_) C (by simp only[N];split<;>omega)
 have u:(N:Int)=if(if(4:Int)<(IX a)then 4 else((IX a):Int))>1 then(if(4:Int)<(IX a)then 4 else((IX a):Int))else 1:=by simp only[N];split<;>split<;>split<;>omega
 rw[u];simp[c]
end PV
def K74.main(b:iF)(c:(IX b)<=63):∃o a,PV.vG [(.lst<|b.map .int,U)]=Y ((.bl J,o),a):=PV.XZ b c
structure PySem.W.Fast:Prop where(tw3163566671514659754 tw12293735424695840390 tw264895628925891398 tw9522160088044332865 tw18067172422281983435 tw2240180254525380640 tw9670212797250286805 tw1396159700961637194 tw1344152277928092383 tw2865996779204078995 tw794197472195370389 tw5079797859123948622 tw6459954125036636942 tw12606776959159947896 tw6572847275492173886 tw1601021850711222273 tw7715477898938923009 tw5374321028935769956 tw11739817562478240505 tw2234764967897326864 tw10417013615183054720 tw11701030823733608853 tw5523973687789645772 tw17166788414623359598 tw14586551697861645998 tw8575820866464568365 tw2233321531299189275 tw5834034206998256541 tw13879196021929875763 tw9302995011905116035 tw11956001781049510041 tw7097320284454188322 tw17286200207972235446 tw851576699891392205 tw7614450238777963916 tw658346840441895053 tw9896653127342212157 tw10088427780829197712 tw3905659765106262682 tw442610726947391691 tw16845455432581761603 tw14978198585178886023 tw5768920987343178452 tw10075889946440407509 tw10275881398025822921 tw8301815480555311902 tw15261288098863282542 tw5527225504662252971 tw15363449561111607834 tw6785878776714003652 tw16717948260438241338 tw6902641634688549780 tw5636191080345671846 tw17999763945901392440 tw13053710882964609465 tw16904015357979635620 tw2929934049895300306 tw15299928309744658092 tw9386418494071734742 tw10673072627427426521 tw17727074133585440672 tw5544106177720823078 tw4119034809215813974 tw1065335985399624044 tw7281229769620754060 tw11077661511416268426 tw569760451696948103 tw15720477206609597212 tw10350943775579510171 tw5333267097302810697 tw3168093120161355343 tw3828374304419113168 tw16902690580518772057 tw4504619066823708429 tw6407299757621488664 tw1310346519346968199 tw15366592381324807064 tw14060927982208424435 tw11157594510774681318 tw16128387592314215191 tw16088966617293216647 tw738847886920810124 tw4901513161231941805 tw17015016517536915808 tw8712526341080346278 tw15917155754202640996 tw12921080144960875655 tw17680385850046532678 tw1120869238781188107 tw13601892141830795080 tw14159643313569957165 tw7012859605976919908 tw6913217782370697627 tw639344234123283803 tw13545618916378571753 tw5893816968768608129 tw5776302972493181165 tw16837645656792581532 tw15276014982903015426 tw12919196354525712724 tw11928932429155366911 tw6466211288275635002 tw12142925111116171696 tw15425017083139216204 tw18209974820347016894 tw16681863482957992488 tw3380636335320848241 tw4707792684419640583 tw17530788377530909640 tw12533875553950452883 tw18015784534409878173 tw13612636356254072582 tw16418280469632694467 tw16535962614376880571 tw8377387201747752885 tw2718957153509737444 tw12717559744241745948 tw17240990762596564678 tw14889742374876584976 tw10419556477879316139 tw3486722289360897193 tw13674704538021736152 tw13100624955105693320 tw7294684344330122634 tw14593074649574922494 tw203947801908616532 tw3969424346480925238 tw9731558029109372282 tw3553063737934949502 tw13140792257978767216 tw12478585600256791857 tw1811575841980783051 tw3468447927099245618 tw5686595203257809728 tw6654004289764775892 tw3303126564222282764 tw260643699687124179 tw332449540668733414:True)
open PySem PySem.W PyProof.Rows PX
set_option maxRecDepth 100000 in
set_option maxHeartbeats 0 in
theorem PySem.Challenge.cw_twinriddles_k74_whole_clauses_put_in_holds : PySem.Challenge.rw_twinriddles_k74_whole_clauses_put_in.Holds := by
  w_on; o_law; k_head; (case hw => w_witness2)
  k_fill
  refine walkT (TB := K74.TB74) (l := PySem.Challenge.rw_twinriddles_k74_whole_clauses_put_in) (LV := 13) (x := "_law_script") ⟨rfl, by decide, by decide, rfl⟩ rfl rfl (fun w h Y => km_in_of Y) (fun w h Y => aC (km_tabs_of Y _ List.mem_cons_self) aN) (fun w => aC ?K aN) (by decide) ?F K74.main
  case K => show List.lookup 286 _ = none; kernel_rfl
  case F =>
   intro w mg fa h KX G hmg
   refine' K74.all_mk hmg (txK KX G ?_ ?_ ?_ ?_ ?_ ?_ ?_ ?_ ?_ ?_ ?_ ?_ ?_ ?_ ?_ ?_) ?_ ?_ ?_ ?_ ?_ ?_ ?_ ?_ ?_ ?_ ?_ ?_ ?_ ?_ ?_ ?_ ?_ ?_ ?_ ?_ ?_ ?_ ?_ ?_ ?_ ?_ ?_ ?_ ?_ ?_ ?_ ?_ ?_ ?_ ?_ (fzT KX G ?_ ?_ ?_ ?_ ?_) ?_ ?_ ?_ ?_ ?_ ?_ ?_ ?_ ?_ ?_ ?_ ?_ ?_ ?_ ?_ ?_ ?_ ?_ ?_ ?_ ?_ ?_ (mgI KX G ?_) (mgI KX G ?_) (mgI KX G ?_) (mgI KX G ?_) (mgI KX G ?_)<;>try first|refine' fz KX G ?_ ?_ ?_ ?_<;>try k_is|k_is|kernel_rfl
