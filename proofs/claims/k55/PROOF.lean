import PyProof.Rows.All
import Wide.All
import OpenK.AllK
import Wide.FinOn
import PyProof.EqAt
import PyProof.EqKinds
import PyProof.TupleCall
import Lean
import PySem.Challenge.RW_twinriddles_k55_whole_rows
set_option Elab.async false
set_option linter.all false
set_option maxRecDepth 100000
set_option maxHeartbeats 8000000
set_option compiler.extract_closed false
set_option backward.eqns.nonrecursive false
noncomputable section
open List renaming length->A1
namespace RfL
theorem r{a:α}:a=a:=rfl
end RfL
open RfL renaming r->I,r->AT
open Option renaming some->J,some->z8,none->U,none->z9
open Bool renaming true->Y,true->At,false->C,false->AC
open And renaming intro->c6
open Array renaming length_toList->kU,getElem?_toList->mw,getElem?_eq_getElem->pk,getElem?_eq_some_iff->OR,getD_eq_getD_getElem?->ur,getElem?_setIfInBounds->B6,forIn_toList->BY,append_assoc->Gi,getElem?_eq_none->Fq,getElem?_replicate->K5,mem_toList_iff->Wo,getElem?_eq_none_iff->Wn,toList_eq_nil_iff->Wm,toList_append->KG,toList_push->dQ,replicate->et,size_zip->kA,size_map->kS,toList->ms,ext->tu
open Bool renaming false_eq_true->jX,false_ne_true->ky,and_eq_true->kX,not_true->qW,or_eq_true->uw,eq_iff_iff->uo,false_and->dw,true_and->dN,not_eq_true'->d0,and_assoc->eO,eq_false_iff->g7,noConfusion->hZ,not_false->lT,and_false->l3
open False renaming elim->aH
open ForIn renaming forIn->eJ
open ForInStep renaming yield->bt
open Function renaming comp_def->qZ,comp->bI
open Int renaming toNat_natCast->wV,mul_one->zb,emod_lt_of_pos->Fu,emod_nonneg->Ft,natCast_inj->lA,add_comm->qs,neg_neg->tf,mul_neg->tp
open LawfulBEq renaming eq_of_beq->oe
open LawfulMonad renaming bind_assoc->rJ,pure_bind->p8
open Lean renaming Syntax->bS,Name->ek,mkIdent->n5
open List renaming mem_cons_self->jF,map_cons->jK,mem_cons_of_mem->iY,mem_filter->mB,all_eq_true->kf,length_map->jf,getElem?_eq_getElem->jk,mem_cons->mP,map_map->jA,mem_append->nQ,size_toArray->jY,getElem?_map->kg,getElem?_eq_some_iff->ue,getElem?_set_ne->lC,mem_of_getElem?->lS,map_congr_left->lX,nodup_nil->mv,pairwise_map->nD,length_cons->mQ,mem_singleton->Aw,mem_map->rp,pairwise_append->qz,mem_append_right->nO,length_append->nN,lookup_cons->nM,pairwise_cons->A8,map_append->nL,mem_range->rn,getElem?_append_right->oh,getElem?_append_left->oQ,map_nil->oP,append_assoc->oO,getElem?_set_self->pz,length_filter_le->pj,getElem?_of_mem->qu,getD_eq_getElem?_getD->qp,mem_map_of_mem->qo,map_id->qm,nodup_cons->yj,not_mem_nil->rg,length_set->ud,mem_flatMap->wu,filterMap_cons->vA,length_eq_zero_iff->Ku,append_nil->rN,length_take->rM,exists_cons_of_length_pos->rF,take_append_drop->rE,any_cons->rA,nil_append->rq,all_cons->uG,all_map->uF,ext_getElem?->uE,mem_of_mem_take->uB,foldl_cons->uA,zip_cons_cons->uy,nodup_append->yk,mem_append_left->wY,take_sublist->wW,getElem?_set->wQ,any_map->wO,drop_eq_getElem_cons->wN,pairwise_reverse->Gk,getElem?_cons_succ->wC,getElem_mem->wB,find?_cons->wA,filter_cons_of_pos->wy,filter_cons_of_neg->wx,length_singleton->yZ,getElem?_zip_eq_some->DK,ext_getElem->yX,drop_eq_nil_of_le->yW,range'_succ->yS,reverse_perm->yR,eq_nil_of_length_eq_zero->yQ,eq_nil_or_concat->yP,length_pos_iff->R9,getElem?_cons_zero->yN,length_eraseIdx->yM,isEmpty_nil->yL,length_nil->yK,any_eq_true->Hx,replicate_zero->yI,filter_append->yG,getElem_inj->Cw,getElem?_replicate->Cq,forIn_cons->Cn,perm_middle->OQ,concat_eq_append->Cc,mem_of_mem_drop->Cb,mem_erase_of_ne->B7,filter_eq_self->To,filter_congr->BW,nodup_iff_pairwise_ne->Jd,filter_eq_nil_iff->OP,of_mem_zip->Gb,getElem?_take_of_lt->F9,length_replicate->F8,getElem?_zipIdx->FV,foldl_append->FU,pairwise_iff_getElem->OY,getElem_of_mem->FE,drop_sublist->FD,take_succ->FC,pairwise_lt_range->OX,any_eq_false->Fm,perm_cons_erase->Fh,dropLast_concat_getLast->Fg,filter_map->Ff,flatMap_cons->Fd,all_eq_false->Wf,mem_of_find?_eq_some->Lg,length_reverse->Lb,pairwise_singleton->La,length_eq_one_iff->Wq,perm_append_comm->R8,length_erase_of_mem->K8,filterMap_append->K7,perm_append_singleton->K6,range'_eq_map_range->KD,mem_of_mem_eraseIdx->KC,length_dropLast->KA,dropLast_subset->Kz,replicate->ah,range->ap,range'->bA,map->b4,getElem?_drop->cE,mem_reverse->c5,take_of_length_le->db,range_succ_eq_map->dc,length->dv,replicate_succ->dG,mem_filterMap->dO,take_take->eK,Nodup->eL,getElem?_eq_none->fq,zip_nil_right->f8,getElem_range->ga,filterMap_map->gb,length_range->g6,map_fst_zip->hC,length_drop->hD,getLast_mem->hE,getElem_map->hH,cons_append->hW,find?_some->kl,all_append->kv,drop_zero->lw,map_take->mo,map_id'->n4,foldl->te
open List.Pairwise renaming imp_of_mem->Ky,nil->bX,sublist->p6,of_map->p7
open List.Perm renaming refl->rC,of_eq->Fe,append_left->KZ,trans->fx,swap->fH,cons->fI,eq_of_pairwise->xx
open List.cons renaming inj->uz,injEq->xt
open Nat renaming le_refl->jh,ne_of_lt->jB,le_trans->jW,zero_le->lq,lt_of_lt_of_le->nv,lt_irrefl->oS,ne_of_gt->rm,lt_succ_of_lt->tZ,pow_succ->tX,le_of_lt->vB,mul_assoc->pW,le_succ->rK,not_lt->OS,mul_add->uv,add_assoc->wK,mul_comm->wH,mul_one->wG,mod_lt->wF,pow_le_pow_right->wD,lt_trans->yY,lt_succ_self->yV,lt_of_le_of_lt->yJ,add_sub_cancel_left->Cd,zero_add->Ca,mul_left_comm->B8,lt_asymm->FW,one_mul->Fw,mul_zero->Fv,min_eq_left->dk,add_mul->eu,sub_add_cancel->gF,lt_or_eq_of_le->gV,add_sub_cancel->g5,le_succ_of_le->g9,succ_le_succ->ka,le_of_not_lt->kb,two_pow_pos->lb,mul_add_mod->lf,div_add_mod->lm,sub_zero->px,lt_or_ge->pC,le_of_eq->p4,add_zero->p5,add_mod->s8
open Ne renaming symm->pA
open Option renaming bind_some->jH,isSome_iff_exists->Kx,isSome_map->Fl,map_eq_some_iff->eU,isSome_some->fv,getD_none->f5,map->n3
open Option.some renaming inj->jZ
open Or renaming inl->aT,inr->bp
open Prod.mk renaming inj->rh
open PyProof.Rows renaming SortSt->qR,listUpdate_at->ux,slot_tuple_getitem->Ax,get?_update_seq->wI,seqEpoch_at->yO,boot_range->Cu,callWith_type1->Ge,listItems_at->FA,entry_tuple_getitem->Lp,subscriptTail_builtinR->Ln,envOfC->aP,seqObj->bi,IntsAre->dA,AllBare->dB,Keyed->dF,arrOf->ee,failedOf->eG,subscriptTail->fB,IsTup->f4,SortKind->j5,args_tuple_getitem->mm,wpAny_notIn_heap->pw,lt_int->sa,le_int->sm,gt_int->sn,ge_int->ss,entry_list_sort->sx,callWith_type0->sB,callWith_builtin1->sK,slot_list_sort->uu,slicePart_none->u3,oneType'->u6,keyLt'->u8,tupleItemsOf_->wn,reverseSlice'->wr,tuples'->xc,plain_sorted->xf,entry_sorted->xl,call_abs_int->xn,kind_sorted->z7
open PyProof.Rows.F renaming plain_set_update_loop->Fn,entry_set_update_loop->KS
open PySem renaming Shared->gM,Program->iw,Around->ig,World->ik,SetTable->lR,Value->gU,Comprehension->nI,FuncData->mr,Heap->ip,Addr->gJ,wpAny_bind->gL,wpAny_pure->hJ,sizeLine_eq->jQ,wpAny_holding->lU,wpAny_mono->mz,wpAny_newObj_type->nu,wpAny_call_entry->og,codeAny_mono->oR,mem_of_lookup->pv,codeAny_builtin->qt,wpAny_field->rk,wpAny_setState_of->qX,wpAny_of_eq->uc,wpAny_Call_Name_kw->vz,wpAny_rule->vw,wpAny_truthy_bool->rP,wpAny_standAt->rO,wpAny_askSetting->rH,codeAny_of_tree->rG,wpAny_passesOwn->uJ,wpAny_callSpecial?_slot->uI,wpAny_typeOf->uH,plainId_quiet->uD,wpAny_setField->uC,wpAny_specialOf->uq,wpAny_call->wX,wpAny_alloc->wU,wpAny_attempt->wM,wpAny_forIn_list->wJ,tupleKind_room_in1->wz,wpAny_pyIter_list->za,wpAny_setField_rec->yU,wpAny_isInstance->yT,wpAny_load->Cv,concat_meets->Cp,pushCells_keeps->Cm,wpAny_seqItems->Cj,codeAny_call_builtin->Ce,wpAny_newList->B9,wpAny_isSame_ref_self->BZ,wpAny_pyHash_int->Gj,wpAny_execs_nil->Gh,wpAny_execs_cons->Gg,wpAny_pyIter_tuple->Gf,codeAny_call_function->F7,codeAny_func->F6,noFill_tuple_add->F5,seq_tuple_add->F4,seqIndex_of->FY,seqIndex_neg->FX,wpAny_runValue->FR,wpAny_handled->FQ,wpAny_throw->FP,wpAny_newTuple->FN,isSubtype_stop->FL,weight_type_call_type->FG,wpAny_collect_seq->Fx,isSubtype_type->Fp,wpAny_pyIter_slot->Fo,wpAny_typeNameOfWhole_keyiter->Fj,wpAny_storeName_cell->Lr,wpAny_Call_method_late->Lm,wpAny_comprehension_free->Lh,richCompare_meets_room->K9,builtinLookup_eq_fast->K0,wpAny_setEntries_of->KW,wpAny_isOneOf_keyiter->KN,wpAny->aa,starEach->af,model->ag,mainGlobals->aj,foldedSetIterable->aq,compareOp->au,Str->av,bootBuiltins->ax,backTo->aB,cLine->aL,assignEach->aQ,Stmt->aU,cellsFrom->aX,eval->ba,Arguments->bb,Builtin->bc,Pos->bq,binaryOp->bz,clausesOf->bJ,sysModules->bN,codeAny->bO,holding->b3,assign->b5,CmpOp->ce,standAt->cg,swapsWith->ck,checkBuiltinCall->cn,behindInMarks->cw,sliceBounds->cy,keywordEach->cz,pyIter->cG,pyNext->cU,newFunctionEnv->cX,bindArgs->c1,Env->c3,Sem->c4,ofAClassStatement->c7,getItem->c9,rawInt->de,IsPart->dh,codeAmong->dn,IsEnum->dy,letOwnedTupleGo->dC,backToKw->dP,tupleKind->dS,PassesOwn->dU,swapsWithSole->d4,swappedStores->d5,Obj->el,valueAt->ew,collect->ey,callerA->ez,GenState->eC,BindsTo->eF,pickOrder->eP,hashByValue->eR,Model->eT,setsByText->eW,firstArgMember->eX,builtinsNs->eY,atKey->eZ,argsOk->e9,scanBound->fJ,list_append->fK,compStart->fL,bindL->fM,bindC->fN,TriplesOk->fV,IsEnumOut->fZ,DictEntry->f3,spliced->gc,setItem->gg,setAdd->gi,relabel->gk,newExc->gl,intKind->gm,Result->gC,ItemsOf->gE,wants->ia,unsupported->ib,subscripted->ij,setField->io,entryFor->i3,compTurn->jp,wpAny_Name->l8,typeLookup->l9,closureFor->mi,call_meets->mj,wpAny_storeSet_of->mu,wpAny_sequenceKey->mA,wpAny_pyIter_enum->mL,wpAny_dictEntries->m4,wpAny_Return_some->m6,slot_list_getitem->m7,searchCouldBeSeen->na,newList->nb,field->nt,Keyword->n0,seqIndex?->n6,noteFrame->n7,eqIsQuiet->n9,call->oC,beq_builtin_none->o4,Tok->o5,wpAny_updateSeq->q7,wpAny_loadPart'->rc,wpAny_dictEpoch->rd,typeLookup_type->re,theWindowsPlace->ro,Fin->r0,wpAny_notIn_of->tv,wpAny_layCells->tw,typeOf->tz,table->t0,slotArgs->t5,raiseNew->t6,newSet->t7,entryFor_alias->t9,contains->ul,cellOf->ut,wpAny_notedAt->vl,wpAny_in_heap->vr,setSearchFrom->vu,rangeSize_one->vv,intBits_le_64->v5,evalPart_none->v6,comprehension->v7,checkTypeCall->wf,call_list_seq->wl,unaryOp->wv,sub_set_self->ww,setAddHashed->wE,release->wL,name_of_addr->wP,cellsFrom_ok->wS,call_range_2->wT,callAny->w4,IsRange->w9,wpAny_letGo->xz,wpAny_in_of->x0,setContains->x4,interactive->x5,Walks->x6,Moved->zn,Meets->zx,IsRangeIter->z0
open PySem.Around renaming under_plainId->vp,frames_deeper->Ga,under_plain->FH
open PySem.Builtin.Frozenset renaming addrOf->bK,oneOther->bZ,newClass->dq,withSetAsKey->j0,updateFrom->j1,slot0->j2,sizeOf->j3
open PySem.Builtin.List renaming listExtendWith->dM,listSameRef->dZ,listLengthHint->r6
open PySem.Builtin.Range renaming rangeSize->dY,small->pp
open PySem.Builtin.Slice renaming slicePlaces->bL,sliceAdjust->ci,sliceApplied->dL,slicePartIndex->o7,sliceFields->pc
open PySem.Builtin.SmallTypes renaming fitsIndex->bn,nextOf->bD,ownedTupleHandOut->cB,ownedTupleIsFree->cS
open PySem.Builtin.Tuple renaming tupleHashOf->bg,tupleExact->bh,tupleItemsOf->cf,tupleIsExact->dJ,tupleCompareSizes->o6
open PySem.Calls renaming spliced_cons->Ct,spliced_nil->Gd,Name_function_global->Lq,callWith_builtin->Ll,evalArgs_plain->Lk
open PySem.Code renaming quiet_builtin->FK
open PySem.Expr renaming Name->d7
open PySem.F renaming called_set->DI,slot_tuple_hash->Hy,slot_enumerate_next->Cf,plain_set_new->BX,slot_tuple_add->F3,entry_tuple_add->F1,args_tuple_add_2->FZ,called_tuple->OZ,slot_set_contains->Kt,slot_dict_keyiterator_next->Ks,slot_set_add->Fi,entry_list_append->Lj,args_list_append_2->Li,entry_object_init->Lf,slot_tuple_iterator_next->Le,entry_enumerate_next->Ld,args_enumerate_next_1->Lc,slot_set_iter->KY,plain_list_iadd->KU,entry_set_new->KR,entry_type_call->KQ,entry_set_init->KP,slot_dict_iter->KO,plainAttrs_list->KJ,entry_set_add->KI,args_set_add_2->KH
open PySem.Heap renaming get?_push_of_some->jz,lt_size->jN,get?_push_size->jT,size_push->oN,get?_update_self->rL,get?_update_other->Co,get?_update_ne->Fy,SameBut->aG,ExtBut->dt
open PySem.Heap.SameBut renaming update->qr,refl->Ck
open PySem.NameKind renaming cell->ay,free->aF
open PySem.Obj renaming data_mapFields->tY,isFreed_of_fields->Ci,cls_mapFields->Cg,mapSeq->aM,mapFields->eV,putSet->gD
open PySem.Paired renaming length->zc
open PySem.SetTable renaming below->am,runEnd->aw,insertAt->aA,bits->aK,turns->bM,leap->ca,Probe->cj,sizeAbove->dr,grown->d6,layClean->fm,fresh->fY,slot->gv,laid->gw,fits->gy,fill->gA,put->g8,tooFull->x8,sameMemory->x9,relaid->y3,has->y4,gaveWay->y7,advance->y9
open PySem.SetTable.layClean renaming free->bw
open PySem.SetTable.probe renaming go->da
open PySem.Str renaming ofString->bC
open PySem.Value renaming none->ao,ref->bW,type->cA,bool->dI,notImplemented->fk,str->gn,int->gq,isStrOf->k4,builtin->k8,isInt->nw
open PySem.W renaming Frag->iz,mg_none_of->nK,kia_one->vq,cellsFrom_some->Cr,nsIn->aO,fnOf->bv,keepIn->bY,codeIn->cu,kitOne->dg,methodObj->dH,callWith_K->fe
open StateT renaming run_pure->FF
open Sum renaming inr->d1,inl->d3
open True renaming intro->br
open PySem PySem.Spec PyProof.Rows
section
abbrev iK:=gU->gM->Prop
abbrev iN:=List<|gJ×el
abbrev hX:=List<|List Int
abbrev gQ:=List Int
abbrev je:=List gU
abbrev lz:=av->Option gU
abbrev jc:=List Nat
abbrev qO:=Array<|Int×gU
abbrev mS:=Array gU
abbrev iA:=List av
abbrev jP:=List Expr
abbrev qV:=Bool->gM->Prop
abbrev Hw:=Option gU->gM->Prop
abbrev xQ:=gU->gU->c4 gU
abbrev vo:=Array<|Option Nat
abbrev yF:=Array<|Option gU
abbrev jq:=List<|av×gJ
abbrev nJ:=List nI
abbrev A7:=Array dF
abbrev jo:=Nat->Prop
abbrev km:=List gJ
abbrev iJ:=Scope
abbrev gX:=Expr
end
section
open PySem.SeqAt
theorem hV:type_of% @if_pos:=@if_pos
theorem iC:type_of% @if_neg:=@if_neg
theorem kN:type_of% @decide_eq_false:=@decide_eq_false
theorem kM:type_of% @decide_eq_true:=@decide_eq_true
theorem kY:type_of% @if_false:=@if_false
def lY:=@congrArg
theorem mR:type_of% @if_true:=@if_true
theorem oM:type_of% @decide_eq_true_eq:=@decide_eq_true_eq
def rB:=@of_decide_eq_true
theorem Ay:type_of% @beq_eq_false_iff_ne:=@beq_eq_false_iff_ne
theorem wR:type_of% @bne_self_eq_false:=@bne_self_eq_false
def yH:=@forall_congr'
end
namespace TT
noncomputable def JO(mask:Nat)(p:cj):SetTable.Probe:=
 if p.more>0 then {p with j:=p.j+1,more:=p.more-1}else
 {p with j:=(ca mask p.i p.perturb).1,more:=aw mask (ca mask p.i p.perturb).1-(ca mask p.i p.perturb).1,i:=(ca mask p.i p.perturb).1,perturb:=(ca mask p.i p.perturb).2}
noncomputable def W2(mask:Nat)(h:Int):SetTable.Probe:={j:=aK h%(mask+1),more:=aw mask (aK h%(mask+1))-aK h%(mask+1),i:=aK h%(mask+1),perturb:=aK h,dummy:=U}
def pr(mask:Nat)(h:Int):Nat->cj
 |0=>W2 mask h
 |n+1=>JO mask<|pr mask h n
structure J4(hs:gQ)(t:lR):Prop where
 pow:∃k,3<=k/\k<=11/\t.mask+1=2^k
 dum:t.dummies= #[]
 len:t.place.size=A1 hs
 room:5*(A1 hs)<3*t.mask
 ris:t.place.toList.Pairwise (· < ·)
 bd:∀j∈t.place.toList,j<=t.mask
 road:∀(i:Nat)(h:Int)(j:Nat),hs[i]?=z8 h->t.place[i]?=z8 j->∃n,(pr t.mask h n).j=j/\∀m,m<n->(pr t.mask h m).j∈t.place.toList
end TT
namespace L2
abbrev Key:=Sum Int av
noncomputable def zJ:Key->gU->Bool
 |.inl k,v=>nw k v
 |.inr x,v=>k4 x v
noncomputable def aaG(w:ik):Key->Int
 |.inl k=>hashInt k
 |.inr x=>hashStr w x
def kz:∀{k:Key}{v:gU},zJ k v=Y->(∃i t,k=d3 i/\v=gq i t)\/(∃x t,k=d1 x/\v=gn x t)
 |.inl i,v,h=>by obtain⟨t,e⟩:=Value.isInt_shape (k:=i) (v:=v) h;exact .inl ⟨i,t,rfl,e⟩
 |.inr x,v,h=>by obtain⟨t,e⟩:=Value.isStrOf_shape (x:=x) (v:=v) h;exact .inr ⟨x,t,rfl,e⟩
def adu(i:Int)(t:o5):zJ (.inl i) (.int i t)=Y:=by simp[zJ,nw]
def adt(x:av)(t:o5):zJ (.inr x) (.str x t)=Y:=by simp[zJ,k4]
def Nu(a b:Int):decide ((d3 a:Key)=d3 b)=(a==b):=by
 by_cases e:a=b
 .subst e;simp
 have h: ¬(d3 a:Key)=d3 b:=λq=>e<|Sum.inl.inj q;rw[kN h];exact(Ay.mpr e).symm
def Vl(a b:av):decide ((d1 a:Key)=d1 b)=decide (a=b):=by
 by_cases e:a=b
 .subst e;simp
 have h: ¬(d1 a:Key)=d1 b:=λq=>e<|Sum.inr.inj q;rw[kN h,kN e]
def Nt(a:Int)(b:av):decide ((d3 a:Key)=d1 b)=C:=kN (λq=>nomatch q)
def Nr(a:av)(b:Int):decide ((d1 a:Key)=d3 b)=C:=kN (λq=>nomatch q)
def kW(d:iw)(w:ik):PySem.KeyKind d w Key where
 is:=zJ
 hash:=aaG w
 inj:=λv a b g f=>by
  rcases kz g with⟨i,t,rfl,rfl⟩|⟨x,t,rfl,rfl⟩
  .rcases kz f with⟨j,u,rfl,e⟩|⟨y,u,rfl,e⟩
   .injection e with c _;rw[c]
   exact nomatch e
  rcases kz f with⟨j,u,rfl,e⟩|⟨y,u,rfl,e⟩
  .exact nomatch e
  injection e with c _;rw[c]
 byValue:=λk v h=>by rcases kz h with⟨i,t,rfl,rfl⟩|⟨x,t,rfl,rfl⟩<;>rfl
 pyHash:=λhv h=>by
  rcases kz hv with⟨i,t,rfl,rfl⟩|⟨x,t,rfl,rfl⟩
  .exact Gj h
  exact wpAny_pyHash_str h
 eqBool:=λl hv h=>by
  rcases kz l with⟨i,t,rfl,rfl⟩|⟨x,t,rfl,rfl⟩
  .rcases kz hv with⟨j,u,rfl,rfl⟩|⟨y,u,rfl,rfl⟩
   .rw[Nu]at h;exact wpAny_eqBool_int h
   rw[Nt]at h;exact SeqAt.EqAt.int_str i t y u _ _ _ _ h
  rcases kz hv with⟨j,u,rfl,rfl⟩|⟨y,u,rfl,rfl⟩
  .rw[Nr]at h;exact SeqAt.EqAt.str_int x t j u _ _ _ _ h
  rw[Vl]at h;exact wpAny_eqBool_str h
 «strs»:=λk x t v h=>by
  rcases kz h with⟨i,u,rfl,e⟩|⟨y,u,rfl,e⟩
  .exact nomatch e
  injection e with c _
  subst c;cases v<;>rfl
def acm(a:iw)(w:ik)(i:Int)(t:o5):(kW a w).is (.inl i) (.int i t)=Y:=adu i t
def ack(a:iw)(w:ik)(x:av)(t:o5):(kW a w).is (.inr x) (.str x t)=Y:=adt x t
inductive V where
 |T2|bl(b:Bool)|int(i:Int)|str(x:av)|byt(b:Array UInt8)|flt(b:UInt64)|ref(a:gJ)|ty(n:String)
 deriving DecidableEq
def RelV:V->gU->Prop
 |.T2,u=>u=ao
 |.bl b,u=>u=dI b
 |.int i,u=>∃t,u=gq i t
 |.str x,u=>∃t,u=gn x t
 |.byt b,u=>∃t,u=Value.bytes b t
 |.flt b,u=>∃t,u=Value.float b t
 |.ref a,u=>u=bW a
 |.ty n,u=>u=cA n
abbrev Vals:List V->List gU->Prop:=Paired RelV
def Vals.length{xs:List V}{a:je}(r:Vals xs a):(A1 xs)=(A1 a):=zc r
def Vals.get{b:List V}{a:je}{i:Nat}{x:V}(h:Vals b a)(e:b[i]?=J x):∃u,a[i]?=J u/\RelV x u:=by
 induction h generalizing i with
 |nil=>simp at e
 |cons r t c=>
  cases i with
  |zero=>simp at e;subst e;exact⟨_,rfl,r⟩
  |succ i=>simpa using c (by simpa using e)
theorem Vals.set{x:V}{u:gU}(r:RelV x u):∀{xs:List V}{a:je}(i:Nat),Vals xs a->Vals (xs.set i x) (a.set i u)
 |_,_,_,.nil=>.nil
 |_,_,0,.cons _ t=>.cons r t
 |_,_,i+1,.cons q t=>.cons q (Vals.set r i t)
def Vals.append{c d:List V}{a b:je}(h:Vals c a)(s:Vals d b):Vals (c++d) (a++b):=by
 induction h with
 |nil=>exact s
 |cons r t e=>exact .cons r e
theorem Vals.take:∀{b:List V}{a:je}(n:Nat),Vals b a->Vals (b.take n) (a.take n)
 |_,_,0,_=>.nil
 |_,_,_+1,.nil=>.nil
 |_,_,n+1,.cons r t=>.cons r (Vals.take n t)
theorem Vals.drop:∀{b:List V}{a:je}(n:Nat),Vals b a->Vals (b.drop n) (a.drop n)
 |_,_,0,r=>r
 |_,_,_+1,.nil=>.nil
 |_,_,n+1,.cons _ t=>Vals.drop n t
def Et:Option V->Option gU->Prop
 |some v,J u=>RelV v u
 |none,U=>True
 |_,_=>False
def KV{a:Type}:List (a×V)->List (a×gU)->Prop:=Paired λ(p:a×V) (q:a×gU)=>p.1=q.1/\RelV p.2 q.2
noncomputable def kV:Key->V
 |.inl i=>.int i
 |.inr x=>.str x
inductive HO where
 |lst(xs:List V)
 |tup(xs:List V)
 |dK(kvs:List (Key×V))|dT(kvs:List (List Key×V))
 |set (S:Int->Bool) (n:Nat)
 |W2 (zs:List (Int×V))
 |ins (C dx:gJ) (fs:List (av×V))
 |own (x:gJ)
 |xd (fs:List (av×V))
 |met (f x:gJ)
 |rng (lo hi:Int)
 |AJ (o:el) (u:HO)
 |tbl (ps:mS)
 |ext (φ:ip->Prop)
abbrev Hp:=gJ->Option HO
noncomputable def upd(T:Hp)(a:gJ)(o:HO):Hp:=λb=>if b=a then J o else T b
def iF{T:Hp}{a:gJ}{o:HO}:upd T a o a=J o:=by unfold upd;rw[hV I]
def iL{T:Hp}{a b:gJ}{o:HO}(h:b≠a):upd T a o b=T b:=by unfold upd;rw[iC h]
def HH{T:Hp}{a:gJ}{o u:HO}:upd (upd T a o) a u=upd T a u:=by funext b;unfold upd;split<;>rfl
def SD{T:Hp}{a b:gJ}{o u:HO}(h:T a=J o)(c:T b=J u)(d:o≠u):a≠b:=by intro e;subst e;rw[h]at c;exact d<|jZ c
def lH{T:Hp}{a b:gJ}{o:HO}(h:T a=J o)(c:T b=U):a≠b:=by intro e;subst e;rw[h]at c;cases c
section
variable(P:iw)(w:ik)
def Es(h:ip)(a:gJ)(items:mS):Prop:= ∃o,h.get? a=J o/\o.cls=.type "tuple"/\(∃n,o.data=.seq items n)/\o.dict=U
theorem Es.tup{h:ip}{a:gJ}{items:mS}(x:Es h a items):f4 h a items:=let⟨o,e,c,d,_⟩:=x;⟨o,e,c,d⟩
theorem Es.new(h:ip)(items:mS):Es (h.push {cls:=.type "tuple",data:=.seq items}) h.objs.size items:=⟨_,jT _ rfl,rfl,⟨_,rfl⟩,rfl⟩
def VP(T:Hp)(h:ip)(a:gJ):HO->Prop
 |.lst g=>A1 g<=sizeLine/\∃(b:je)(n:Nat),Vals g b/\h.get? a=J {cls:=.type "list",data:=.seq b.toArray n}
 |.tup g=>A1 g<=sizeLine/\∃b:List gU,Vals g b/\Es h a b.toArray
 |.dK d=>A1 d<=sizeLine/\(a==bN)=C/\∃k,KV d k/\h.DictOf (kW P w) a k
 |.dT d=>A1 d<=sizeLine/\(a==bN)=C/\∃g:List (List Key×gJ×gU),
   Paired (λ(p:List Key×V) (q:List Key×gJ×gU)=>p.1=q.1/\T q.2.1=J (.tup<|p.1.map kV)/\RelV p.2 q.2.2) d g/\
   ∃o j Q,h.get? a=J o/\o.ExactDict/\o.data=.dict j Q/\j.toList=g.map (entryOfKey<|dS<|kW P w)/\(g.map (·.1)).Nodup
 |.set S n=>h.SetOf (gm P w) a S n
 |.W2 E=>∃(j:qO)(n:Nat)(t:lR),h.get? a=J {cls:=.type "set",data:=.set j n t}/\Paired (λ(z:Int×V) (e:Int×gU)=>z.1=e.1/\RelV z.2 e.2) E j.toList/\
   TT.J4 (E.map (·.1)) t/\t.plain=Y/\t.led=!w.params.followText "set-order"
 |.ins N l fs=>T l=J (.own a)/\(A1 fs)<=1000/\l≠a/\h.get? a=J (PySem.W.instObj N l)/\
   ∃i,h.Ns1 l i/\(∀f,Et (fs.lookup f)<|i f)/\PySem.Within i (fs.map (·.1))
 |.own _=>∃o,h.get? a=J o
 |.xd fs=>∃i,h.Ns1 a i/\∀f,Et (fs.lookup f)<|i f
 |.rng lo L=>∃t u v,h.get? a=J {cls:=.type "range",data:=.fields #[.int lo t,.int L u,.int 1 v]}
 |.AJ o u=>h.get? a=J o/\VP T h a u
 |.tbl O=>∃q t r,O[0]?=J (.str q t)/\h.get? a=J {cls:=.none,data:=.fields r}/\fV r.toList/\∀m y,dn m r.toList=J y->∃c B u k t,y=.ref c/\T c=J (.AJ B u)/\B.data=.fields k/\k[1]?=J (.str q t)
 |.met f x=>h.get? a=J (dH (.ref f)<|.ref x)
 |.ext s=>s h/\(∃o,h.get? a=J o)/\∀h1 A:ip,s h1->(∀o,h1.get? a=J o->A.get? a=J o)->s A
def Az(T:Hp)(h:ip):Prop:= ∀a o,T a=J o->VP P w T h a o
end
section
variable {P:iw}{w:ik}{H g:Hp}{h h':ip}{a:gJ}{o:HO}
def VP.lt(x:VP P w H h a o):a<h.objs.size:=by
 cases o with
 |lst c=>obtain⟨_,_,_,_,e⟩:=x;exact jN e
 |tup c=>obtain⟨_,_,_,p⟩:=x;exact p.tup.lt
 |dK b=>obtain⟨_,_,_,_,o,_,_,e,_⟩:=x;exact jN e
 |dT b=>obtain⟨_,_,_,_,o,_,_,e,_⟩:=x;exact jN e
 |set S n=>obtain⟨o,_,_,_,e,_⟩:=x;exact jN e
 |W2 l=>obtain⟨_,_,_,e,_⟩:=x;exact jN e
 |ins T d fs=>obtain⟨_,_,_,e,_⟩:=x;exact jN e
 |own y=>obtain⟨_,e⟩:=x;exact jN e
 |xd fs=>obtain⟨_,⟨_,_,_,e,_⟩,_⟩:=x;exact jN e
 |rng lo i=>obtain⟨_,_,_,e⟩:=x;exact jN e
 |AJ j u=>obtain⟨e,_⟩:=x;exact jN e
 |tbl k=>obtain⟨_,_,_,_,e,_⟩:=x;exact jN e
 |met f y=>exact jN (show h.get? a=J _ from x)
 |ext m=>obtain⟨_,⟨_,e⟩,_⟩:=x;exact jN e
def Paired.Ko{e i:Type}{F G:e->i->Prop}{c:List e}{d:List i}(h:Paired F c d)(f:∀a b,F a b->G a b):Paired G c d:=by
 induction h with
 |nil=>exact .nil
 |cons r t j=>exact .cons (f _ _ r) j
def VP.D0(x:VP P w H h a o)(k:∀b u,(b=a\/H b=J (.own a))->h.get? b=J u->h'.get? b=J u)
  (N:∀b,H b=J (.own a)->g b=J (.own a))(U:∀b A,H b=J (.tup A)->g b=J (.tup A))(Y:∀b i u,H b=J (.AJ i u)->g b=J (.AJ i u):=by exact λ_ _ _ q=>q):VP P w g h' a o:=by
 induction o with
 |lst A=>obtain⟨z,s,n,r,e⟩:=x;exact⟨z,s,n,r,k _ _ (.inl AT) e⟩
 |tup A=>obtain⟨z,s,r,i,e,c⟩:=x;exact⟨z,s,r,i,k _ _ (.inl AT) e,c⟩
 |dK B=>obtain⟨z,y,O,r,i,j,l,e,c⟩:=x;exact⟨z,y,O,r,i,j,l,k _ _ (.inl AT) e,c⟩
 |dT B=>obtain⟨z,y,A,r,i,j,l,e,c⟩:=x;exact⟨z,y,A,Paired.Ko r λp q z=>⟨z.1,U _ _ z.2.1,z.2.2⟩,i,j,l,k _ _ (.inl AT) e,c⟩
 |set S n=>obtain⟨i,j,l,t,e,c⟩:=x;exact⟨i,j,l,t,k _ _ (.inl AT) e,c⟩
 |W2 zs=>obtain⟨j,n,t,e,c⟩:=x;exact⟨j,n,t,k _ _ (.inl AT) e,c⟩
 |ins C' dx fs=>obtain⟨d,z,ne,e,E,⟨I,j,l,G,c⟩,r⟩:=x;exact⟨N _ d,z,ne,k _ _ (.inl AT) e,E,⟨I,j,l,k _ _ (.inr d) G,c⟩,r⟩
 |own y=>obtain⟨i,e⟩:=x;exact⟨i,k _ _ (.inl AT) e⟩
 |xd fs=>obtain⟨E,⟨I,j,l,e,c⟩,r⟩:=x;exact⟨E,⟨I,j,l,k _ _ (.inl AT) e,c⟩,r⟩
 |rng lo hi=>obtain⟨t,u,v,e⟩:=x;exact⟨t,u,v,k _ _ (.inl AT) e⟩
 |AJ i u ih=>obtain⟨e,q⟩:=x;exact⟨k _ _ (.inl AT) e,ih q⟩
 |tbl ps=>obtain⟨q,t,D,T,e,F,m⟩:=x;exact⟨q,t,D,T,k _ _ (.inl AT) e,F,λL Q z=>let⟨c,i,u,O,t,h1,J',M⟩:=m L Q z;⟨c,i,u,O,t,h1,Y _ _ _ J',M⟩⟩
 |met f y=>have e:h.get? a=J (dH (.ref f)<|.ref y):=x;show h'.get? a=J (dH (.ref f)<|.ref y);exact k a _ (.inl AT) e
 |ext φ=>obtain⟨p,⟨o,e⟩,st⟩:=x;exact⟨st _ _ p λo q=>k _ _ (.inl AT) q,⟨o,k _ _ (.inl AT) e⟩,st⟩
def Az.lt(x:Az P w H h)(e:H a=J o):a<h.objs.size:=(x a o e).lt
def Az.fresh(x:Az P w H h)(e:h.objs.size<=a):H a=U:=by
 cases q:H a with
 |none=>rfl
 |some u=>exact absurd (nv (x.lt q) e)<|oS _
def Az.kept(x:Az P w H h)(k:∀b u,h.get? b=J u->h'.get? b=J u):Az P w H h':=λa o e=>(x a o e).D0 (λb u _ q=>k b u q) (λ_ q=>q) λ_ _ q=>q
def Az.laid(x:Az P w H h)(k:∀b u,h.get? b=J u->h'.get? b=J u)(i:h.objs.size<=a)(new:VP P w (upd H a o) h' a o):Az P w (upd H a o) h':=λb u e=>by
 have d:=x.fresh i;by_cases f:b=a
 .subst f;rw[iF]at e;cases e;exact new
 rw[iL f]at e;exact(x b u e).D0 (λc v _ q=>k c v q) (λc q=>by rw[iL<|lH q d];exact q) (λc j q=>by rw[iL<|lH q d];exact q) λc _ _ q=>by rw[iL<|lH q d];exact q
end
def Rd(T:Hp)(a:gJ)(u:HO):Prop:=T a=J u\/∃o,T a=J (.AJ o u)
def Rd.ok{P:iw}{w:ik}{T:Hp}{h:ip}{a:gJ}{u:HO}(r:Rd T a u)(x:Az P w T h):VP P w T h a u:=by
 rcases r with r|⟨o,r⟩
 .exact x a u r
 obtain⟨_,q⟩:=x a _ r;exact q
def LH:Option HO->Prop
 |some (.lst _)=>True
 |some (.dK _)=>True
 |some (.dT _)=>True
 |some (.set _ _)=>True
 |some (.W2 _)=>True
 |some (.ins _ _ _)=>True
 |some (.ext _)=>True
 |_=>False
section
variable {P:iw}{w:ik}{H:Hp}{h a:ip}{x e:gJ}{d:HO}
def Az.write(ok:Az P w H h)(g:LH (H x))(o:e=x\/H e=J (.own x))(k:∀b u,b≠e->h.get? b=J u->a.get? b=J u)(s:∃u,a.get? e=J u)
  (new:VP P w (upd H x d) a x d):Az P w (upd H x d) a:=λb u q=>by
 have f:∀c y,H c=J (.own y)->c≠x:=λc y r z=>by subst z;rw[r]at g;exact g
 have i:∀c n,H c=J (.tup n)->c≠x:=λc n r z=>by subst z;rw[r]at g;exact g
 by_cases l:b=x
 .subst l;rw[iF]at q;cases q;exact new
 rw[iL l]at q;by_cases j:b=e
 .have p:H b=J (.own x):=by
   rcases o with z|z
   .exact absurd (j.trans z) l
   rw[j];exact z
  rw[q]at p;cases p;obtain⟨v,hv⟩:=s;exact⟨v,by rw[j];exact hv⟩
 refine(ok b u q).D0 (λc v m r=>k c v ?_ r) (λc r=>by rw[iL<|f c b r];exact r) (λc n r=>by rw[iL<|i c n r];exact r) λc _ _ r=>by rw[iL λz=>by subst z;rw[r]at g;exact g];exact r
 rcases m with rfl|m
 .exact j
 rintro rfl;rcases o with z|z
 .exact f c b m z
 rw[m]at z;cases z;exact l I
end
structure Un(fs ex:km)(H H':Hp)(h h':ip):Prop where
 keep:∀b o,h.get? b=z8 o->H b=z9->b∉fs->b∉ex->h'.get? b=z8 o
 slot:∀b o,h.get? b=z8 o->H b=z9->b∈fs->b∉ex->∃sl,h'.get? b=z8 {o with slots:=sl}
 free:∀b o,h.get? b=z8 o->H b=z9->b∉ex->H' b=z9
 there:∀b o,h.get? b=z8 o->b∉ex->∃o',h'.get? b=z8 o'
 tups:∀b xs,H b=z8 (.tup xs)->H' b=z8 (.tup xs)
 frzs:∀b o u,H b=z8 (.AJ o u)->H' b=z8 (.AJ o u)
 tbls:∀b ps,H b=z8 (.tbl ps)->∃more,H' b=z8 (.tbl<|ps++more)
section
variable {fs g ex c:km}{H d i:Hp}{h h1 f h':ip}{a x e:gJ}{o:HO}
def Un.any(u:Un fs ex H d h h1){b:gJ}{j:el}(q:h.get? b=J j)(n:H b=U)(l:b∉ex):∃m,h1.get? b=J {j with slots:=m}:=by
 by_cases k:b∈fs
 .exact u.slot b j q n k l
 exact⟨j.slots,u.keep b j q n k l⟩
def Un.kept(k:∀b u,h.get? b=J u->h'.get? b=J u):Un fs ex H H h h':=
 ⟨λb j q _ _ _=>k b j q,λb j q _ _ _=>⟨j.slots,k b j q⟩,λ_ _ _ n _=>n,λb j q _=>⟨j,k b j q⟩,λ_ _ q=>q,λ_ _ _ q=>q,λ_ l q=>⟨#[],by rw[q];simp⟩⟩
def Un.refl:Un fs ex H H h h:=Un.kept λ_ _ q=>q
def Un.laid(k:∀b u,h.get? b=J u->h'.get? b=J u)(r:h.objs.size<=a)(j:H a=U):Un fs ex H (upd H a o) h h' where
 keep:=λb u q _ _ _=>k b u q
 slot:=λb u q _ _ _=>⟨u.slots,k b u q⟩
 free:=λb u q n _=>by rw[iL<|jB<|nv (jN q) r];exact n
 there:=λb u q _=>⟨u,k b u q⟩
 tups:=λb s q=>by rw[iL<|lH q j];exact q
 frzs:=λb u s q=>by rw[iL<|lH q j];exact q
 tbls:=λb t q=>⟨#[],by rw[iL<|lH q j,q];simp⟩
def Un.write(j:LH (H x))(v:e=x\/H e=J (.own x))(k:∀b u,b≠e->h.get? b=J u->h'.get? b=J u)(t:∃u,h'.get? e=J u):Un fs ex H (upd H x o) h h':=by
 have s:∀b,H b=U->b≠x:=λb n z=>by subst z;rw[n]at j;exact j
 have p:∀b,H b=U->b≠e:=λb n z=>by
  subst z;rcases v with r|r
  .exact s b n r
  rw[n]at r;cases r
 have l:∀b u,H b=J u->¬LH (J u)->b≠x:=λb u q w z=>by subst z;rw[q]at j;exact w j
 refine⟨λb u q n _ _=>k b u (p b n) q,λb u q n _ _=>⟨u.slots,k b u (p b n) q⟩,λb u q n _=>by rw[iL<|s b n];exact n,λb u q _=>?_,
  λb y q=>by rw[iL<|l b _ q λz=>z];exact q,λb u y q=>by rw[iL<|l b _ q λz=>z];exact q,λb A q=>⟨#[],by rw[iL<|l b _ q λz=>z,q];simp⟩⟩
 by_cases m:b=e
 .subst m;exact t
 exact⟨u,k b u m q⟩
end
noncomputable def M0(h:ip)(T:Hp):List Addr:=(ap h.objs.size).filter λa=>(T a).isSome
def AM(h:ip)(T:Hp):Heap:=PySem.W.hideAll h<|M0 h T
def ac1(h:ip)(T:Hp):(AM h T).objs.size=h.objs.size:=PySem.W.hideAll_size _ _
def NK{h:ip}{T:Hp}{b:gJ}{o:el}(e:h.get? b=J o)(n:T b=U):(AM h T).get? b=J o:=
 PySem.W.hideAll_get _ e λa=>by have q:(T b).isSome=Y:=(mB.mp a).2;rw[n]at q;simp at q
def Q0{h:ip}{T:Hp}{b:gJ}{o:el}(e:(AM h T).get? b=J o):h.get? b=J o/\T b=U:=by
 have a:h.get? b=J o:=PySem.W.of_hideAll (M0 h T) e;refine⟨a,?_⟩
 cases q:T b with
 |none=>rfl
 |some x=>have c:b∈M0 h T:=mB.mpr ⟨rn.mpr<|jN a,by simp[q]⟩;have z:(AM h T).get? b=U:=PySem.W.hideAll_none (M0 h T) c;rw[z]at e;cases e
structure Mod(K:iz)(mg:lz)(base:ip):Prop where
 kin:K.In base
 glob:base.Ns aj mg
 blt:∃mb,base.Ns eY mb/\∀x:av,x≠"__name__"->mb x=ax x
 nolimit:base.NoLimit
structure Cx where
 prog:iw
 w:ik
 K:iz
 mg:av->Option gU
 base:ip
 A:ig
 N:List av
 s₀:gM
 H₀:Hp
 env:c3
 outer:List c3
 stack:List c3
 ex:List gJ
 fn:av->Bool
 calm:Bool
 pn:List (gJ×el)
 xe:gU->gM->Prop
noncomputable def GZ(l:List c3):List Addr:=l.filterMap (·.frame)
abbrev Cx.fs(X:Cx):List Addr:=GZ X.outer
def GN(a:iJ)(x:av):Prop:=a.names.lookup x=J .local\/a.names.lookup x=J .cell\/a.names.lookup x=J .free
def Loc(a:iJ)(x:av):Prop:=a.names.lookup x=J .local\/a.names.lookup x=J .cell
def aaY(a:c3)(h:ip)(m:lz)(x:av)(u:gU):Prop:=
 (a.kindOf x=J .local/\m x=J u)\/((a.kindOf x=J .cell\/a.kindOf x=J .free)/\∃c,a.cells.lookup x=J c/\h.IsCell c (J u))
structure Cx.Ok(X:Cx):Prop where
 mod:Mod X.K X.mg X.base
 kind:X.env.scope.kind=.function
 glob:X.env.globals=aj
 blt:X.env.builtins=eY
 above:X.s₀.heap.objs.size<=X.env.locals
 inj:∀x y c,X.env.cells.lookup x=z8 c->X.env.cells.lookup y=z8 c->x=y
 has:∀x,(X.env.kindOf x=z8 .cell\/X.env.kindOf x=z8 .free)->∃c,X.env.cells.lookup x=z8 c
 cab:∀x c,X.fn x=At->X.env.cells.lookup x=z8 c->X.s₀.heap.objs.size<=c
 hd:X.calm=At->X.A.handled=z9
 frames:X.A.frames=z8 X.stack
 stk:X.stack=X.outer\/(X.stack=X.env::X.outer/\X.env.frame=z8 X.env.locals)
 exf:∀b∈X.ex,b≠X.env.locals/\∀x c,X.env.cells.lookup x=z8 c->c≠b
 bs:∀b o,X.base.get? b=z8 o->X.s₀.heap.get? b=z8 o/\X.H₀ b=z9
 bsz:X.base.objs.size<=X.s₀.heap.objs.size
 noex:∀b o,X.base.get? b=z8 o->b∉X.ex
 exfs:∀b∈X.ex,b∉X.fs
 Ap:X.s₀.heap.FunFrames X.base X.outer
 frf:∀b∈X.fs,X.H₀ b=z9
structure Inv(X:Cx)(pins:iN)(σ:List (Option V))(H:Hp)(s:gM):Prop where
 ok:X.Ok
 os:s.os=X.s₀.os
 bare:dB s.gens
 base:Un X.fs X.ex X.H₀ H X.s₀.heap s.heap
 loc:∃m,s.heap.Ns X.env.locals m/\∀(i:Nat)(x:av)(v:V),X.N[i]?=z8 x->σ[i]?=z8 (z8 v)->GN X.env.scope x->∃u,RelV v u/\aaY X.env s.heap m x u
 cell:∀x c,X.env.cells.lookup x=z8 c->∃v,s.heap.IsCell c v
 free:H X.env.locals=z9
 freeC:∀x c,X.env.cells.lookup x=z8 c->H c=z9
 pin:∀p∈X.pn++pins,s.heap.get? p.1=z8 p.2/\H p.1=z9/\p.1≠X.env.locals/\p.1∉X.fs/\∀v,p.2.data≠ .cell v
 hok:Az X.prog X.w H s.heap
 len:(A1 σ)=X.N.length
section
variable {X:Cx}{f:iN}{g:List (Option V)}{H H':Hp}{s:gM}{h':ip}
def Cx.Ok.nofr(ok:X.Ok){b:gJ}{o:el}(e:X.base.get? b=J o):b∉X.fs:=λa=>by have:=(ok.Ap.mem a).1;rw[e]at this;cases this
def Inv.bs(T:Inv X f g H s):∀b o,X.base.get? b=J o->s.heap.get? b=J o/\H b=U:=λb o e=>⟨T.base.keep b o (T.ok.bs b o e).1 (T.ok.bs b o e).2 (T.ok.nofr e)<|T.ok.noex b o e,T.base.free b o (T.ok.bs b o e).1 (T.ok.bs b o e).2<|T.ok.noex b o e⟩
def Inv.bk(T:Inv X f g H s):∀b o,X.base.get? b=J o->s.heap.get? b=J o:=λb o e=>(T.bs b o e).1
def Inv.mod(T:Inv X f g H s):Mod X.K X.mg X.base:=T.ok.mod
def Inv.Ej(T:Inv X f g H s):X.K.In s.heap:=T.ok.mod.kin.keeps T.bk
def Inv.lt(T:Inv X f g H s):X.env.locals<s.heap.objs.size:=let⟨_,a,_⟩:=T.loc;a.lt
def Inv.sz(T:Inv X f g H s):X.s₀.heap.objs.size<=s.heap.objs.size:=jW T.ok.above<|vB T.lt
def Inv.Kk(T:Inv X f g H s){a:gJ}(h:s.heap.objs.size<=a):a∉X.fs:=λb=>by obtain⟨_,o,c,_⟩:=T.ok.Ap.mem b;exact absurd (nv (jN c)<|jW T.sz h)<|oS _
def Inv.JW(T:Inv X f g H s):∀x c,X.env.cells.lookup x=J c->c≠X.env.locals:=λx c e z=>by obtain⟨v,o,a,hd⟩:=T.cell x c e;obtain⟨m,⟨j,i,h,d,b,_⟩,_⟩:=T.loc;rw[z,d]at a;cases a;rw[b]at hd;cases hd
def Inv.Ap(T:Inv X f g H s):s.heap.FunFrames X.base X.outer:=by
 have all:∀(l:List c3),(∀b∈GZ l,b∈X.fs)->X.s₀.heap.FunFrames X.base l->s.heap.FunFrames X.base l:=by
  intro l
  induction l with
  |nil=>intro _ _;trivial
  |cons i r p=>intro h j;obtain⟨hk,⟨L,o,d,k,m,hd⟩,n⟩:=j;have a:L∈X.fs:=h L (by unfold GZ;rw[vA,d];exact jF);obtain⟨q,e⟩:=T.base.slot L o m (T.ok.frf L a) a λz=>T.ok.exfs L z a;exact⟨hk,⟨L,_,d,k,e,hd⟩,p (λb c=>h b<|by unfold GZ;rw[vA,d];exact iY _ c) n⟩
 exact all X.outer (λ_ c=>c) T.ok.Ap
def Inv.stack(T:Inv X f g H s):s.heap.FunFrames X.base X.stack:=by
 rcases T.ok.stk with e|⟨e,hf⟩
 .rw[e];exact T.Ap
 rw[e];obtain⟨m,a,_⟩:=T.loc;refine .cons (by rw[T.ok.kind];decide) hf a ?_ T.Ap;exact Heap.get?_none_of_le<|jW T.ok.bsz T.ok.above
def Inv.Dt(T:Inv X f g H s):∀b∈GZ X.stack,b∈X.env.locals::X.fs:=λb a=>by
 rcases T.ok.stk with e|⟨e,hf⟩
 .rw[e]at a;exact iY _ a
 rw[e]at a;unfold GZ at a;rw[vA,hf]at a;exact a
def Inv.Gy(T:Inv X f g H s):∀b∈GZ X.stack,H b=U:=λb a=>by
 rcases mP.mp (T.Dt b a)with e|a
 .rw[e];exact T.free
 obtain⟨_,o,c,_⟩:=T.ok.Ap.mem a;exact T.base.free b o c (T.ok.frf b a) λz=>T.ok.exfs b z a
def Inv.step{g':Array eC}{t':Nat}{d':Drawn}{ch:km}(I:Inv X f g H s)
  (B:∀b∈ch,(b∈X.ex\/X.s₀.heap.objs.size<=b)/\b≠X.env.locals/\(∀x c,X.env.cells.lookup x=z8 c->c≠b)/\∀p∈X.pn++f,p.1≠b)
  (keep:∀b o,b≠X.env.locals->b∉X.fs->b∉ch->s.heap.get? b=z8 o->H b=U->h'.get? b=z8 o)
  (slot:∀b o,b≠X.env.locals->b∈X.fs->b∉ch->s.heap.get? b=z8 o->H b=U->∃U',h'.get? b=z8 {o with slots:=U'})(free:∀b o,b∉ch->s.heap.get? b=z8 o->H b=U->H' b=U)
  (there:∀b o,b∉ch->s.heap.get? b=z8 o->∃Q,h'.get? b=z8 Q)
  (G:∀b t,H b=z8 (.tup t)->H' b=z8 (.tup t))(L:∀b o u,H b=z8 (.AJ o u)->H' b=z8 (.AJ o u))(T:∀b M,H b=z8 (.tbl M)->∃more,H' b=z8 (.tbl<|M++more))
  (ns:∀m,s.heap.Ns X.env.locals m->h'.Ns X.env.locals m)(N:Az X.prog X.w H' h')(hg:dB g'):
  Inv X f g H' {s with heap:=h',gens:=g',drawn:=d',toks:=t'}:=by
 have O:∀b o,X.s₀.heap.get? b=z8 o->b≠X.env.locals:=λb o e=>jB<|nv (jN e) I.ok.above
 have J:∀b o,X.s₀.heap.get? b=z8 o->b∉X.ex->b∉ch:=λb o e a y=>by
  rcases(B b y).1 with z|z
  .exact a z
  exact absurd (nv (jN e) z) (oS _)
 have h:∀x c,X.env.cells.lookup x=z8 c->∀v,s.heap.IsCell c v->h'.IsCell c v:=λx c e v a'=>by
  obtain⟨o,A,hd⟩:=a'
  have C:c∉ch:=λz=>(B c z).2.2.1 x c e AT;by_cases D:c∈X.fs
  .obtain⟨U',q⟩:=slot c o (I.JW x c e) D C A<|I.freeC x c e;exact⟨_,q,hd⟩
  exact⟨o,keep c o (I.JW x c e) D C A<|I.freeC x c e,hd⟩
 refine⟨I.ok,I.os,hg,⟨λb o e n y a=>?_,λb o e n y a=>?_,λb o e n a=>?_,λb o e a=>?_,λb t e=>G b t<|I.base.tups b t e,λb o t e=>L b o t<|I.base.frzs b o t e,λb M e=>?_⟩,?_,λx c e=>?_,?_,λx c e=>?_,λp F=>?_,N,I.len⟩
 .exact keep b o (O b o e) y (J b o e a) (I.base.keep b o e n y a) (I.base.free b o e n a)
 .obtain⟨U',j⟩:=I.base.slot b o e n y a;obtain⟨Y,E⟩:=slot b _ (O b o e) y (J b o e a) j (I.base.free b o e n a);exact⟨Y,E⟩
 .obtain⟨Q,j⟩:=I.base.there b o e a;exact free b Q (J b o e a) j<|I.base.free b o e n a
 .obtain⟨Q,j⟩:=I.base.there b o e a;exact there b Q (J b o e a) j
 .obtain⟨V,j⟩:=I.base.tbls b M e;obtain⟨W,E⟩:=T b _ j;exact⟨V++W,by rw[E,Gi]⟩
 .obtain⟨m,S,R⟩:=I.loc;refine⟨m,ns m S,λi x v j E P=>?_⟩;obtain⟨u,r,l⟩:=R i x v j E P;refine⟨u,r,?_⟩;rcases l with l|⟨k,c,e,z⟩
  .exact .inl l
  exact .inr ⟨k,c,e,h x c e _ z⟩
 .obtain⟨v,z⟩:=I.cell x c e;exact⟨v,h x c e v z⟩
 .obtain⟨m,⟨o,_,_,A,_⟩,_⟩:=I.loc;exact free _ o (λz=>(B _ z).2.1 AT) A I.free
 .obtain⟨v,o,A,hd⟩:=I.cell x c e;exact free c o (λz=>(B c z).2.2.1 x c e AT) A<|I.freeC x c e
 obtain⟨e,n,ne,K,d⟩:=I.pin p F;have C:p.1∉ch:=λz=>(B p.1 z).2.2.2 p F AT;exact⟨keep p.1 p.2 ne K C e n,free p.1 p.2 C e n,ne,K,d⟩
def Inv.un{t':Nat}(T:Inv X f g H s)(u:Un X.fs [] H H' s.heap h')(d:Az X.prog X.w H' h'):Inv X f g H' {s with heap:=h',toks:=t'}:=by
 obtain⟨m,⟨o,t,q,h,r⟩,_⟩:=id T.loc;obtain⟨y,k⟩:=u.any h T.free (by simp)
 exact T.step (g':=s.gens) (d':=s.drawn) (ch:=[]) (λ_ z=>nomatch z) (λb o _ c _ e n=>u.keep b o e n c<|by simp) (λb o _ c _ e n=>u.slot b o e n c<|by simp) (λb o _ e n=>u.free b o e n<|by simp) (λb o _ e=>u.there b o e<|by simp) u.tups u.frzs u.tbls (λv l=>by obtain⟨x,a,j,i,p⟩:=l;rw[h]at i;cases i;exact⟨_,a,j,k,p⟩) d T.bare
def Inv.call{g':Array eC}{t':Nat}{d':Drawn}{ch:km}(Q:Inv X f g H s)(u:Un (GZ X.stack) ch H H' s.heap h')(i:Az X.prog X.w H' h')(v:dB g')
  (j:∀b∈ch,(b∈X.ex\/X.s₀.heap.objs.size<=b)/\b≠X.env.locals/\(∀x c,X.env.cells.lookup x=J c->c≠b)/\∀p∈X.pn++f,p.1≠b):
  Inv X f g H' {s with heap:=h',gens:=g',drawn:=d',toks:=t'}:=by
 obtain⟨m,⟨o,T,B,k,r⟩,_⟩:=id Q.loc;obtain⟨O,h⟩:=u.any k Q.free λz=>(j _ z).2.1 I
 exact Q.step (ch:=ch) j (λb o h t a e n=>u.keep b o e n (λz=>(mP.mp<|Q.Dt b z).elim h t) a) (λb o _ _ a e n=>u.any e n a) (λb o a e n=>u.free b o e n a) (λb o a e=>u.there b o e a) u.tups u.frzs u.tbls (λE y=>by obtain⟨L,d,q,l,A⟩:=y;rw[k]at l;cases l;exact⟨_,d,q,h,A⟩) i v
def Inv.turned{t':Nat}{it:gJ}(Q:Inv X f g H s)(k:∀b o,b≠it->s.heap.get? b=J o->h'.get? b=J o)(A:H it=U)(h:it≠X.env.locals)
  (h1:it∈X.ex\/X.s₀.heap.objs.size<=it)(l:∀x c,X.env.cells.lookup x=J c->c≠it)(t:∀p∈X.pn++f,p.1≠it):Inv X f g H {s with heap:=h',toks:=t'}:=by
 have d:∀b u,H b=J u->b≠it:=λb u e z=>by rw[z,A]at e;cases e
 refine Q.step (g':=s.gens) (d':=s.drawn) (ch:=[it]) (λb w=>?_) (λb o _ _ a e _=>k b o (λz=>a<|by simp[z]) e) (λb o _ _ a e _=>⟨o.slots,k b o (λz=>a<|by simp[z]) e⟩) (λ_ _ _ _ n=>n)
  (λb o a e=>⟨o,k b o (λz=>a<|by simp[z]) e⟩) (λ_ _ e=>e) (λ_ _ _ e=>e) (λb T e=>⟨#[],by rw[e];simp⟩) (λm y=>?_) (λb u e=>?_) Q.bare
 .have e:b=it:=by simpa using w
  subst e;exact⟨h1,h,l,t⟩
 .obtain⟨o,j,i,B,r⟩:=y;exact⟨o,j,i,k _ o (pA h) B,r⟩
 refine(Q.hok b u e).D0 (λc v a q=>k c v ?_ q) (λ_ q=>q) λ_ _ q=>q;rcases a with z|z
 .rw[z];exact d b u e
 exact d c _ z
def Inv.tok(T:Inv X f g H s)(t:Nat):Inv X f g H {s with toks:=t}:=T.un (h':=s.heap) (t':=t) Un.refl T.hok
def Inv.kept{t':Nat}(T:Inv X f g H s)(k:∀b u,s.heap.get? b=J u->h'.get? b=J u):Inv X f g H {s with heap:=h',toks:=t'}:=T.un (Un.kept k)<|T.hok.kept k
def Inv.laid{a:gJ}{o:HO}{t':Nat}(T:Inv X f g H s)(k:∀b u,s.heap.get? b=J u->h'.get? b=J u)(c:s.heap.objs.size<=a)(new:VP X.prog X.w (upd H a o) h' a o):
  Inv X f g (upd H a o) {s with heap:=h',toks:=t'}:=T.un (Un.laid k c<|T.hok.fresh c)<|T.hok.laid k c new
def Inv.write{x e:gJ}{o:HO}{h:Nat}(T:Inv X f g H s)(d:LH (H x))(c:e=x\/H e=J (.own x))(k:∀b u,b≠e->s.heap.get? b=J u->h'.get? b=J u)(a:∃u,h'.get? e=J u)
  (new:VP X.prog X.w (upd H x o) h' x o):Inv X f g (upd H x o) {s with heap:=h',toks:=h}:=T.un (Un.write d c k a)<|T.hok.write d c k a new
def Inv.Dh{a:iN}(T:Inv X f g H s)(h:∀p∈a,s.heap.get? p.1=J p.2/\H p.1=U/\p.1≠X.env.locals/\p.1∉X.fs/\∀v,p.2.data≠ .cell v):Inv X a g H s:=
 ⟨T.ok,T.os,T.bare,T.base,T.loc,T.cell,T.free,T.freeC,λp b=>(nQ.mp b).elim (λz=>T.pin p<|wY _ z)<|h p,T.hok,T.len⟩
def Em{N:iA}(e:N.Nodup){i j:Nat}{x:av}(a:N[i]?=J x)(b:N[j]?=J x):i=j:=by obtain⟨h1,c⟩:=ue.mp a;obtain⟨h,d⟩:=ue.mp b;exact(Cw e).mp (c.trans d.symm)
def Bb{M:eT}{A:ig}{E:iK}{i:Nat}{x:av}{v:V}{u:gU}{Q:Unit->gM->Prop}(I:Inv X f g H s)(hN:X.N.Nodup)(hi:X.N[i]?=z8 x)(L:Loc X.env.scope x)(r:RelV v u)
  (h:∀s',Inv X f (g.set i<|z8 v) H s'->(∃a,aG a s.heap s'.heap/\(a=X.env.locals\/X.env.cells.lookup x=z8 a))->Q () s')(hf:X.fn x=At\/X.env.scope.names.lookup x=z8 .local:=by first|exact .inl rfl|exact .inr rfl|assumption):aa M A (storeName X.env x u) Q E s:=by
 obtain⟨m,S,hl⟩:=id I.loc;have Y:(X.env.scope.kind== .class||(X.env.scope.kind== .module&&X.env.locals !=X.env.globals))=AC:=by rw[I.ok.kind];rfl
 have T:i<(A1 g):=by rw[I.len];exact(ue.mp hi).1
 have JW:=I.JW
 have B:∀{a:gJ}{h':ip},(∃o,s.heap.get? a=z8 o/\H a=z9)->aG a s.heap h'->Az X.prog X.w H h':=λ{a h'} ha l b ob e=>by
  obtain⟨_,_,i9⟩:=ha;refine(I.hok b ob e).D0 (λc K C q=>(l.2 c ?_).trans q) (λ_ q=>q) λ_ _ q=>q;rintro rfl;rcases C with rfl|C
  .rw[i9]at e;cases e
  rw[i9]at C;cases C
 rcases L with hk|hk
 .refine wpAny_storeName_local hk S (λh' W l=>?_) Y;obtain⟨oL,_,_,dR,_⟩:=id S;refine h _ ⟨I.ok,I.os,I.bare,⟨λb o e n G L=>?_,λb o e n G L=>?_,I.base.free,λb o e L=>?_,I.base.tups,I.base.frzs,I.base.tbls⟩,⟨_,W,λj y v' t O R=>?_⟩,λy c e=>?_,I.free,I.freeC,λp Z=>?_,B ⟨oL,dR,I.free⟩ l,by simpa using I.len⟩ ⟨_,l,.inl AT⟩
  .exact(l.2 b<|jB<|nv (jN e) I.ok.above).trans (I.base.keep b o e n G L)
  .obtain⟨sl,t⟩:=I.base.slot b o e n G L;exact⟨sl,(l.2 b<|jB<|nv (jN e) I.ok.above).trans t⟩
  .obtain⟨o',t⟩:=I.base.there b o e L;exact⟨o',(l.2 b<|jB<|nv (jN e) I.ok.above).trans t⟩
  .by_cases J:j=i
   .subst J;rw[hi]at t;cases t;rw[pz T]at O;cases O;exact⟨u,r,.inl ⟨hk,by simp⟩⟩
   rw[lC<|pA J]at O;obtain⟨u',r',q⟩:=hl j y v' t O R;refine⟨u',r',?_⟩;rcases q with⟨k,e⟩|⟨k,c,e,z⟩
   .refine .inl ⟨k,?_⟩;have:y≠x:=λe=>J<|Em hN t<|e▸hi;simp[this,e]
   exact .inr ⟨k,c,e,z.sameBut l<|JW y c e⟩
  .obtain⟨K,z⟩:=I.cell y c e;exact⟨K,z.sameBut l<|JW y c e⟩
  obtain⟨e,n,ne,nf,d⟩:=I.pin p Z;exact⟨(l.2 p.1 ne).trans e,n,ne,nf,d⟩
 have P:X.fn x=At:=by
  rcases hf with z|z
  .exact z
  rw[z]at hk;cases hk
 obtain⟨c,C⟩:=I.ok.has x<|.inl hk;obtain⟨K,z⟩:=I.cell x c C;refine Lr I.ok.kind hk C z λh' w6 l=>?_;obtain⟨oc,cK,D⟩:=id z;refine h {s with heap:=h'} ⟨I.ok,I.os,I.bare,⟨λb o e n G L=>?_,λb o e n G L=>?_,I.base.free,λb o e L=>?_,I.base.tups,I.base.frzs,I.base.tbls⟩,⟨m,S.sameBut l<|pA<|JW x c C,λj y v' t O R=>?_⟩,λy F e=>?_,I.free,I.freeC,λp Z=>?_,B ⟨oc,cK,I.freeC x c C⟩ l,by simpa using I.len⟩ ⟨c,l,.inr C⟩
 .exact(l.2 b<|jB<|nv (jN e)<|I.ok.cab x c P C).trans (I.base.keep b o e n G L)
 .obtain⟨sl,t⟩:=I.base.slot b o e n G L;exact⟨sl,(l.2 b<|jB<|nv (jN e)<|I.ok.cab x c P C).trans t⟩
 .obtain⟨o',t⟩:=I.base.there b o e L;exact⟨o',(l.2 b<|jB<|nv (jN e)<|I.ok.cab x c P C).trans t⟩
 .by_cases J:j=i
  .subst J;rw[hi]at t;cases t;rw[pz T]at O;cases O;exact⟨u,r,.inr ⟨.inl hk,c,C,w6⟩⟩
  rw[lC<|pA J]at O;obtain⟨u',r',q⟩:=hl j y v' t O R;refine⟨u',r',?_⟩;rcases q with q|⟨k,F,e,z'⟩
  .exact .inl q
  refine .inr ⟨k,F,e,z'.sameBut l ?_⟩;rintro rfl;exact J<|Em hN t<|I.ok.inj _ _ _ e C▸hi
 .by_cases U:F=c
  .subst U;exact⟨_,w6⟩
  obtain⟨w2,z2⟩:=I.cell y F e;exact⟨w2,z2.sameBut l U⟩
 obtain⟨e,n,ne,nf,d⟩:=I.pin p Z;refine⟨(l.2 p.1 ?_).trans e,n,ne,nf,d⟩;intro q;rw[q,cK]at e;have q':oc=p.2:=jZ e;exact d K (by rw[<-q'];exact D)
def DX{M:eT}{A:ig}{E:iK}{i:Nat}{x:av}{v:V}{u:gU}{Q:Unit->gM->Prop}(T:Inv X f g H s)(c:X.N.Nodup)(e:X.N[i]?=J x)(j:Loc X.env.scope x)(r:RelV v u)
  (h:∀a,Inv X f (g.set i<|J v) H a->Q () a)(d:X.fn x=Y\/X.env.scope.names.lookup x=J .local:=by first|exact .inl rfl|exact .inr rfl|assumption):aa M A (storeName X.env x u) Q E s:=
 Bb T c e j r (λa b _=>h a b) d
def Inv.LF{s':gM}{ch:km}(T:Inv X f g H s)(i:s'.os=s.os)(u:Un (GZ X.stack) ch H H' s.heap s'.heap)(a:Az X.prog X.w H' s'.heap)(h:dB s'.gens)
  (d:∀b∈ch,(b∈X.ex\/X.s₀.heap.objs.size<=b)/\b≠X.env.locals/\(∀x c,X.env.cells.lookup x=J c->c≠b)/\∀p∈X.pn++f,p.1≠b):Inv X f g H' s':=by
 obtain⟨h',g',d',t',j⟩:=s';have e:j=s.os:=i;subst e;exact T.call (g':=g') (t':=t') (d':=d') u a h d
end
abbrev XK:=gU->Option gJ->Hp->Prop
abbrev St:=List<|Option V
abbrev VK:=V->Hp->Prop
abbrev TE:=St->Hp->VK->Prop
abbrev TT:=St->Hp->(Bool->Hp->Prop)->Prop
abbrev TA:=St->Hp->(List V->Hp->Prop)->Prop
structure Ends where
 nx:St->Hp->Prop
 rt:VK
 bk:St->Hp->Prop:=λ_ _=>False
 ct:St->Hp->Prop:=λ_ _=>False
abbrev TS:=Ends->St->Hp->Prop
inductive EP(X:Cx)(pins:iN)(σ:St)(Q:VK)(u:gU)(s':gM):Prop where
 |mk (v:V) (H':Hp) (_:Inv X pins σ H' s') (_:RelV v u) (_:Q v H')
inductive TP(X:Cx)(pins:iN)(σ:St)(Q:Bool->Hp->Prop)(b:Bool)(s':gM):Prop where
 |mk (H':Hp) (_:Inv X pins σ H' s') (_:Q b H')
inductive abw(X:Cx)(pins:iN)(σ:St)(Q:List V->Hp->Prop)(us:je)(s':gM):Prop where
 |mk (vs:List V) (H':Hp) (_:Inv X pins σ H' s') (_:Vals vs us) (_:Q vs H')
def SP(X:Cx)(b:iN)(D:Ends)(f:Flow)(d:gM):Prop:=
 match f with
 |.next=>∃a c,Inv X b a c d/\D.nx a c
 |.brk=>∃a c,Inv X b a c d/\D.bk a c
 |.cont=>∃a c,Inv X b a c d/\D.ct a c
 |.ret u=>∃v a c,Inv X b a c d/\RelV v u/\D.rt v c
def PE(X:Cx)(e:gX)(t:TE):Prop:=
 ∀(a:iN)(s:gM)(b:St)(T:Hp)(Q:VK),Inv X a b T s->t b T Q->aa (ag X.prog X.w) X.A (ba e X.env) (EP X a b Q) X.xe s
def PT(X:Cx)(e:gX)(t:TT):Prop:=
 ∀(a:iN)(s:gM)(b:St)(T:Hp)(Q:Bool->Hp->Prop),Inv X a b T s->t b T Q->aa (ag X.prog X.w) X.A (isTrue e X.env<|ba e X.env) (TP X a b Q) X.xe s
def PW(X:Cx)(e:gX)(t:TT):Prop:=
 ∀(b:c4 gU)(a:iN)(s:gM)(c:St)(T:Hp)(Q:Bool->Hp->Prop),Inv X a c T s->t c T Q->aa (ag X.prog X.w) X.A (isTrue e X.env b) (TP X a c Q) X.xe s
def PW.pt{X:Cx}{e:gX}{t:TT}(h:PW X e t):PT X e t:=h _
def PA(X:Cx)(d:jP)(t:TA):Prop:=
 ∀(b:bq)(a:iN)(s:gM)(c:St)(T:Hp)(Q:List V->Hp->Prop),Inv X a c T s->t c T Q->aa (ag X.prog X.w) X.A (gc<|aB b<|af d X.env) (abw X a c Q) X.xe s
def PS(X:Cx)(st:aU)(t:TS):Prop:=
 ∀(a:iN)(s:gM)(b:St)(T:Hp)(D:Ends),Inv X a b T s->t D b T->aa (ag X.prog X.w) X.A (exec st X.env) (SP X a D) X.xe s
def Dg(X:Cx)(st:List aU)(t:TS):Prop:=
 ∀(a:iN)(s:gM)(b:St)(T:Hp)(D:Ends),Inv X a b T s->t D b T->aa (ag X.prog X.w) X.A (execs st X.env) (SP X a D) X.xe s
def NR{c:Type}{t:c4 c}{Q b:c->gM->Prop}{M:eT}{A:ig}{E:iK}{s:gM}(h:aa M A t Q E s)(d:∀a s,Q a s->b a s):aa M A t b E s:=mz h d λ_ _ x=>x
section
variable {X:Cx}
def ZP(i:Nat):TE:=λa T Q=>∃v,a[i]?=J (J v)/\Q v T
noncomputable def tC(v:V):TE:=λ_ T Q=>Q v T
def uS{i:Nat}{x:av}{f:bq}(g:X.N[i]?=J x)(hv:GN X.env.scope x)(hd:(x==("__debug__":av))=C:=by decide)(n:(x==("__classdict__":av))=C:=by decide):PE X (.Name x f) (ZP i):=by
 intro a s o T Q O h;obtain⟨v,e,h⟩:=h;obtain⟨m,k,j⟩:=O.loc;obtain⟨u,r,l⟩:=j i x v g e hv;have fin:EP X a o Q u s:=⟨v,T,O,r,h⟩
 rcases l with⟨hk,hm⟩|⟨hk,c,d,b⟩
 .exact l8 (wpAny_loadName_local O.ok.kind hk k hm fin) hd
 rcases hk with hk|hk
 .exact l8 (wpAny_loadName_cell O.ok.kind hk d b fin) hd
 exact l8 (wpAny_loadName_free O.ok.kind hk d b fin n) hd
def MJ{i j f}:PE X (.Constant (.int i) j f) (tC<|.int i):=λ_ _ _ T _ Q h=>wpAny_Constant_int ⟨.int i,T,Q.tok _,⟨_,rfl⟩,h⟩
def Yf{b j f}:PE X (.Constant (.bool b) j f) (tC<|.bl b):=λ_ _ _ T _ Q h=>Constant_bool ⟨.bl b,T,Q,rfl,h⟩
def UT{j f}:PE X (.Constant .none j f) (tC .T2):=λ_ _ _ T _ Q h=>Constant_none ⟨.T2,T,Q,rfl,h⟩
def Gl(X:Cx)(x:av):Prop:=X.env.kindOf x=J .globalImplicit
def C2{E:iK}{a:iN}{s:gM}{d:St}{T:Hp}{x:av}{u:gU}{f:bq}{Q:iK}(O:Inv X a d T s)(b:Gl X x)(c:X.mg x=J u)(h:Q u s)
  (hd:(x==("__debug__":av))=C:=by decide):aa (ag X.prog X.w) X.A (ba (.Name x f) X.env) Q E s:=
 Lq O.ok.kind b (Calls.loadGlobal_global (by rw[O.ok.glob];exact O.mod.glob.keeps O.bk) c h) hd
def qd{E:iK}{a:iN}{s:gM}{g:St}{T:Hp}{x:av}{u:gU}{f:bq}{Q:iK}(O:Inv X a g T s)(c:Gl X x)(d:X.mg x=U)(hv:ax x=J u)(h:Q u s)
  (e:x≠"__name__":=by decide)(hd:(x==("__debug__":av))=C:=by decide):aa (ag X.prog X.w) X.A (ba (.Name x f) X.env) Q E s:=by
 obtain⟨i,h1,b⟩:=O.mod.blt;exact Lq O.ok.kind c (Calls.loadGlobal_builtin (by rw[O.ok.glob];exact O.mod.glob.keeps O.bk) d (by rw[O.ok.blt];exact h1.keeps O.bk) ((b x e).trans hv) h) hd
def Qq{x:av}{v:V}{u:gU}{f:bq}(a:Gl X x)(b:X.mg x=U)(hv:ax x=J u)(r:RelV v u)(c:x≠"__name__":=by decide)(hd:(x==("__debug__":av))=C:=by decide):PE X (.Name x f) (tC v):=
 λ_ _ _ T _ Q h=>qd Q a b hv ⟨v,T,Q,r,h⟩ c hd
variable {a b:gX}{n tb:TE}{f:bq}
def aew(b:gX){c:ce}(h:c≠ .In)(g:c≠ .NotIn):cw c b=C:=by
 have d:(c==ce.In)=C:=by cases c<;>first|rfl|exact absurd I h
 have e:(c==CmpOp.NotIn)=C:=by cases c<;>first|rfl|exact absurd I g
 cases b with
 |Set _ k _=>show(k==0&&(c== .In||c== .NotIn)&&_)=C;rw[d,e];simp
 |_=>rfl
noncomputable def tB(t:TE):TT:=λe T Q=>t e T λx d=>∃c,x=.bl c/\Q c d
def UI{e:gX}{t:TE}(h:PE X e t)(j:∀c,isTrue e X.env c=(do let v <-c;cg e.pos;b3 [v] (truthy v)):=by intro _;rfl):PT X e (tB t):=by intro g s o T Q O k;refine isTrue_plain (NR (h g s o T _ O k) ?_)<|j _;rintro v s1 ⟨x,H1,i,m,l⟩;obtain⟨d,rfl,q⟩:=l;cases m;exact rP ⟨H1,i,q⟩
variable {tA o:TT}{g:jP}
noncomputable def Z1(t u:TT):TT:=λe T Q=>t e T λc d=>if c=Y then u e d Q else Q C d
noncomputable def tOr(t u:TT):TT:=λe T Q=>t e T λc d=>if c=Y then Q Y d else u e d Q
noncomputable def Ji(t:TT):TT:=λe T Q=>t e T λc d=>Q (!c) d
def Qb(i:PT X a tA):PW X (.BoolOp .And [a] f) tA:=by
 intro wh d s j T Q O h;refine isTrue_and<|NR (i d s j T Q O h) λc s1 e=>?_
 cases c
 .exact e
 exact isTrue_and_nil e
def UC(i:PT X a tA):PW X (.BoolOp .Or [a] f) tA:=by
 intro wh d s j T Q O h;refine isTrue_or<|NR (i d s j T Q O h) λc s1 e=>?_
 cases c
 .exact isTrue_or_nil e
 exact e
def UD(k:PT X a tA)(l:PW X (.BoolOp .And (b::g) f) o):PW X (.BoolOp .And (a::b::g) f) (Z1 tA o):=by
 intro wh d s j T Q O h;refine isTrue_and<|NR (k d s j T _ O h) ?_;rintro c s1 ⟨H1,e,i⟩
 cases c
 .exact⟨H1,e,i⟩
 exact l wh d s1 j H1 Q e i
def Yb(k:PT X a tA)(l:PW X (.BoolOp .Or (b::g) f) o):PW X (.BoolOp .Or (a::b::g) f) (tOr tA o):=by
 intro wh d s j T Q O h;refine isTrue_or<|NR (k d s j T _ O h) ?_;rintro c s1 ⟨H1,e,i⟩
 cases c
 .exact l wh d s1 j H1 Q e i
 exact⟨H1,e,i⟩
def UJ(j:PT X a tA):PT X (.UnaryOp .Not a f) (Ji tA):=by intro d s l T Q O h;exact isTrue_not (NR (j d s l T (λc e=>Q (!c) e) O h) λc s1 N=>by obtain⟨e,i,k⟩:=N;exact ⟨e,i,k⟩)
def XO(n tb:TE):TE:=λe T Q=>n e T λx d=>∃c,x=.bl c/\if c=Y then tb e d Q else Q (.bl C) d
def XF(n:TE):TE:=λe T Q=>n e T λx d=>∃c,x=.bl c/\Q (.bl (!c)) d
def UR{op}{t:TE}(h:PE X a t):PE X (.BoolOp op [a] f) t:=λc s e T Q O d=>BoolOp_one<|h c s e T Q O d
def UX(k:PE X a n)(l:PE X (.BoolOp .And (b::g) f) tb):PE X (.BoolOp .And (a::b::g) f) (XO n tb):=by
 intro d s j T Q O h;refine BoolOp_and<|NR (k d s j T _ O h) ?_;rintro v s1 ⟨x,H1,i,m,e⟩;obtain⟨c,rfl,e⟩:=e;cases m;refine rP ?_
 cases c
 .exact⟨.bl C,H1,i,rfl,e⟩
 exact l d s1 j H1 Q i e
def US(j:PE X a n):PE X (.UnaryOp .Not a f) (XF n):=by intro d s l T Q O h;refine UnaryOp_<|NR (j d s l T _ O h) ?_;rintro v s1 ⟨x,H1,i,k,e⟩;obtain⟨c,rfl,e⟩:=e;cases k;exact not_of<|rP ⟨.bl (!c),H1,i,rfl,e⟩
noncomputable def tIf(t:TT)(n tb:TE):TE:=λd T Q=>t d T λc e=>if c=Y then n d e Q else tb d e Q
def aeI{c:gX}(p:PT X c tA)(l:PE X a n)(m:PE X b tb):PE X (.IfExp c a b f) (tIf tA n tb):=by
 intro e s i T Q O h;refine wpAny_IfExp<|NR (p e s i T _ O h) ?_;rintro d s1 ⟨H1,j,k⟩
 cases d
 .exact m e s1 i H1 Q j k
 exact l e s1 i H1 Q j k
end
def CU(K:iz)(T:Hp)(a:gJ)(xs:List V):Prop:=
 Rd T a (.lst xs)\/
  ∃(o:el)(b:mS)(n:Nat),K.lookup a=J o/\o.cls=.type "list"/\o.dict=U/\o.data=.seq b n/\b.size<=sizeLine/\Vals xs b.toList
def Ek(K:iz)(T:Hp)(a:gJ)(c:List V):Prop:=
 Rd T a (.tup c)\/
  ∃(o:el)(b:mS)(n:Nat),K.lookup a=J o/\o.cls=.type "tuple"/\o.data=.seq b n/\b.size<=sizeLine/\Vals c b.toList
noncomputable def aaV:gU->Option V
 |.none=>J .T2
 |.bool b=>J<|.bl b
 |.int i _=>J<|.int i
 |.str x _=>J<|.str x
 |.bytes b _=>J<|.byt b
 |.float b _=>J<|.flt b
 |.ref a=>J<|.ref a
 |.type n=>J<|.ty n
 |_=>U
def RelV.abs{x:V}{u:gU}(r:RelV x u):aaV u=J x:=by
 cases x with
 |T2=>cases r;rfl
 |bl _=>cases r;rfl
 |int _=>obtain⟨t,rfl⟩:=r;rfl
 |str _=>obtain⟨t,rfl⟩:=r;rfl
 |byt _=>obtain⟨t,rfl⟩:=r;rfl
 |flt _=>obtain⟨t,rfl⟩:=r;rfl
 |ref _=>cases r;rfl
 |ty _=>cases r;rfl
def RelV.inj{x y:V}{u:gU}(r:RelV x u)(q:RelV y u):x=y:=jZ<|r.abs.symm.trans q.abs
def Vals.inj{c a:List V}{b:je}(h:Vals c b)(q:Vals a b):c=a:=by
 induction h generalizing a with
 |nil=>cases q;rfl
 |cons r t d=>obtain _|⟨e,f⟩:=q;rw[r.inj e,d f]
section
variable {X:Cx}{pins:iN}{σ:St}{H:Hp}{s:gM}{a:gJ}{xs ys:List V}
def CU.of{K:iz}(h:H a=J (.lst xs)):CU K H a xs:=.inl (.inl h)
inductive SqI(P:Array gU->Prop)(xs:List V):Prop where
 |mk (its:je) (_:Vals xs its) (_:P its.toArray) (_:(A1 xs)<=sizeLine)
def Inv.list(T:Inv X pins σ H s)(h:CU X.K H a xs):SqI (PlainL s.heap a) xs:=by
 rcases h with h|⟨o,b,n,hk,c,hd,d,f,r⟩
 .obtain⟨z,b,n,r,e⟩:=h.ok T.hok;exact⟨b,r,⟨_,n,e,rfl,rfl,rfl⟩,z⟩
 refine⟨b.toList,r,⟨o,n,T.Ej a o hk,c,hd,by simpa using d⟩,?_⟩;have e:=r.length;simp only[kU]at e
 lia
def Inv.tuple(T:Inv X pins σ H s)(h:Ek X.K H a xs):SqI (f4 s.heap a) xs:=by
 rcases h with h|⟨o,b,n,hk,c,d,f,r⟩
 .obtain⟨z,b,r,p⟩:=h.ok T.hok;exact⟨b,r,p.tup,z⟩
 refine⟨b.toList,r,⟨o,T.Ej a o hk,c,n,by simpa using d⟩,?_⟩;have e:=r.length;simp only[kU]at e
 lia
def Inv.C3(T:Inv X pins σ H s)(h:CU X.K H a xs)(j:CU X.K H a ys):xs=ys:=by
 obtain⟨c,r,⟨o,n,e,_,_,d⟩,_⟩:=T.list h;obtain⟨b,k,⟨m,l,g,_,_,f⟩,_⟩:=T.list j;rw[e]at g;cases g;rw[d]at f;injection f with i _
 have:c=b:=by simpa using lY ms i
 subst this;exact r.inj k
def Inv.AU(T:Inv X pins σ H s)(h:Ek X.K H a xs)(j:Ek X.K H a ys):xs=ys:=by
 obtain⟨c,r,⟨o,e,_,n,d⟩,_⟩:=T.tuple h;obtain⟨b,k,⟨m,g,_,l,f⟩,_⟩:=T.tuple j;rw[e]at g;cases g;rw[d]at f;injection f with i _
 have:c=b:=by simpa using lY ms i
 subst this;exact r.inj k
end
noncomputable abbrev Cx.El(X:Cx)(E:iK):Cx:={X with xe:=E}
noncomputable abbrev Cx.GI(X:Cx):Cx:=X.El λ_ _=>False
def Cx.Ok.El{X:Cx}(ok:X.Ok)(E:iK):(X.El E).Ok:=
 ⟨ok.mod,ok.kind,ok.glob,ok.blt,ok.above,ok.inj,ok.has,ok.cab,ok.hd,ok.frames,ok.stk,ok.exf,ok.bs,ok.bsz,ok.noex,ok.exfs,ok.Ap,ok.frf⟩
def Cx.Ok.AS{X:Cx}{E:iK}(ok:(X.El E).Ok):X.Ok:=
 ⟨ok.mod,ok.kind,ok.glob,ok.blt,ok.above,ok.inj,ok.has,ok.cab,ok.hd,ok.frames,ok.stk,ok.exf,ok.bs,ok.bsz,ok.noex,ok.exfs,ok.Ap,ok.frf⟩
section
variable {X:Cx}{a:iN}{b:St}{H:Hp}{s:gM}{E:iK}
def Inv.El(T:Inv X a b H s)(E:iK):Inv (X.El E) a b H s:=⟨T.ok.El E,T.os,T.bare,T.base,T.loc,T.cell,T.free,T.freeC,T.pin,T.hok,T.len⟩
def Inv.AS(T:Inv (X.El E) a b H s):Inv X a b H s:=⟨T.ok.AS,T.os,T.bare,T.base,T.loc,T.cell,T.free,T.freeC,T.pin,T.hok,T.len⟩
def SP.AS{D:Ends}{f:Flow}{e:gM}(h:SP (X.El E) a D f e):SP X a D f e:=by
 cases f with
 |next=>obtain⟨c,d,T,q⟩:=h;exact⟨c,d,T.AS,q⟩
 |brk=>obtain⟨c,d,T,q⟩:=h;exact⟨c,d,T.AS,q⟩
 |cont=>obtain⟨c,d,T,q⟩:=h;exact⟨c,d,T.AS,q⟩
 |ret u=>obtain⟨v,c,d,T,r,q⟩:=h;exact⟨v,c,d,T.AS,r,q⟩
def Dg.GI{st:List aU}{t:TS}(h:Dg X.GI st t):Dg X st t:=λa s b H D T c=>mz (h a s b H D (T.El _) c) (λ_ _ q=>q.AS) λ_ _ z=>aH z
end
section
variable {X:Cx}{st:aU}{j:List aU}{t u:TS}{e:gX}{i:TE}{g:bq}
noncomputable def XG:TS:=λD a T=>D.nx a T
noncomputable def ZS(t u:TS):TS:=λD a T=>t {D with nx:=u D} a T
def Qh:Dg X [] XG:=λ_ _ a T _ Q h=>Gh ⟨a,T,Q,h⟩
def Mp(h1:PS X st t)(k:Dg X j u):Dg X (st::j) (ZS t u):=by
 intro a s l T D Q h;refine Gg<|NR (h1 a s l T {D with nx:=u D} Q h) λf s1 q=>?_
 cases f with
 |next=>obtain⟨b,c,d,q⟩:=q;exact k a s1 b c D d q
 |ret v=>exact q
 |brk=>exact q
 |cont=>exact q
def Inv.quiet{a:iN}{b:St}{T:Hp}{s:gM}(Q:Inv X a b T s):x5 X.env=C:=by simp[x5,Q.ok.kind]
noncomputable def XI(i:TE):TS:=λD a T=>i a T λ_ b=>D.nx a b
def Qi(f:PE X e i)(k:ck e U g.line X.env=pure C:=by rfl):PS X (.Expr e g) (XI i):=by intro a s b T D Q h;exact wpAny_Expr_any (NR (f a s b T _ Q h) λv s1 O=>by obtain⟨x,c,d,m,l⟩:=O;exact ⟨b,c,d,l⟩) Q.quiet k
noncomputable def ZT(i:TE):TS:=λD a T=>i a T D.rt
def Mt(f:PE X e i):PS X (.Return (J e) g) (ZT i):=by intro a s b T D Q h;exact m6 (NR (f a s b T _ Q h) λv s1 O=>by obtain⟨x,c,d,l,k⟩:=O;exact ⟨x,b,c,d,l,k⟩)
noncomputable def ZW(c:TT)(t u:TS):TS:=λD a T=>c a T λb d=>if b=Y then t D a d else u D a d
def Yc{c:gX}{a b:List aU}{n:TT}(q:PT X c n)(o:Dg X a t)(p:Dg X b u):PS X (.If c a b g) (ZW n t u):=by
 intro f s k T D Q h;refine wpAny_If<|NR (q f s k T _ Q h) ?_;rintro d s1 ⟨H1,l,m⟩
 cases d
 .exact p f s1 k H1 D l m
 exact o f s1 k H1 D l m
end
abbrev TG:=V->St->Hp->(St->Hp->Prop)->Prop
abbrev JZ:=List V->St->Hp->(St->Hp->Prop)->Prop
def PG(X:Cx)(a:gX)(t:TG):Prop:=
 ∀(b:iN)(s:gM)(e:St)(T:Hp)(v:V)(u:gU)(Q:St->Hp->Prop),Inv X b e T s->RelV v u->t v e T Q->
  aa (ag X.prog X.w) X.A (b5 a X.env u) (λ_ f=>∃c d,Inv X b c d f/\Q c d) X.xe s
def Hn(X:Cx)(h:jP)(t:JZ):Prop:=
 ∀(a:iN)(s:gM)(f:St)(T:Hp)(e:List V)(d:je)(Q:St->Hp->Prop),Inv X a f T s->Vals e d->t e f T Q->
  aa (ag X.prog X.w) X.A (assignInOrder ((aQ h X.env).map (·.2)) d) (λ_ g=>∃b c,Inv X a b c g/\Q b c) X.xe s
abbrev R6:=V->V->V->Hp->(Hp->Prop)->Prop
def Wd(X:Cx)(t:R6):Prop:=
 ∀(a:iN)(s:gM)(e:St)(T:Hp)(o i v:V)(d c u:gU)(Q:Hp->Prop),Inv X a e T s->RelV o d->RelV i c->RelV v u->t o i v T Q->
  aa (ag X.prog X.w) X.A (gg d c u) (λ_ f=>∃b,Inv X a e b f/\Q b) X.xe s
section
variable {X:Cx}{d:bq}
noncomputable def EJ(i:Nat):TG:=λv a T Q=>Q (a.set i<|J v) T
def HZ{i:Nat}{x:av}(c:X.N.Nodup)(f:X.N[i]?=J x)(g:Loc X.env.scope x)(e:X.fn x=Y\/X.env.scope.names.lookup x=J .local:=by first|exact .inl rfl|exact .inr rfl|assumption):PG X (.Name x d) (EJ i):=by intro a s k T v u Q O r h;exact wpAny_assign_Name<|DX O c f g r (λj b=>⟨_,T,b,h⟩) e
noncomputable def aaN:JZ:=λa b T Q=>a=[]/\Q b T
def YN(t:TG)(u:JZ):JZ:=λc e T Q=>∃v r,c=v::r/\t v e T λa b=>u r a b Q
def Qn:Hn X [] aaN:=by intro a s b T f c Q O r h;obtain⟨e,h⟩:=h;subst e;cases r;exact assignInOrder_nil ⟨b,T,O,h⟩
def aeF{e:gX}{b:jP}{t:TG}{u:JZ}(h1:PG X e t)(i:Hn X b u)
  (j:(aQ (e::b) X.env).map (·.2)=b5 e X.env::(aQ b X.env).map (·.2):=by rfl):Hn X (e::b) (YN t u):=by
 intro a s m T p n Q O r h;obtain⟨v,o,g,h⟩:=h;subst g
 cases r with
 |cons r l=>rw[j];refine assignInOrder_cons<|NR (h1 a s m T _ _ _ O r h) ?_;rintro _ s1 ⟨c,H1,f,k⟩;exact i a s1 c H1 _ _ Q f l k
def aaM(K:iz)(n:Nat)(t:JZ):TG:=λv c T Q=>∃a b,v=.ref a/\Ek K T a b/\(A1 b)=n/\t b c T Q
def UP{f:jP}{k:Nat}{t:JZ}{n:Nat}(q:X.calm=Y)(h:Hn X f t)
  (x:(aQ f X.env).length=n:=by rfl)(N:(aQ f X.env).findIdx? (·.1)=U:=by rfl):PG X (.Tuple f k d) (aaM X.K n t):=by
 intro c s j T v u Q O r g;obtain⟨a,E,m,y,w,g⟩:=g;subst m;cases r;obtain⟨B,i,z,L⟩:=O.tuple y;refine assign_Tuple_tuple (O.ok.hd q) z (by simp[x,<-w,i.length]) N λp A=>?_;have l:Inv X c j T {s with heap:=p}:=O.kept (t':=s.toks) λb o e=>A b o (jB<|jN e) e;exact h c _ j T E _ Q l (by simpa using i) g
noncomputable def Er(to f:TE)(t:R6):TG:=λv a T Q=>to a T λo b=>f a b λi c=>t o i v c λe=>Q a e
def MF{o i:gX}{to f:TE}{t:R6}(q:PE X o to)(p:PE X i f)(w:Wd X t)
  (n:∀v,b5 (.Subscript o i d) X.env v=(do
   let b <-b3 [v] (ba o X.env)
   let c <-b3 [v,b] (ba i X.env)
   cg d
   b3 [v,b,c] (gg b c v)
   wL [v,b,c] []):=by intro _;rfl):PG X (.Subscript o i d) (Er to f t):=by
 intro a s e T v u Q O r h;rw[n];refine gL<|lU<|NR (q a s e T _ O h) ?_;rintro b s1 ⟨x,H1,k,N,z⟩;refine gL<|lU<|NR (p a s1 e H1 _ k z) ?_;rintro c s2 ⟨y,g,l,E,A⟩;refine gL<|rO<|gL<|lU<|NR (w a s2 e g x y v b c u _ l N E r A) ?_;rintro _ s3 ⟨j,m,B⟩;exact wpAny_release ⟨e,j,m,B⟩
noncomputable def T7(c:TE)(g:TG):TS:=λD a T=>c a T λx b=>g x a b D.nx
def GF{b e:gX}{c:TE}{g:TG}(j:PE X e c)(k:PG X b g)(l:d4 [b] e d.line X.env=pure C:=by rfl)(m:d5 [b] e X.env=pure U:=by rfl)
  (h1:(aQ [b] X.env).map (·.2)=[b5 b X.env]:=by rfl):PS X (.Assign [b] e d) (T7 c g):=by
 intro a s f T D Q h;refine wpAny_Assign_stores (NR (j a s f T _ Q h) ?_) l m;rintro v s1 ⟨x,H1,i,o,n⟩;rw[h1];exact NR (k a s1 f H1 x v _ i o n) λ_ p q=>q
def Mr{i:Nat}{x:av}{e:gX}{c:TE}{a:bq}(j:X.N.Nodup)(m:X.N[i]?=J x)(o:Loc X.env.scope x)(k:PE X e c)(n:ck e (J<|.Name x a) d.line X.env=pure C:=by rfl)(l:X.fn x=Y\/X.env.scope.names.lookup x=J .local:=by first|exact .inl rfl|exact .inr rfl|assumption):
  PS X (.Assign [.Name x a] e d) (T7 c<|EJ i):=by
 intro b s r T D Q h;refine wpAny_Assign_Name (NR (k b s r T _ Q h) ?_) n;rintro v s1 ⟨y,H1,f,q,p⟩;exact DX f j m o q (λt g=>⟨_,H1,g,p⟩) l
def T4(c:TT)(tb:TS):TS:=λD a T=>∃W:Nat->St->Hp->Prop,(∃m,W m a T)/\∀m a T,W m a T->
 c a T λb g=>if b=Y then ∃N:St->Hp->Prop,(∀e f,N e f->∃h,h<m/\W h e f)/\tb {D with nx:=N,ct:=N,bk:=D.nx} a g else D.nx a g
def Mq{c:gX}{i:List aU}{C:TT}{tb:TS}(B:dU (ag X.prog X.w) X.A X.env X.xe)(O:PT X c C)(L:Dg X i tb):PS X (.While c i [] d) (T4 C tb):=by
 intro a s M H D I h;obtain⟨W,⟨Q,G⟩,turn⟩:=h;refine wpAny_While<|codeAny_whileLoop (λn T=>∃k u,Inv X a k u T/\W n k u) ?_ Q ⟨M,H,I,G⟩;rintro n s1 ⟨g,H1,E,J'⟩;refine uJ B<|NR (O a s1 g H1 _ E (turn n g H1 J')) ?_;rintro b s2 ⟨x,y,l⟩
 cases b with
 |true=>
  obtain⟨N,z,l⟩:=l;rw[hV AT];refine uJ B<|NR (L a s2 g x _ y l) λf U m=>?_
  cases f with
  |next=>obtain⟨e,j,o,r⟩:=m;obtain⟨q,p,t⟩:=z e j r;exact⟨q,p,e,j,o,t⟩
  |cont=>obtain⟨e,j,o,r⟩:=m;obtain⟨q,p,t⟩:=z e j r;exact⟨q,p,e,j,o,t⟩
  |brk=>exact m
  |ret v=>exact m
 |false=>rw[iC ky];exact Gh ⟨g,x,y,l⟩
end
structure It where
 go:Nat->Hp->Prop
 yld:Nat->Hp->V->Hp->Prop
 stop:Nat->Hp->Prop
def tV(X:Cx)(a:iN)(T:Hp)(b:gJ):Prop:=
 T b=U/\b≠X.env.locals/\b∉X.fs/\(b∈X.ex\/X.s₀.heap.objs.size<=b)/\(∀x c,X.env.cells.lookup x=J c->c≠b)/\∀p∈X.pn++a,p.1≠b
def Inv.JA{X:Cx}{a:iN}{i:St}{T f:Hp}{s:gM}{b:gJ}(Q:Inv X a i T s)(d:s.heap.objs.size<=b)(g:f b=U):tV X a f b:=by
 refine⟨g,rm<|nv Q.lt d,Q.Kk d,.inr<|jW Q.sz d,λx c e z=>?_,λp h z=>?_⟩
 .obtain⟨v,q⟩:=Q.cell x c e;exact absurd (nv q.lt<|by rw[z];exact d)<|oS _
 exact absurd (nv (jN (Q.pin p h).1)<|by rw[z];exact d) (oS _)
structure Turn(P:iw)(w:ik)(K:iz)(tg:gX)(J:It)(fp:km)(it:gJ)(tn:Nat->ip->Prop):Prop where
 mem:it∈fp
 obj:∀i h,tn i h->∀b∈fp,∃o,h.get? b=z8 o/\∀v,o.data≠ .cell v
 keep:∀i h h',tn i h->(∀b∈fp,∀o,h.get? b=z8 o->h'.get? b=z8 o)->tn i h'
 item:∀(X:Cx),X.prog=P->X.w=w->X.K=K->X.calm=At->∀(i:Nat)(pins:iN)(s:gM)(σ:St)(H:Hp)(E:iK),Inv X pins σ H s->(∀b∈fp,tV X pins H b)->tn i s.heap->J.go i H->
  aa (ag P w) X.A (cU<|.ref it) (λr s1=>∃u,r=z8 u/\
   aa (ag P w) X.A (dC tg (.ref it) u) (λ_ s2=>∃x H',Inv X pins σ H' s2/\RelV x u/\J.yld i H x H'/\tn (i+1) s2.heap/\∀b∈fp,H' b=z9) E s1) E s
 done:∀(X:Cx),X.prog=P->X.w=w->X.K=K->X.calm=At->∀(i:Nat)(pins:iN)(s:gM)(σ:St)(H:Hp)(E:iK),Inv X pins σ H s->(∀b∈fp,tV X pins H b)->tn i s.heap->J.stop i H->
  aa (ag P w) X.A (cU<|.ref it) (λr s1=>r=z9/\Inv X pins σ H s1) E s
 self:∀(A:ig)(i:Nat)(s:gM)(Q:iK)(E:iK),tn i s.heap->Q (.ref it) s->aa (ag P w) A (cG<|.ref it) Q E s
abbrev TI:=St->Hp->(It->Hp->Prop)->Prop
inductive PIE(X:Cx)(pins:iN)(σ:St)(tg:gX)(R:It->Hp->Prop)(cH:gU)(s2:gM):Prop where
 |mk (it:gJ) (fp:km) (tn:Nat->ip->Prop) (J:It) (H':Hp) (_:cH=.ref it) (_:Inv X pins σ H' s2) (_:Turn X.prog X.w X.K tg J fp it tn) (_:tn 0 s2.heap) (_:∀b∈fp,tV X pins H' b) (_:R J H')
def PI(X:Cx)(tg iter:gX)(c:TI):Prop:=
 ∀(a:iN)(s:gM)(b:St)(T:Hp)(R:It->Hp->Prop),Inv X a b T s->c b T R->
  aa (ag X.prog X.w) X.A (ba iter X.env) (λv s1=>aa (ag X.prog X.w) X.A (cG v) (PIE X a b tg R) X.xe s1) X.xe s
def NN{M:eT}{A:ig}{E:iK}{s:gM}{b:gX}{it:gJ}{u:gU}{o:el}{n:String}{c:mS}{Q:Unit->gM->Prop}(f:s.heap.get? it=J o)(d:o.cls=.type n)(hd:o.data=.fields c)
  (e:["enumerate","zip","dict_itemiterator","dict_reverseitemiterator","odict_iterator","itertools.zip_longest","itertools.pairwise"].contains n=C)(a:Q () s):aa M A (dC b (.ref it) u) Q E s:=by
 unfold dC
 cases b<;>first
  |exact hJ a
  |(cases u<;>first
    |exact hJ a
    |(
      refine gL<|Cv f ?_;rw[d,hd];show aa M A (if(["enumerate","zip","dict_itemiterator","dict_reverseitemiterator","odict_iterator","itertools.zip_longest","itertools.pairwise"].contains n&&c[0]?==J (de _))=Y then _ else _) Q E s;rw[iC (by intro h;rw[e,dw]at h;cases h)];exact hJ a))
noncomputable def Itl(K:iz)(a:gJ):It:=
 ⟨λi T=>∃b x,CU K T a b/\b[i]?=J x,λi T x c=>c=T/\∀b,CU K T a b->b[i]?=J x,λi T=>∃b,CU K T a b/\(A1 b)<=i⟩
noncomputable def Itt(K:iz)(a:gJ):It:=
 ⟨λi T=>∃b x,Ek K T a b/\b[i]?=J x,λi T x c=>c=T/\∀b,Ek K T a b->b[i]?=J x,λi T=>∃b,Ek K T a b/\(A1 b)<=i⟩
noncomputable def LM(lo:Int)(n:Nat):It:=⟨λi _=>i<n,λi T x a=>a=T/\x=.int (lo+i),λi _=>n<=i⟩
def adH{P:iw}{w:ik}{K:iz}{tg:gX}(a it:gJ):Turn P w K tg (Itl K a) [it] it (λi h=>h.IsListIter it a i) where
 mem:=by simp
 obj:=λi h st b g=>by
  have e:b=it:=by simpa using g
  subst e;obtain⟨o,e,c,d⟩:=st;exact⟨o,e,λv z=>by rw[d]at z;cases z⟩
 keep:=λi h j st k=>st.at λo e=>k it (by simp) o e
 item:=by intro X y B t T i f s G H E I l st A;subst y B t;obtain⟨S,x,m,C⟩:=A;obtain⟨L,O,p,D⟩:=I.list m;obtain⟨u,U,F⟩:=O.get C;obtain⟨f0,f1,N,n,q,r⟩:=l it (by simp);refine wpAny_pyNext_list_item st p.isList (x:=u) (by simpa using U) λj Q R=>?_;have J:Inv X f G H {s with heap:=j}:=I.turned (t':=s.toks) (λb o g e=>(R.2 b g).trans e) f0 f1 n q r;obtain⟨o,e,c,d⟩:=id Q;exact⟨u,rfl,NN (s:={s with heap:=j}) e c d (by decide) ⟨x,H,J,F,⟨rfl,λW Y=>by rw[I.C3 Y m];exact C⟩,Q,λb g=>(l b g).1⟩⟩
 done:=by intro X y B t T i f s G H E I l st A;subst y B t;obtain⟨S,m,C⟩:=A;obtain⟨L,O,p,D⟩:=I.list m;obtain⟨f0,f1,N,n,q,r⟩:=l it (by simp);have V:=O.length;exact wpAny_pyNext_list_end (I.ok.hd T) st p.isList (by simp;lia) λj M=>⟨rfl,I.turned (t':=s.toks) (λb o g e=>M b o g e) f0 f1 n q r⟩
 self:=λ_ _ _ _ _ st h=>wpAny_pyIter_listiter st h
def acJ{P:iw}{w:ik}{K:iz}{tg:gX}(a it:gJ):Turn P w K tg (Itt K a) [it] it (λi h=>h.IsTupleIter it a i) where
 mem:=by simp
 obj:=λi h st b g=>by
  have e:b=it:=by simpa using g
  subst e;obtain⟨o,e,c,d⟩:=st;exact⟨o,e,λv z=>by rw[d]at z;cases z⟩
 keep:=λi h l st k=>st.at λo e=>k it (by simp) o e
 item:=by intro X A C y T i f s G H E I m st B;subst A C y;obtain⟨S,x,n,L⟩:=B;obtain⟨j,O,p,D⟩:=I.tuple n;obtain⟨u,U,F⟩:=O.get L;obtain⟨f0,f1,N,q,r,t⟩:=m it (by simp);refine wpAny_pyNext_tuple_item st (show s.heap.IsTuple a j.toArray from p) (x:=u) (by simpa using U) λl Q R=>?_;have J:Inv X f G H {s with heap:=l}:=I.turned (t':=s.toks) (λb o g e=>(R.2 b g).trans e) f0 f1 q r t;obtain⟨o,e,c,d⟩:=id Q;exact⟨u,rfl,NN (s:={s with heap:=l}) e c d (by decide) ⟨x,H,J,F,⟨rfl,λW Y=>by rw[I.AU Y n];exact L⟩,Q,λb g=>(m b g).1⟩⟩
 done:=by intro X A C y T i f s G H E I m st B;subst A C y;obtain⟨S,n,L⟩:=B;obtain⟨j,O,p,D⟩:=I.tuple n;obtain⟨f0,f1,N,q,r,t⟩:=m it (by simp);have V:=O.length;exact wpAny_pyNext_tuple_end (I.ok.hd T) st (show s.heap.IsTuple a j.toArray from p) (by simp;lia) λl M=>⟨rfl,I.turned (t':=s.toks) (λb o g e=>M b o g e) f0 f1 q r t⟩
 self:=λ_ _ _ _ _ st h=>wpAny_pyIter_tupleiter st h
def acK{P:iw}{w:ik}{K:iz}{Q:gX}(it:gJ)(lo:Int)(n:Nat):Turn P w K Q (LM lo n) [it] it (λi h=>z0 h it (lo+(i:Nat)*1) ((n:Int)-(i:Nat)) 1) where
 mem:=by simp
 obj:=λi h st b c=>by
  have e:b=it:=by simpa using c
  subst e
  exact⟨_,st,λv z=>by have T:Data.fields _=Data.cell v:=z;cases T⟩
 keep:=λi h d st k=>k it (by simp) _ st
 item:=by intro X p u m q i a s A N E M f st r;subst p u m;obtain⟨f0,f1,L,g,j,l⟩:=f it (by simp);have W:=Walks.range (prog:=X.prog) (w:=X.w) (M.ok.hd q) it lo 1 n;refine W.item i s _ _ r st λv d y hv x O=>?_;obtain⟨t,rfl⟩:=hv;have B:Inv X a A N {s with heap:=d,toks:=y}:=M.turned (λb o c e=>O b o (by simpa using c) e) f0 f1 g j l;refine⟨_,rfl,NN (s:={s with heap:=d,toks:=y}) (n:="range_iterator") x I I (by decide) ⟨.int<|lo+i,N,B,⟨t,?_⟩,⟨rfl,rfl⟩,x,λb c=>(f b c).1⟩⟩;rw[zb]
 done:=by intro X p u m q i a s A N E M f st r;subst p u m;obtain⟨f0,f1,L,g,j,l⟩:=f it (by simp);exact wpAny_pyNext_range_end (M.ok.hd q) st (by have:n<=i:=r;lia) λd G=>⟨rfl,M.turned (t':=s.toks) (λb o c e=>G b o c e) f0 f1 g j l⟩
 self:=λ_ _ _ _ _ st h=>wpAny_pyIter_rangeiter st h
section
variable {X:Cx}{tg:gX}
def YL(K:iz)(c:TE):TI:=λe T R=>c e T λx b=>∃a,x=.ref a/\(∃d,CU K b a d)/\R (Itl K a) b
def aaK(K:iz)(c:TE):TI:=λe T R=>c e T λx b=>∃a,x=.ref a/\(∃d,Ek K b a d)/\R (Itt K a) b
def Ql{l:gX}{f:TE}(i:PE X l f):PI X tg l (YL X.K f):=by
 intro c s r T R Q h;refine NR (i c s r T _ Q h) ?_;rintro v s1 ⟨x,H1,d,n,m⟩;obtain⟨a,e,⟨w,j⟩,q⟩:=m;subst e;cases n;obtain⟨k,u,p,t⟩:=d.list j;refine za p.isList ?_;refine⟨s1.heap.objs.size,[s1.heap.objs.size],_,_,H1,rfl,d.kept (t':=s1.toks) λb o e=>jz _ e,adH a _,⟨_,jT _ rfl,rfl,rfl⟩,λb g=>?_,q⟩;have e:b=s1.heap.objs.size:=by simpa using g
 subst e;exact d.JA (jh _)<|d.hok.fresh<|jh _
def UO{l:gX}{g:TE}(j:PE X l g):PI X tg l (aaK X.K g):=by
 intro c s r T R Q h;refine NR (j c s r T _ Q h) ?_;rintro v s1 ⟨x,H1,d,n,m⟩;obtain⟨a,e,⟨w,k⟩,q⟩:=m;subst e;cases n;obtain⟨f,u,p,t⟩:=d.tuple k;refine Gf (show s1.heap.IsTuple a f.toArray from p) ?_;refine⟨s1.heap.objs.size,[s1.heap.objs.size],_,_,H1,rfl,d.kept (t':=s1.toks) λb o e=>jz _ e,acJ a _,⟨_,jT _ rfl,rfl,rfl⟩,λb i=>?_,q⟩;have e:b=s1.heap.objs.size:=by simpa using i
 subst e;exact d.JA (jh _)<|d.hok.fresh<|jh _
def Ed{c:iN}{g:St}{T:Hp}{s:gM}{R:It->Hp->Prop}{E:iK}{lo a:Int}{t u v:o5}{f:Nat}(Q:Inv X c g T s)(h1: -(2^62)<=lo)(j:lo<2^62)(k: -(2^62)<=a)(l:a<2^62)
  (q:R (LM lo (a-lo).toNat) T):aa (ag X.prog X.w) X.A (cG<|.ref s.heap.objs.size) (PIE X c g tg R) E {s with heap:=s.heap.push {cls:=.type "range",data:=.fields #[.int lo t,.int a u,.int 1 v]},toks:=f}:=by
 refine wpAny_pyIter_range (IsRange.new ..) (small_one h1 j k l) ?_;have d:Inv X c g T {s with heap:=s.heap.push {cls:=.type "range",data:=.fields #[.int lo t,.int a u,.int 1 v]},toks:=f}:=Q.kept λb o e=>jz _ e
 refine⟨(s.heap.push {cls:=.type "range",data:=.fields #[.int lo t,.int a u,.int 1 v]}).objs.size,[(s.heap.push {cls:=.type "range",data:=.fields #[.int lo t,.int a u,.int 1 v]}).objs.size],_,_,T,rfl,
  d.kept (t':=f) λb o e=>jz _ e,acK _ lo (a-lo).toNat,?_,λb m=>?_,q⟩
 .have h:lo+((0:Nat):Int)*1=lo:=by simp
  have i:(((a-lo).toNat:Nat):Int)-((0:Nat):Int)=dY lo a 1:=by rw[vv];split<;>lia
  show z0 _ _ (lo+((0:Nat):Int)*1) ((((a-lo).toNat:Nat):Int)-((0:Nat):Int)) 1;rw[h,i];exact jT _ rfl
 have e:b=(s.heap.push {cls:=.type "range",data:=.fields #[.int lo t,.int a u,.int 1 v]}).objs.size:=by simpa using m
 subst e;exact d.JA (jh _)<|d.hok.fresh<|jh _
def YK(b:TA):TI:=λd T R=>b d T λc a=>∃j:Int,c=[.int j]/\ -(2^62)<=j/\j<2^62/\R (LM 0 j.toNat) a
def YJ(b:TA):TI:=λd T R=>b d T λc a=>∃i j:Int,c=[.int i,.int j]/\(-(2^62)<=i/\i<2^62/\ -(2^62)<=j/\j<2^62)/\R (LM i (j-i).toNat) a
def ada{a:gX}{f:TA}{p c:bq}(k:Gl X "range")(l:X.mg "range"=U)(i:PA X [a] f)(m:af [a] X.env=[(C,ba a X.env)]:=by rfl):PI X tg (.Call (.Name "range" p) [a] [] c) (YK f):=by
 intro b s v T R Q h;refine Call_<|qd Q k l Cu<|Ge (NR (i c b s v T _ Q h) ?_) m I;rintro us s1 ⟨w,H1,g,o,d⟩;obtain⟨j,e,d,n,q⟩:=d;subst e
 cases o with
 |cons r u=>
  cases u;obtain⟨t,rfl⟩:=r;exact call_range_1<|Ed g (by lia) (by lia) d n (by simpa using q)
def ac9{a b:gX}{l:TA}{p d:bq}(o:Gl X "range")(u:X.mg "range"=U)(n:PA X [a,b] l)(v:af [a,b] X.env=[(C,ba a X.env),(C,ba b X.env)]:=by rfl)(k:af [b] X.env=[(C,ba b X.env)]:=by rfl):
  PI X tg (.Call (.Name "range" p) [a,b] [] d) (YJ l):=by
 intro c s B T R Q h;refine Call_<|qd Q o u Cu<|Ge (NR (n d c s B T _ Q h) λL s1 M=>?_) (by rw[v,k]) (by rw[k];rfl);obtain⟨O,N,m,A,f⟩:=M;obtain⟨i,j,e,⟨f,w,x,y⟩,q⟩:=f;subst e
 cases A with
 |cons r g=>
  cases g with
  |cons z g=>
   cases g;obtain⟨t,rfl⟩:=r;obtain⟨E,rfl⟩:=z;exact wT<|Ed m f w x y q
def ZX(j:TI)(g:TG)(tb:TS):TS:=λD a T=>j a T λQ f=>∃W:Nat->Nat->St->Hp->Prop,(∃m,W 0 m a f)/\∀i m a T,W i m a T->
 (Q.stop i T/\D.nx a T)\/(Q.go i T/\∃N:St->Hp->Prop,(∀c b,N c b->∃e,e<m/\W (i+1) e c b)/\∀x b,Q.yld i T x b->g x a b λd h=>tb {D with nx:=N,ct:=N,bk:=D.nx} d h)
noncomputable def zr(a:km)(h:ip):List (gJ×el):=a.filterMap λb=>(h.get? b).map λo=>(b,o)
def qa{a:km}{h:ip}{b:gJ}{o:el}(c:b∈a)(e:h.get? b=J o):(b,o)∈zr a h:=dO.mpr ⟨b,c,by rw[e];rfl⟩
def adl{a:km}{h:ip}{p:gJ×el}(f:p∈zr a h):p.1∈a/\h.get? p.1=J p.2:=by
 obtain⟨b,d,e⟩:=dO.mp f
 cases q:h.get? b with
 |none=>rw[q]at e;cases e
 |some o=>rw[q]at e;have c:(b,o)=p:=jZ e;subst c;exact⟨d,q⟩
def Inv.pinned{a:iN}{h:St}{T:Hp}{s:gM}{c:km}(Q:Inv X a h T s)(j:∀b∈c,tV X a T b)(k:∀b∈c,∃o,s.heap.get? b=J o/\∀v,o.data≠ .cell v):Inv X (a++zr c s.heap) h T s:=
 Q.Dh λp l=>(nQ.mp l).elim (λz=>Q.pin p<|nO _ z) λz=>by obtain⟨g,e⟩:=adl z;obtain⟨f0,f1,i,_⟩:=j p.1 g;obtain⟨o,f,d⟩:=k p.1 g;rw[e]at f;cases f;exact⟨e,f0,f1,i,d⟩
def Inv.AG{a d:iN}{b:St}{T:Hp}{s:gM}(Q:Inv X (a++d) b T s):Inv X a b T s:=Q.Dh λp c=>Q.pin p<|nO _ (wY _ c)
def UL{iter:gX}{y:List aU}{wi:TI}{g:TG}{tb:TS}{G:bq}(C:dU (ag X.prog X.w) X.A X.env X.xe)(hc:X.calm=At)(hi:PI X tg iter wi)(hg:PG X tg g)(l:Dg X y tb)
  (hs:∀x,aq iter X.env x=pure x:=by intro _;rfl):PS X (.For tg iter y [] G) (ZX wi g tb):=by
 intro a s Z H D I h;refine wpAny_For (NR (hi a s Z H _ I h) λv s1 h1=>NR h1 λcH s2 h2=>?_) hs;obtain⟨it,B,V,J,H2,e,I2,T,y8,P,W,⟨m0,w0⟩,turn⟩:=h2;subst e;have Q:∀{t:Hp},(∀b∈B,t b=U)->∀b∈B,tV X a t b:=λhn b l=>⟨hn b l,(P b l).2⟩
 refine codeAny_forLoop_any (λn R=>∃i p t,Inv X a p t R/\V i R.heap/\(∀b∈B,t b=U)/\W i n p t) ?_ m0 ⟨0,Z,H2,I2,y8,λb l=>(P b l).1,w0⟩;rintro n S ⟨i,q,L,Y,F,K,w3⟩;rcases turn i n q L w3 with⟨stop,qn⟩|⟨go,N,hN,step⟩
 .refine uJ C (NR (T.done X AT AT AT hc i a S q L X.xe Y (Q K) F stop) ?_);rintro r s4 ⟨O,I4⟩;subst O;exact Gh ⟨q,L,I4,qn⟩
 refine uJ C (NR (T.item X AT AT AT hc i a S q L X.xe Y (Q K) F go) ?_);rintro r s4 ⟨u,O,h4⟩;subst O;refine uJ C<|NR h4 ?_;rintro _ s5 ⟨x,U',I5,r5,y5,bu,gr⟩;have gH:=I5.pinned (Q gr)<|T.obj _ _ bu;refine uJ C<|NR (hg _ s5 q U' x u _ gH r5 (step x U' y5)) ?_;rintro _ s6 ⟨σ6,H6,I6,q6⟩;refine uJ C (NR (l _ s6 σ6 H6 _ I6 q6) λf M z=>?_)
 have again:∀{c:St}{j:Hp},Inv X (a++zr B s5.heap) c j M->N c j->∃m,m<n/\∃i p t,Inv X a p t M/\V i M.heap/\(∀b∈B,t b=U)/\W i m p t:=λ{c j} k E=>by obtain⟨m',hm,w7⟩:=hN c j E;refine⟨m',hm,i+1,c,j,k.AG,T.keep _ _ _ bu λb l o e=>(k.pin (b,o)<|nO _ (nO _ (qa l e))).1,λb l=>?_,w7⟩;obtain⟨o,e,d⟩:=T.obj _ _ bu b l;exact(k.pin (b,o)<|nO _ (nO _ (qa l e))).2.1
 cases f with
 |next=>obtain⟨c,j,k,E⟩:=z;exact again k E
 |cont=>obtain⟨c,j,k,E⟩:=z;exact again k E
 |brk=>obtain⟨c,j,k,z⟩:=z;exact⟨c,j,k.AG,z⟩
 |ret v=>obtain⟨x7,c,j,k,r7,z⟩:=z;exact⟨x7,c,j,k.AG,r7,z⟩
end
abbrev R2:=V->V->Hp->VK->Prop
def B0(X:Cx)(f:xQ)(r:R2):Prop:=
 ∀(a:iN)(s:gM)(b:St)(T:Hp)(x y:V)(v u:gU)(Q:VK),Inv X a b T s->RelV x v->RelV y u->r x y T Q->
  aa (ag X.prog X.w) X.A (f v u) (EP X a b Q) X.xe s
def ME(X:Cx)(f:gU->c4 gU)(r:V->Hp->VK->Prop):Prop:=
 ∀(a:iN)(s:gM)(b:St)(T:Hp)(x:V)(v:gU)(Q:VK),Inv X a b T s->RelV x v->r x T Q->
  aa (ag X.prog X.w) X.A (f v) (EP X a b Q) X.xe s
def ki(X:Cx)(f:gU)(r:List V->Hp->VK->Prop):Prop:=
 ∀(a:iN)(s:gM)(d:St)(T:Hp)(c:List V)(b:je)(Q:VK),Inv X a d T s->Vals c b->r c T Q->
  aa (ag X.prog X.w) X.A (call f b) (EP X a d Q) X.xe s
noncomputable def Jh(r:R2)(d tb:TE):TE:=λa T Q=>d a T λx b=>tb a b λy c=>r x y c Q
def tUn(r:V->Hp->VK->Prop)(b:TE):TE:=λc T Q=>b c T λx a=>r x a Q
def rI(O:Int->Int->Prop)(g:Int->Int->V):R2:=λx y T Q=>∃i j,x=.int i/\y=.int j/\O i j/\Q (g i j) T
def Ht(g:Int->Int->V):R2:=λx y T Q=>∃i j,x=.int i/\y=.int j/\Q (g i j) T
def rU(g:Int->V):V->Hp->VK->Prop:=λx T Q=>∃i,x=.int i/\Q (g i) T
section
variable {X:Cx}{a b c:gX}{ta tb tc:TE}{pos:bq}
def V6(o:PE X a ta)(p:PE X b tb){d:iN}{s:gM}{g:St}{T:Hp}{R:V->V->Hp->Prop}(O:Inv X d g T s)
  (h:ta g T λx l=>tb g l λy e=>R x y e){Q:iK}{f:xQ}
  (q:∀v u k x y e,Inv X d g e k->RelV x v->RelV y u->R x y e->aa (ag X.prog X.w) X.A (f v u) Q X.xe k):
  aa (ag X.prog X.w) X.A (ba a X.env) (λv i=>aa (ag X.prog X.w) X.A (ba b X.env) (λu j=>aa (ag X.prog X.w) X.A (f v u) Q X.xe j) X.xe i) X.xe s:=by
 refine NR (o d s g T _ O h) ?_;rintro v s1 ⟨x,l,m,z,r⟩;refine NR (p d s1 g l _ m r) ?_;rintro u k ⟨y,e,n,B,t⟩;exact q v u k x y e n z B t
def Ye{e:Operator}{r:R2}(k:B0 X (bz e) r)(i:PE X a ta)(j:PE X b tb):PE X (.BinOp a e b pos) (Jh r ta tb):=by intro d s o T Q O h;exact wpAny_BinOp<|V6 i j O h λv u n x y f g l m q=>k d n o f x y v u Q g l m q
def Yd{e:UnaryOp}{r:V->Hp->VK->Prop}(k:ME X (wv e) r)(j:PE X a ta):PE X (.UnaryOp e a pos) (tUn r ta):=by intro d s f T Q O h;exact UnaryOp_ (NR (j d s f T _ O h) λv s1 N=>by obtain⟨x,g,i,m,l⟩:=N;exact k d s1 f g x v Q i m l)
def M5{f:xQ}{N:Int->Int->Prop}{g:Int->Int->Int}
  (rule:∀(i j:Int)(t u:o5)(s:gM)(Q:iK)(E:iK),N i j->Q (.int (g i j) s.toks) {s with toks:=s.toks+1}->aa (ag X.prog X.w) X.A (f (.int i t)<|.int j u) Q E s):
  B0 X f (rI N λi j=>.int (g i j)):=by
 intro d s n T x y v u Q O k l h;obtain⟨i,j,rfl,rfl,e,q⟩:=h;obtain⟨t,rfl⟩:=k;obtain⟨m,rfl⟩:=l;exact rule i j t m s _ _ e ⟨.int<|g i j,T,O.tok _,⟨_,rfl⟩,q⟩
def Ym{f:xQ}{g:Int->Int->Int}
  (rule:∀(i j:Int)(t u:o5)(s:gM)(Q:iK)(E:iK),Q (.int (g i j) s.toks) {s with toks:=s.toks+1}->aa (ag X.prog X.w) X.A (f (.int i t)<|.int j u) Q E s):
  B0 X f (Ht λi j=>.int (g i j)):=by
 intro d s m T x y v u Q O e k h;obtain⟨i,j,rfl,rfl,q⟩:=h;obtain⟨t,rfl⟩:=e;obtain⟨l,rfl⟩:=k;exact rule i j t l s _ _ ⟨.int<|g i j,T,O.tok _,⟨_,rfl⟩,q⟩
def QN{f:xQ}{g:Int->Int->Bool}
  (rule:∀(i j:Int)(t u:o5)(s:gM)(Q:iK)(E:iK),Q (.bool<|g i j) s->aa (ag X.prog X.w) X.A (f (.int i t)<|.int j u) Q E s):
  B0 X f (Ht λi j=>.bl (g i j)):=by
 intro d s m T x y v u Q O e k h;obtain⟨i,j,rfl,rfl,q⟩:=h;obtain⟨t,rfl⟩:=e;obtain⟨l,rfl⟩:=k;exact rule i j t l s _ _ ⟨.bl<|g i j,T,O,rfl,q⟩
def Kr(i j:Int):Prop:=0<j/\j<1073741824
def DH(i j:Int):Prop:=0<=j/\j<=1000000/\i.natAbs<2^64
def AQ(i j:Int):Prop:=(-(2^64)<i/\i<2^64)\/(-(2^64)<j/\j<2^64)
def AQ.ok{i j:Int}(h:AQ i j):IntMulOk i j:=by
 rcases h with⟨h1,d⟩|⟨h1,d⟩
 .exact .of_left (v5 h1 d)
 exact .of_right (v5 h1 d)
def U8:B0 X (bz .Add) (Ht λi j=>.int (i+j)):=Ym λ_ _ _ _ _ _ _ q=>add_int q
def U2:B0 X (bz .Sub) (Ht λi j=>.int (i-j)):=Ym λ_ _ _ _ _ _ _ q=>sub_int q
def U5:B0 X (bz .Mult) (rI AQ λi j=>.int (i*j)):=M5 λ_ _ _ _ _ _ _ d q=>mul_int q d.ok
def QK:B0 X (bz .FloorDiv) (rI Kr λi j=>.int (i / j)):=M5 λi j _ _ _ _ _ d q=>by have h1:(0:Int)<j:=d.1;have e:j<1073741824:=d.2;exact floordiv_int (by lia) (by rw[Int.fdiv_eq_ediv_of_nonneg i<|by lia];exact q)<|.inl<|PyProof.noPylong_small (by lia)
def U6:B0 X (bz .Mod) (rI (λ_ j=>0<j) λi j=>.int (i%j)):=M5 λi j _ _ _ _ _ d q=>by have h1:(0:Int)<j:=d;exact mod_int' (by lia) (by rw[Int.fmod_eq_emod_of_nonneg i<|by lia];exact q)
def U3:B0 X (bz .Pow) (rI DH λi j=>.int (i^j.toNat)):=M5 λ_ _ _ _ _ _ _ d q=>pow_int_small d.1 d.2.1 d.2.2 q
def unI{f:gU->c4 gU}{g:Int->Int}
  (rule:∀(i:Int)(t:o5)(s:gM)(Q:iK)(E:iK),Q (.int (g i) s.toks) {s with toks:=s.toks+1}->aa (ag X.prog X.w) X.A (f<|.int i t) Q E s):
  ME X f (rU λi=>.int (g i)):=by
 intro d s j T x v Q O e h;obtain⟨i,rfl,q⟩:=h;obtain⟨t,rfl⟩:=e;exact rule i t s _ _ ⟨.int<|g i,T,O.tok _,⟨_,rfl⟩,q⟩
def TY:ME X (wv .USub) (rU λi=>.int (-i)):=unI λ_ _ _ _ _ q=>neg_int q
def Di{d:iN}{g:St}{T:Hp}{s:gM}{Q:VK}{k f:Bool}(O:Inv X d g T s)(q:Q (.bl k) T)(e:k=f):EP X d g Q (.bool f) s:=by subst e;exact⟨.bl k,T,O,rfl,q⟩
def Yi:B0 X (au .Lt) (Ht λi j=>.bl (decide<|i<j)):=QN λ_ _ _ _ _ _ _ q=>lt_int q
def Yj:B0 X (au .LtE) (Ht λi j=>.bl (decide<|i<=j)):=QN λ_ _ _ _ _ _ _ q=>le_int q
def Yk:B0 X (au .Gt) (Ht λi j=>.bl (decide<|j<i)):=QN λ_ _ _ _ _ _ _ q=>gt_int q
def Yl:B0 X (au .GtE) (Ht λi j=>.bl (decide<|j<=i)):=QN λ_ _ _ _ _ _ _ q=>ge_int q
def MU:B0 X (au .Is) (λx y T Q=>y=.T2/\Q (.bl<|decide<|x=.T2) T):=by
 intro d s g T x y v u Q O e f h;obtain⟨rfl,q⟩:=h;cases f;refine is_none_gen<|Di O q ?_
 cases x<;>first
  |(cases e;rfl)
  |(obtain⟨t,rfl⟩:=e;rfl)
def Ia:B0 X (au .IsNot) (λx y T Q=>y=.T2/\Q (.bl (!decide (x=.T2))) T):=by
 intro d s g T x y v u Q O e f h;obtain⟨rfl,q⟩:=h;cases f;refine isnot_none_gen<|Di O q ?_
 cases x<;>first
  |(cases e;rfl)
  |(obtain⟨t,rfl⟩:=e;rfl)
def M1(b:gX){d:ce}(h:d≠ .In:=by decide)(e:d≠ .NotIn:=by decide):cw d b=C:=aew b h e
def Qo{e:ce}{r:R2}(l:B0 X (au e) r)(i:PE X a ta)(j:PE X b tb)(k:cw e b=C):PE X (.Compare a [e] [b] pos) (Jh r ta tb):=by intro d s p T Q O h;exact wpAny_Compare1 (V6 i j O h λv u o x y f g m n q=>l d o p f x y v u Q g m n q) k
def XD(t:TE):TT:=λe T Q=>t e T λx d=>∃k,x=.bl k/\Q k d
def Qe{g:ce}{r:R2}(A:B0 X (au g) r)(q:PE X a ta)(t:PE X b tb)(w:cw g b=AC):PT X (.Compare a [g] [b] pos) (XD<|Jh r ta tb):=by intro d s i N Q M h;refine wpAny_isTrue_Compare1 (NR (q d s i N _ M h) λv s1 f=>?_) w;obtain⟨x,j,n,L,B⟩:=f;refine NR (t d s1 i j _ n B) λu G f=>?_;obtain⟨y,l,o,O,C⟩:=f;refine NR (A d G i l x y v u _ o L O C) λc J f=>?_;obtain⟨z,m,p,T,k,e,E⟩:=f;subst e;cases T;exact rP ⟨m,p,E⟩
def LN(r i:R2)(ta tb tc:TE):TE:=λd T Q=>ta d T λx f=>tb d f λy g=>r x y g λz e=>∃k,z=.bl k/\
 (if k=Y then tc d e λj h=>i y j h Q else Q (.bl C) e)
def MM{j l:ce}{r p:R2}(J:B0 X (au j) r)(v8:B0 X (au l) p)(L:PE X a ta)(O:PE X b tb)(T:PE X c tc)
  (G:lastMarks [j,l] [b,c]=AC:=by with_unfolding_all rfl):PE X (.Compare a [j,l] [b,c] pos) (LN r p ta tb tc):=by
 intro f s i H Q I h;refine Compare_chain (NR (L f s i H _ I h) λv s1 g=>?_) G;obtain⟨x,t,B,Y,M⟩:=g;refine chain_link<|NR (O f s1 i t _ B M) λu F g=>?_;obtain⟨y,w,C,q,N⟩:=g;refine NR (J f F i w x y v u _ C Y q N) λd K g=>?_;obtain⟨z,m,n,D,k,e,o⟩:=g;subst e;cases D;refine rP ?_
 cases k
 .exact ite_ff ⟨.bl AC,m,n,rfl,o⟩
 exact ite_tt<|chain_last (NR (T f K i m _ n o) λw' s4 a'=>by obtain⟨z',A,E,r4,U'⟩:=a';exact v8 f s4 i A y z' u w' Q E q r4 U')
def CZ:(sizeLine:Nat)<2^63:=by rw[jQ];decide
def acC:B0 X (bz .Add) (λx y T Q=>∃i j,x=.str i/\y=.str j/\i.length+j.length<=sizeLine/\Q (.str<|i++j) T):=by intro d s l T x y v u Q O f g h;obtain⟨i,j,rfl,rfl,e,q⟩:=h;obtain⟨t,rfl⟩:=f;obtain⟨t',rfl⟩:=g;exact add_str (λt' k=>⟨.str<|i++j,T,O.tok _,⟨_,rfl⟩,q⟩) e
inductive Vl1(x:V)(us:je):Prop where
 |mk (u:gU) (_:us=[u]) (_:RelV x u)
inductive Vl2(x y:V)(us:je):Prop where
 |mk (u w:gU) (_:us=[u,w]) (_:RelV x u) (_:RelV y w)
def pF{x:V}{d:je}(r:Vals [x] d):Vl1 x d:=by
 cases r with
 |cons e f=>cases f;exact⟨_,rfl,e⟩
def HF{x y:V}{d:je}(r:Vals [x,y] d):Vl2 x y d:=by
 cases r with
 |cons e f=>
  cases f with
  |cons g h=>cases h;exact⟨_,_,rfl,e,g⟩
def Oj:ki X (.builtin "abs") (λe T Q=>∃i,e=[.int i]/\Q (.int (if i<0 then -i else i)) T):=by intro d s j T e g Q O r h;obtain⟨i,rfl,q⟩:=h;obtain⟨u,rfl,t,rfl⟩:=pF r;exact xn λu f=>⟨.int (if i<0 then -i else i),T,O.tok _,⟨_,rfl⟩,q⟩
def ad5(g:X.calm=Y):ki X (.builtin "max") (λf T Q=>∃i j,f=[.int i,.int j]/\Q (.int (if j>i then j else i)) T):=by
 intro e s v T f o Q O r h;obtain⟨i,j,rfl,q⟩:=h;obtain⟨u,p,rfl,⟨t,rfl⟩,⟨m,rfl⟩⟩:=HF r;refine max_two_ints (O.ok.hd g) λl n k=>⟨_,T,O.kept k,?_,q⟩
 by_cases d:j>i
 .rw[hV d,hV d];exact⟨_,rfl⟩
 rw[iC d,iC d];exact⟨_,rfl⟩
def ad4(g:X.calm=Y):ki X (.builtin "min") (λf T Q=>∃i j,f=[.int i,.int j]/\Q (.int (if j<i then j else i)) T):=by
 intro e s v T f o Q O r h;obtain⟨i,j,rfl,q⟩:=h;obtain⟨u,p,rfl,⟨t,rfl⟩,⟨m,rfl⟩⟩:=HF r;refine min_two_ints (O.ok.hd g) λl n k=>⟨_,T,O.kept k,?_,q⟩
 by_cases d:j<i
 .rw[hV d,hV d];exact⟨_,rfl⟩
 rw[iC d,iC d];exact⟨_,rfl⟩
def BJ:ki X (.type "int") (λd T Q=>(∃i,d=[.int i]/\Q (.int i) T)\/∃k,d=[.bl k]/\Q (.int (if k then 1 else 0)) T):=by
 intro e s j T d g Q O r h;rcases h with⟨i,rfl,q⟩|⟨k,rfl,q⟩
 .obtain⟨u,rfl,t,rfl⟩:=pF r;exact call_int_int ⟨.int i,T,O,⟨_,rfl⟩,q⟩
 obtain⟨u,rfl,f⟩:=pF r;cases f;exact call_int_bool ⟨.int (if k then 1 else 0),T,O.tok _,⟨_,rfl⟩,q⟩
end
section
variable {a:iw}{w:ik}{A:ig}{E:iK}{s:gM}{K:iz}{x d C f:gJ}{c:lz}{b:av}{v:gU}
end
def Et.some_of{v:V}{o:Option gU}(r:Et (J v) o):∃u,o=J u/\RelV v u:=by
 cases o with
 |none=>exact(show False from r).elim
 |some u=>exact⟨u,rfl,r⟩
section
variable {P:iw}{w:ik}{H e:Hp}{h b:ip}{a C d:gJ}{fs c:List (av×V)}
end
section
variable {X:Cx}{b:iN}{c:St}{H:Hp}{s:gM}{a C d:gJ}{fs:List (av×V)}{f:av}{v:V}{A:ig}{E:iK}
end
section
variable {X:Cx}{o e a:gX}{f:av}{c b h:bq}{g d:TE}
end
section
variable {X:Cx}{a:iN}{d:St}{H:Hp}{s:gM}{A:ig}{E:iK}{Q:iK}{c:gU}{b:Bool}
end
structure P1(k:Nat)(A:ig):Prop where
 hd:A.handled=z9
 dp:A.depth+3*k+5<recursionLimit
 un:A.units+16*k+200<aL
 gd:A.guards=z8 []:=by rfl
def P1.mono{j k:Nat}{A:ig}(r:P1 k A)(h:j<=k):P1 j A:=⟨r.hd,by have:=r.dp;lia,by have:=r.un;lia,r.gd⟩
def P1.deeper{k:Nat}{A:ig}(r:P1 (k+1) A)(a:c3):P1 k (A.deeper a):=
 ⟨r.hd,by have:=r.dp;show A.depth+1+3*k+5<_;lia,by have:=r.un;show A.units+3+16*k+200<_;lia,r.gd⟩
def P1.depth{k:Nat}{A:ig}(r:P1 k A):A.depth<recursionLimit:=by have:=r.dp;lia
noncomputable def ZU:TA:=λ_ T Q=>Q [] T
noncomputable def XJ(d:TE)(e:TA):TA:=λa T Q=>d a T λx b=>e a b λf c=>Q (x::f) c
section
variable {X:Cx}{e:gX}{c:jP}{d:TE}{t:TA}{a:bq}
def rT:PA X [] ZU:=λ_ _ _ _ T Q O h=>Gd ⟨[],T,O,.nil,h⟩
def nS(k:PE X e d)(l:PA X c t)(m:af (e::c) X.env=(C,ba e X.env)::af c X.env:=by rfl):PA X (e::c) (XJ d t):=by intro a b s f T Q O h;rw[m];show aa _ _ (gc ((C,ba e X.env)::aB a (af c X.env))) _ _ s;refine Ct<|NR (k b s f T _ O h) ?_;rintro u s1 ⟨x,H1,i,p,n⟩;exact NR (l a b s1 f H1 _ i n) λw v ⟨r,g,j,q,o⟩=>⟨x::r,g,j,.cons p q,o⟩
def ZR(t:TA):TE:=λg T Q=>t g T λf b=>A1 f<=sizeLine/\∀p,b p=U->Q (.ref p) (upd b p<|.tup f)
def ZV(t:TA):TE:=λg T Q=>t g T λf b=>A1 f<=sizeLine/\∀p,b p=U->Q (.ref p) (upd b p<|.lst f)
def UQ{x1}(h:PA X c t):PE X (.Tuple c x1 a) (ZR t):=by intro f s n T Q O k;refine wpAny_Tuple_spliced<|NR (h a f s n T _ O k) λl s1 ⟨m,g,i,r,z,q⟩=>⟨by rw[<-r.length];exact z,?_⟩;have j:g s1.heap.objs.size=U:=i.hok.fresh<|jh _;refine⟨.ref s1.heap.objs.size,upd g s1.heap.objs.size<|.tup m,i.laid (t':=s1.toks) (λb u e=>jz _ e) (jh _) ?_,rfl,q _ j⟩;exact⟨z,l,r,Es.new _ _⟩
def UU(h:PA X c t):PE X (.List c a) (ZV t):=by intro f s n T Q O k;refine wpAny_List_spliced<|NR (h a f s n T _ O k) λl s1 ⟨m,g,i,r,z,q⟩=>⟨by rw[<-r.length];exact z,?_⟩;have j:g s1.heap.objs.size=U:=i.hok.fresh<|jh _;refine⟨.ref s1.heap.objs.size,upd g s1.heap.objs.size<|.lst m,i.laid (t':=s1.toks) (λb u e=>jz _ e) (jh _) ?_,rfl,q _ j⟩;exact⟨z,l,0,r,jT _ rfl⟩
end
abbrev Sp:=List V->Hp->VK->XK->Prop
abbrev Gn:=List c3->Hp->gM->XK->gU->gM->Prop
structure G2(P:iw)(w:ik)(K:iz)(mg:lz)(base:ip)(A:ig)(outer:List c3)(s:gM)(H:Hp):Prop where
 frames:A.frames=z8 outer
 mod:Mod K mg base
 bs:∀b o,base.get? b=z8 o->s.heap.get? b=z8 o/\H b=z9
 bsz:base.objs.size<=s.heap.objs.size
 Ap:s.heap.FunFrames base outer
 frf:∀b∈GZ outer,H b=z9
 hok:Az P w H s.heap
 bare:dB s.gens
inductive CE(outer:List c3)(P:iw)(w:ik)(H:Hp)(s:gM)(Q:VK)(u:gU)(s':gM):Prop where
 |mk (v:V) (H':Hp) (_:s'.os=s.os) (_:dB s'.gens) (_:Un (GZ outer) [] H H' s.heap s'.heap) (_:Az P w H' s'.heap) (_:RelV v u) (_:Q v H')
def CR(CX:Gn)(a:List c3)(P:iw)(w:ik)(T:Hp)(s:gM)(Q:VK)(E:XK)(r:gC)(b:gM):Prop:=
 match r with
 |.ok (.ret u)=>CE a P w T s Q u b
 |.ok _=>False
 |.error e=>CX a T s E e b
structure AP(P:iw)(w:ik)(K:iz)(mg:lz)(base:ip)(CX:Gn)(k:Nat)(f:gJ)(fd:mr)(ps:iA)(sp:Sp):Prop where
 len:∀vs H Q E,sp vs H Q E->A1 vs=A1 ps
 run:∀(A:ig)(outer:List c3)(s:gM)(H:Hp)(args:Args)(us:je)(vs:List V)(Q:VK)(E:XK),P1 k A->G2 P w K mg base A outer s H->eF s fd args (ps.zip us)->Vals vs us->sp vs H Q E->
  bO (ag P w) A (.call (.ref f) args) (CR CX outer P w H s Q E) s
def AP.mono{P:iw}{w:ik}{K:iz}{e:lz}{base:ip}{c:Gn}{j k:Nat}{f:gJ}{d:mr}{g:iA}{i:Sp}(F:AP P w K e base c j f d g i)(h:j<=k):
  AP P w K e base c k f d g i:=⟨F.len,λA a s T b m n Q E l=>F.run A a s T b m n Q E<|l.mono h⟩
section
variable {X:Cx}{a:iN}{c:St}{H:Hp}{s e:gM}
def Inv.Ju(T:Inv X a c H s):G2 X.prog X.w X.K X.mg X.base X.A X.stack s H:=
 ⟨T.ok.frames,T.ok.mod,T.bs,jW T.ok.bsz T.sz,T.stack,T.Gy,T.hok,T.bare⟩
def Inv.after{Q:VK}{u:gU}(T:Inv X a c H s)(h:CE X.stack X.prog X.w H s Q u e):EP X a c Q u e:=by obtain⟨v,j,os,f,un,i,r,q⟩:=h;obtain⟨l,g,d,t,k⟩:=e;obtain rfl:k=s.os:=os;exact⟨v,j,T.call (h':=l) (g':=g) (d':=d) (t':=t) (ch:=[]) un i f λb z=>absurd z<|by simp,r,q⟩
end
noncomputable def Sg(c:Sp)(b:List V)(E:XK)(t:TA):TE:=λe T Q=>t e T λd a=>c (d++b) a Q E
def Binds(K:iz)(d:mr)(c:iA)(b:je):Prop:=
 ∀(s:gM)(a:je),K.In s.heap->(a++b).length=A1 c->eF s d ⟨a,[]⟩ (c.zip<|a++b)
def Binds.all{K:iz}{c:mr}{b:iA}(h:∀a:List gU,A1 a=A1 b->c1 c ⟨a,[]⟩=pure (b.zip a)):Binds K c b []:=λs a _ d=>by rw[rN]at d ⊢;exact .of_eq<|h a d
def Hv(c:Gn)(X:Cx)(E:XK):Prop:= ∀(a:iN)(d:St)(T:Hp)(s:gM)(e:gU)(b:gM),Inv X a d T s->c X.stack T s E e b->X.xe e b
section
variable {X:Cx}{l:Gn}{k:Nat}{f C:gJ}{j:mr}{d:iA}{i:Sp}{c:List V}{b:je}{E:XK}{x m:av}{p a n:bq}{e o:gX}{g:jP}{v:TE}{t:TA}
def L9{q:iN}{L:St}{H:Hp}{s:gM}{Q:VK}{y:je}{B:List V}(F:AP X.prog X.w X.K X.mg X.base l k f j d i)(M:P1 k X.A)(G:Binds X.K j d b)(hd:Vals c b)(N:Hv l X E)
  (I:Inv X q L H s)(r:Vals B y)(h:i (B++c) H Q E):aa (ag X.prog X.w) X.A (call (.ref f) y) (EP X q L Q) X.xe s:=by
 have O:Vals (B++c) (y++b):=r.append hd;have J:(y++b).length=d.length:=by rw[<-O.length];exact F.len _ _ _ _ h
 refine wX<|oR (F.run X.A X.stack s H ⟨y,[]⟩ (y++b) (B++c) Q E M I.Ju (G s y I.Ej J) O h) λr U z=>?_
 cases r with
 |error e=>exact N q L H s e U I z
 |ok T=>
  cases T with
  |ret u=>exact I.after z
  |next=>exact aH z
  |brk=>exact aH z
  |cont=>exact aH z
def Qp(F:AP X.prog X.w X.K X.mg X.base l k f j d i)(J:P1 k X.A)(T:Gl X x)(G:X.mg x=z8 (.ref f))(hk:bY X.K (.ref f)=Y)(L:Binds X.K j d b)(hd:Vals c b)(M:Hv l X E)
  (B:PA X (e::g) t)(N:(x==("__debug__":av))=AC:=by decide)(O:af (e::g) X.env=(AC,ba e X.env)::af g X.env:=by rfl)(z:(aB a<|af g X.env).any (·.1)=AC:=by rfl):
  PE X (.Call (.Name x p) (e::g) [] a) (Sg i c E t):=by
 intro u s U H Q I h;refine vz<|C2 I T G ?_ N;refine fe (h₀:=X.base) I.ok.mod.kin hk (NR (B a u s U H _ I h) λus s1 ⟨vs,Y',y,r,q⟩=>⟨y.Ej,?_⟩) O z;exact L9 F J L hd M y r q
end
section
variable {X:Cx}{w:Gn}{k:Nat}{f C:gJ}{s:mr}{l q:iA}{j:Sp}{E:XK}{x m:av}{p c b a:bq}{e o:gX}{u:jP}{v:List n0}{h i:TE}{t d:TA}{n:Option av}
variable {g:List gU->List gU->List gU}{r:List V->List V->List V}
end
structure SS(N P:iA)(sc:iJ):Prop where
 kind:sc.kind=.function
 co:sc.isCoroutine=AC
 gen:sc.isGenerator=AC
 nd:N.Nodup
 pre:N.take P.length=P
 par:∀x∈P,sc.names.lookup x=z8 .local\/sc.names.lookup x=z8 .cell
 nofree:∀y∈sc.names,y.2≠ .free
theorem BM{kindOf:av->Option NameKind}{x:av}:∀{binds:List (av×gU)}{m:lz},(∀v,(x,v)∉binds)->fM kindOf binds m x=m x
 |[],_,_=>rfl
 |(n,v)::r,m,h=>by
  unfold fM;rw[BM λw a=>h w<|iY _ a];split
  .have:x≠n:=by rintro rfl;exact h v jF
   simp[this]
  rfl
theorem BO{kindOf:av->Option NameKind}{x:av}:∀{binds:List (av×gU)}{m:lz},(∀v,(x,v)∉binds)->fN kindOf binds m x=m x
 |[],_,_=>rfl
 |(n,v)::r,m,h=>by
  unfold fN;rw[BO λw a=>h w<|iY _ a];split
  .rfl
  have:x≠n:=by rintro rfl;exact h v jF
  simp[this]
theorem BN{kindOf:av->Option NameKind}{x:av}{v:gU}:∀{P:iA}{a:je}{i:Nat}{m:lz},P.Nodup->P[i]?=J x->a[i]?=J v->kindOf x=J .local->
  fM kindOf (P.zip a) m x=J v
 |[],_,_,_,_,h,_,_=>by simp at h
 |_::_,[],_,_,_,_,h,_=>by simp at h
 |p::P,w::a,0,m,c,h1,b,hk=>by simp at h1 b;subst h1;subst b;show fM kindOf ((p,w)::P.zip a) m p=_;unfold fM;rw[BM λv hv=>(yj.mp c).1 (Gb hv).1,hV hk];simp
 |p::P,w::a,i+1,m,c,h1,b,hk=>by show fM kindOf ((p,w)::P.zip a) m x=_;unfold fM;exact BN (i:=i) (yj.mp c).2 (by simpa using h1) (by simpa using b) hk
theorem BP{kindOf:av->Option NameKind}{x:av}{v:gU}:∀{P:iA}{a:je}{i:Nat}{m:lz},P.Nodup->P[i]?=J x->a[i]?=J v->kindOf x≠J .local->
  fN kindOf (P.zip a) m x=J v
 |[],_,_,_,_,h,_,_=>by simp at h
 |_::_,[],_,_,_,_,h,_=>by simp at h
 |p::P,w::a,0,m,c,h1,b,hk=>by simp at h1 b;subst h1;subst b;show fN kindOf ((p,w)::P.zip a) m p=_;unfold fN;rw[BO λv hv=>(yj.mp c).1 (Gb hv).1,iC hk];simp
 |p::P,w::a,i+1,m,c,h1,b,hk=>by show fN kindOf ((p,w)::P.zip a) m x=_;unfold fN;exact BP (i:=i) (yj.mp c).2 (by simpa using h1) (by simpa using b) hk
noncomputable def oU(N:iA)(vs:List V):St:=vs.map J++ah (A1 N-A1 vs) U
noncomputable def pR(CX:Gn)(P:iw)(w:ik)(K:iz)(c:lz)(base:ip)(N:iA)(qual:av)(scope:iJ)(f:gJ)(cd:gU)(A:ig)(a:List c3)(s:gM)(T:Hp)(E:XK):Cx where
 prog:=P
 w:=w
 K:=K
 mg:=c
 base:=base
 A:=A.deeper<|aP qual scope s.heap.objs.size f cd
 N:=N
 s₀:=s
 H₀:=T
 env:=aP qual scope s.heap.objs.size f cd
 outer:=a
 stack:=aP qual scope s.heap.objs.size f cd::a
 ex:=[]
 calm:=Y
 fn:=λ_=>Y
 pn:=[]
 xe:=λe h=>aa (ag P w) (A.deeper<|aP qual scope s.heap.objs.size f cd) (leaving (aP qual scope s.heap.objs.size f cd) e) (λ_ b=>CX a T s E e b) (λg b=>CX a T s E g b) h
def EY{a:iJ}{n:Nat}{x:av}(h:a.names.lookup x=J .cell):∃c,(aX n a.names []).lookup x=J c:=by have q:=Cr a.names n []<|.inl h;exact Kx.mp q
def adA{Q:Gn}{P:iw}{w:ik}{K:iz}{I:lz}{base:ip}{N m:iA}{qual:av}{scope:iJ}{f:gJ}{cd:gU}{A:ig}{d:List c3}{s s1:gM}{H:Hp}{E:XK}{O:je}{o:List V}
  (S:SS N m scope)(hd:A.handled=z9)(j:G2 P w K I base A d s H)(Y:(A1 o)=A1 m)(r:Vals o O)
  (x:InCallC s s.heap.objs.size (fM (aP qual scope s.heap.objs.size f cd).kindOf (m.zip O) λ_=>z9) (aX (s.heap.objs.size+1) scope.names []) (fN (aP qual scope s.heap.objs.size f cd).kindOf (m.zip O) λ_=>z9) s1):
  Inv (pR Q P w K I base N qual scope f cd A d s H E) [] (oU N o) H s1:=by
 have M:(A1 m)<=(A1 N):=by have:=lY dv S.pre;rw[rM]at this;lia
 obtain⟨h1,D,rfl,hk⟩:=x.done;have L:∀b:gJ,b∉(pR Q P w K I base N qual scope f cd A d s H E).ex:=λb z=>absurd (show b∈([]:List gJ)from z) (by simp)
 refine⟨⟨j.mod,S.kind,rfl,rfl,jh _,λy z c h1 g=>?_,λy l=>?_,λy c _ h=>?_,λ_=>hd,Ga j.frames,.inr ⟨rfl,rfl⟩,λb z=>absurd z<|L b,j.bs,j.bsz,λb _ _=>L b,λb z=>absurd z<|L b,j.Ap,j.frf⟩,
  rfl,j.bare,Un.kept hk,⟨_,x.toInCall.ns,λi y v h1 g U=>?_⟩,λy c h=>⟨_,x.cell y c h⟩,j.hok.fresh<|jh _,λy c h=>?_,λp t=>absurd (show p∈([]:List (gJ×el))from t)<|by simp,j.hok.kept hk,?_⟩
 .exact wP x.apart (pv h1) (pv g)
 .have l:scope.names.lookup y=z8 .cell\/scope.names.lookup y=z8 .free:=l;rcases l with l|l
  .exact EY l
  exact absurd AT (S.nofree _ (pv l))
 .exact vB (x.above y c<|pv h)
 .have C:i<(A1 o):=by
   unfold oU at g;by_cases C:i<A1 o
   .exact C
   rw[oh<|by simpa using C]at g;rw[Cq]at g;split at g<;>cases g
  have G:o[i]?=z8 v:=by
   unfold oU at g;rw[oQ<|by simpa using C,kg]at g
   cases e:o[i]? with
   |none=>rw[e]at g;cases g
   |some a=>rw[e]at g;cases g;rfl
  obtain⟨u,T,J⟩:=r.get G
  have t:m[i]?=z8 y:=by rw[<-S.pre,F9<|by lia];exact h1
  have B:m.Nodup:=by rw[<-S.pre];exact S.nd.sublist<|wW _ _
  refine⟨u,J,?_⟩;rcases S.par y (lS t)with k|k
  .exact .inl ⟨k,BN B t T k⟩
  obtain⟨c,e⟩:=EY (n:=s.heap.objs.size+1) k;refine .inr ⟨.inl k,c,e,?_⟩;have q:=x.cell y c e;rw[BP B t T (by show scope.names.lookup y≠_;rw[k];decide)]at q;exact q
 .exact j.hok.fresh (vB<|x.above y c<|pv h)
 unfold oU;show _=A1 N;rw[nN,jf,F8]
 lia
def Ta{CX:Gn}{P:iw}{w:ik}{K:iz}{C:lz}{base:ip}{k:Nat}{f:gJ}{j qual:av}{c:bb}{d:List aU}{scope:iJ}{dV kV z pm l ct oc:gU}{an od:Option gJ}
  {o8:yF}{N L:iA}{A:ig}{a:List c3}{s:gM}{H:Hp}{i:Args}{U:je}{vs:List V}{Q:VK}{E:XK}(lk:K.lookup f=z8 ⟨oc,od,.func<|bv j qual c d scope dV kV z pm an l ct,o8⟩)(j8:cu K l qual=At)(S:SS N L scope)
  (O:P1 (k+1) A)(B:G2 P w K C base A a s H)(hb:eF s (bv j qual c d scope dV kV z pm an l ct) i (L.zip U))(r:Vals vs U)(hl:(A1 vs)=A1 L)
  (k7:P1 k (A.deeper<|aP qual scope s.heap.objs.size f l)->∃t,Dg (pR CX P w K C base N qual scope f l A a s H E) d t/\t {nx:=λ_ h=>Q .T2 h,rt:=Q} (oU N vs) H):
  bO (ag P w) A (.call (.ref f) i) (CR CX a P w H s Q E) s:=by
 have Y:K.In s.heap:=B.mod.kin.keeps λb o e=>(B.bs b o e).1;have T:s.heap.NoLimit:=B.mod.nolimit.keeps λb o e=>(B.bs b o e).1
 have m:∀y∈L.zip U,scope.names.lookup y.1=z8 .local\/(scope.names.lookup y.1=z8 .cell/\((aX (s.heap.objs.size+1) scope.names []).lookup y.1).isSome=At):=λ⟨n,v⟩ hy=>by
  rcases S.par n (Gb hy).1 with q|q
  .exact .inl q
  exact .inr ⟨q,Cr _ _ _ (.inl q)⟩
 refine F7 O.depth (Y _ _ lk) AT S.co S.gen AT (PySem.W.codeRec_of Y j8)<|hb _ _ _ _ ?_;refine wpAny_newFunctionEnv_cells S.kind m λD F s1 x=>?_;subst F;refine⟨T.keeps x.toInCall.keep,F6 ?_⟩;obtain⟨t,X,R⟩:=k7<|O.deeper _;have I:Inv (pR CX P w K C base N qual scope f l A a s H E) [] (oU N vs) H s1:=adA S O.hd B hl r x;refine mz (X [] s1 (oU N vs) H _ I R) (λfl M p=>?_) λe M p=>p
 have fin:∀{g:St}{h:Hp}{v:V}{u:gU},Inv (pR CX P w K C base N qual scope f l A a s H E) [] g h M->RelV v u->Q v h->CE a P w H s Q u M:=
  λ{g h v u} J G q=>⟨v,h,J.os,J.bare,J.base,J.hok,G,q⟩
 cases fl with
 |ret u=>obtain⟨v,g,h,J,G,q⟩:=p;exact fin J G q
 |next=>obtain⟨g,h,J,q⟩:=p;exact fin (v:=V.T2) (u:=ao) J AT q
 |brk=>obtain⟨_,_,_,q⟩:=p;exact aH q
 |cont=>obtain⟨_,_,_,q⟩:=p;exact aH q
def S9{l:Gn}{P:iw}{w:ik}{K:iz}{o:lz}{base:ip}{k:Nat}{f:gJ}{d qual:av}{b:bb}{c:List aU}{scope:iJ}{n kV h p g ct O:gU}{an L:Option gJ}
  {M:yF}{N i:iA}{j:Sp}(lk:K.lookup f=J ⟨O,L,.func<|bv d qual b c scope n kV h p an g ct,M⟩)(z:cu K g qual=Y)(S:SS N i scope)
  (len:∀e T Q E,j e T Q E->A1 e=A1 i)
  (B:∀(A:ig)(a:List c3)(s:gM)(T:Hp)(e:List V)(Q:VK)(E:XK),P1 k (A.deeper<|aP qual scope s.heap.objs.size f g)->j e T Q E->
   ∃t,Dg (pR l P w K o base N qual scope f g A a s T E) c t/\t {nx:=λ_ u=>Q .T2 u,rt:=Q} (oU N e) T):
  AP P w K o base l (k+1) f (bv d qual b c scope n kV h p an g ct) i j:=
 ⟨len,λA a s T _ _ e Q E y v x r m=>Ta lk z S y v x r (len _ _ _ _ m) λq=>B A a s T e Q E q m⟩
section
variable {X:Cx}{x:av}{p a:bq}{e:gX}{b:jP}{t:TA}{id T:String}{r:List V->Hp->VK->Prop}
def Kh(r:List V->Hp->VK->Prop)(t:TA):TE:=λf O Q=>t f O λd c=>r d c Q
def zu(k:ki X (.builtin id) r)(m:Gl X x)(n:X.mg x=U)(hv:ax x=J (.builtin id))(j:PA X (e::b) t)(o:x≠"__name__":=by decide)(q:(x==("__debug__":av))=C:=by decide)
  (l:af (e::b) X.env=(C,ba e X.env)::af b X.env:=by rfl)(i:(aB a<|af b X.env).any (·.1)=C:=by rfl):PE X (.Call (.Name x p) (e::b) [] a) (Kh r t):=by
 intro c s d O Q N h;refine vz<|qd N m n hv ?_ o q;exact sK (NR (j a c s d O _ N h) λw s1 M=>by obtain⟨y,f,g,v,u⟩:=M;exact k c s1 d f y w Q g v u) l i
def pL(k:ki X (.type T) r)(m:Gl X x)(n:X.mg x=U)(hv:ax x=J (.type T))(j:PA X (e::b) t)(o:x≠"__name__":=by decide)(q:(x==("__debug__":av))=C:=by decide)
  (l:af (e::b) X.env=(C,ba e X.env)::af b X.env:=by rfl)(i:(aB a<|af b X.env).any (·.1)=C:=by rfl):PE X (.Call (.Name x p) (e::b) [] a) (Kh r t):=by
 intro c s d O Q N h;refine vz<|qd N m n hv ?_ o q;exact Ge (NR (j a c s d O _ N h) λw s1 M=>by obtain⟨y,f,g,v,u⟩:=M;exact k c s1 d f y w Q g v u) l i
end
end L2
namespace HT
section
open PySem.SeqAt
open PySem.AutoSeq1 (wpAny_loadPart')
open PySem.MeetsSeq PySem.MeetsSeq2 PySem.MeetsSeq3
end
section
variable {a:iw}{w:ik}{A:ig}{E:iK}{s:gM}
def Y7{t b:gJ}{d c:je}{Q:iK}(y:f4 s.heap t d.toArray)(x:f4 s.heap b c.toArray)(hv:d≠[])
  (h1:c=[]->Q (.ref t) s)(v:c≠[]->Q (.ref s.heap.objs.size) {s with heap:=s.heap.push {cls:=.type "tuple",data:=.seq (d++c).toArray}})
  (l:(A1 d)+A1 c<=sizeLine):aa (ag a w) A (bz .Add (.ref t)<|.ref b) Q E s:=by
 obtain⟨⟨k,dd,f,r⟩,h,p,n,hd⟩:=id y;obtain⟨⟨z,m,data2,o⟩,j,u,q,g⟩:=id x;simp only at p hd u g;subst p hd u g;have e:d.toArray++c.toArray=(d++c).toArray:=by simp
 by_cases i:c=[]
 .exact Cp ⟨_,h,rfl⟩ ⟨_,j,rfl⟩ F5 F4 F3 F1 (FZ _ _)
   (tuple_addW1 t b d.toArray c.toArray n q dd m r o (by simpa using hv)<|by simp[i]) ⟨h,j,h1 i⟩
 refine Cp ⟨_,h,rfl⟩ ⟨_,j,rfl⟩ F5 F4 F3 F1 (FZ _ _)
  (tuple_addW2 t b d.toArray c.toArray n q dd m r o (by simpa using hv) (by simpa using i)<|by rw[jY,jY];exact l) ⟨h,j,?_⟩
 rw[e];exact v i
noncomputable def IX(n d:Nat):Option Int->Nat
 |none=>d
 |some v=>if v<0 then(v+(n:Int)).toNat else min v.toNat n
theorem Uh(n d:Nat):IX n d U=d:=rfl
def Wh(n d k:Nat):IX n d (J (k:Int))=min k n:=by show(if(k:Int)<0 then((k:Int)+(n:Int)).toNat else min (k:Int).toNat n)=min k n;rw[iC<|by lia,wV]
def Ui(n d:Nat)(hd:d<=n)(o:Option Int):IX n d o<=n:=by
 cases o with
 |none=>exact hd
 |some v=>
  show(if v<0 then(v+(n:Int)).toNat else min v.toNat n)<=n;by_cases hv:v<0
  .rw[hV hv];lia
  rw[iC hv];exact Nat.min_le_right _ _
def IU(v:Int)(n d:Nat):(if v<0 then max (v+(n:Int)) 0 else min v (n:Int))=((IX n d (J v):Nat):Int):=by
 show(if v<0 then max (v+(n:Int)) 0 else min v (n:Int))=(((if v<0 then(v+(n:Int)).toNat else min v.toNat n):Nat):Int)
 by_cases hv:v<0
 .simp only[hV hv];lia
 simp only[iC hv];lia
def ac0(lo b:Option Int)(n:Nat):ci lo b 1 (n:Int)=(((IX n 0 lo:Nat):Int),((IX n n b:Nat):Int)):=by
 have h1: ¬((1:Int)<0):=by lia
 unfold ci;simp only[h1,kY];refine Prod.ext ?_ ?_
 .cases lo with
  |none=>rfl
  |some v=>exact IU v n 0
 cases b with
 |none=>rfl
 |some v=>exact IU v n n
def acv(i j:Nat):bL (i:Int) (j:Int) 1=j-i:=by
 unfold bL;have h1:(1:Int)>0:=by lia
 simp only[h1,mR,Int.ediv_one];split<;>lia
def zm{v:gU}{o:Option Int}{Q:Option Int->gM->Prop}(p:dh v o)(h:Q o s):aa (ag a w) A (o7 v) Q E s:=by
 cases p with
 |none=>exact u3 h
 |int i t=>exact slicePart_int h
def pJ{g:gJ}{e f:gU}{lo b:Option Int}{n:Nat}{Q:Int×Int×Nat->gM->Prop}(i:s.heap.IsSliceOf g e f .none)(j:dh e lo)(k:dh f b)
  (h:Q (((IX n 0 lo:Nat):Int),1,IX n n b-IX n 0 lo) s):aa (ag a w) A (dL (.ref g)<|pure (n:Int)) Q E s:=by
 obtain⟨os,c,l,d⟩:=id i;unfold dL pc;refine gL<|gL<|rk c d (x:=e) I<|gL<|rk c d (x:=f) I<|gL<|rk c d (x:=.none) I<|hJ ?_;refine gL<|u3 ?_;show aa _ _ (if((1:Int)==0)=Y then _ else _) _ _ s;rw[iC<|by decide];refine gL<|zm j<|gL<|zm k<|gL<|hJ ?_;show aa _ _ (match ci lo b 1 (n:Int)with|(lo,b)=>pure (lo,(1:Int),bL lo b 1)) _ _ s;rw[ac0 lo b n];show aa _ _ (pure (((IX n 0 lo:Nat):Int),(1:Int),bL ((IX n 0 lo:Nat):Int) ((IX n n b:Nat):Int) 1)) _ _ s;rw[acv];exact hJ h
def aeC(b:mS)(i k:Nat):((ap k).filterMap λ(m:Nat)=>b[((i:Int)+(m:Int)*1).toNat]?).toArray=((b.toList.drop i).take k).toArray:=by
 have e:(λ(m:Nat)=>b[((i:Int)+(m:Int)*1).toNat]?)=λm=>b[i+m]?:=by
  funext m;have:((i:Int)+(m:Int)*1).toNat=i+m:=by lia
  rw[this]
 rw[e];have:=pick_run b i k;rw[gb]at this;have c:((λx=>b[x]?)∘λx=>i+x)=λm=>b[i+m]?:=rfl;rw[c]at this;rw[this]
def aco{t e:gJ}{items:mS}{g i:gU}{lo b:Option Int}{Q:iK}(c:f4 s.heap t items)(f:s.heap.IsSliceOf e g i .none)(p:dh g lo)(r:dh i b)
  (o: ¬(IX items.size 0 lo=0/\IX items.size items.size b=items.size))
  (h:Q (.ref s.heap.objs.size) {s with heap:=s.heap.push {cls:=.type "tuple",data:=.seq ((items.toList.drop<|IX items.size 0 lo).take<|IX items.size items.size b-IX items.size 0 lo).toArray}})
  (n:items.size<=sizeLine):aa (ag a w) A (c9 (.ref t)<|.ref e) Q E s:=by
 have d:sizeOk (.seq ((items.toList.drop<|IX items.size 0 lo).take<|IX items.size items.size b-IX items.size 0 lo).toArray):=by show((items.toList.drop<|IX items.size 0 lo).take<|IX items.size items.size b-IX items.size 0 lo).toArray.size<=sizeLine;rw[jY,rM,hD,kU];omega
 have x:IX items.size items.size b<=items.size:=Ui _ _ (jh _) b;obtain⟨os,j,k,v⟩:=id f;have l:s.TypeIs (.ref e) "slice":=⟨os,j,k⟩
 unfold c9
 try with_reducible refine lU ?_
 first|refine gL (hJ ?_)|skip
 refine gL<|mA c.typeIs (by decide) ?_
 refine gL (uI (name:=bC "__getitem__") c.typeIs Ax
  (og Ax c.typeIs Lp ?_<|mm _ _))
 show aa _ _ (cf (.ref t)>>=_) _ _ s;refine gL<|wn c ?_;refine gL<|uH l ?_;rw[hV<|by decide];refine gL<|pJ f p r ?_
 have u: ¬((((IX items.size 0 lo:Nat):Int)==0&&(1:Int)==1&&(IX items.size items.size b-IX items.size 0 lo)==items.size)=Y):=by intro q;rw[kX,kX]at q;have y:((IX items.size 0 lo:Nat):Int)=0:=oe q.1.1;have z:IX items.size items.size b-IX items.size 0 lo=items.size:=oe q.2;exact o ⟨by omega,by omega⟩
 show aa _ _ (if(((IX items.size 0 lo:Nat):Int)==0&&(1:Int)==1&&(IX items.size items.size b-IX items.size 0 lo)==items.size)=Y then _ else _) _ _ s;rw[iC u,aeC]
 first
  |exact gL (m:=bh _)<|nu (hJ ⟨_,rfl,hJ h⟩) d
  |exact gL (m:=bh _)<|nu (gL<|hJ<|hJ ⟨_,rfl,hJ h⟩) d
  |exact gL<|gL (m:=bh _)<|nu (hJ<|hJ ⟨_,rfl,hJ h⟩) d
  |exact gL<|gL (m:=bh _)<|nu (hJ ⟨_,rfl,hJ h⟩) d
end
end HT
namespace L2
abbrev TO:=St->Hp->(Option Int->Hp->Prop)->Prop
def PO(X:Cx)(e:Option Expr)(t:TO):Prop:=
 ∀(a:iN)(s:gM)(b:St)(T:Hp)(Q:Option Int->Hp->Prop),Inv X a b T s->t b T Q->
  aa (ag X.prog X.w) X.A (evalPart e X.env) (λu c=>∃o H',Inv X a b H' c/\dh u o/\Q o H') X.xe s
noncomputable def Pp:TO:=λ_ T Q=>Q U T
def XE(t:TE):TO:=λb T Q=>t b T λx a=>∃i,x=.int i/\Q (J i) a
section
variable {X:Cx}{e:gX}{d:TE}{lo c:Option Expr}{f g:TO}{k j:bq}
def HY:PO X U Pp:=by intro a s b T Q O h;rw[v6];exact hJ ⟨U,T,O,.none,h⟩
def HX(h:PE X e d):PO X (J e) (XE d):=by intro a s o T Q O l;rw[evalPart_some];refine NR (h a s o T _ O l) ?_;rintro u s1 ⟨x,H1,b,n,m⟩;obtain⟨i,rfl,q⟩:=m;obtain⟨t,rfl⟩:=n;exact⟨J i,H1,b,.int i t,q⟩
def MH(X:Cx)(r:V->Option Int->Option Int->Hp->VK->Prop):Prop:=
 ∀(a:iN)(s:gM)(l:St)(O:Hp)(x:V)(v h i:gU)(lo c:Option Int)(b:gJ)(Q:VK),Inv X a l O s->RelV x v->s.heap.IsSliceOf b h i .none->dh h lo->dh i c->r x lo c O Q->
  ∃T id,l9 (.type T) "__getitem__"=pure (J<|.builtin id)/\s.TypeIs v T/\aa (ag X.prog X.w) X.A (c9 v<|.ref b) (EP X a l Q) X.xe s
def tSl(r:V->Option Int->Option Int->Hp->VK->Prop)(d:TE)(f g:TO):TE:=λa T Q=>d a T λx b=>f a b λl h=>g a h λu i=>r x l u i Q
def Eh{r:V->Option Int->Option Int->Hp->VK->Prop}(G:MH X r)(E:PE X e d)(O:PO X lo f)(M:PO X c g):PE X (.Subscript e (.Slice lo c U j) k) (tSl r d f g):=by intro a s i H Q I h;refine Subscript_<|NR (E a s i H _ I h) ?_;rintro v s1 ⟨x,H1,t,r1,U'⟩;refine wpAny_Slice<|NR (O a s1 i H1 _ t U') λm s2 ⟨l,p,y,N,Y'⟩=>NR (M a s2 i p _ y Y') ?_;rintro n s3 ⟨u,o,z,pu,q3⟩;rw[v6];refine hJ ?_;have B:Inv X a i o {s3 with heap:=s3.heap.push {cls:=.type "slice",data:=.fields #[m,n,.none]}}:=z.kept (t':=s3.toks) λb D q=>jz _ q;obtain⟨T,id,C,J,L⟩:=G a {s3 with heap:=s3.heap.push {cls:=.type "slice",data:=.fields #[m,n,.none]}} i o x v m n l u s3.heap.objs.size Q B r1 (Heap.IsSliceOf.new ..) N pu q3;show aa (ag X.prog X.w) X.A (fB e (.Slice lo c U j) v<|.ref s3.heap.objs.size) (EP X a i Q) X.xe {s3 with heap:=s3.heap.push {cls:=.type "slice",data:=.fields #[m,n,.none]}};exact tail_any (ops:=[.ref s3.heap.objs.size,v]) J C L (by with_unfolding_all rfl)
noncomputable def EV(a:List V)(lo c:Option Int):List V:=(a.drop<|HT.IX (A1 a) 0 lo).take<|HT.IX (A1 a) (A1 a) c-HT.IX (A1 a) 0 lo
def yd(a:List V)(lo c:Option Int):(EV a lo c).length<=(A1 a):=by
 unfold EV;rw[rM,hD]
 lia
def aaA(K:iz):V->Option Int->Option Int->Hp->VK->Prop:=λx lo c T Q=>∃a b,x=.ref a/\Ek K T a b/\
 ¬(HT.IX (A1 b) 0 lo=0/\HT.IX (A1 b) (A1 b) c=A1 b)/\∀p,T p=U->Q (.ref p) (upd T p<|.tup<|EV b lo c)
def Uc:MH X (aaA X.K):=by
 intro t s T N x v L O lo c E Q M B u z A h;obtain⟨a,l,rfl,y,w,q⟩:=h;cases B;obtain⟨m,r,n,p⟩:=M.tuple y;have i:m.toArray.size=(A1 l):=by rw[jY];exact r.length.symm
 refine⟨"tuple",_,Ax.lookup,n.typeIs,?_⟩;refine HT.aco n u z A (by rw[i];exact w) ?_ (by rw[i];exact p);rw[i];refine⟨.ref s.heap.objs.size,_,M.laid (t':=s.toks) (o:=.tup (EV l lo c)) (λb G q=>jz _ q) (jh _) ?_,rfl,q _ (M.hok.fresh<|jh _)⟩;exact⟨jW (yd l lo c) p,_,(r.drop<|HT.IX (A1 l) 0 lo).take<|HT.IX (A1 l) (A1 l) c-HT.IX (A1 l) 0 lo,Es.new _ _⟩
def X8(K:iz):R2:=λx y T Q=>∃a b i h,x=.ref a/\y=.ref b/\Ek K T a i/\Ek K T b h/\i≠[]/\(A1 i)+A1 h<=sizeLine/\
 (h=[]->Q (.ref a) T)/\(h≠[]->∀p,T p=U->Q (.ref p) (upd T p<|.tup<|i++h))
def Vals.GJ{b:List V}{a:je}(r:Vals b a):a=[]↔b=[]:=by
 cases r with
 |nil=>simp
 |cons _ _=>simp
def QM:B0 X (bz .Add) (X8 X.K):=by intro n s N H x y v u Q I L O h;obtain⟨a,b,T,G,rfl,rfl,p,r,t,m,C,E⟩:=h;cases L;cases O;obtain⟨A,l,B,_⟩:=I.tuple p;obtain⟨J,i,j,_⟩:=I.tuple r;refine HT.Y7 B j (λz=>t<|l.GJ.mp z) (λz=>⟨.ref a,H,I,rfl,C<|i.GJ.mp z⟩) (λz=>?_) (by rw[<-l.length,<-i.length];exact m);refine⟨.ref s.heap.objs.size,_,I.laid (t':=s.toks) (o:=.tup (T++G)) (λb M q=>jz _ q) (jh _) ?_,rfl,E (λw=>z<|i.GJ.mpr w) _ (I.hok.fresh<|jh _)⟩;exact⟨by rw[nN];exact m,_,l.append i,Es.new _ _⟩
end
noncomputable def Dv(n:Nat)(i:Int):Option Nat:=if 0<=i then(if i<n then J i.toNat else U)else if -(n:Int)<=i then J (i+n).toNat else U
def GK{b:Type}(a:List b)(i:Int):Option b:=(Dv (A1 a) i).bind λj=>a[j]?
def C5{n:Nat}{i:Int}{j:Nat}(h:Dv n i=J j):n6 i n=J j/\j<n/\ -(n:Int)<=i/\i<n:=by
 unfold Dv at h;by_cases a:0<=i
 .rw[hV a]at h;by_cases h1:i<n
  .rw[hV h1]at h;have e:i.toNat=j:=jZ h;exact⟨by rw[FY a h1,e],by lia,by lia,h1⟩
  rw[iC h1]at h;cases h
 rw[iC a]at h;by_cases h1: -(n:Int)<=i
 .rw[hV h1]at h;have e:(i+n).toNat=j:=jZ h;exact⟨by rw[FX (by lia) h1,e],by lia,h1,by lia⟩
 rw[iC h1]at h;cases h
def Ja{b:Type}{a:List b}{i:Int}{v:b}(h:GK a i=J v):∃j,n6 i (A1 a)=J j/\a[j]?=J v/\j<A1 a/\ -((A1 a):Int)<=i/\i<(A1 a):=by
 unfold GK at h
 cases e:Dv (A1 a) i with
 |none=>rw[e]at h;cases h
 |some j=>rw[e]at h;obtain⟨h1,c,d,f⟩:=C5 e;exact⟨j,h1,h,c,d,f⟩
def DF(b:gX):Prop:= ∀o i,ij b C o i=operate [o,i] (c9 o i)
def LI(X:Cx)(r:R2):Prop:=
 ∀(c a:gX)(b:iN)(s:gM)(d:St)(T:Hp)(x y:V)(v u:gU)(Q:VK),Inv X b d T s->RelV x v->RelV y u->r x y T Q->
  ij a C v u=operate [v,u] (c9 v u)->aa (ag X.prog X.w) X.A (fB c a v u) (EP X b d Q) X.xe s
def MtR(X:Cx)(id:String)(r:V->List V->Hp->VK->Prop):Prop:=
 ∀(a:iN)(s:gM)(d:St)(T:Hp)(x:V)(c:List V)(v:gU)(b:je)(Q:VK),Inv X a d T s->RelV x v->Vals c b->r x c T Q->
  aa (ag X.prog X.w) X.A (call (.builtin id) (v::b)) (EP X a d Q) X.xe s
section
variable {X:Cx}{a b:gX}{C tb:TE}{B:bq}
def Sw{r:R2}(i:LI X r)(f:PE X a C)(g:PE X b tb)(j:DF b):PE X (.Subscript a b B) (Jh r C tb):=by intro c s n T Q O h;exact Subscript_<|V6 f g O h λv u m x y d e k l q=>i a b c m n d x y v u Q e k l q<|j _ _
def aaD(K:iz):R2:=λx y T Q=>∃p c i v,x=.ref p/\y=.int i/\CU K T p c/\GK c i=J v/\Q v T
def aaC(K:iz):R2:=λx y T Q=>∃p c i v,x=.ref p/\y=.int i/\Ek K T p c/\GK c i=J v/\Q v T
def Rg:LI X (aaD X.K):=by
 intro k g c s o H x y v u Q I M N h n;obtain⟨p,P,i,z,rfl,rfl,G,O,q⟩:=h;cases M;obtain⟨t,rfl⟩:=N;obtain⟨e,r,f,F⟩:=I.list G;obtain⟨j,h1,A,Y,E,L⟩:=Ja O;obtain⟨w,l,J⟩:=r.get A;have T:=r.length;have D:=CZ;have fin:EP X c o Q w s:=⟨z,H,I,J,q⟩
 by_cases m:0<=i
 .have d:i.toNat=j:=by rw[FY m L]at h1;exact jZ h1
  exact item_listR f.isList m (by lia) (by rw[d];simpa using l) fin n
 have d:(i+(e.toArray.size:Int)).toNat=j:=by rw[FX (by lia) E]at h1;rw[jY,<-T];exact jZ h1
 exact Ln (x:=w) f.isList.typeIs m7.lookup
  (wpAny_getItem_list_neg (Q:=λr U=>r=w/\EP X c o Q r U) f.isList (by lia) (by rw[jY]<;>lia) (by lia) (by rw[d];simpa using l) ⟨rfl,fin⟩) n
def Vo:LI X (aaC X.K):=by
 intro e d c s g H x y v u Q I O T h A;obtain⟨p,D,i,z,rfl,rfl,o,m,q⟩:=h;cases O;obtain⟨t,rfl⟩:=T;obtain⟨E,r,f,Y⟩:=I.tuple o;obtain⟨j,h1,l,J,M,N⟩:=Ja m;obtain⟨w,k,L⟩:=r.get l;have n:=r.length;have U:=CZ;have fin:EP X c g Q w s:=⟨z,H,I,L,q⟩
 exact Ln (x:=w) f.typeIs Ax.lookup
  (getItem_tuple (j:=j) (Q:=λr G=>r=w/\EP X c g Q r G) f (by lia) (by lia) (by rw[jY,<-n];exact h1) (by simpa using k) ⟨rfl,fin⟩) A
def acH(c:je)(n j:Nat)(u:gU):aM (·.setIfInBounds j u) {cls:=.type "list",data:=.seq c.toArray n}={cls:=.type "list",data:=.seq (c.set j u).toArray n}:=by simp[aM]
def Inv.lst{d:iN}{f:St}{T:Hp}{s:gM}{p:gJ}{xs:List V}(Q:Inv X d f T s)(h:T p=J (.lst xs)):
  ∃(c:je)(n:Nat),Vals xs c/\s.heap.get? p=J {cls:=.type "list",data:=.seq c.toArray n}/\(A1 xs)<=sizeLine:=by
 obtain⟨z,c,n,r,e⟩:=Q.hok p _ h;exact⟨c,n,r,e,z⟩
def Inv.Jn{d:iN}{l:St}{T:Hp}{s:gM}{p:gJ}{w j:List V}{g c:je}{n i:Nat}{f:el->el}(Q:Inv X d l T s)(h:T p=J (.lst w))
  (o:s.heap.get? p=J {cls:=.type "list",data:=.seq g.toArray n})(k:f {cls:=.type "list",data:=.seq g.toArray n}={cls:=.type "list",data:=.seq c.toArray i})(r:Vals j c)(v:(A1 j)<=sizeLine)(t:Nat):
  Inv X d l (upd T p<|.lst j) {s with heap:=s.heap.update p f,toks:=t}:=by
 have e:(s.heap.update p f).get? p=J {cls:=.type "list",data:=.seq c.toArray i}:=by rw[rL f o<|by rw[k]<;>rfl,k]
 refine Q.write (x:=p) (e:=p) (by rw[h];trivial) (.inl I) (λb u m q=>(Co _ _ (pA m)).trans q) ⟨_,e⟩ ?_;exact⟨v,c,i,r,e⟩
def X5:V->V->V->Hp->(Hp->Prop)->Prop:=λo i v T Q=>∃p c k j,o=.ref p/\i=.int k/\T p=J (.lst c)/\Dv (A1 c) k=J j/\Q (upd T p<|.lst<|c.set j v)
def aeg:Wd X X5:=by
 intro d s T H o i v N M u Q I E A L h;obtain⟨p,O,k,j,rfl,rfl,x,y,q⟩:=h;cases E;obtain⟨t,rfl⟩:=A;obtain⟨c,n,r,f,z⟩:=I.lst x;obtain⟨h1,G,m,w⟩:=C5 y;have e:=r.length;have J:=CZ
 have g:Inv X d T (upd H p<|.lst<|O.set j v) {s with heap:=s.heap.update p (aM (·.setIfInBounds j u))}:=
  I.Jn x f (acH c n j u) (r.set L j) (by rw[ud];exact z) s.toks
 by_cases l:0<=k
 .have hk:k.toNat=j:=by rw[FY l w]at h1;exact jZ h1
  exact PySem.W.ki_setAt f l (by lia) (by rw[jY,<-e];exact w) (by rw[hk];exact⟨_,g,q⟩)
 have hk:(k+(c.toArray.size:Int)).toNat=j:=by rw[FX (by lia) m]at h1;rw[jY,<-e];exact jZ h1
 exact PySem.W.ki_setBack f (by lia) (by rw[jY,<-e];exact m) (by lia) (by rw[hk];exact⟨_,g,q⟩)
def abO(lo c:Option Int)(n:Nat):(cy lo c U n).1=((HT.IX n 0 lo:Nat):Int)/\(cy lo c U n).2.1=((HT.IX n n c:Nat):Int)/\(cy lo c U n).2.2=1:=by
 refine⟨?_,?_,rfl⟩
 .cases lo with
  |none=>simp[cy,HT.IX]
  |some i=>
   simp only[cy,HT.IX,f5,show(1:Int)>0 by decide,mR];by_cases h:i<0
   .simp only[h,mR]<;>lia
   simp only[h,kY]<;>lia
 cases c with
 |none=>simp[cy,HT.IX]
 |some i=>
  simp only[cy,HT.IX,f5,show(1:Int)>0 by decide,mR];by_cases h:i<0
  .simp only[h,mR]<;>lia
  simp only[h,kY]<;>lia
def abL(c:je)(lo d:Option Int):slicePick c.toArray lo d U=((c.drop<|HT.IX (A1 c) 0 lo).take<|HT.IX (A1 c) (A1 c) d-HT.IX (A1 c) 0 lo).toArray:=by obtain⟨h1,e,f⟩:=abO lo d c.toArray.size;unfold slicePick;rw[h1,e,f];simp only[sliceRange_one,pick_run,jY]<;>rfl
def aaB(K:iz):V->Option Int->Option Int->Hp->VK->Prop:=λx lo d T Q=>∃a c,x=.ref a/\CU K T a c/\∀p,T p=U->Q (.ref p) (upd T p<|.lst<|EV c lo d)
def Px:MH X (aaB X.K):=by intro g s z T x v w y lo e u Q O p i m n h;obtain⟨a,c,rfl,j,q⟩:=h;cases p;obtain⟨l,r,f,k⟩:=O.list j;have d:=r.length;refine⟨"list",_,m7.lookup,f.isList.typeIs,?_⟩;refine wpAny_getItem_list_slice f.isList i m n .none (by simp) ?_ (by rw[jY]<;>lia);rw[abL,<-d];refine⟨.ref s.heap.objs.size,_,O.laid (t':=s.toks) (o:=.lst (EV c lo e)) (λb t q=>jz _ q) (jh _) ?_,rfl,q _ (O.hok.fresh<|jh _)⟩;exact⟨jW (yd c lo e) k,_,0,(r.drop<|HT.IX c.length 0 lo).take<|HT.IX c.length c.length e-HT.IX c.length 0 lo,jT _ rfl⟩
def wj:ki X (.builtin "len") (λk T Q=>∃p d,k=[.ref p]/\(CU X.K T p d\/Ek X.K T p d)/\Q (.int d.length) T):=by
 intro j s t T k o Q O r h;obtain⟨p,d,rfl,e,q⟩:=h;obtain⟨u,rfl,m⟩:=pF r;cases m;have n:=CZ;rcases e with e|e
 .obtain⟨f,i,g,l⟩:=O.list e;have c:=i.length;exact Calls.call_len_list g.isList (by simp only[jY]<;>lia) ⟨.int d.length,T,O.tok _,⟨s.toks+1,by rw[jY,c]⟩,q⟩
 obtain⟨f,i,g,l⟩:=O.tuple e;have c:=i.length;exact len_tuple g (by simp only[jY]<;>lia) ⟨.int d.length,T,O.tok _,⟨s.toks+1,by rw[jY,c]⟩,q⟩
def wg:ki X (.type "list") (λA T Q=>∃p i,A=[.ref p]/\(CU X.K T p i\/Ek X.K T p i)/\∀l,T l=U->Q (.ref l) (upd T l<|.lst i)):=by
 intro t s L T A O Q N r h;obtain⟨p,i,rfl,k,q⟩:=h;obtain⟨u,rfl,E⟩:=pF r;cases E
 have fin:∀(c:je),Vals i c->i.length<=sizeLine->∀(d:ip)(f:Nat),(∀b z,s.heap.get? b=J z->d.get? b=J z)->
   d.get? s.heap.objs.size=J {cls:=.type "list",dict:=U,data:=.seq c.toArray f,slots:= #[]}->EP X t L Q (.ref s.heap.objs.size) {s with heap:=d}:=λc g m d f kp e=>
  ⟨.ref s.heap.objs.size,_,N.laid (t':=s.toks) kp (jh _) (show VP X.prog X.w _ d _ (.lst i)from⟨m,c,f,g,e⟩),rfl,q _ (N.hok.fresh<|jh _)⟩
 rcases k with k|k
 .obtain⟨c,g,y,m⟩:=N.list k;have j:=g.length;obtain⟨o,x,v,n,hd⟩:=y.isList;exact wl p (.inl I) x v hd (λd f kp e=>fin c g m d f kp e) (by simp only[jY]<;>omega)
 obtain⟨c,g,y,m⟩:=N.tuple k;have j:=g.length;obtain⟨o,x,v,n,hd⟩:=y;exact wl p (.inr I) x v hd (λd f kp e=>fin c g m d f kp e) (by simp only[jY]<;>omega)
def um:ki X (.type "tuple") (λv T Q=>∃p f,v=[.ref p]/\((CU X.K T p f/\∀l,T l=U->Q (.ref l) (upd T l<|.tup f))\/(Ek X.K T p f/\Q (.ref p) T))):=by
 intro c s x T v A Q O r h;obtain⟨p,f,rfl,h⟩:=h;obtain⟨u,rfl,z⟩:=pF r;cases z;rcases h with⟨i,q⟩|⟨i,q⟩
 .obtain⟨d,k,j,t⟩:=O.list i;have n:=k.length;refine call_tuple_list j.isList (λg kp=>?_) (by simp only[jY]<;>lia);have m:Inv X c x T {s with heap:=g}:=O.kept (t':=s.toks) kp
  have y:Inv X c x (upd T g.objs.size<|.tup f) {s with heap:=g.push {cls:=.type "tuple",data:=.seq d.toArray}}:=
   m.laid (t':=s.toks) (λb o e=>jz _ e) (jh _) (show VP X.prog X.w _ _ _ (.tup f)from⟨t,d,k,Es.new _ _⟩)
  exact⟨.ref g.objs.size,_,y,rfl,q _ (m.hok.fresh<|jh _)⟩
 obtain⟨d,k,j,t⟩:=O.tuple i;exact call_tuple_same j ⟨.ref p,T,O,rfl,q⟩
def tyV(K:iz)(T:String)(x:V)(Q:Hp):Prop:=match x with
 |.str _=>T="str"
 |.int _=>T="int"
 |.ref p=>(T="list"/\∃d,CU K Q p d)\/(T="tuple"/\∃o,K.lookup p=J o/\o.cls=.type "tuple"/\o.dict=U)\/
   (T="dict"/\((∃c,Q p=J (.dK c))\/∃c,Q p=J (.dT c)))\/(T="set"/\∃S n,Q p=J (.set S n))
 |_=>False
def TZ{d:iN}{q:St}{Q:Hp}{s:gM}{T:String}{x:V}{v:gU}(O:Inv X d q Q s)(r:RelV x v)(ty:tyV X.K T x Q):
  s.TypeIs v T/\∀a,v=.ref a->∃h,s.heap.get? a=J h/\h.dict=U:=by
 cases x with
 |str z=>obtain⟨t,rfl⟩:=r;cases(show T="str" from ty);exact⟨typeIs_str s z t,λ_ e=>nomatch e⟩
 |int i=>obtain⟨t,rfl⟩:=r;cases(show T="int" from ty);exact⟨typeIs_int s i t,λ_ e=>nomatch e⟩
 |ref p=>
  cases r;rcases ty with⟨rfl,u,l⟩|⟨rfl,o,hk,k,hd⟩|⟨rfl,hk⟩|⟨rfl,S,n,hk⟩
  .obtain⟨m,_,j,_⟩:=O.list l;refine⟨j.isList.typeIs,λa e=>?_⟩;cases e;obtain⟨o,n,e,c,hd,_⟩:=j;exact⟨o,e,hd⟩
  .refine⟨⟨o,O.Ej p o hk,k⟩,λa e=>?_⟩;cases e;exact⟨o,O.Ej _ o hk,hd⟩
  .have z:∃o,s.heap.get? p=J o/\o.ExactDict:=by
    rcases hk with⟨g,hk⟩|⟨g,hk⟩
    .obtain⟨_,_,_,_,o,_,_,e,ex,_⟩:=O.hok p _ hk;exact⟨o,e,ex⟩
    obtain⟨_,_,_,_,o,_,_,e,ex,_⟩:=O.hok p _ hk;exact⟨o,e,ex⟩
   obtain⟨o,e,ex⟩:=z;refine⟨⟨o,e,ex.1⟩,λa f=>?_⟩;cases f;exact⟨o,e,ex.2.1⟩
  obtain⟨o,_,_,_,e,ex,_⟩:=O.hok p _ hk;refine⟨⟨o,e,ex.1⟩,λa f=>?_⟩;cases f;exact⟨o,e,ex.2.1⟩
 |_=>exact aH ty
def tBM(K:iz)(T:String)(r:V->List V->Hp->VK->Prop)(to:TE)(t:TA):TE:=λd O Q=>to d O λx c=>tyV K T x c/\t d c λf e=>r x f e Q
variable {o e:gX}{g:jP}{to:TE}{t:TA}{d:av}{m A:bq}{T id:String}{r:V->List V->Hp->VK->Prop}
abbrev LW(X:Cx)(p:bq)(g:jP):Prop:=((aB p<|af g X.env).all (λx=>!x.1)&&(dP p<|cz [] X.env).all (λx=>x.1.isSome)&&decide (A1 g+([]:List n0).length+(if([]:List n0).isEmpty then 0 else 1)<30))=Y
abbrev LY(X:Cx)(o:gX)(d:av):Prop:=attributeBase o d X.env (ba o X.env)=ba o X.env
def Sx(J:PlainAttrs T)(slot:Slot T d id)(f:tz (.builtin id)=pure (.type "method_descriptor"))(y:MtR X id r)(z:PE X o to)(w:PA X (e::g) t)
  (O:LY X o d:=by rfl)
  (G:LW X A (e::g):=by rfl)
  (L:(m.endLine==A.line)=Y:=by rfl)(E:af (e::g) X.env=(AC,ba e X.env)::af g X.env:=by rfl)(q:(aB A<|af g X.env).any (·.1)=AC:=by rfl):
  PE X (.Call (.Attribute o d m) (e::g) [] A) (tBM X.K T r to t):=by
 intro c s i H Q I h;refine Lm O G L AT<|NR (z c s i H _ I h) ?_;rintro v s1 ⟨x,H1,j,l,ty,M⟩;obtain⟨h1,u⟩:=TZ j l ty;refine⟨T,id,J,slot,f,h1,u,?_⟩;have k:=w A c s1 i H1 _ j M;rw[E]at k ⊢;refine Ll (by show(AC||(aB A<|af g X.env).any (·.1))=AC;rw[q]<;>rfl)<|Lk ?_;exact NR k λus Y' ⟨vs,n,p,U',N⟩=>y c Y' i n x vs v us Q p l U' N
end
def MtM(X:Cx)(id:String)(r:V->List V->Hp->VK->Prop):Prop:=
 ∀(a:iN)(s:gM)(d:St)(T:Hp)(x:V)(c:List V)(v:gU)(b:je)(Q:VK),Inv X a d T s->RelV x v->Vals c b->r x c T Q->
  aa (ag X.prog X.w) X.A (call (.builtin id) (v::b)) (EP X a d Q) X.xe s
def Vals.one{x:V}{a:je}:Vals [x] a->Vl1 x a:=pF
theorem Vals.eraseIdx:∀{b:List V}{a:je}(i:Nat),Vals b a->Vals (b.eraseIdx i) (a.eraseIdx i)
 |_,_,_,.nil=>.nil
 |_,_,0,.cons _ t=>t
 |_,_,i+1,.cons r t=>.cons r (Vals.eraseIdx i t)
theorem Br{a:Type}:∀(l:List a)(i:Nat),(l.eraseIdx i).length<=A1 l
 |[],_=>jh _
 |_::_,0=>rK _
 |_::r,i+1=>ka<|Br r i
section
variable {X:Cx}{pins:iN}{σ:St}{H:Hp}{s:gM}{l b:gJ}{xs ys zs:List V}
def Inv.Jp{a its':je}{n:Nat}{f:Array gU->Array gU}{j:Nat}(T:Inv X pins σ H s)(c:H l=J (.lst xs))
  (e:s.heap.get? l=J {cls:=.type "list",data:=.seq a.toArray n})(g:f a.toArray=its'.toArray)(hv:Vals ys its')(i:(A1 ys)<=sizeLine):
  Inv X pins σ (upd H l<|.lst ys) {s with heap:=s.heap.update l<|aM f,toks:=j}:=by
 have q:=PySem.IsL.update e f;rw[g]at q;refine T.write (x:=l) (e:=l) (by rw[c];exact trivial) (.inl I) (λk u d h=>(Co s.heap (aM f)<|pA d).trans h) ⟨_,q⟩ ?_;exact⟨i,its',_,hv,q⟩
def Inv.Kp{a:je}{t':Nat}(T:Inv X pins σ H s)(hv:Vals ys a)(c:(A1 ys)<=sizeLine):
  Inv X pins σ (upd H s.heap.objs.size<|.lst ys) {s with heap:=s.heap.push {cls:=.type "list",data:=.seq a.toArray},toks:=t'}:=
 T.laid (λ_ _ q=>jz _ q) (jh _) ⟨c,a,0,hv,jT _ rfl⟩
def Inv.fresh(T:Inv X pins σ H s):H s.heap.objs.size=U:=T.hok.fresh<|jh _
inductive LsM(h:ip)(l:gJ)(xs:List V):Prop where
 |mk (_:(A1 xs)<=sizeLine) (its:je) (n:Nat) (_:Vals xs its) (_:(A1 xs)=A1 its) (_:h.get? l=z8 {cls:=.type "list",data:=.seq its.toArray n})
def Inv.Jo(T:Inv X pins σ H s)(c:H l=J (.lst xs)):LsM s.heap l xs:=by obtain⟨z,a,n,r,e⟩:=T.hok l _ c;exact⟨z,a,n,r,r.length,e⟩
end
section
variable {X:Cx}
def PZ:V->List V->Hp->VK->Prop:=λx b T Q=>∃l a y,x=.ref l/\b=[y]/\T l=J (.lst a)/\(A1 a)<sizeLine/\Q .T2 (upd T l<|.lst<|a++[y])
def adn:MtM X "list.append" PZ:=by
 intro c s p T x m v k Q O g f h;obtain⟨l,o,y,rfl,rfl,b,j,q⟩:=h;cases g;obtain⟨u,rfl,d⟩:=f.one;obtain⟨z,a,n,r,i,e⟩:=O.Jo b;refine mj F.slot_list_append ⟨_,e,rfl⟩ Lj (Li _ _) (fK l a.toArray n u<|by rw[jY];lia) ⟨e,?_⟩;refine⟨.T2,_,O.Jp (its':=a++[u]) b e (by simp) (r.append<|.cons d .nil) ?_,rfl,q⟩;rw[nN,yZ]
 lia
def Uu:V->List V->Hp->VK->Prop:=λx b T Q=>∃l a i k y,x=.ref l/\b=[.int i]/\T l=J (.lst a)/\ -(2^63)<=i/\i<2^63/\n6 i (A1 a)=J k/\a[k]?=J y/\Q y (upd T l<|.lst<|a.eraseIdx k)
def aez:MtM X "list.pop" Uu:=by
 intro c s L T x E v N Q O A p h;obtain⟨l,B,i,k,y,rfl,rfl,b,h1,d,hk,j,q⟩:=h;cases A;obtain⟨u,rfl,o⟩:=p.one;obtain⟨t,rfl⟩:=o;obtain⟨z,a,n,r,f,e⟩:=O.Jo b;obtain⟨w,g,m⟩:=r.get j
 refine mj F.slot_list_pop ⟨_,e,rfl⟩ F.entry_list_pop (F.args_list_pop_2 _ _)
  (MeetsSeq.list_pop_at l a.toArray n i t k w (fitsIndex_both h1 d) (by rw[jY,<-f];exact hk) (by rw[<-mw];exact g)<|by rw[jY];lia) ⟨e,?_⟩
 refine⟨y,_,O.Jp (its':=a.eraseIdx k) b e ?_ (r.eraseIdx k) ?_,m,q⟩
 .show a.toArray.eraseIdxIfInBounds k=(a.eraseIdx k).toArray;rw[List.eraseIdxIfInBounds_toArray]
 have:=Br B k
 lia
end
section
variable {a:iw}{w:ik}{A:ig}{E:iK}{s:gM}
end
section
variable {X:Cx}
end
end L2
namespace Att
open PySem.W PySem.Calls
def yq{P:Params}{h:ip}:∀(c:gQ)(d:je),WellAll P h d (c.map WData.int)->dA d c:=by
 intro c
 induction c with
 |nil=>intro d w;rw[oP]at w;cases w;exact .nil
 |cons n c e=>
  intro d w;rw[jK]at w
  cases w with
  |cons a b=>
   cases a;exact .cons _ _ (e _ b)
def adO{l:OpenLaw}{n:Nat}(v:l.most=J n){P:Params}{h:ip}{b:List WData}{e:je}
  (k:l.row.toRowW.claim.pre b=Y)(s:WellAll P h e b):
  ∃a m c,e=[bW a]/\b=[WData.list<|c.map WData.int]/\h.get? a=J {cls:=.type "list",data:=.seq m.toArray}/\dA m c/\(A1 c)<=n:=by
 have p:WShape.hasAll [] b [.list .int]=Y:=(pre_splitW k).1;have j:l.pre.holds [] {args:=b}=Y:=(pre_splitW k).2;obtain⟨d,r,rfl,h1,t⟩:=hasAllW_cons p;obtain rfl:=hasAllW_nil t;obtain⟨A,rfl,u⟩:=hasW_list h1;obtain⟨c,rfl⟩:=items_int u
 have f:(A1 c)<=n:=by
  unfold OpenLaw.pre at j
  have g:(WTm.not<|.lt (.lit<|.int (n:Int))<|.len<|.arg 0).holds [] {args:=[.list<|c.map .int]}=Y:=by have g:=(holds_andW j).1;rw[v]at g;exact g
  have i:=condW_of g<|w_not<|w_lt w_lit<|w_len_list<|w_arg I;rw[jf]at i;refine kb λq=>?_;have x:(n:Int)<(((A1 c):Nat):Int):=by omega
  first
   |(rw[kM x]at i;exact absurd i<|by decide)
   |(simp at i;omega)
 cases s with
 |cons y z=>
  cases z
  cases y with
  |list w o=>exact⟨_,_,c,rfl,rfl,w,yq c _ o,f⟩
def adW(l:OpenLaw)(a:List WData):l.row.toRowW.claim.post a (.bool Y) a=Y:=
 postW_of (r:=l.row.toRowW) (X:=Y==Y)
  (show WShape.has [] (.bool Y) .bool=Y by first|rfl|decide|simp[WShape.has,WShape.arms,WShape.armsAll])
  (show(WTm.eq .res<|.lit<|.bool Y).value [] {args:=a,res:=J<|.bool Y,after:=a}=J (.bool<|Y==Y)from w_eq_bool (w_res I) w_lit) rfl
def RS{l:OpenLaw}{n:Nat}{q:iw}{c:iA}{x:(av->Option gU)->ip->Prop}{y:ik->ip->Prop}{d:DefRec}
  (U:l.most=z8 n)(H:d.params.defaults=[])
  (call:∀(w:ik)(e b:gM)(m u:lz)(j:gJ)(o:el)(v cd g:gU)(a:gJ)(i:je)(p:gQ),
   Ground q c [] x w e m u b.heap->y w b.heap->
   b.heap.get? j=z8 o->o.data=.func (docDef d.name d.params d.body d.scope v cd g)->b.heap.CodeRec cd d.name->m d.name=z8 (.ref j)->
   b.heap.get? a=z8 {cls:=.type "list",data:=.seq i.toArray}->dA i p->A1 p<=n->b.gens= #[]->
   bO (ag l.prog w) ez (.call (.ref j) ⟨[.ref a],[]⟩) (λr s=>r=.ok (.ret<|.bool At)/\OldK b.heap s.heap/\s.os=b.os/\dB s.gens) b):
  WalkO q c x y l.row.toRowW d [] (λf i=>oC f i):=by
 intro w e b m u G Y j o v cd g I kV D hd P A t J z C as R B K L M;obtain rfl:I=.none:=Dflts.none A H;obtain rfl:kV=.none:=Dflts.noKw A;obtain⟨a,i,p,rfl,rfl,E,h,k⟩:=adO U R L;refine enter_call<|oR (call w e b m u j o v cd g a i p G Y D (fd_plain hd) P t E h k J) λr s F=>?_;obtain⟨rfl,O,Q,T⟩:=F;exact⟨.inl ⟨.bool At,.bool At,[],rfl,λ_=>rfl,.bool At,adW l _,λ_=>⟨bX,λ_ N=>(nomatch N)⟩⟩,O,Q,T⟩
section
variable {a:iw}{w:ik}{A:ig}{E:iK}{s:gM}{K:Frag}
end
end Att
namespace L2
def adE{b:je}{a:gQ}(h:dA b a):Vals (a.map V.int) b:=by
 induction h with
 |nil=>exact .nil
 |cons n t h c=>exact .cons ⟨t,rfl⟩ c
noncomputable def oY(s:aU):Arguments:=match s with
 |.FunctionDef _ a _ _ _ _ _ _ _ _=>a
 |_=>{posonlyargs:=[],args:=[],vararg:=U,kwonlyargs:=[],kw_defaults:=[],kwarg:=U,defaults:=[]}
noncomputable def kL(s:aU):List Stmt:=match s with
 |.FunctionDef _ _ b _ _ _ _ _ _ _=>b
 |_=>[]
noncomputable def gS(s:aU):Scope:=match s with
 |.FunctionDef _ _ _ _ _ _ a _ _ _=>a
 |_=>{kind:=.function,names:=[],isGenerator:=C,isCoroutine:=C}
abbrev Au:Gn:=λ_ _ _ _ _ _=>False
abbrev E0:XK:=λ_ _ _=>False
def Sy{X:Cx}:Hv Au X E0:=λ_ _ _ _ _ _ _ h=>h.elim
structure Gv(K:iz)(x qual:av)(st:aU)(f:gJ)(fd:mr):Prop where
 ex:∃(oc:gU)(od:Option gJ)(kV doc pm:gU)(an:Option gJ)(b7 ct:gU)(o8:yF),
  fd=bv x qual (oY st) (kL st) (gS st) .none kV doc pm an b7 ct/\K.lookup f=z8 ⟨oc,od,.func fd,o8⟩/\cu K b7 qual=At
 kp:bY K (.ref f)=At
section
variable {P:iw}{w:ik}{K:iz}{a:lz}{base:ip}
def Gv.ok{x qual:av}{st:aU}{f:gJ}{g:mr}{N d:iA}{k:Nat}{e:Sp}(F:Gv K x qual st f g)(S:SS N d (gS st))(len:∀vs T Q E,e vs T Q E->A1 vs=A1 d)
  (o:∀(c:gU)(A:ig)(b:List c3)(s:gM)(T:Hp)(vs:List V)(Q:VK)(E:XK),P1 k (A.deeper<|aP qual (gS st) s.heap.objs.size f c)->e vs T Q E->
   ∃t,Dg (pR Au P w K a base N qual (gS st) f c A b s T E).GI (kL st) t/\t {nx:=λ_ i=>Q .T2 i,rt:=Q} (oU N vs) T):AP P w K a base Au (k+1) f g d e:=by
 obtain⟨r,u,kV,l,v,an,c,ct,p,rfl,lk,n⟩:=F.ex;refine S9 lk n S len λA b s T vs Q E m j=>?_;obtain⟨t,h,q⟩:=o c A b s T vs Q E m j;exact⟨t,h.GI,q⟩
def Gv.binds{x qual:av}{st:aU}{f:gJ}{i:mr}{e:iA}(F:Gv K x qual st f i)
  (h:∀(kV b d:gU)(an:Option gJ)(c ct:gU)(g:je),A1 g=A1 e->c1 (bv x qual (oY st) (kL st) (gS st) .none kV b d an c ct) ⟨g,[]⟩=pure (e.zip g)):Binds K i e []:=by
 obtain⟨l,m,kV,b,d,an,c,ct,k,rfl,lk,j⟩:=F.ex;exact .all<|h kV b d an c ct
def NU{x qual:av}{st:aU}{f:gJ}{h:gU}{i an:Option gJ}{g:yF}{kV b e d ct:gU}(l:K.lookup f=J ⟨h,i,.func<|bv x qual (oY st) (kL st) (gS st) .none kV b e an d ct,g⟩)
  (c:cu K d qual=Y)(k:bY K (.ref f)=Y):Gv K x qual st f (bv x qual (oY st) (kL st) (gS st) .none kV b e an d ct):=⟨⟨h,i,kV,b,e,an,d,ct,g,rfl,l,c⟩,k⟩
end
section
variable {X:Cx}
end
def YH{A B:Prop}(h:B):if C=Y then A else B:=by rw[iC ky];exact h
def YG{A B:Prop}(h:A):if Y=Y then A else B:=by rw[hV I];exact h
theorem vh(b:c3):∀(l:List (av×NameKind))(g:jq),(∀x∈l,x.2=.free->∃c,b.cells.lookup x.1=J c)->(∀x c,g.lookup x=J c->b.cells.lookup x=J c)->
  ∃cl,(eJ l g λx r=>if x.2==aF then do let a <-ut b x.1;pure (bt ((x.1,a)::r))else pure (bt r))=(pure cl:c4 (List<|av×gJ))/\
   (∀x c,cl.lookup x=J c->b.cells.lookup x=J c)/\(∀x,(x,aF)∈l->∃c,cl.lookup x=J c)/\∀x c,g.lookup x=J c->∃c,cl.lookup x=J c
 |[],g,_,m=>⟨g,rfl,m,λx h=>by simp at h,λx c h=>⟨c,h⟩⟩
 |(n,k)::l,g,h,m=>by
  by_cases hk:k=.free
  .subst hk;obtain⟨c,e⟩:=h (n,.free) jF I;have q:b.cells.lookup n=J c:=e
   obtain⟨cl,h1,o,p,j⟩:=vh b l ((n,c)::g) (λx f=>h x<|iY _ f) (λx d f=>by
    rw[nM]at f
    cases i:x==n with
    |true=>rw[i]at f;have:=oe i;subst this;cases f;exact q
    |false=>rw[i]at f;exact m x d f)
   refine⟨cl,?_,o,λx f=>?_,λx d f=>?_⟩
   .rw[Cn];have:ut b n=pure c:=by unfold ut;rw[q]
    simp -iota only[this,p8,mR];exact h1
   .rcases mP.mp f with z|z
    .cases z;exact j n c (by simp)
    exact p x z
   cases i:x==n
   .exact j x d (by rw[nM,i];exact f)
   have:=oe i;subst this;exact j x c (by simp)
  obtain⟨cl,h1,o,p,j⟩:=vh b l g (λx f=>h x<|iY _ f) m;have i:(k==aF)=C:=by simpa using hk
  refine⟨cl,?_,o,λx f=>?_,j⟩
  .rw[Cn];simp -iota only[i,kY,p8];exact h1
  rcases mP.mp f with z|z
  .cases z;exact absurd I hk
  exact p x z
def vg(b:c3)(scope:iJ)(h:∀x∈scope.names,x.2=.free->∃c,b.cells.lookup x.1=J c):
  ∃cl,mi scope b=pure cl/\(∀x c,cl.lookup x=J c->b.cells.lookup x=J c)/\∀x,(x,aF)∈scope.names->∃c,cl.lookup x=J c:=by
 obtain⟨cl,h1,d,e,_⟩:=vh b scope.names [] h (λx c f=>by simp at f);refine⟨cl,?_,d,e⟩;unfold mi;have:(eJ scope.names ([]:List (av×gJ)) λx r=>if x.2==aF then do let a <-ut b x.1;pure (bt ((x.1,a)::r))else pure (bt r))=(pure cl:c4 (List<|av×gJ)):=h1
 first
  |exact(lY (· >>=λr=>pure r) this).trans (p8 _ _)
  |(simp -iota;exact this)
  |exact this
theorem mf:∀(b:List (av×NameKind))(n:Nat)(a:jq),aX n b a=aX n b []++a
 |[],_,_=>rfl
 |(x,k)::r,n,a=>by
  unfold aX;split
  .rw[mf r (n+1) ((x,n)::a),mf r (n+1) [(x,n)],oO];rfl
  exact mf r n a
theorem pe{x:av}{c:gJ}:∀(a:List (av×NameKind))(n:Nat),(x,c)∈aX n a []->(x,ay)∈a
 |[],_,h=>by simp[aX]at h
 |(y,k)::r,n,h=>by
  unfold aX at h;split at h
  .rename_i hk;rw[mf]at h;rcases nQ.mp h with z|z
   .exact iY _ (pe r _ z)
   cases Aw.mp z;rw[oe hk];exact jF
  exact iY _ (pe r _ h)
structure LX(cells:jq)(scope:iJ)(C:gJ)(h:ip)(cl:jq):Prop where
 one:∀x c,cl.lookup x=z8 c->(cells.lookup x=z8 c/\scope.names.lookup x≠z8 .cell)\/(C<c/\scope.names.lookup x=z8 .cell/\h.IsCell c z9)
 all:∀x,(x,aF)∈scope.names\/(x,ay)∈scope.names->∃c,cl.lookup x=z8 c
 inj:∀x y c,C<c->cl.lookup x=z8 c->cl.lookup y=z8 c->(∀z d,cells.lookup z=z8 d->d<C)->x=y
 ex:∀x c,cl.lookup x=z8 c->cells.lookup x=z8 c\/C<c
def Q4{M:eT}{A:ig}{E:iK}{s:gM}{scope:iJ}{globals:gJ}{a:c3}{cl:jq}{qual:av}{Q:c3->gM->Prop}(t:∀y∈scope.names,y.2=.cell->scope.names.lookup y.1=J .cell)
  (m:∀x c,cl.lookup x=J c->a.cells.lookup x=J c)(O:∀x,(x,aF)∈scope.names->∃c,cl.lookup x=J c)
  (B:∀k r,k.Ns s.heap.objs.size (λ_=>U)->(∀b o,s.heap.get? b=J o->k.get? b=J o)->LX a.cells scope s.heap.objs.size k r->
   Q {scope,locals:=s.heap.objs.size,globals,cells:=r,qual,func:=U,code:=a.code,frame:=a.frame,builtins:=a.builtins} {s with heap:=k}):
  aa M A (cX scope globals cl [] qual U .none<|J a) Q E s:=by
 simp -iota only[cX,fv,mR];refine gL<|wU ?_;refine gL<|tw _ (λv j i=>by cases n:j==ay<;>simp[n]) _ _ _ _ ?_;have ok:=wS scope.names (s.heap.push {cls:=.type "dict",data:=.dict #[]}) (s.heap.objs.size+1) [] ⟨λ_ _ N=>(nomatch N),bX⟩ (by rw[oN];exact jh _);rw[oN]at ok;rw[show({s with heap:=s.heap.push {cls:=.type "dict",data:=.dict #[]}}:gM).heap.objs.size=s.heap.objs.size+1 from oN ..];simp -iota;have g:∀x,(aX (s.heap.objs.size+1) scope.names cl).lookup x=((aX (s.heap.objs.size+1) scope.names []).lookup x).or (cl.lookup x):=λx=>by rw[mf,List.lookup_append]
 have f:∀x c,(aX (s.heap.objs.size+1) scope.names cl).lookup x=J c->(cl.lookup x=J c/\(aX (s.heap.objs.size+1) scope.names []).lookup x=U)\/(x,c)∈aX (s.heap.objs.size+1) scope.names []:=λx c h=>by
  rw[g]at h
  cases p:(aX (s.heap.objs.size+1) scope.names []).lookup x with
  |none=>rw[p]at h;exact .inl ⟨h,rfl⟩
  |some d=>rw[p]at h;cases h;exact .inr<|pv p
 have lo:∀{x:av}{c:gJ},(x,c)∈aX (s.heap.objs.size+1) scope.names []->s.heap.objs.size<c:=λ{x c} h=>(ok.empty x c h).2;refine gL<|hJ<|hJ<|B _ _ ((Heap.Ns.new s.heap<|.type "dict").keeps<|Cm _ _) (λb o e=>Cm _ _ b o (jz _ e)) ⟨λx c h=>?_,λx h=>?_,λx y c l h1 w u=>?_,λx c h=>?_⟩
 .rcases f x c h with⟨z,T⟩|z
  .refine .inl ⟨m x c z,λe=>?_⟩;have:=Cr scope.names (s.heap.objs.size+1) []<|.inl e;rw[T]at this;cases this
  exact .inr ⟨lo z,t _ (pe _ _ z) rfl,(ok.empty x c z).1⟩
 .rcases h with h|h
  .obtain⟨c,l⟩:=O x h;rw[g,l];cases(aX (s.heap.objs.size+1) scope.names []).lookup x<;>exact⟨_,rfl⟩
  have:=Cr scope.names (s.heap.objs.size+1) cl<|.inl<|t _ h rfl;exact Kx.mp this
 .rcases f x c h1 with⟨z,_⟩|z
  .exact absurd (u x c<|m x c z) (FW l)
  rcases f y c w with⟨q,_⟩|q
  .exact absurd (u y c<|m y c q) (FW l)
  exact wP ok.apart z q
 rcases f x c h with⟨z,_⟩|z
 .exact .inl (m x c z)
 exact .inr (lo z)
noncomputable def Cx.comp(X:Cx)(d:iA)(scope:iJ)(cl:jq)(T:gJ)(e:gM)(c:Hp)(fp:km)(a:iN):Cx:=
 {X with N:=d,s₀:=e,H₀:=c,env:=compEnvC scope cl T X.env,outer:=X.stack,stack:=X.stack,ex:=fp,fn:=λx=>scope.names.lookup x==J .cell,pn:=X.pn++a,xe:=λ_ _=>False}
abbrev TB:=St->Hp->(St->Hp->Prop)->Prop
def PB(X:Cx)(code:c4 Unit)(t:TB):Prop:=
 ∀(a:iN)(s:gM)(c:St)(T:Hp)(N:St->Hp->Prop),Inv X a c T s->t c T N->
  aa (ag X.prog X.w) X.A code (λ_ d=>∃b H',Inv X a b H' d/\N b H') X.xe s
def Hm(X:Cx)(b:jP)(t:TT):Prop:=
 ∀(a:iN)(s:gM)(d:St)(T:Hp)(Q:Bool->Hp->Prop),Inv X a d T s->t d T Q->
  aa (ag X.prog X.w) X.A (eJ b Y λc r=>if r=Y then do let ok <-isTrue c X.env (ba c X.env);pure (bt ok)else pure (bt r)) (TP X a d Q) X.xe s
noncomputable def XC:TT:=λ_ T Q=>Q Y T
section
variable {X:Cx}
def Qk:Hm X [] XC:=λa s b T Q O h=>wpAny_tests_nil ⟨T,O,h⟩
def Qj{c:gX}{t:TT}(h:PT X c t):Hm X [c] t:=λa s d T Q O b=>wpAny_tests_one<|h a s d T Q O b
noncomputable def iX(e:gX)(depth:Nat)(acc:gU)(a:c3):c4 Unit:=
 match(bJ e)[depth+1]? with
 |some c=>do
  let x <-ba c.iter a
  cg c.iter.pos
  let x <-aq c.iter a x
  let _ <-runOwn (.compStart e (depth+1) (<-b3 [x] (cG x)) acc a) a
 |none=>match e with
  |.ListComp b _ _ _=>do let _ <-call (.builtin "list.append") [acc,<-ba b a]
  |.SetComp b _ _ _=>do let v <-ba b a;cg b.pos;let _ <-call (.builtin "set.add") [acc,v]
  |_=>ib "no"
def HK(Q:It)(g:TG)(l:TT)(tb:TB):TB:=λd T N=>∃W:Nat->Nat->St->Hp->Prop,(∃m,W 0 m d T)/\∀i m d T,W i m d T->
 (Q.stop i T/\N d T)\/(Q.go i T/\∀x f,Q.yld i T x f->g x d f λa j=>l a j λb h=>if b=Y then tb a h λe k=>∃c,c<m/\W (i+1) c e k else ∃c,c<m/\W (i+1) c a h)
def ab6(e:gX)(depth:Nat)(it f:gU)(b:c3)(g:nI)(o:(∃d a i p,e=.ListComp d a i p)\/(∃d a i p,e=.SetComp d a i p))
  (j:(bJ e)[depth]?=J g)(n:g.is_async=0)(k:∀h,(bJ e)[depth+1]?=J h->h.is_async=0):
  jp e depth it f b=(do
   cg g.iter.pos
   match <-cU it with
   |none=>pure<|.done .next
   |some v=>
    dC g.target it v
    b5 g.target b v
    let ok <-eJ g.ifs Y λc r=>if r=Y then do let ok <-isTrue c b (ba c b);pure (bt ok)else pure (bt r)
    if ok=Y then iX e depth f b
    again (.compLoop e depth it f b)):=by
 rcases o with⟨d,a,i,p,rfl⟩|⟨d,a,i,p,rfl⟩
 .have l:a[depth]?=J g:=j;unfold jp iX;simp only[clausesOf.eq_def]at j k ⊢;rw[l];simp only[n]
  cases m:a[depth+1]? with
  |none=>rfl
  |some h=>
   have:=k h m;simp only[this,wR,jX,kY]
   congr 1;funext _;congr 1;funext r
   cases r with
   |none=>rfl
   |some v=>
    dsimp only
    congr 1;funext _;congr 1;funext _;congr 1;funext ok
    cases ok
    .rfl
    simp only[rJ];rfl
 have l:a[depth]?=J g:=j;unfold jp iX;simp only[clausesOf.eq_def]at j k ⊢;rw[l];simp only[n]
 cases m:a[depth+1]? with
 |none=>rfl
 |some h=>
  have:=k h m;simp only[this,wR,jX,kY]
  congr 1;funext _;congr 1;funext r
  cases r with
  |none=>rfl
  |some v=>
   dsimp only
   congr 1;funext _;congr 1;funext _;congr 1;funext ok
   cases ok
   .rfl
   simp only[rJ];rfl
def N8
  (d:(∃b a c p,e=.ListComp b a c p)\/(∃b a c p,e=.SetComp b a c p))
  (h:aa (ag prog w) A ((jp e depth it acc env).onRaise (λx=>do n7 x env;theTreesLotGoes x)) Q E s):
  aa (ag prog w) (A.under<|.compLoop e depth it acc env) ((ag prog w).den<|.compLoop e depth it acc env) Q E s:=by
 rcases d with⟨b,a,c,p,rfl⟩|⟨b,a,c,p,rfl⟩
 .exact h
 exact h
def Il{e:gX}{depth:Nat}{acc:gU}{c:nI}{g:TG}{ti:TT}{tb:TB}{J:It}{y:km}{it:gJ}{tn:Nat->ip->Prop}(bG:X.xe=λ_ _=>False)(hc:X.calm=Y)
  (hl:(∃B k sc p,e=.ListComp B k sc p)\/(∃B k sc p,e=.SetComp B k sc p))(hg:(bJ e)[depth]?=z8 c)(ha:c.is_async=0)(i7:∀g',(bJ e)[depth+1]?=z8 g'->g'.is_async=0)
  (T:Turn X.prog X.w X.K c.target J y it tn)(pg:PG X c.target g)(aR:Hm X c.ifs ti)(pb:PB X (iX e depth acc X.env) tb)
  {a:iN}{s:gM}{σ:St}{H:Hp}{N:St->Hp->Prop}(I:Inv X a σ H s)(f2:∀b∈y,tV X a H b)(st:tn 0 s.heap)(h:HK J g ti tb σ H N):
  bO (ag X.prog X.w) X.A (.compLoop e depth (.ref it) acc X.env) (λr Y'=>r=.ok .next/\∃f j,Inv X a f j Y'/\(∀b∈y,j b=U)/\N f j) s:=by
 obtain⟨W,⟨m0,w0⟩,turn⟩:=h;have R:∀{j:Hp},(∀b∈y,j b=U)->∀b∈y,tV X a j b:=λhn b v=>⟨hn b v,(f2 b v).2⟩
 have D:∀{α:Type}{t:c4 α}{Q:α->gM->Prop}{E:iK}{s:gM},aa (ag X.prog X.w) X.A t Q X.xe s->aa (ag X.prog X.w) X.A t Q E s:=λh=>mz h (λ_ _ x=>x) λ_ _ z=>by rw[bG]at z;exact z.elim
 refine codeAny_loop AT (λn Y'=>∃i f j,Inv X a f j Y'/\tn i Y'.heap/\(∀b∈y,j b=U)/\W i n f j) (λn Z hI=>?_) m0 ⟨0,σ,H,I,st,λb v=>(f2 b v).1,w0⟩;refine N8 hl ?_;refine wpAny_noted ?_;rw[ab6 e depth (.ref it) acc X.env c hl hg ha i7];obtain⟨i,l,G,S,V,F,w3⟩:=hI;refine gL<|rO ?_;rcases turn i n l G w3 with⟨stop,qn⟩|⟨go,step⟩
 .refine gL (NR (T.done X AT AT AT hc i a Z l G _ S (R F) V stop) ?_);rintro r s4 ⟨P,I4⟩;subst P;exact hJ ⟨rfl,l,G,I4,F,qn⟩
 refine gL (NR (T.item X AT AT AT hc i a Z l G _ S (R F) V go) ?_);rintro r s4 ⟨u,P,h4⟩;subst P;refine gL<|NR h4 ?_;rintro _ s5 ⟨x,H5,I5,r5,y5,bu,gr⟩;have gH:=I5.pinned (R gr)<|T.obj _ _ bu;refine gL<|NR (D<|pg _ s5 l H5 x u _ gH r5 (step x H5 y5)) ?_;rintro _ s6 ⟨σ6,H6,I6,q6⟩;refine gL<|NR (D<|aR _ s6 σ6 H6 _ I6 q6) ?_;rintro ok s7 ⟨H7,I7,U'⟩
 have again:∀{O:gM}{q:St}{C':Hp},Inv X (a++zr y s5.heap) q C' O->(∃M,M<n/\W (i+1) M q C')->∃m,m<n/\∃i f j,Inv X a f j O/\tn i O.heap/\(∀b∈y,j b=U)/\W i m f j:=λ{O q C'} L a'=>by
  obtain⟨M,hm,w8⟩:=a'
  refine⟨M,hm,i+1,q,C',L.AG,T.keep _ _ _ bu λb v o e=>(L.pin (b,o)<|nO _ (nO _ (qa v e))).1,λb v=>?_,w8⟩;obtain⟨o,e,d⟩:=T.obj _ _ bu b v;exact(L.pin (b,o)<|nO _ (nO _ (qa v e))).2.1
 cases ok with
 |false=>rw[iC ky]at U';exact hJ ⟨rfl,again I7 U'⟩
 |true=>rw[hV AT]at U';simp -iota;refine gL<|NR (D<|pb _ s7 σ6 H7 _ I7 U') ?_;rintro _ O ⟨q,C',L,q8⟩;exact hJ ⟨rfl,again L q8⟩
def XH(d:gJ)(e:TE):TB:=λc T N=>e c T λy b=>∃a,b d=J (.lst a)/\(A1 a)<sizeLine/\N c (upd b d<|.lst<|a++[y])
def Qs{b:gX}{a:nJ}{i:iJ}{p:bq}{depth:Nat}{d:gJ}{j:TE}(o:a[depth+1]?=U)(m:PE X b j):PB X (iX (.ListComp b a i p) depth (.ref d) X.env) (XH d j):=by
 intro f s k T N Q h
 have l:iX (.ListComp b a i p) depth (.ref d) X.env=(do let _ <-call (.builtin "list.append") [.ref d,<-ba b X.env]):=by unfold iX;simp -iota only[clausesOf.eq_def];rw[o]
 rw[l];refine gL<|NR (m f s k T _ Q h) ?_;rintro u s1 ⟨y,H1,g,t,x,hd,w,q⟩;obtain⟨z,c,n,r,v,e⟩:=g.Jo hd;refine gL<|mj F.slot_list_append ⟨_,e,rfl⟩ Lj (Li _ _) (fK d c.toArray n u<|by rw[jY];lia) ⟨e,?_⟩;refine hJ ⟨k,_,g.Jp (its':=c++[u]) hd e (by simp) (r.append<|.cons t .nil) ?_,q⟩;rw[nN,yZ]
 lia
def DZ{b:iw}{w:ik}{A:ig}{e:gX}{depth:Nat}{it acc:gU}{d:c3}{R:gC->gM->Prop}{s:gM}{c:nI}
  (q:(∃g a i p,e=.ListComp g a i p)\/(∃g a i p,e=.SetComp g a i p))(o:(bJ e)[depth]?=J c)(n:c.is_async=0)
  (l:bO (ag b w) A (.compLoop e depth it acc d) R s)
  (j:∀(Q:iK)(E:iK),Q it s->aa (ag b w) A (cG it) Q E s):
  bO (ag b w) A (.compStart e depth it acc d) R s:=by
 have h:aa (ag b w) A (fL e depth it acc d) (λfin k=>match fin with|.done f=>R (.ok f) k|.again m=>m.quiet=Y/\bO (ag b w) A m R k) (notedBy (ag b w) A d λx k=>R (.error x) k) s:=by
  unfold fL;rw[o];simp only[Option.elim,n,jX,kY];refine gL<|rH<|wpAny_ite ?_;split
  .first
    |exact gL<|hJ<|hJ<|c6 I l
    |exact hJ<|c6 I l
  exact gL (vw<|gL<|rO<|gL<|j _ _ (hJ<|c6 I l))
 rcases q with⟨g,a,i,p,rfl⟩|⟨g,a,i,p,rfl⟩
 .refine rG ?_;show aa _ A ((fL (.ListComp g a i p) depth it acc d).onRaise (λx=>do n7 x d;cg ro)) _ _ s;exact vl h
 refine rG ?_;show aa _ A ((fL (.SetComp g a i p) depth it acc d).onRaise (λx=>do n7 x d;cg ro)) _ _ s;exact vl h
noncomputable def aeo(d:TI)(g:TG)(c:TT)(tb:TB):TB:=λa T N=>d a T λQ b=>HK Q g c tb a b N
def UY{e:gX}{depth:Nat}{b:gU}{c:nI}{t:TI}{g:TG}{o:TT}{tb:TB}(C:X.xe=λ_ _=>False)(M:X.calm=At)
  (n:(∃d a j p,e=.ListComp d a j p)\/(∃d a j p,e=.SetComp d a j p))(i:(bJ e)[depth+1]?=z8 c)(m:c.is_async=0)(i7:∀l,(bJ e)[depth+1+1]?=z8 l->l.is_async=0)
  (hs:∀x,aq c.iter X.env x=pure x)(pi:PI X c.target c.iter t)(pg:PG X c.target g)(B:Hm X c.ifs o)(pb:PB X (iX e (depth+1) b X.env) tb):
  PB X (iX e depth b X.env) (aeo t g o tb):=by
 intro f s K H N I h
 have L:iX e depth b X.env=(do
  let x <-ba c.iter X.env
  cg c.iter.pos
  let x <-aq c.iter X.env x
  let _ <-runOwn (.compStart e (depth+1) (<-b3 [x] (cG x)) b X.env) X.env):=by
  unfold iX;rw[i]
 rw[L];refine gL<|NR (pi f s K H _ I h) λv s1 h1=>gL<|rO<|gL<|uc (hs v)<|gL<|lU<|NR h1 λR F G=>?_;obtain⟨it,S,W,J,P,rfl,y,T,u,O,D⟩:=G;refine gL<|wpAny_runOwn ?_;refine DZ n i m ?_ λQ E U=>T.self X.A 0 F Q E u U;refine oR (Il C M n i m i7 T pg B pb y O u D) λr V Y=>?_;obtain⟨rfl,k,w,z,_,q⟩:=Y;exact hJ ⟨k,w,z,q⟩
end
theorem nR{a:c3}:∀{b:List (av×NameKind)}{x:av},b.lookup x=J .free->
  (b.map λ(n,k)=>if(k==aF&&a.scope.kind== .function&&a.kindOf n==J .cell)then(n,ay)else(n,k)).lookup x=J .cell\/
  (b.map λ(n,k)=>if(k==aF&&a.scope.kind== .function&&a.kindOf n==J .cell)then(n,ay)else(n,k)).lookup x=J .free
 |[],_,h=>by simp at h
 |(n,k)::r,x,h=>by
  have e:= @nR a r x;rw[jK]
  cases c:x==n with
  |true=>
   simp only[nM,c]at h;cases h;by_cases d:(aF==aF&&a.scope.kind== .function&&a.kindOf n==J .cell)=Y
   .left;simp only[d,mR,nM,c]
   right;simp only[d,kY,nM,c,jX]
  |false=>
   simp only[nM,c]at h;by_cases d:(k==aF&&a.scope.kind== .function&&a.kindOf n==J .cell)=Y
   .simp only[d,mR,nM,c];exact e h
   simp only[d,kY,nM,c,jX];exact e h
theorem kK{a:c3}:∀{b:List (av×NameKind)}{x:av}{g:NameKind},
  (b.map λ(n,k)=>if(k==aF&&a.scope.kind== .function&&a.kindOf n==J .cell)then(n,ay)else(n,k)).lookup x=J g->∃k,(x,k)∈b/\(k=g\/k=.free)
 |[],_,_,h=>by simp at h
 |(n,k)::r,x,g,h=>by
  rw[jK]at h
  cases f:x==n
  .by_cases c:(k==aF&&a.scope.kind== .function&&a.kindOf n==J .cell)=Y
   .simp only[c,mR,nM,f]at h;obtain⟨i,h1,d⟩:=kK h;exact⟨i,iY _ h1,d⟩
   simp only[c,kY,nM,f,jX]at h;obtain⟨i,h1,d⟩:=kK h;exact⟨i,iY _ h1,d⟩
  have e:=oe f;subst e;by_cases c:(k==aF&&a.scope.kind== .function&&a.kindOf x==J .cell)=Y
  .refine⟨k,jF,.inr ?_⟩
   have h1:(k==aF)=Y:=by
    cases hk:(k==aF)with
    |true=>rfl
    |false=>rw[hk]at c;simp at c
   exact oe h1
  simp only[c,kY,nM,jX]at h;exact⟨k,jF,.inl<|by simpa using h⟩
structure AI(X:Cx)(N':iA)(scope:iJ)(pre:St->St):Prop where
 cell:∀y∈scope.names,y.2=.cell->scope.names.lookup y.1=z8 .cell
 kind:scope.kind=.function
 names:∀y∈scope.names,y.2=.local->scope.names.lookup y.1=z8 .local
 free:∀y∈scope.names,y.2=.free->X.env.scope.names.lookup y.1=z8 .cell\/X.env.scope.names.lookup y.1=z8 .free
 len:∀σ:St,(pre σ).length=A1 N'
 pre:∀(σ:St)(i:Nat)(v:V)(x:av),(pre σ)[i]?=z8 (z8 v)->N'[i]?=z8 x->scope.names.lookup x=z8 .free/\∃j:Nat,X.N[j]?=z8 x/\σ[j]?=z8 (z8 v)
section
variable {X:Cx}
def RC{H:iA}{scope:iJ}{pre:St->St}(S:AI X H scope pre){d:iN}{f:gM}{E:St}{t:Hp}{A:km}{cl:jq}{C:ip}{t':Nat}(I:Inv X d E t f)
  (B:LX X.env.cells scope f.heap.objs.size C cl)
  (w:∀b∈A,tV X d t b)(O:∀b∈A,b<f.heap.objs.size)
  (n8:C.Ns f.heap.objs.size (λ_=>z9))(hk:∀b o,f.heap.get? b=z8 o->C.get? b=z8 o):
  Inv (X.comp H scope cl f.heap.objs.size f t A d) [] (pre E) t {f with heap:=C,toks:=t'}:=by
 have D:∀b∈GZ X.stack,t b=z9:=I.Gy;have L:∀b,b≠X.env.locals->b∉X.fs->b∉GZ X.stack:=λb h1 a z=>(mP.mp<|I.Dt b z).elim h1 a;have old:∀x c,X.env.cells.lookup x=z8 c->c<f.heap.objs.size:=λx c e=>(I.cell x c e).elim λ_ z=>z.lt
 refine⟨⟨I.ok.mod,?_,I.ok.glob,I.ok.blt,jh _,λx y c h1 a=>?_,λx h=>?_,λx c q e=>?_,I.ok.hd,I.ok.frames,.inl AT,λb g=>?_,
  I.bs,jW I.ok.bsz I.sz,λb o e g=>?_,λb g=>L b (w b g).2.1 (w b g).2.2.1,I.stack,D⟩,rfl,I.bare,Un.kept hk,⟨_,n8,λi x v h1 a Q=>?_⟩,λx c h=>?_,I.hok.fresh<|jh _,λx c h=>?_,λp V=>?_,I.hok.kept hk,S.len E⟩
 .show(gk scope X.env).kind=.function;simp[gk,S.kind]
 .rcases B.ex x c h1 with z|z
  .rcases B.ex y c a with s|s
   .exact I.ok.inj x y c z s
   exact absurd (old x c z) (FW s)
  exact B.inj x y c z h1 a old
 ·
  have J:(gk scope X.env).names.lookup x=z8 .cell\/(gk scope X.env).names.lookup x=z8 .free:=h;refine B.all x ?_;rcases J with z|z
  .obtain⟨k,h1,a⟩:=kK z;rcases a with a|a<;>subst a
   .exact .inr h1
   exact .inl h1
  obtain⟨k,h1,a⟩:=kK z;rcases a with a|a<;>(subst a;exact .inl h1)
 .rcases B.one x c e with⟨_,z⟩|⟨z,_⟩
  .exact absurd (oe q) z
  exact vB z
 .refine⟨jB<|O b g,λx c h=>?_⟩;rcases B.ex x c h with z|z
  .exact(w b g).2.2.2.2.1 x c z
  exact rm (yY (O b g) z)
 ·
  have W:b∈A:=g;rcases(w b W).2.2.2.1 with z|z
  .exact I.ok.noex b o e z
  exact absurd (nv (jN e)<|jW I.ok.bsz z) (oS _)
 .obtain⟨q,j,P,hv⟩:=S.pre E i v x a h1;obtain⟨m,Z,R⟩:=I.loc;have T:=S.free (x,.free) (pv q) AT;obtain⟨u,r,l⟩:=R j x v P hv (by rcases T with z|z;exact .inr<|.inl z;exact .inr<|.inr z);refine⟨u,r,.inr ⟨nR q,?_⟩⟩;rcases l with⟨Y',_⟩|⟨_,c,K,F⟩
  .have M:X.env.scope.names.lookup x=z8 .local:=Y';rcases T with z|z<;>(have s:X.env.scope.names.lookup x=_:=z;rw[M]at s;cases s)
  obtain⟨U,G⟩:=B.all x<|.inl<|pv q;rcases B.one x U G with⟨this,_⟩|⟨_,z,_⟩
  .rw[K]at this;cases this;exact⟨c,G,F.keeps hk⟩
  rw[q]at z;cases z
 .rcases B.one x c h with⟨z,_⟩|⟨_,_,z⟩
  .obtain⟨v,hv⟩:=I.cell x c z;exact⟨v,hv.keeps hk⟩
  exact⟨_,z⟩
 .rcases B.ex x c h with z|z
  .exact I.freeC x c z
  exact I.hok.fresh (vB z)
 have N:p∈X.pn++d:=by simpa[Cx.comp]using V
 obtain⟨e,n,h1,a,Q⟩:=I.pin p N;exact⟨hk _ _ e,n,jB<|jN e,L _ h1 a,Q⟩
def EW{q:iA}{scope:iJ}{a:iN}{f g:gM}{n k:St}{i l:Hp}{j:km}{cl:jq}{m:ip}(T:Inv X a n i f)(h:∀b∈j,tV X a i b)
  (Q:Inv (X.comp q scope cl f.heap.objs.size f i j a) [] k l g)(s:aG f.heap.objs.size g.heap m):Inv X a n l {g with heap:=m}:=by
 have K:=T.LF (s':=g) (ch:=j) Q.os Q.base Q.hok Q.bare λb d=>⟨(h b d).2.2.2.1,(h b d).2.1,(h b d).2.2.2.2.1,(h b d).2.2.2.2.2⟩
 have GX:X.env.locals<f.heap.objs.size:=T.lt;refine K.turned (it:=f.heap.objs.size) (t':=g.toks) (λb o d e=>by rw[s.2 b d];exact e) Q.free (rm GX) (.inr T.sz) (λx c t z=>?_) λp r z=>?_
 .obtain⟨v,o,e,_⟩:=T.cell x c t;exact absurd (jN e) (by rw[z];exact oS _)
 obtain⟨e,_⟩:=T.pin p r;exact absurd (jN e) (by rw[z];exact oS _)
def DV(o:HO)(O:It)(g:TG)(b:TT)(tb:gJ->TB)(pre:St->St)(c:St)(T:Hp)(Q:VK):Prop:=
 ∀d,T d=U->HK O g b (tb d) (pre c) (upd T d o) λ_ a=>Q (.ref d) a
def ZY(O:It)(g:TG)(a:TT)(tb:gJ->TB)(pre:St->St)(b:St)(T:Hp)(Q:VK):Prop:=DV (.lst []) O g a tb pre b T Q
def BG{e:gX}{o:HO}{l:el}{c:nI}{s:nJ}{scope:iJ}{v:iA}{pre:St->St}{g:TG}{ti:TT}{tb:gJ->TB}{N:jq}{J:It}{i:km}{it:gJ}{tn:Nat->ip->Prop}
  (hl:(∃U' k sc p,e=.ListComp U' k sc p)\/∃U' k sc p,e=.SetComp U' k sc p)(hg:bJ e=c::s)
  (S:AI X v scope pre)(hc:X.calm=At)(ha:c.is_async=0)(i7:∀L,s[0]?=z8 L->L.is_async=0)
  (l5:∀(cl:jq)(C:gJ)(t:gM)(u:Hp)(i:km)(a:iN),let I':=X.comp v scope cl C t u i a
   PG I' c.target g/\Hm I' c.ifs ti/\∀d,PB I' (iX e 0 (.ref d) I'.env)<|tb d)
  (i5:∀x c,N.lookup x=z8 c->X.env.cells.lookup x=z8 c)(i6:∀x,(x,aF)∈scope.names->∃c,N.lookup x=z8 c)
  {a:iN}{f:gM}{O:St}{m:Hp}{Q:VK}{E:iK}{RR:gU->gJ->gC->gM->Prop}(I2:Inv X a O m f)(T:Turn X.prog X.w X.K c.target J i it tn)(y8:tn 0 f.heap)(f2:∀b∈i,tV X a m b)
  (M:Inv X a O (upd m f.heap.objs.size o) {f with heap:=f.heap.push l})
  (h:DV o J g ti tb pre O m Q)
  (hRR:∀(d:gJ)(cl:jq)(t:gM)(u G:Hp)(σ':St)(s4:gM),Inv X a O u t->(∀b∈i,tV X a u b)->Inv (X.comp v scope cl t.heap.objs.size t u i a) [] σ' G s4->Q (.ref d) G->RR (.ref d) t.heap.objs.size (.ok .next) s4):
  aa (ag X.prog X.w) X.A (cX scope X.env.globals N [] X.env.qual U .none<|z8 X.env) (λn H'=>
   bO (ag X.prog X.w) X.A (.compStart e 0 (.ref it) (.ref f.heap.objs.size) {n with scope:=gk scope X.env}) (RR (.ref f.heap.objs.size) n.locals) H') E {f with heap:=f.heap.push l}:=by
 have P:∀b∈i,b<f.heap.objs.size:=λb j=>by obtain⟨o,e,_⟩:=T.obj _ _ y8 b j;exact jN e
 have D:∀b∈i,tV X a (upd m f.heap.objs.size o) b:=λb j=>⟨by rw[iL<|jB<|P b j];exact(f2 b j).1,(f2 b j).2⟩
 refine Q4 S.cell i5 i6 λh1 cl n8 cQ B=>?_;have hk:∀b o,(f.heap.push l).get? b=z8 o->h1.get? b=z8 o:=cQ;have Y:∀b∈i,b<(f.heap.push l).objs.size:=λb j=>by rw[oN];exact tZ<|P b j
 have J0:=RC (t':=f.toks) S M B D Y n8 hk;obtain⟨pg,aR,pb⟩:=l5 cl (f.heap.push l).objs.size {f with heap:=f.heap.push l} (upd m f.heap.objs.size o) i a;have y:tn 0 h1:=T.keep _ _ _ y8 λb j o e=>hk b o<|jz _ e;have hw:=h f.heap.objs.size<|I2.hok.fresh<|jh _
 have F:∀b∈i,tV (X.comp v scope cl (f.heap.push l).objs.size {f with heap:=f.heap.push l} (upd m f.heap.objs.size o) i a) []
   (upd m f.heap.objs.size o) b:=λb j=>by
  obtain⟨z1,z2,z3,z4,z5,z6⟩:=D b j;refine⟨z1,jB<|Y b j,λz=>(mP.mp<|M.Dt b z).elim z2 z3,.inl j,λx c hx=>(B.ex x c hx).elim (z5 x c) λz=>rm<|yY (Y b j) z,λp hp=>z6 p<|by simpa[Cx.comp]using hp⟩
 have R:(bJ e)[0]?=z8 c:=by rw[hg];rfl
 refine DZ hl R ha ?_ λQ' W hq=>T.self X.A 0 _ Q' W y hq
 refine oR (Il (X:=X.comp v scope cl (f.heap.push l).objs.size {f with heap:=f.heap.push l} (upd m f.heap.objs.size o) i a)
  (depth:=0) (acc:=.ref f.heap.objs.size) rfl hc hl R ha (λL V=>i7 L<|by rw[hg]at V;exact V) T pg aR (pb _) J0 F y hw) λr s4 hr=>?_
 obtain⟨rfl,σ4,G,Z,_,q⟩:=hr;exact hRR _ _ _ _ _ _ _ M D Z q
def Sf(d:TI)(g:TG)(c:TT)(tb:gJ->TB)(pre:St->St):TE:=λa T Q=>d a T λO b=>ZY O g c tb pre a b Q
def CN{o:HO}{e:gX}{new:c4 gU}{fp:bq}{c:nI}{i:nJ}{scope:iJ}{O:iA}{pre:St->St}{U:TI}{g:TG}{ti:TT}{tb:gJ->TB}
  (S:AI X O scope pre)(hc:X.calm=Y)(ha:c.is_async=0)(i7:∀G,i[0]?=J G->G.is_async=0)
  (hs:∀x,aq c.iter X.env x=pure x)(pi:PI X c.target c.iter U)
  (l5:∀(cl:jq)(C:gJ)(N:gM)(z:Hp)(fp:km)(a:iN),let l:=X.comp O scope cl C N z fp a
   PG l c.target g/\Hm l c.ifs ti/\∀d,PB l (iX e 0 (.ref d) l.env)<|tb d)
  (mk:∀(j:gM)(Q E:iK),(∀n,(∀H',VP X.prog X.w H' (j.heap.push n) j.heap.objs.size o)->Q (.ref j.heap.objs.size) {j with heap:=j.heap.push n})->aa (ag X.prog X.w) X.A new Q E j)
  (hl:(∃t f y p,e=.ListComp t f y p)\/∃t f y p,e=.SetComp t f y p)(M:bJ e=c::i:=by rfl)(hev:ba e X.env=v7 e scope X.env fp new (c.is_async !=0) (ba c.iter X.env)):
  PE X e (λk H' Q=>U k H' λJ' Y'=>DV o J' g ti tb pre k Y' Q):=by
 intro a s k H' Q I h;obtain⟨tg,P,u,K⟩:=c;obtain rfl:K=0:=ha;obtain⟨cl,k9,i5,i6⟩:=vg X.env scope λx hx hf=>I.ok.has x.1<|S.free x hx hf;rw[hev];refine Lh (use:=z9) (g:=⟨tg,P,u,0⟩) (gs:=i) M hs k9 S.kind S.names<|NR (pi a s k H' _ I h) λv s1 h1=>NR h1 λcH j Z=>?_;obtain⟨it,fp,tn,J',H2,rfl,B,T,y8,V,hw⟩:=Z;refine mk _ _ _ λn hS=>?_;refine BG (RR:=λr C=>compPost (ag X.prog X.w) X.A X.xe z9 (EP X a k Q) r C) hl M S hc AT i7 l5 i5 i6 B T y8 V (B.laid (t':=j.toks) (λb n q=>jz _ q) (jh _)<|hS _) hw λd R N z D σ' s4 F W L q=>?_;obtain⟨m,hn,_⟩:=id L.loc;exact⟨m,hn,λh' p9=>⟨.ref d,D,EW F W L p9,rfl,q⟩⟩
def Mu{j:gX}{c:nI}{f:nJ}{scope:iJ}{k f7 l:bq}{N':iA}{pre:St->St}{wi:TI}{g:TG}{ti:TT}{tb:gJ->TB}{y:av}{i:Nat}
  (cJ:ck (.ListComp j (c::f) scope k) (z8<|.Name y l) f7.line X.env=pure At)
  (S:AI X N' scope pre)(hc:X.calm=At)(ha:c.is_async=0)(i7:∀g',f[0]?=z8 g'->g'.is_async=0)
  (hs:∀x,aq c.iter X.env x=pure x)(pi:PI X c.target c.iter wi)(eM:PG X (.Name y l) (EJ i))
  (l5:∀(cl:jq)(C:gJ)(n:gM)(H3:Hp)(fp:km)(a:iN),let B:=X.comp N' scope cl C n H3 fp a
   PG B c.target g/\Hm B c.ifs ti/\∀d,PB B (iX (.ListComp j (c::f) scope k) 0 (.ref d) B.env)<|tb d):
  PS X (.Assign [.Name y l] (.ListComp j (c::f) scope k) f7) (T7 (Sf wi g ti tb pre)<|EJ i):=by
 intro a s L H D I h;obtain⟨Z,N,u,az⟩:=c;obtain rfl:az=0:=ha;obtain⟨cl,k9,i5,i6⟩:=vg X.env scope λx F hf=>I.ok.has x.1<|S.free x F hf;rw[exec_Assign_Name_used _ _ _ _ cJ];refine gL<|rO<|gL ?_;show aa _ X.A (do let _ <-v7 (.ListComp j (⟨Z,N,u,0⟩::f) scope k) scope X.env _ (nb []) AC (ba N X.env) (z8<|b5 (.Name y l) X.env)) _ _ s
 refine gL (mz (Lh (use:=z8<|b5 (.Name y l) X.env) (g:=⟨Z,N,u,0⟩) (gs:=f) (Q:=λ_ E=>SP X a D .next E) AT hs k9 S.kind S.names
  (NR (pi a s L H _ I h) λv s1 h1=>NR h1 λcH s2 h2=>?_)) (λ_ E hq=>hJ<|hJ hq) λ_ _ e=>e)
 obtain⟨it,fp,tn,J,H2,rfl,R,T,y8,f2,hw⟩:=h2;refine nu<|BG (RR:=λM C=>compPost (ag X.prog X.w) X.A X.xe (z8<|b5 (.Name y l) X.env) (λ_ E=>SP X a D .next E) M C) (.inl ⟨_,_,_,_,rfl⟩) AT S hc AT i7 l5 i5 i6 R T y8 f2 (R.Kp (t':=s2.toks) .nil<|by simp) hw λd cl' n H3 O σ' P r ff G q=>?_;obtain⟨m,hn,_⟩:=id G.loc;obtain⟨K,es,ep,ho,hd,hr⟩:=id hn;have V:Inv X a L O P:=EW r ff G (Ck ..);have t:n.heap.objs.size≠X.env.locals:=rm r.lt;have U:n.heap.objs.size∉X.fs:=λz=>r.Kk (jh _) z
 have IP:Inv X (a++[(n.heap.objs.size,K)]) L O P:=V.Dh λp Y=>by
  rcases nQ.mp Y with z|z
  .exact V.pin p (nO _ z)
  rcases Aw.mp z with rfl
  exact⟨ho,G.free,t,U,λv z=>by rw[hd]at z;cases z⟩
 show aa _ X.A (b5 (.Name y l) X.env<|.ref d) _ _ _;refine NR (eM _ P L O (.ref d) (.ref d) _ IP rfl q) ?_;rintro _ s5 ⟨σ5,H5,I5,q5⟩;have W:=I5.pin (n.heap.objs.size,K) (by simp);refine⟨m,⟨K,es,ep,W.1,hd,hr⟩,λh' p9=>⟨σ5,H5,?_,q5⟩⟩;refine I5.AG.turned (it:=n.heap.objs.size) (t':=s5.toks) (λb o hb e=>by rw[p9.2 b hb];exact e) W.2.1 t (.inr r.sz) (λx c F z=>?_) λp Y z=>?_
 .obtain⟨v,o,e,_⟩:=r.cell x c F;exact absurd (jN e) (by rw[z];exact oS _)
 obtain⟨e,_⟩:=r.pin p Y;exact absurd (jN e) (by rw[z];exact oS _)
end
end L2
namespace PX
open L2
inductive OK where
 |dct|set|fn(i:Nat)|exc(c:Nat)
 deriving DecidableEq
inductive D where
 |T2|bl(b:Bool)|int(i:Int)|str(x:av)|tup(l:List D)|lst(l:List D)|Sr(k:OK)(ks vs:List D)
mutual
noncomputable def D.hash:D->Int
 |.int i=>hashInt i
 |.tup l=>reduceHash<|bg<|D.CB l
 |_=>0
noncomputable def D.CB:List D->List Int
 |[]=>[]
 |d::l=>D.hash d::D.CB l
end
noncomputable def kT:Key->D
 |.inl i=>.int i
 |.inr x=>.str x
def aaZ(K:iz)(o:el)(T:Nat):Prop:=o.cls=.ref T/\(∀a:gJ,PySem.W.KitX K (.ref a) (.ref T) λh=>h.get? a=J o)/\∀n∈["int","bool","str","tuple","list","dict"],dg K (.ref T) (.type n)=J C
def AB(K:iz)(h:Option HO)(k:OK)(a c:List D)(b:List V):Prop:=
 match k with
 |.dct=>(∃kvs:List (Key×V),h=J (.dK kvs)/\a=kvs.map (λp=>kT p.1)/\b=kvs.map (·.2))\/
   (∃kvs:List (List Key×V),h=J (.dT kvs)/\a=kvs.map (λp=>.tup (p.1.map kT))/\b=kvs.map (·.2))
 |.set=>a=[]/\∃d:List (Int×V),h=J (.W2 d)/\d.Perm ((D.CB c).zip b)
 |.exc T=>(a=[]/\c=[]/\b=[])/\∃o,h=J (.AJ o<|.own 0)/\aaZ K o T
 |_=>False
def AB.ex{K h k a vs us}(x:AB K h k a vs us):∃o,h=J o:=by
 cases k with
 |dct=>rcases x with⟨_,e,_⟩|⟨_,e,_⟩<;>exact⟨_,e⟩
 |set=>obtain⟨_,_,e,_⟩:=x;exact⟨_,e⟩
 |exc T=>obtain⟨_,_,e,_⟩:=x;exact⟨_,e⟩
 |_=>exact x.elim
def AB.keep{K k a b us}(x:AB K h k a b us)(kp:∀o,h=J o->h'=J o):AB K h' k a b us:=by obtain⟨o,e⟩:=x.ex;rw[kp o e,<-e];exact x
abbrev SI:=gJ->Prop
def adY(K:iz)(a:gJ)(c:List V):Prop:= ∃(o:el)(b:mS)(n:Nat),K.lookup a=J o/\o.cls=.type "list"/\o.dict=U/\o.data=.seq b n/\b.size<=sizeLine/\Vals c b.toList
def Dy(K:iz)(T:Hp)(O:SI)(a:gJ)(b:List V):Prop:=T a=J (.tup b)/\¬O a
def Dz(K:iz)(T:Hp)(O:SI)(a:gJ)(b:List V):Prop:=(Rd T a (.lst b)/\¬O a)\/adY K a b
def Dy.sq{K T O a xs}(h:Dy K T O a xs):Ek K T a xs:=.inl (.inl h.1)
def Dz.sq{K T O a xs}(h:Dz K T O a xs):CU K T a xs:=h.elim (λz=>.inl z.1) .inr
def Rd.mono{a u}(h:Rd T a u)(k:∀o,T a=J o->H' a=J o):Rd H' a u:=by
 rcases h with h|⟨o,h⟩
 .exact .inl (k _ h)
 exact .inr ⟨o,k _ h⟩
def Dy.mono{K T H'}{a xs}(h:Dy K T O a xs)(k:∀b o,T b=J o->¬O b->H' b=J o)(c:∀b,T b≠U->O' b->O b):Dy K H' O' a xs:=
 ⟨k a _ h.1 h.2,λz=>h.2<|c a (by rw[h.1];simp) z⟩
def Dz.mono{K T H'}{a xs}(h:Dz K T O a xs)(k:∀b o,T b=J o->¬O b->H' b=J o)(c:∀b,T b≠U->O' b->O b):Dz K H' O' a xs:=by
 rcases h with⟨r,n⟩|h
 .refine .inl ⟨Rd.mono r λo e=>k a o e n,λz=>n<|c a ?_ z⟩;rcases r with r|⟨_,r⟩<;>(rw[r];simp)
 exact .inr h
inductive JP(S:gJ->List V->Prop)(R:List V->Prop)(v:V):Prop where
 |mk (a:gJ) (xs:List V) (_:v=.ref a) (_:S a xs) (_:R xs)
inductive MmI{α β:Type}(l:List α)(f:α->β)(b:β):Prop where
 |mk (a:α) (_:a∈l) (_:f a=b)
def ie{c d:Type}{l:List c}{f:c->d}{b:d}(h:b∈l.map f):MmI l f b:=let⟨a,x,y⟩:=rp.mp h;⟨a,x,y⟩
mutual
def Rep(K:iz)(T:Hp)(O:SI):D->V->Prop
 |.T2,v=>v=.T2
 |.bl b,v=>v=.bl b
 |.int i,v=>v=.int i
 |.str x,v=>v=.str x
 |.tup l,v=>JP (Dy K T O) (YP K T O l) v
 |.lst l,v=>JP (Dz K T O) (YP K T O l) v
 |.Sr k d c,v=>JP (λa e=>¬O a/\AB K (T a) k d c e) (YP K T O c) v
def YP(K:iz)(T:Hp)(O:SI):List D->List V->Prop
 |[],a=>a=[]
 |d::l,a=>∃v r,a=v::r/\Rep K T O d v/\YP K T O l r
end
mutual
theorem Rep.mono{K T H'}{O O':SI}(k:∀b o,T b=J o->¬O b->H' b=J o)(c:∀b,T b≠U->O' b->O b):∀{d:D}{v:V},Rep K T O d v->Rep K H' O' d v
 |.T2,_,h=>h
 |.bl _,_,h=>h
 |.int _,_,h=>h
 |.str _,_,h=>h
 |.tup l,_,h=>by rw[Rep]at h ⊢;obtain⟨a,f,e,s,r⟩:=h;exact⟨a,f,e,s.mono k c,YP.mono k c r⟩
 |.lst l,_,h=>by rw[Rep]at h ⊢;obtain⟨a,f,e,s,r⟩:=h;exact⟨a,f,e,s.mono k c,YP.mono k c r⟩
 |.Sr i j m,_,h=>by rw[Rep]at h ⊢;obtain⟨a,g,e,s,r⟩:=h;exact⟨a,g,e,⟨λz=>s.1<|c a (by obtain⟨o,q⟩:=s.2.ex;rw[q];simp) z,s.2.keep λo q=>k a o q s.1⟩,YP.mono k c r⟩
theorem YP.mono{K T H'}{O O':SI}(k:∀b o,T b=J o->¬O b->H' b=J o)(a:∀b,T b≠U->O' b->O b):∀{l:List D}{c:List V},YP K T O l c->YP K H' O' l c
 |[],_,h=>h
 |d::l,_,h=>by rw[YP]at h ⊢;obtain⟨v,r,e,h1,f⟩:=h;exact⟨v,r,e,Rep.mono k a h1,YP.mono k a f⟩
end
def Rep.mkInt{K T O i}:Rep K T O (.int i) (.int i):=by rw[Rep]
def Rep.Hh{K T O i}:Rep K T O (.bl i) (.bl i):=by rw[Rep]
def Rep.GC{K T O}:Rep K T O .T2 .T2:=by rw[Rep]
def Rep.mkStr{K T O i}:Rep K T O (.str i) (.str i):=by rw[Rep]
def Rep.int{K T O i v}(h:Rep K T O (.int i) v):v=.int i:=by rwa [Rep]at h
def Rep.bl{K T O i v}(h:Rep K T O (.bl i) v):v=.bl i:=by rwa [Rep]at h
def Rep.T2{K T O v}(h:Rep K T O .T2 v):v=.T2:=by rwa [Rep]at h
def Rep.str{K T O i v}(h:Rep K T O (.str i) v):v=.str i:=by rwa [Rep]at h
def Rep.tup{K T O l v}(h:Rep K T O (.tup l) v):JP (Dy K T O) (YP K T O l) v:=by rwa [Rep]at h
def Rep.lst{K T O l v}(h:Rep K T O (.lst l) v):JP (Dz K T O) (YP K T O l) v:=by rwa [Rep]at h
def Rep.Sr{K T O k c b v}(h:Rep K T O (.Sr k c b) v):JP (λa d=>¬O a/\AB K (T a) k c b d) (YP K T O b) v:=by rwa [Rep]at h
def Rep.Km{K T O k c b a us}(n: ¬O a)(h:AB K (T a) k c b us)(r:YP K T O b us):Rep K T O (.Sr k c b) (.ref a):=by rw[Rep];exact⟨a,us,rfl,⟨n,h⟩,r⟩
def Rep.J9{K T O l a xs}(h:Dy K T O a xs)(r:YP K T O l xs):Rep K T O (.tup l) (.ref a):=by rw[Rep];exact⟨a,xs,rfl,h,r⟩
def Rep.Kn{K T O l a xs}(h:Dz K T O a xs)(r:YP K T O l xs):Rep K T O (.lst l) (.ref a):=by rw[Rep];exact⟨a,xs,rfl,h,r⟩
theorem YP.length{K T O}:∀{l:List D}{vs:List V},YP K T O l vs->A1 vs=A1 l
 |[],vs,h=>by rw[YP]at h;rw[h];rfl
 |d::l,vs,h=>by rw[YP]at h;obtain⟨v,r,rfl,_,a⟩:=h;simp[YP.length a]
inductive GtI(vs:List V)(i:Nat)(P:V->Prop):Prop where
 |mk (v:V) (_:vs[i]?=z8 v) (_:P v)
theorem YP.get{K T O}:∀{l:List D}{a:List V}{i:Nat}{d:D},YP K T O l a->l[i]?=J d->GtI a i (Rep K T O d)
 |[],_,_,_,_,e=>by simp at e
 |d::l,a,0,b,h,e=>by rw[YP]at h;obtain⟨v,r,rfl,h1,_⟩:=h;simp at e;subst e;exact⟨v,rfl,h1⟩
 |d::l,a,i+1,b,h,e=>by rw[YP]at h;obtain⟨v,r,rfl,_,c⟩:=h;obtain⟨w,f,g⟩:=YP.get (i:=i) c (by simpa using e);exact⟨w,by simpa using f,g⟩
def YP.append{K T O}:∀{l m:List D}{a c:List V},YP K T O l a->YP K T O m c->YP K T O (l++m) (a++c):=by
 intro g
 induction g with
 |nil=>intro _ a _ h b;rw[YP]at h;subst h;exact b
 |cons d l f=>intro _ a _ h b;rw[YP]at h;obtain⟨v,r,rfl,h1,e⟩:=h;show YP K T O (d::(l++_)) _;rw[YP];exact⟨v,_,rfl,h1,f e b⟩
def YP.one{K T O}{d:D}{v:V}(h:Rep K T O d v):YP K T O [d] [v]:=by rw[YP];exact⟨v,[],rfl,h,by rw[YP]⟩
def YP.nil{K T O}:YP K T O [] []:=by rw[YP]
def YP.cons{K T O}{l vs}(h:Rep K T O d v)(h':YP K T O l vs):YP K T O (d::l) (v::vs):=by rw[YP];exact⟨v,vs,rfl,h,h'⟩
theorem YP.take{K T O}:∀{l:List D}{vs:List V}(n:Nat),YP K T O l vs->YP K T O (l.take n) (vs.take n)
 |_,_,0,_=>by simp[YP]
 |[],vs,n+1,h=>by rw[YP]at h;subst h;simp[YP]
 |d::l,vs,n+1,h=>by rw[YP]at h;obtain⟨v,r,rfl,h1,a⟩:=h;exact YP.cons h1<|YP.take n a
theorem YP.drop{K T O}:∀{l:List D}{a:List V}(n:Nat),YP K T O l a->YP K T O (l.drop n) (a.drop n)
 |_,_,0,h=>h
 |[],a,n+1,h=>by rw[YP]at h;subst h;simp[YP]
 |d::l,a,n+1,h=>by rw[YP]at h;obtain⟨v,r,rfl,h1,b⟩:=h;exact YP.drop n b
theorem YP.set{K T O}{d:D}{v:V}(hv:Rep K T O d v):∀{l:List D}{vs:List V}(i:Nat),YP K T O l vs->YP K T O (l.set i d) (vs.set i v)
 |[],vs,i,h=>by rw[YP]at h;subst h;simp[YP]
 |e::l,vs,0,h=>by rw[YP]at h;obtain⟨w,r,rfl,h1,a⟩:=h;exact YP.cons hv a
 |e::l,vs,i+1,h=>by rw[YP]at h;obtain⟨w,r,rfl,h1,a⟩:=h;exact YP.cons h1<|YP.set hv i a
abbrev Sl:=Option<|D×Bool
abbrev Dn:=List Sl
def X0(b:L2.St)(δ:Dn)(a:gJ):Prop:= ∃(i:Nat)(d:D),δ[i]?=J (J (d,Y))/\b[i]?=J (J<|V.ref a)
def A4(K:iz)(T:Hp)(O:SI):D->gJ->Prop
 |.lst l,a=>∃d,T a=J (.lst d)/\YP K T O l d
 |.Sr k e c,a=>∃b,AB K (T a) k e c b/\YP K T O c b
 |_,_=>False
def A4.mono{K T H'}(h:A4 K T O d a)(k:∀b o,T b=J o->¬O b->H' b=J o)(c:∀b,T b≠U->O' b->O b)(f:∀o,T a=J o->H' a=J o):A4 K H' O' d a:=by
 cases d with
 |lst l=>obtain⟨i,e,r⟩:=h;exact⟨i,f _ e,YP.mono k c r⟩
 |Sr j m n=>obtain⟨g,e,r⟩:=h;exact⟨g,e.keep f,YP.mono k c r⟩
 |_=>exact h
def A4.rep{K T}(h:A4 K T O d a)(f: ¬O' a)(c:∀b,T b≠U->O' b->O b):Rep K T O' d (.ref a):=by
 cases d with
 |lst l=>obtain⟨g,e,r⟩:=h;rw[Rep];exact⟨a,g,rfl,.inl ⟨.inl e,f⟩,YP.mono (λb o e _=>e) c r⟩
 |Sr i j m=>obtain⟨k,e,r⟩:=h;exact Rep.Km f e<|YP.mono (λb o e _=>e) c r
 |_=>exact h.elim
def Ow:Option HO->Prop
 |none=>False
 |some (.tup _)=>False
 |_=>True
def Ow.ne{o:Option HO}(h:Ow o):o≠U:=λe=>by rw[e]at h;exact h
def Ow.up{o a:Option HO}(h:Ow o)(k:∀x,o=J x->a=J x):Ow a:=by
 cases o with
 |none=>exact h.elim
 |some x=>rw[k x I];exact h
def Kl{o:Option HO}(h:o=U): ¬Ow o:=λz=>z.ne h
def A4.ow{K T}{O:SI}{d:D}{a:gJ}(h:A4 K T O d a):Ow (T a):=by
 cases d with
 |lst l=>obtain⟨g,e,_⟩:=h;rw[e];trivial
 |Sr k b f=>
  obtain⟨c,e,_⟩:=h
  cases k with
  |dct=>rcases e with⟨_,e,_⟩|⟨_,e,_⟩<;>(rw[e];trivial)
  |set=>obtain⟨_,_,e,_⟩:=e;rw[e];trivial
  |exc Q=>obtain⟨_,_,e,_⟩:=e;rw[e];trivial
  |_=>exact e.elim
 |_=>exact h.elim
inductive AtV(σ:L2.St)(i:Nat)(P:V->Prop):Prop where
 |mk (v:V) (_:σ[i]?=z8 (z8 v)) (_:P v)
inductive AtA(σ:L2.St)(i:Nat)(P:gJ->Prop):Prop where
 |mk (a:gJ) (_:σ[i]?=z8 (z8<|V.ref a)) (_:P a)
structure ER(K:iz)(H:Hp)(T:SI)(σ:L2.St)(δ:Dn):Prop where
 len:(A1 σ)=A1 δ
 val:∀(i:Nat)(d:D),δ[i]?=z8 (z8 (d,AC))->AtV σ i (Rep K H (λa=>X0 σ δ a\/T a) d)
 own:∀(i:Nat)(d:D),δ[i]?=z8 (z8 (d,At))->AtA σ i (A4 K H (λa=>X0 σ δ a\/T a) d)
 inj:∀(i j:Nat)(d e:D)(a:gJ),δ[i]?=z8 (z8 (d,At))->δ[j]?=z8 (z8 (e,At))->σ[i]?=z8 (z8<|V.ref a)->σ[j]?=z8 (z8<|V.ref a)->i=j
 nT:∀a,X0 σ δ a->¬T a
 dom:∀a,T a->Ow (H a)
def ER.Hb{K Q T σ e}(E:ER K Q T σ e)(h:X0 σ e a):Ow (Q a):=by obtain⟨i,d,h1,f⟩:=h;obtain⟨b,c,g⟩:=E.own i d h1;rw[f]at c;cases c;exact g.ow
def ER.GG{K Q T σ δ}(E:ER K Q T σ δ)(h:X0 σ δ a):Q a≠U:=(E.Hb h).ne
def ER.mono{K Q H' σ δ}(E:ER K Q T σ δ)(k:∀b o,Q b=J o->¬T b->H' b=J o)(f:∀b,Q b≠U->T' b->T b)(hd:∀a,T' a->Ow (H' a)):ER K H' T' σ δ where
 len:=E.len
 val:=λi d h=>by obtain⟨v,h1,c⟩:=E.val i d h;exact⟨v,h1,Rep.mono (λb o e n=>k b o e λz=>n<|.inr z) (λb g z=>z.elim .inl λz=>.inr (f b g z)) c⟩
 own:=λi d h=>by obtain⟨a,h1,c⟩:=E.own i d h;exact⟨a,h1,c.mono (λb o e n=>k b o e λz=>n<|.inr z) (λb g z=>z.elim .inl λz=>.inr (f b g z)) λo e=>k a o e<|E.nT a ⟨i,d,h,h1⟩⟩
 inj:=E.inj
 nT:=λa h z=>E.nT a h<|f a (E.GG h) z
 dom:=hd
def X0.set(h:X0 σ (δ.set i<|J (d,C)) a):X0 σ δ a:=by
 obtain⟨j,e,h1,b⟩:=h;rw[wQ]at h1;split at h1
 .split at h1<;>simp at h1
 exact⟨j,e,h1,b⟩
def ER.freeze{K Q T σ m}(E:ER K Q T σ m){i:Nat}{d:D}{b:Bool}(h:m[i]?=J (J (d,b))):ER K Q T σ (m.set i<|J (d,C))/\AtV σ i (Rep K Q (λa=>X0 σ (m.set i<|J (d,C)) a\/T a) d):=by
 have o:i<(A1 m):=(ue.mp h).1
 have me:AtV σ i (Rep K Q (λa=>X0 σ (m.set i<|J (d,C)) a\/T a) d):=by
  cases b
  .obtain⟨v,h1,l⟩:=E.val i d h;exact⟨v,h1,Rep.mono (λ_ _ e _=>e) (λb _ z=>z.elim (λz=>.inl z.set) .inr) l⟩
  obtain⟨a,h1,l⟩:=E.own i d h;refine⟨.ref a,h1,l.rep (λz=>?_) λb _ z=>z.elim (λz=>.inl z.set) .inr⟩;rcases z with⟨j,e,n,q⟩|z
  .rw[wQ]at n;split at n
   .first
     |(split at n<;>simp at n)
     |simp at n
   rename_i p;exact p<|E.inj i j d e a h n h1 q
  exact E.nT a ⟨i,d,h,h1⟩ z
 refine⟨⟨by rw[ud];exact E.len,λj e c=>?_,λj e c=>?_,λj k e f a c hk h1 l=>?_,λa z=>E.nT a z.set,E.dom⟩,me⟩
 .by_cases g:i=j
  .subst g;rw[pz o]at c;cases c;exact me
  rw[lC g]at c;obtain⟨v,h1,l⟩:=E.val j e c;exact⟨v,h1,Rep.mono (λ_ _ e _=>e) (λb _ z=>z.elim (λz=>.inl z.set) .inr) l⟩
 .by_cases g:i=j
  .subst g;rw[pz o]at c;cases c
  rw[lC g]at c;obtain⟨a,h1,l⟩:=E.own j e c;exact⟨a,h1,l.mono (λ_ _ e _=>e) (λb _ z=>z.elim (λz=>.inl z.set) .inr) λ_ e=>e⟩
 have g1:m[j]?=J (J (e,Y)):=by
  by_cases g:i=j
  .subst g;rw[pz o]at c;cases c
  rwa [lC g]at c
 have g2:m[k]?=J (J (f,Y)):=by
  by_cases g:i=k
  .subst g;rw[pz o]at hk;cases hk
  rwa [lC g]at hk
 exact E.inj j k e f a g1 g2 h1 l
def OO(b:L2.St)(δ:Dn)(i:Nat)(a:gJ):Prop:= ∃d:D,δ[i]?=J (J (d,Y))/\b[i]?=J (J<|V.ref a)
structure I8(σ:L2.St)(δ:Dn)(H:Hp)(δ':Dn)(H':Hp):Prop where
 kp:∀a o,H a=z8 o->¬X0 σ δ a->H' a=z8 o
 owi:∀i a,OO σ δ' i a->OO σ δ i a
 dm:∀a,H a≠z9->H' a≠z9
def I8.ow{σ c T b f}(k:I8 σ c T b f)(a:gJ)(h:X0 σ b a):X0 σ c a:=by obtain⟨i,d,h1,g⟩:=h;obtain⟨e,j,l⟩:=k.owi i a ⟨d,h1,g⟩;exact⟨i,e,j,l⟩
def I8.refl{σ a T}:I8 σ a T a T:=⟨λ_ _ e _=>e,λ_ _ z=>z,λ_ z=>z⟩
def I8.trans{σ δ δ1 δ2 T H1 b}(x:I8 σ δ T δ1 H1)(y:I8 σ δ1 H1 δ2 b):I8 σ δ T δ2 b:=
 ⟨λa o e n=>y.kp a o (x.kp a o e n) λz=>n<|x.ow a z,λi a z=>x.owi i a<|y.owi i a z,λa z=>y.dm a<|x.dm a z⟩
def I8.ext{σ b T H1}(k:∀a o,T a=J o->H1 a=J o):I8 σ b T b H1:=⟨λa o e _=>k a o e,λ_ _ z=>z,λa z=>by
 cases h:T a with
 |none=>exact absurd h z
 |some o=>rw[k a o h];simp⟩
def OO.set(h:OO σ (δ.set i<|J (d,C)) j a):OO σ δ j a:=by
 obtain⟨e,h1,b⟩:=h;rw[wQ]at h1;split at h1
 .split at h1<;>simp at h1
 exact⟨e,h1,b⟩
def I8.set{σ δ T i d}:I8 σ δ T (δ.set i<|J (d,C)) T:=⟨λ_ _ e _=>e,λ_ _ z=>z.set,λ_ z=>z⟩
def Ls(K:iz)(T:SI)(c:L2.St)(e:Dn)(Q:Hp)(r:D×Bool)(b:Dn)(v:V)(H':Hp):Prop:=
 I8 c e Q b H'/\
 match r with
 |(d,C)=>ER K H' T c b/\Rep K H' (λa=>X0 c b a\/T a) d v
 |(d,Y)=>∃p,v=.ref p/\Q p=U/\ER K H' (λa=>T a\/a=p) c b/\A4 K H' (λa=>X0 c b a\/T a\/a=p) d p
abbrev F:=Dn->Option ((D×Bool)×Dn)
inductive tF(K:iz)(f:F)(σ:L2.St)(H:Hp)(Q:VK):Prop where
 |mk (δ:Dn) (T:SI) (r:D×Bool) (δ':Dn) (_:ER K H T σ δ) (_:f δ=z8 (r,δ')) (_:∀v H',Ls K T σ δ H r δ' v H'->Q v H')
def PX(X:Cx)(e:gX)(f:F):Prop:=PE X e<|tF X.K f
noncomputable def JY(T:SI)(r:D×Bool)(v:V):SI:=λa=>T a\/(r.2=Y/\v=.ref a)
section
variable {K:iz}{T:SI}{c:L2.St}{δ δ1 δ2:Dn}{H f g:Hp}{x y:D×Bool}{v u:V}
def Ls.er(E:ER K H T c δ)(P:Ls K T c δ H x δ1 v f):ER K f (JY T x v) c δ1:=by
 obtain⟨d,b⟩:=x
 cases b
 .refine P.2.1.mono (λ_ _ e _=>e) (λb _ z=>z.elim id λz=>absurd z.1<|by simp) λa z=>?_;rcases z with z|z
  .exact P.2.1.dom a z
  exact absurd z.1 (by simp)
 obtain⟨p,rfl,i,h,j⟩:=P.2;refine h.mono (λ_ _ e _=>e) (λb _ z=>z.elim .inl λz=>.inr (by have:=z.2;cases this;rfl)) λa z=>?_;rcases z with z|z
 .exact h.dom a (.inl z)
 have:=z.2;cases this;exact h.dom _ (.inr I)
def Ls.rep(E:ER K H T c δ)(P:Ls K T c δ H x δ1 v f):ER K f T c δ1/\Rep K f (λa=>X0 c δ1 a\/T a) x.1 v:=by
 obtain⟨d,b⟩:=x
 cases b
 .exact P.2
 obtain⟨p,rfl,i,h,j⟩:=P.2;refine⟨h.mono (λ_ _ e _=>e) (λb _ z=>.inl z) λa z=>h.dom a<|.inl z,j.rep (λz=>?_) λb _ z=>z.elim .inl λz=>.inr (.inl z)⟩;rcases z with z|z
 .exact h.nT p z (.inr I)
 exact(E.dom p z).ne i
def Ls.val(k:I8 c δ H δ2 g)(E:ER K g T c δ2)(r:Rep K g (λa=>X0 c δ2 a\/T a) d w):Ls K T c δ H (d,C) δ2 w g:=⟨k,E,r⟩
end
def iD{e f:Type}{a c:e}{b d:f}(h:J (a,b)=J (c,d)):a=c/\b=d:=by cases h;exact⟨rfl,rfl⟩
noncomputable def fC(d:D):F:=λa=>J ((d,C),a)
noncomputable def jI(i:Nat):F:=λδ=>match δ[i]? with
 |some (J (d,_))=>J ((d,C),δ.set i<|J (d,C))
 |_=>U
section
variable {X:Cx}{a b c:gX}{d:bq}{m l g:F}
def PX.imp(h:PE X e t)(k:∀j T Q,tF X.K f j T Q->t j T Q):PX X e f:=λi s j T Q O n=>h i s j T Q O<|k j T Q n
def Ya{i j}:PX X (.Constant (.bool i) j d) (fC<|.bl i):=PX.imp Yf λo O Q h=>by obtain⟨n,T,r,f,E,e,k⟩:=h;cases e;exact k _ _ (Ls.val .refl E (by first|exact Rep.mkInt|exact Rep.Hh|exact Rep.GC|exact Rep.mkStr))
end
inductive F2 where
 |val(r:D×Bool)|slot(i:Nat)
noncomputable def res(δ:Dn):F2->Option D
 |.val r=>J r.1
 |.slot i=>match δ[i]? with
  |some (J (d,_))=>J d
  |_=>U
def jv(K:iz)(T:Hp)(O:SI)(d:D)(v:V):Prop:=Rep K T O d v\/∃a,v=.ref a/\A4 K T O d a
abbrev FO:=Dn->Option (F2×Dn)
def Af(K:iz)(T:SI)(b:L2.St)(c:Dn)(Q:Hp)(o:F2)(a:Dn)(v:V)(H':Hp):Prop:=
 match o with
 |.val r=>Ls K T b c Q r a v H'
 |.slot i=>I8 b c Q a H'/\ER K H' T b a/\b[i]?=J (J v)
def A6(T:SI)(o:F2)(v:V):SI:=match o with
 |.val r=>JY T r v
 |.slot _=>T
inductive tO(K:iz)(f:FO)(σ:L2.St)(H:Hp)(Q:VK):Prop where
 |mk (δ:Dn) (T:SI) (o:F2) (δ':Dn) (_:ER K H T σ δ) (_:f δ=z8 (o,δ')) (_:∀v H',Af K T σ δ H o δ' v H'->Q v H')
def PO(X:Cx)(e:gX)(f:FO):Prop:=PE X e<|tO X.K f
noncomputable def hG(f:F):FO:=λδ=>(f δ).bind λp=>J (.val p.1,p.2)
noncomputable def gK(i:Nat):FO:=λδ=>match δ[i]? with
 |some (J _)=>J (.slot i,δ)
 |_=>U
def PE.imp'(h:PE X e t)(k:∀b T Q,d b T Q->t b T Q):PE X e d:=λa s b T Q O c=>h a s b T Q O<|k b T Q c
section
variable {X:Cx}{a:bq}
def PX.po(h:PX X e f):PO X e (hG f):=PE.imp' h λj O Q g=>by
 obtain⟨c,T,o,i,E,e,k⟩:=g;unfold hG at e
 cases h1:f c with
 |none=>rw[h1]at e;cases e
 |some p=>obtain⟨r,b⟩:=p;rw[h1]at e;obtain⟨rfl,rfl⟩:=iD e;exact⟨c,T,r,b,E,h1,λv d P=>k v d P⟩
end
structure Ops(K:iz)(T:SI)(σ:L2.St)(δ:Dn)(H:Hp)(os:List F2)(vs:List V)(δ':Dn)(H':Hp)(T':SI):Prop where
 len:os.length=A1 vs
 keep:I8 σ δ H δ' H'
 er:ER K H' T' σ δ'
 tt:∀a,T a->T' a
 val:∀(j:Nat)(d:D)(v:V),os[j]?=z8 (.val (d,AC))->vs[j]?=z8 v->Rep K H' (λa=>X0 σ δ' a\/T a) d v
 tmp:∀(j:Nat)(d:D)(v:V),os[j]?=z8 (.val (d,At))->vs[j]?=z8 v->∃p,v=.ref p/\T' p/\H p=z9/\A4 K H' (λa=>X0 σ δ' a\/T a) d p
 slt:∀(j i:Nat)(v:V),os[j]?=z8 (.slot i)->vs[j]?=z8 v->σ[i]?=z8 (z8 v)
section
variable {K:iz}{T T':SI}{b:L2.St}{δ a c:Dn}{H H' e:Hp}{os:List F2}{vs:List V}{o:F2}{v:V}
def Ops.nil(E:ER K H T b δ):Ops K T b δ H [] [] δ H T:=⟨rfl,.refl,E,λ_ z=>z,λj d v h=>by simp at h,λj d v h=>by simp at h,λj i v h=>by simp at h⟩
def Af.keep(P:Af K T b δ H o a v H'):I8 b δ H a H':=by
 cases o with
 |val r=>exact P.1
 |slot i=>exact P.1
def Af.er(E:ER K H T b δ)(P:Af K T b δ H o a v H'):ER K H' (A6 T o v) b a:=by
 cases o with
 |val r=>exact Ls.er E P
 |slot i=>exact P.2.1
end
def Gen(K:iz)(T:Hp)(O:SI)(z:D×Bool)(Q:VK):Prop:=
 match z with
 |(d,C)=>∀w b,(∀a o,T a=J o->b a=J o)->Rep K b O d w->Q w b
 |(d,Y)=>∀p b,T p=U->(∀a o,T a=J o->b a=J o)->A4 K b (λa=>O a\/a=p) d p->Q (.ref p) b
section
variable {K:iz}{T m:SI}{f:L2.St}{δ δ1 c δ2:Dn}{H s H' h:Hp}{os:List F2}{vs:List V}{o:F2}{v:V}{z:D×Bool}{Q:VK}
def Ops.cons(E:ER K H T f δ)(P:Af K T f δ H o δ1 v s)(B:Ops K (A6 T o v) f δ1 s os vs δ2 h m):Ops K T f δ H (o::os) (v::vs) δ2 h m:=by
 have A:=P.er E;have x:=B.keep.kp;have y:=B.keep.ow
 have t:∀a,T a->A6 T o v a:=λa z=>by
  cases o with
  |val r=>exact .inl z
  |slot i=>exact z
 refine⟨by simp[B.len],P.keep.trans B.keep,B.er,λa z=>B.tt a<|t a z,λj d w h1 g=>?_,λj d w h1 g=>?_,λj i w h1 g=>?_⟩
 .cases j with
  |zero=>simp at h1 g;subst h1;subst g;have q:Ls K T f δ H (d,C) δ1 v s:=P;exact Rep.mono (λb k e n=>x b k e λz=>n<|.inl z) (λb _ z=>z.elim (λz=>aT<|y b z) bp) (q.rep E).2
  |succ j=>exact Rep.mono (λ_ _ e _=>e) (λb _ z=>z.elim aT λz=>bp<|t b z)<|B.val j d w (by simpa using h1) (by simpa using g)
 .cases j with
  |zero=>simp at h1 g;subst h1;subst g;have q:Ls K T f δ H (d,Y) δ1 v s:=P;obtain⟨p,rfl,u,N,ok⟩:=q.2;have l:A6 T (.val (d,Y)) (V.ref p) p:=.inr ⟨rfl,rfl⟩;refine⟨p,rfl,B.tt p l,u,ok.mono (λb k e n=>x b k e λz=>n<|.inl z) (λb _ z=>z.elim (λz=>aT<|y b z) λz=>bp<|aT z) λk e=>x p k e λz=>A.nT p z l⟩
  |succ j=>
   obtain⟨p,rfl,l,u,ok⟩:=B.tmp j d w (by simpa using h1) (by simpa using g);refine⟨p,rfl,l,?_,ok.mono (λ_ _ e _=>e) (λb _ z=>z.elim aT λz=>bp<|t b z) λ_ e=>e⟩
   cases O:H p with
   |none=>rfl
   |some k=>exact absurd u<|P.keep.dm p (by rw[O];simp)
 cases j with
 |zero=>simp at h1 g;subst h1;subst g;exact P.2.2
 |succ j=>exact B.slt j i w (by simpa using h1) (by simpa using g)
def Ops.view(B:Ops K T f δ H os vs c H' m){j:Nat}{d:D}(h1:os[j]?=J o)(n:vs[j]?=J v)(g:res c o=J d):jv K H' (λa=>X0 f c a\/T a) d v:=by
 cases o with
 |val r=>
  obtain⟨e,b⟩:=r;have hd:e=d:=jZ g;subst hd
  cases b
  .exact .inl<|B.val j e v h1 n
  obtain⟨p,rfl,_,_,ok⟩:=B.tmp j e v h1 n;exact .inr ⟨p,rfl,ok⟩
 |slot i=>
  have u:=B.slt j i v h1 n;unfold res at g;dsimp only at g
  cases l:c[i]? with
  |none=>rw[l]at g;cases g
  |some q=>
   cases q with
   |none=>rw[l]at g;cases g
   |some p=>
    obtain⟨e,b⟩:=p;rw[l]at g;have hd:e=d:=jZ g;subst hd
    cases b
    .obtain⟨w,k,t⟩:=B.er.val i e l;rw[u]at k;cases k;exact .inl<|Rep.mono (λ_ _ e _=>e) (λb _ z=>z.elim aT λz=>bp<|B.tt b z) t
    obtain⟨a,k,t⟩:=B.er.own i e l;rw[u]at k;cases k;exact .inr ⟨a,rfl,t.mono (λ_ _ e _=>e) (λb _ z=>z.elim aT λz=>bp<|B.tt b z) λ_ e=>e⟩
def Ops.done(B:Ops K T f δ H os vs c H' m)(k:∀v h,Ls K T f δ H z c v h->Q v h):Gen K H' (λa=>X0 f c a\/T a) z Q:=by
 obtain⟨d,b⟩:=z;have i:∀{h:Hp},(∀a o,H' a=J o->h a=J o)->∀a,T a->Ow (h a):=λ{h} g a z=>(B.er.dom a<|B.tt a z).up<|g a
 cases b
 .intro w h g r;exact k w h ⟨B.keep.trans<|.ext g,B.er.mono (λb o e _=>g b o e) (λb _ z=>B.tt b z)<|i g,r⟩
 intro p h l g ok
 have j:H p=U:=by
  cases n:H p with
  |none=>rfl
  |some t=>exact absurd l<|B.keep.dm p (by rw[n];simp)
 refine k (.ref p) h ⟨B.keep.trans<|.ext g,p,rfl,j,B.er.mono (λb o e _=>g b o e) (λb q z=>z.elim (B.tt b) λz=>absurd (z▸l) q) λa z=>?_,ok.mono (λ_ _ e _=>e) (λb _ z=>?_) λ_ e=>e⟩
 .rcases z with z|z
  .exact i g a z
  subst z;exact ok.ow
 rcases z with z|z|z
 .exact aT (aT z)
 .exact aT (bp z)
 exact bp z
def Gen.int(g:Gen K H O (.int i,C) Q):Q (.int i) H:=g _ H (λ_ _ e=>e) Rep.mkInt
def Gen.bl(g:Gen K H O (.bl i,C) Q):Q (.bl i) H:=g _ H (λ_ _ e=>e) Rep.Hh
def lr{H:Hp}{p:gJ}{o:HO}(b:H p=U):∀a u,H a=J u->upd H p o a=J u:=λa u e=>by rw[iL (by intro z;subst z;rw[e]at b;cases b)];exact e
def Gen.lst{O:SI}{l:List D}{xs:List V}{p:gJ}(g:Gen K H O (.lst l,Y) Q)(a:H p=U)(r:YP K H O l xs):Q (.ref p) (upd H p<|.lst xs):=
 g p _ a (lr a) ⟨xs,iF,YP.mono (λb o e _=>lr a b o e) (λb d z=>z.elim id λz=>absurd (z▸a) d) r⟩
def Gen.tup(g:Gen K H O (.tup l,C) Q)(a:H p=U)(np: ¬O p)(r:YP K H O l xs):Q (.ref p) (upd H p<|.tup xs):=
 g _ _ (lr a) (Rep.J9 ⟨iF,np⟩<|YP.mono (λb o e _=>lr a b o e) (λb d z=>z) r)
def Ops.np(B:Ops K T f δ H os vs c H' m)(a: ¬Ow (H' p)): ¬(X0 f c p\/T p):=λz=>a<|z.elim (λz=>B.er.Hb z) λz=>B.er.dom p<|B.tt p z
end
def qh(g:D->Option (D×Bool))(a:FO):F:=λδ=>(a δ).bind λp=>(res p.2 p.1).bind λx=>(g x).bind λz=>J (z,p.2)
def il(g:D->D->Option (D×Bool))(a fb:FO):F:=λδ=>(a δ).bind λp=>(fb p.2).bind λq=>(res q.2 p.1).bind λx=>(res q.2 q.1).bind λy=>(g x y).bind λz=>J (z,q.2)
noncomputable def kD:List FO->Dn->Option (List F2×Dn)
 |[],δ=>J ([],δ)
 |f::fs,δ=>(f δ).bind λp=>(kD fs p.2).bind λq=>J (p.1::q.1,q.2)
def uP(a:Dn):List F2->Option (List D)
 |[]=>J []
 |o::os=>(res a o).bind λd=>(uP a os).bind λl=>J (d::l)
def iB(g:List D->Option (D×Bool))(fs:List FO):F:=λδ=>(kD fs δ).bind λp=>(uP p.2 p.1).bind λds=>(g ds).bind λz=>J (z,p.2)
inductive tA(K:iz)(fs:List FO)(σ:L2.St)(H:Hp)(Q:List V->Hp->Prop):Prop where
 |mk (δ:Dn) (T:SI) (os:List F2) (δ':Dn) (_:ER K H T σ δ) (_:kD fs δ=z8 (os,δ')) (_:∀vs H' T',Ops K T σ δ H os vs δ' H' T'->Q vs H')
section
variable {X:Cx}{e a b:gX}{es:jP}{fa fb:FO}{fs:List FO}{pos:bq}
inductive BndS{α β:Type}(x:Option α)(f:α->Option β)(b:β):Prop where
 |mk (a:α) (_:x=z8 a) (_:f a=z8 b)
inductive BndP{α β γ:Type}(x:Option (α×γ))(f:α×γ->Option β)(b:β):Prop where
 |mk (a:α) (c:γ) (_:x=z8 (a,c)) (_:f (a,c)=z8 b)
def gZ{c d g:Type}{x:Option (c×g)}{f:c×g->Option d}{b:d}(h:x.bind f=J b):BndP x f b:=by
 cases x with
 |none=>cases h
 |some a=>exact⟨a.1,a.2,rfl,h⟩
def gR{c d:Type}{x:Option c}{f:c->Option d}{b:d}(h:x.bind f=J b):BndS x f b:=by
 cases x with
 |none=>cases h
 |some a=>exact⟨a,rfl,h⟩
def aaX(K:iz)(r:V->Hp->VK->Prop)(g:D->Option (D×Bool)):Prop:=
 ∀x z v T (O:SI) (Q:VK),(∀p,¬Ow (T p)->¬O p)->jv K T O x v->g x=J z->Gen K T O z Q->r v T Q
def Wc(K:iz)(r:R2)(g:D->D->Option (D×Bool)):Prop:=
 ∀x y z v u T (O:SI) (Q:VK),(∀p,¬Ow (T p)->¬O p)->jv K T O x v->jv K T O y u->g x y=J z->Gen K T O z Q->r v u T Q
def aaW(K:iz)(r:List V->Hp->VK->Prop)(g:List D->Option (D×Bool)):Prop:=
 ∀ds z c T (O:SI) (Q:VK),(∀p,¬Ow (T p)->¬O p)->A1 ds=A1 c->(∀(j:Nat) d v,ds[j]?=J d->c[j]?=J v->jv K T O d v)->g ds=J z->Gen K T O z Q->r c T Q
def Uz{r:V->Hp->VK->Prop}{g:D->Option (D×Bool)}(h:PE X e (tUn r<|tO X.K fa))(n:aaX X.K r g):PX X e (qh g fa):=PX.imp h λw O Q q=>by obtain⟨s,T,u,t,E,e,k⟩:=q;obtain⟨o,c,h1,e⟩:=gZ e;obtain⟨x,i,e⟩:=gR e;obtain⟨z,l,e⟩:=gR e;obtain⟨rfl,rfl⟩:=iD e;refine⟨s,T,o,c,E,h1,λv f d=>?_⟩;have B:=Ops.cons E d<|Ops.nil<|d.er E;exact n x z v f _ Q (λp m=>B.np m) (B.view (j:=0) I I i) l (B.done k)
def Uy{r:R2}{g:D->D->Option (D×Bool)}(h:PE X e (Jh r (tO X.K fa)<|tO X.K fb))(w:Wc X.K r g):PX X e (il g fa fb):=PX.imp h λJ N Q A=>by obtain⟨M,T,G,L,E,e,k⟩:=A;obtain⟨o,c,h1,e⟩:=gZ e;obtain⟨C,f,m,e⟩:=gZ e;obtain⟨x,n,e⟩:=gR e;obtain⟨y,q,e⟩:=gR e;obtain⟨z,s,e⟩:=gR e;obtain⟨rfl,rfl⟩:=iD e;refine⟨M,T,o,c,E,h1,λv O d=>⟨c,A6 T o v,C,f,d.er E,m,λu l i=>?_⟩⟩;have B:=Ops.cons E d<|Ops.cons (d.er E) i<|Ops.nil<|i.er<|d.er E;exact w x y z v u l _ Q (λp t=>B.np t) (B.view (j:=0) I I n) (B.view (j:=1) I I q) s (B.done k)
def CP:PA X [] (tA X.K []):=λpos c s f O Q N h=>by obtain⟨g,T,os,d,E,e,k⟩:=h;obtain⟨rfl,rfl⟩:=iD e;exact rT pos c s f O Q N<|k [] O T<|Ops.nil E
def zw(n:PO X e fa)(p:PA X es (tA X.K fs))(q:af (e::es) X.env=(C,ba e X.env)::af es X.env):PA X (e::es) (tA X.K (fa::fs)):=λpos c s u O Q N h=>by obtain⟨r,T,os,t,E,e,k⟩:=h;unfold kD at e;obtain⟨o,d,h1,e⟩:=gZ e;obtain⟨f,g,m,e⟩:=gZ e;obtain⟨rfl,rfl⟩:=iD e;exact nS n p q pos c s u O Q N ⟨r,T,o,d,E,h1,λv w i=>⟨d,A6 T o v,f,g,i.er E,m,λx j l B=>k _ j l (Ops.cons E i B)⟩⟩
def om{g:Dn}:∀{os:List F2}{c:List D},uP g os=J c->A1 c=os.length/\∀(j:Nat) d,c[j]?=J d->∃o,os[j]?=J o/\res g o=J d:=by
 intro p
 induction p with
 |nil=>intro c h;cases h;exact⟨rfl,λj d h=>by simp at h⟩
 |cons o os n=>
  intro c h;unfold uP at h;obtain⟨d,h1,h⟩:=gR h;obtain⟨l,i,h⟩:=gR h;cases h;obtain⟨k,m⟩:=n i;refine⟨by simp[k],λj e f=>?_⟩
  cases j with
  |zero=>simp at f;subst f;exact⟨o,rfl,h1⟩
  |succ j=>obtain⟨q,r,s⟩:=m j e (by simpa using f);exact⟨q,by simpa using r,s⟩
def P9{r:List V->Hp->VK->Prop}{g:List D->Option (D×Bool)}(h:PE X e (Kh r<|tA X.K fs))(w:aaW X.K r g):PX X e (iB g fs):=PX.imp h λO N Q x=>by obtain⟨A,T,L,G,E,e,k⟩:=x;obtain⟨os,f,h1,e⟩:=gZ e;obtain⟨l,m,e⟩:=gR e;obtain⟨z,n,e⟩:=gR e;obtain⟨rfl,rfl⟩:=iD e;obtain⟨q,s⟩:=om m;refine⟨A,T,os,f,E,h1,λy i M B=>?_⟩;refine w l z y i _ Q (λp u=>B.np u) (q.trans B.len) (λj d v hd hv=>?_) n (B.done k);obtain⟨o,t,c⟩:=s j d hd;exact B.view t hv c
end
open PySem.SeqAt
mutual
noncomputable def D.R1:D->D->Bool
 |.T2,e=>match e with|.T2=>Y|_=>C
 |.bl a,e=>match e with|.bl b=>a==b|.int b=>(if a then 1 else 0)==b|_=>C
 |.int a,e=>match e with|.bl b=>a==(if b then 1 else 0)|.int b=>a==b|_=>C
 |.str a,e=>match e with|.str b=>a==b|_=>C
 |.tup l,e=>match e with|.tup m=>D.B4 l m|_=>C
 |.lst l,e=>match e with|.lst m=>D.B4 l m|_=>C
 |.Sr _ _ _,e=>match e with|.Sr _ _ _=>Y|_=>C
noncomputable def D.B4:List D->List D->Bool
 |[],m=>m.isEmpty
 |a::l,m=>match m with|b::m=>D.R1 a b&&D.B4 l m|[]=>C
end
mutual
noncomputable def D.dep:D->Nat
 |.tup l=>D.Ms l+1
 |.lst l=>D.Ms l+1
 |.Sr _ _ _=>20000
 |_=>0
noncomputable def D.Ms:List D->Nat
 |[]=>0
 |d::l=>max (D.dep d)<|D.Ms l
end
mutual
theorem D.A0:∀d:D,D.R1 d d=Y
 |.T2=>rfl
 |.bl a=>by simp[D.R1]
 |.int a=>by simp[D.R1]
 |.str a=>by simp[D.R1]
 |.tup l=>D.CV l
 |.lst l=>D.CV l
 |.Sr _ _ _=>rfl
theorem D.CV:∀l:List D,D.B4 l l=Y
 |[]=>rfl
 |d::l=>by show(D.R1 d d&&D.B4 l l)=Y;rw[D.A0 d,D.CV l];rfl
end
theorem D.AV{d:D}:∀{l:List D}{j:Nat},l[j]?=J d->d.dep<=D.Ms l
 |[],j,h=>by simp at h
 |e::l,0,h=>by simp at h;subst h;rw[D.Ms];exact Nat.le_max_left _ _
 |e::l,j+1,h=>by rw[D.Ms];exact jW (D.AV<|by simpa using h)<|Nat.le_max_right _ _
def yc(l m:List D)(j:Nat):Bool:=match l[j]?,m[j]? with
 |some d,J e=>D.R1 d e
 |_,_=>Y
theorem xH:∀l m:List D,((ap<|min (A1 l)<|A1 m).all (yc l m)&&(A1 l)==A1 m)=D.B4 l m
 |[],[]=>rfl
 |[],e::m=>rfl
 |d::l,[]=>rfl
 |d::l,e::m=>by
  show _=(D.R1 d e&&D.B4 l m)
  rw[<-xH l m];simp only[mQ,Nat.succ_min_succ,dc,uG,uF];have a:yc (d::l) (e::m) 0=D.R1 d e:=rfl;have h1:(λx=>yc (d::l) (e::m)<|Nat.succ x)=yc l m:=by funext x;simp[yc]
  rw[a];simp only[eO]
  congr 2
  simp
section
variable {X:Cx}{pins:iN}{σ:L2.St}{H:Hp}{s:gM}
def lE(h:jv X.K H O (.tup l) v):JP (Ek X.K H) (YP X.K H O l) v:=by
 rcases h with h|⟨a,rfl,h⟩
 .obtain⟨a,b,e,q,r⟩:=h.tup;exact⟨a,b,e,q.sq,r⟩
 exact h.elim
def kO(h:jv X.K H O (.lst l) v):JP (CU X.K H) (YP X.K H O l) v:=by
 rcases h with h|⟨a,rfl,h⟩
 .obtain⟨a,b,e,q,r⟩:=h.lst;exact⟨a,b,e,q.sq,r⟩
 obtain⟨b,e,r⟩:=h;exact⟨a,b,rfl,.inl<|.inl e,r⟩
def YP.views{O:SI}{l:List D}{b:List V}(r:YP X.K H O l b){j:Nat}{d:D}{v:V}(h1:l[j]?=J d)(c:b[j]?=J v):Rep X.K H O d v:=by obtain⟨w,a,e⟩:=r.get h1;rw[c]at a;cases a;exact e
def MS(Q:Inv X pins σ H s)(h:AB X.K (H a) k l i us):∃o,s.heap.get? a=J o/\(o.cls=.type "dict"\/o.cls=.type "set"\/∃T,o.cls=.ref T):=by
 cases k with
 |dct=>
  rcases h with⟨b,e,_⟩|⟨b,e,_⟩
  .obtain⟨_,_,i,_,o,d,g,h1,c,_⟩:=(show VP X.prog X.w H s.heap a (.dK b)from Q.hok a _ e)
   exact⟨o,h1,.inl c.1⟩
  obtain⟨_,_,m,_,o,d,g,h1,c,_⟩:=(show VP X.prog X.w H s.heap a (.dT b)from Q.hok a _ e)
  exact⟨o,h1,.inl c.1⟩
 |set=>
  obtain⟨_,j,e,_⟩:=h;obtain⟨d,n,t,h1,_⟩:=(show VP X.prog X.w H s.heap a (.W2 j)from Q.hok a _ e)
  exact⟨_,h1,.inr<|.inl I⟩
 |exc T=>
  obtain⟨_,o,e,h1,_⟩:=h;obtain⟨f,_⟩:=(show VP X.prog X.w H s.heap a (.AJ o<|.own 0)from Q.hok a _ e)
  exact⟨o,f,.inr<|.inr ⟨T,h1⟩⟩
 |_=>exact h.elim
def D3(T:Inv X pins σ H s)(h1:Ek X.K H a xs)(f:CU X.K H a k):False:=by obtain⟨g,_,⟨o,e,c,_⟩,_⟩:=T.tuple h1;obtain⟨h,_,⟨j,i,d,b,_⟩,_⟩:=T.list f;rw[e]at d;cases d;rw[c]at b;exact absurd b (by simp)
def Qt(Q:Inv X pins σ H s)(h1:Ek X.K H a xs)(f:AB X.K (H a) k h j us):False:=by obtain⟨g,_,⟨o,e,c,_⟩,_⟩:=Q.tuple h1;obtain⟨i,d,b⟩:=MS Q f;rw[e]at d;cases d;rw[c]at b;rcases b with b|b|⟨T,b⟩<;>exact absurd b (by simp)
def Qu(Q:Inv X pins σ H s)(h1:CU X.K H a xs)(f:AB X.K (H a) k h j us):False:=by obtain⟨g,_,⟨o,n,e,c,_⟩,_⟩:=Q.list h1;obtain⟨i,d,b⟩:=MS Q f;rw[e]at d;cases d;rw[c]at b;rcases b with b|b|⟨T,b⟩<;>exact absurd b (by simp)
mutual
theorem Rep.inj(T:Inv X pins σ H s):∀{d e:D}{v:V},d.dep<20000->Rep X.K H O d v->Rep X.K H u e v->d=e
 |.T2,e,v,i,h,c=>by
  have:=h.T2;subst this
  cases e with
  |T2=>rfl
  |bl b=>have:=c.bl;cases this
  |int b=>have:=c.int;cases this
  |str b=>have:=c.str;cases this
  |tup m=>obtain⟨a,f,z,_⟩:=c.tup;cases z
  |lst m=>obtain⟨a,f,z,_⟩:=c.lst;cases z
  |Sr m n o=>obtain⟨a,f,z,_⟩:=c.Sr;cases z
 |.bl b,e,v,i,h,c=>by
  have:=h.bl;subst this
  cases e with
  |T2=>have:=c.T2;cases this
  |bl b=>have:=c.bl;cases this;rfl
  |int b=>have:=c.int;cases this
  |str b=>have:=c.str;cases this
  |tup m=>obtain⟨a,f,z,_⟩:=c.tup;cases z
  |lst m=>obtain⟨a,f,z,_⟩:=c.lst;cases z
  |Sr m n o=>obtain⟨a,f,z,_⟩:=c.Sr;cases z
 |.int b,e,v,i,h,c=>by
  have:=h.int;subst this
  cases e with
  |T2=>have:=c.T2;cases this
  |bl b=>have:=c.bl;cases this
  |int b=>have:=c.int;cases this;rfl
  |str b=>have:=c.str;cases this
  |tup m=>obtain⟨a,f,z,_⟩:=c.tup;cases z
  |lst m=>obtain⟨a,f,z,_⟩:=c.lst;cases z
  |Sr m n o=>obtain⟨a,f,z,_⟩:=c.Sr;cases z
 |.str b,e,v,i,h,c=>by
  have:=h.str;subst this
  cases e with
  |T2=>have:=c.T2;cases this
  |bl b=>have:=c.bl;cases this
  |int b=>have:=c.int;cases this
  |str b=>have:=c.str;cases this;rfl
  |tup m=>obtain⟨a,f,z,_⟩:=c.tup;cases z
  |lst m=>obtain⟨a,f,z,_⟩:=c.lst;cases z
  |Sr m n o=>obtain⟨a,f,z,_⟩:=c.Sr;cases z
 |.tup l,e,v,i,h,c=>by
  rw[D.dep]at i;obtain⟨a,f,rfl,q,r⟩:=h.tup
  cases e with
  |T2=>have:=c.T2;cases this
  |bl b=>have:=c.bl;cases this
  |int b=>have:=c.int;cases this
  |str b=>have:=c.str;cases this
  |tup m=>obtain⟨k,p,z,g,j⟩:=c.tup;cases z;have:=T.AU q.sq g.sq;subst this;rw[YP.inj T (by lia) r j]
  |lst m=>obtain⟨k,p,z,g,j⟩:=c.lst;cases z;exact(D3 T q.sq g.sq).elim
  |Sr m n o=>obtain⟨k,t,z,g,j⟩:=c.Sr;cases z;exact(Qt T q.sq g.2).elim
 |.lst l,e,v,i,h,c=>by
  rw[D.dep]at i;obtain⟨a,f,rfl,q,r⟩:=h.lst
  cases e with
  |T2=>have:=c.T2;cases this
  |bl b=>have:=c.bl;cases this
  |int b=>have:=c.int;cases this
  |str b=>have:=c.str;cases this
  |tup m=>obtain⟨k,p,z,g,j⟩:=c.tup;cases z;exact(D3 T g.sq q.sq).elim
  |lst m=>obtain⟨k,p,z,g,j⟩:=c.lst;cases z;have:=T.C3 q.sq g.sq;subst this;rw[YP.inj T (by lia) r j]
  |Sr m n o=>obtain⟨k,t,z,g,j⟩:=c.Sr;cases z;exact(Qu T q.sq g.2).elim
 |.Sr _ _ _,e,v,i,h,c=>by rw[D.dep]at i;lia
theorem YP.inj(T:Inv X pins σ H s){O b:SI}:∀{l m:List D}{vs:List V},D.Ms l<20000->YP X.K H O l vs->YP X.K H b m vs->l=m
 |[],m,vs,_,h,a=>by
  rw[YP]at h;subst h
  cases m with
  |nil=>rfl
  |cons e m=>rw[YP]at a;obtain⟨_,_,z,_⟩:=a;cases z
 |d::l,m,vs,i,h,a=>by
  rw[D.Ms]at i;rw[YP]at h;obtain⟨v,r,rfl,h1,c⟩:=h
  cases m with
  |nil=>rw[YP]at a;cases a
  |cons e m=>rw[YP]at a;obtain⟨k,j,z,f,g⟩:=a;cases z;rw[Rep.inj T (by lia) h1 f,YP.inj T (by lia) c g]
end
def vZ(h:jv X.K H O d v)(hd:d.dep=0)(c:∀l,d≠ .tup l)(b:∀l,d≠ .lst l):Rep X.K H O d v:=by
 rcases h with h|⟨a,rfl,h⟩
 .exact h
 cases d with
 |lst l=>exact absurd I<|b l
 |Sr _ _ _=>rw[D.dep]at hd;lia
 |_=>exact h.elim
inductive Sh(X:Cx)(H:Hp)(s:gM)(O:SI):D->V->gU->Prop
 |T2:Sh X H s O .T2 .T2 .none
 |bl (b:Bool):Sh X H s O (.bl b) (.bl b) (.bool b)
 |int (i:Int) (t:o5):Sh X H s O (.int i) (.int i) (.int i t)
 |str (x:av) (t:o5):Sh X H s O (.str x) (.str x) (.str x t)
 |tup {l:List D} {p:gJ} {xs:List V} {its:je} (q:Ek X.K H p xs) (r:YP X.K H O l xs) (v:Vals xs its) (pl:f4 s.heap p its.toArray):Sh X H s O (.tup l) (.ref p) (.ref p)
 |lst {l:List D} {p:gJ} {xs:List V} {its:je} (q:CU X.K H p xs) (r:YP X.K H O l xs) (v:Vals xs its) (pl:s.heap.IsList p its.toArray):Sh X H s O (.lst l) (.ref p) (.ref p)
def yw(T:Inv X pins σ H s)(h:jv X.K H O d v)(b:RelV v a)(i:d.dep<20000):Sh X H s O d v a:=by
 cases d with
 |Sr m k n=>rw[D.dep]at i;omega
 |tup l=>obtain⟨p,j,rfl,q,r⟩:=lE h;cases b;obtain⟨e,g,f,_⟩:=T.tuple q;exact .tup q r g f
 |lst l=>obtain⟨p,j,rfl,q,r⟩:=kO h;cases b;obtain⟨e,g,f,_⟩:=T.list q;exact .lst q r g f.isList
 |T2=>have:=(vZ h I (by simp)<|by simp).T2;subst this;cases b;exact .T2
 |bl c=>have:=(vZ h I (by simp)<|by simp).bl;subst this;cases b;exact .bl c
 |int c=>have:=(vZ h I (by simp)<|by simp).int;subst this;obtain⟨t,rfl⟩:=b;exact .int c t
 |str c=>have:=(vZ h I (by simp)<|by simp).str;subst this;obtain⟨t,rfl⟩:=b;exact .str c t
def Rz{A:ig}{y x:gU}{k:Bool}(h:RcAt A s y x k)(e:y=x->k=Y)(d:∀b t,y≠ .float b t):EqAt A s y x k:=λa w E Q c=>by
 unfold eqBool;refine lU ?_;refine wpAny_ite_split (λf=>?_) λ_=>?_
 .rw[e<|oe f]at c;exact gL<|vw<|hJ c
 cases y with
 |float b t=>exact absurd I<|d b t
 |_=>exact gL<|h a w E _ (rP c)
def N3(I:Inv X pins σ H s){A:ig}{n:Nat}(M:∀(d e:D)(v u:V)(a b:gU)(O Q:SI)(A:ig),jv X.K H O d v->jv X.K H Q e u->RelV v a->RelV u b->d.dep+1<=n->e.dep<20000->A.units+n<aL+1->EqAt A s a b (D.R1 d e))(hA:A.units+n<aL):∀(l m:List D)(g h:List V)(c f:je)(i k:SI),D.Ms l+1<=n->D.Ms m<20000->YP X.K H i l g->YP X.K H k m h->Vals g c->Vals h f->
   ∀j (h1:j<c.toArray.size) (r:j<f.toArray.size),EqAt A.in1 s c.toArray[j] f.toArray[j] (yc l m j):=λl m g h c f i k Z hm y z B C j h1 r=>by
 have P:=B.length;have R:=C.length;have S:=y.length;have W:=z.length;simp at h1 r;have t:g[j]?=z8 g[j]:=jk (by omega);have x:h[j]?=z8 h[j]:=jk (by omega);have p:l[j]?=z8 l[j]:=jk (by omega);have o:m[j]?=z8 m[j]:=jk (by omega);obtain⟨w,E,U⟩:=B.get t;obtain⟨N,L,Y⟩:=C.get x
 have G:c.toArray[j]=w:=by have:c[j]?=z8 c[j]:=jk (by omega);rw[this]at E;simpa using E
 have J:f.toArray[j]=N:=by have:f[j]?=z8 f[j]:=jk (by omega);rw[this]at L;simpa using L
 rw[G,J];have T:yc l m j=D.R1 l[j] m[j]:=by unfold yc;rw[p,o]
 rw[T];have F:=D.AV p;have q:=D.AV o;exact M _ _ _ _ _ _ i k A.in1 (.inl<|y.views p t) (.inl<|z.views o x) U Y (by omega) (by omega) (by show A.units+1+n<aL+1;omega)
def Mf{d e:D}{v u:V}{a b:gU}{O T:SI}{A:ig}(I:Inv X pins σ H s){n:Nat}(ih:∀(d e:D)(v u:V)(a b:gU)(O T:SI)(A:ig),jv X.K H O d v->jv X.K H T e u->RelV v a->RelV u b->d.dep+1<=n->e.dep<20000->A.units+n<aL+1->EqAt A s a b (D.R1 d e))(hd:jv X.K H O d v)(he:jv X.K H T e u)(ra:RelV v a)(rb:RelV u b)(Q:d.dep<=n)(M:e.dep<20000)(hA:A.units+n<aL):RcAt A s a b (D.R1 d e)/\RcNeAt A s a b (!D.R1 d e):=by
 have f:A.units<cLine:=by lia
 have items:=N3 I ih hA;have W:aL=9900:=rfl;have h1:=yw I hd ra (by lia);have E:=yw I he rb M
 cases h1 with
 |T2=>
  cases E with
  |T2=>exact⟨RcAt.none_none,RcNeAt.none_none⟩
  |bl c=>exact⟨RcAt.none_bool c,RcNeAt.none_bool c⟩
  |int c i=>exact⟨RcAt.none_int c i,RcNeAt.none_int c i⟩
  |str c i=>exact⟨RcAt.none_str c i,RcNeAt.none_str c i⟩
  |tup B t x h=>exact⟨RcAt.none_tuple h f,RcNeAt.none_tuple h f⟩
  |lst B t x h=>exact⟨RcAt.none_list h f,RcNeAt.none_list h f⟩
 |bl g=>
  cases E with
  |T2=>exact⟨RcAt.bool_none g,RcNeAt.bool_none g⟩
  |bl c=>exact⟨RcAt.bool_bool g c,RcNeAt.bool_bool g c⟩
  |int c i=>exact⟨RcAt.bool_int g c i,RcNeAt.bool_int g c i⟩
  |str c i=>exact⟨RcAt.bool_str g c i,RcNeAt.bool_str g c i⟩
  |tup B t x h=>exact⟨RcAt.bool_tuple g h f,RcNeAt.bool_tuple g h f⟩
  |lst B t x h=>exact⟨RcAt.bool_list g h f,RcNeAt.bool_list g h f⟩
 |int g k=>
  cases E with
  |T2=>exact⟨RcAt.int_none g k,RcNeAt.int_none g k⟩
  |bl c=>exact⟨RcAt.int_bool g k c,RcNeAt.int_bool g k c⟩
  |int c i=>exact⟨RcAt.int_int g k c i,RcNeAt.int_int g k c i⟩
  |str c i=>exact⟨RcAt.int_str g k c i,RcNeAt.int_str g k c i⟩
  |tup B t x h=>exact⟨RcAt.int_tuple g k h f,RcNeAt.int_tuple g k h f⟩
  |lst B t x h=>exact⟨RcAt.int_list g k h f,RcNeAt.int_list g k h f⟩
 |str g k=>
  cases E with
  |T2=>exact⟨RcAt.str_none g k,RcNeAt.str_none g k⟩
  |bl c=>exact⟨RcAt.str_bool g k c,RcNeAt.str_bool g k c⟩
  |int c i=>exact⟨RcAt.str_int g k c i,RcNeAt.str_int g k c i⟩
  |str c i=>exact⟨RcAt.str_str g k c i,RcNeAt.str_str g k c i⟩
  |tup B t x h=>exact⟨RcAt.str_tuple g k h f,RcNeAt.str_tuple g k h f⟩
  |lst B t x h=>exact⟨RcAt.str_list g k h f,RcNeAt.str_list g k h f⟩
 | @tup l p N o q r L j=>
  cases E with
  |T2=>exact⟨RcAt.tuple_none j f,RcNeAt.tuple_none j f⟩
  |bl c=>exact⟨RcAt.tuple_bool c j f,RcNeAt.tuple_bool c j f⟩
  |int c i=>exact⟨RcAt.tuple_int c i j f,RcNeAt.tuple_int c i j f⟩
  |str c i=>exact⟨RcAt.tuple_str c i j f,RcNeAt.tuple_str c i j f⟩
  | @tup m p2 U' C' B t x h=>
   have G:D.Ms l+1<=n:=by rw[D.dep]at Q;exact Q
   have J:D.Ms m<20000:=by rw[D.dep]at M;lia
   have F:=L.length;have P:=x.length;have R:=r.length;have S:=t.length;have w:=items l m N U' o C' _ _ G J r t L x;have z:=c6 (RcAt.tuples j h f w)<|RcNeAt.tuples j h f w;simp only[jY]at z;rw[show o.length=l.length by lia,show C'.length=m.length by lia,xH]at z;exact z
  |lst B t x h=>exact⟨RcAt.tuple_list j h f,RcNeAt.tuple_list j h f⟩
 | @lst l p N o q r L j=>
  cases E with
  |T2=>exact⟨RcAt.list_none j f,RcNeAt.list_none j f⟩
  |bl c=>exact⟨RcAt.list_bool c j f,RcNeAt.list_bool c j f⟩
  |int c i=>exact⟨RcAt.list_int c i j f,RcNeAt.list_int c i j f⟩
  |str c i=>exact⟨RcAt.list_str c i j f,RcNeAt.list_str c i j f⟩
  |tup B t x h=>exact⟨RcAt.list_tuple j h f,RcNeAt.list_tuple j h f⟩
  | @lst m p2 U' C' B t x h=>
   have G:D.Ms l+1<=n:=by rw[D.dep]at Q;exact Q
   have J:D.Ms m<20000:=by rw[D.dep]at M;lia
   have F:=L.length;have P:=x.length;have R:=r.length;have S:=t.length;have Y:=xH l m;by_cases y:l.length=m.length
   .have w:=items l m N U' o C' _ _ G J r t L x;have q:o.toArray.size=C'.toArray.size:=by simp;lia
    have z:=c6 (RcAt.lists j h q f w)<|RcNeAt.lists j h q f w;simp at z;rw[show o.length=min l.length m.length by lia]at z;show _/\RcNeAt _ _ _ _ (!D.B4 l m);rw[show D.R1 (.lst l) (.lst m)=D.B4 l m from AT,<-Y,y];rw[y]at z;simpa using z
   have q:(o.toArray.size !=C'.toArray.size)=At:=by simp;lia
   have z:=c6 (RcAt.lists_lengths j h q f)<|RcNeAt.lists_lengths j h q f;rw[show D.R1 (.lst l) (.lst m)=D.B4 l m from AT,<-Y];rw[show(l.length==m.length)=C by simpa using y];simpa using z
def BC(I:Inv X pins σ H s)(n:Nat)
  (Q:∀(d e:D)(v u:V)(a b:gU)(O k:SI)(A:ig),jv X.K H O d v->jv X.K H k e u->RelV v a->RelV u b->d.dep+1<=n->e.dep<20000->A.units+n<aL+1->EqAt A s a b (D.R1 d e)):
  ∀(d e:D)(v u:V)(a b:gU)(O k:SI)(A:ig),jv X.K H O d v->jv X.K H k e u->RelV v a->RelV u b->d.dep<=n->e.dep<20000->A.units+n<aL->EqAt A s a b (D.R1 d e):=by
 intro d e v u a b O k A hd y N E m B L;have J:aL=9900:=rfl;have h1:=yw I hd N (by lia);have l:=yw I y E B;refine Rz (Mf I Q hd y N E m B L).1 (λG=>?_) λb t z=>by subst z;cases h1
 subst G
 have no:∀{p:gJ}{i j:mS},f4 s.heap p i->s.heap.IsList p j->False:=λ⟨o,a,b,_⟩ ⟨M,c,d,_⟩=>by rw[a]at c;cases c;rw[b]at d;exact absurd d (by decide)
 cases h1 with
 |tup q r T w=>
  cases l with
  |tup g h x f=>have:=I.AU q g;subst this;rw[YP.inj I (by rw[D.dep]at m;lia) r h,D.A0]
  |lst g h x f=>exact(no w f).elim
 |lst q r T w=>
  cases l with
  |tup g h x f=>exact(no f w).elim
  |lst g h x f=>have:=I.C3 q g;subst this;rw[YP.inj I (by rw[D.dep]at m;lia) r h,D.A0]
 |_=>cases l;exact D.A0 _
def Ad(T:Inv X pins σ H s):∀(n:Nat)(d e:D)(v u:V)(a b:gU)(O c:SI)(A:ig),jv X.K H O d v->jv X.K H c e u->RelV v a->RelV u b->d.dep<=n->e.dep<20000->A.units+n<aL->EqAt A s a b (D.R1 d e):=by
 intro n
 induction n with
 |zero=>intro d e v u a b O c A hd f i j g h k;exact BC T 0 (λd e v u a b O c A hd f i j g h k=>absurd g<|by lia) d e v u a b O c A hd f i j g h k
 |succ n l=>intro d e v u a b O c A hd f i j g h k;exact BC T (n+1) (λd e v u a b O c A hd f i j g h k=>l d e v u a b O c A hd f i j (by lia) h<|by lia) d e v u a b O c A hd f i j g h k
end
section
variable {X:Cx}{c:iN}{f:L2.St}{H:Hp}{s:gM}
def So(T:Inv X c f H s)(hd:jv X.K H O d v)(i:jv X.K H g e u)(l:RelV v a)(m:RelV u b)(j:d.dep<=n)(k:e.dep<20000)(h:A.units+n<aL):RcAt A s a b (D.R1 d e)/\RcNeAt A s a b (!D.R1 d e):=
 Mf T (λd e v u a b O g A x1 x2 x3 o q p x7=>Ad T (n-1) d e v u a b O g A x1 x2 x3 o (by lia) p<|by lia) hd i l m j k h
def U7(j:X.A.units+60<aL):B0 X (au .Eq) (λx y H Q=>∃O d e,jv X.K H O d x/\jv X.K H O e y/\(d.dep<=50/\e.dep<=50)/\Q (.bl<|D.R1 d e) H):=by intro c s f H x y v u Q T g i h;obtain⟨O,d,e,h1,a,b,q⟩:=h;exact(So (A:=X.A) T h1 a g i b.1 (by lia)<|by lia).1 _ _ _ _ ⟨.bl _,H,T,rfl,q⟩
def U4(j:X.A.units+60<aL):B0 X (au .NotEq) (λx y H Q=>∃O d e,jv X.K H O d x/\jv X.K H O e y/\(d.dep<=50/\e.dep<=50)/\Q (.bl (!D.R1 d e)) H):=by intro c s f H x y v u Q T g i h;obtain⟨O,d,e,h1,a,b,q⟩:=h;exact(So (A:=X.A) T h1 a g i b.1 (by lia)<|by lia).2 _ _ _ _ ⟨.bl _,H,T,rfl,q⟩
end
def iM{e:Type}{c:Prop}[Decidable c]{a b:e}(h:(if c then J a else U)=J b):c/\a=b:=by
 split at h
 .rename_i d;exact⟨d,jZ h⟩
 cases h
section
variable {X:Cx}{c:iN}{f:L2.St}{H:Hp}{s:gM}
def YI(I:Inv X c f H s){A:ig}{l:List D}{o:List V}{a:je}{O C:SI}{b:D}{Q:V}{x:gU}(r:YP X.K H O l o)(v:Vals o a)(U:jv X.K H C b Q)(rx:RelV Q x)(hn:D.Ms l<=50)(Y:b.dep<=50)(hA:A.units+60<aL):
  ∃e:gU->Bool,(∀y∈a,EqAt A.in1 s y x<|e y)/\a.map e=l.map λd=>D.R1 d b:=by
 let e:gU->Bool:=λy=>match(a.zip l).find? (λp=>p.1==y)with
  |some p=>D.R1 p.2 b
  |none=>AC
 have S:=v.length;have W:=r.length
 have key:∀(j:Nat)(h:j<a.length)(g:j<l.length),e a[j]=D.R1 l[j] b:=λj h g=>by
  show(match(a.zip l).find? (λp=>p.1==a[j])with|some p=>D.R1 p.2 b|none=>AC)=_
  cases t:(a.zip l).find? (λp=>p.1==a[j])with
  |none=>
   have:=List.find?_eq_none.mp t (a[j],l[j]) (by
    have:(a.zip l)[j]?=z8 (a[j],l[j]):=by simp[DK,jk g]
    exact lS this)
   simp at this
  |some p=>
   have N:=kl t;have M:=Lg t;obtain⟨i,L⟩:=qu M;obtain⟨P,p2⟩:=p;rw[DK]at L;have J:P=a[j]:=oe N;obtain⟨h1,k⟩:=L;have E:i<o.length:=by have:=(ue.mp h1).1;lia
   obtain⟨w,n,B⟩:=v.get<|jk E;have q:j<o.length:=by lia
   obtain⟨w',T,R⟩:=v.get<|jk q;rw[h1]at n;cases n;rw[jk h]at T;cases T;subst J;have hv:=B.inj R;have a1:=r.views k<|jk E;have G:=r.views (jk g)<|jk q;rw[hv]at a1;have Z:=D.AV k;have:=Rep.inj I (by lia) a1 G;exact lY (λz=>D.R1 z b) this
 refine⟨e,λy F=>?_,?_⟩
 .obtain⟨j,h⟩:=qu F;have u:=(ue.mp h).1;have q:=(ue.mp h).2;have g:j<l.length:=by lia
  have m:j<o.length:=by lia
  obtain⟨w,n,B⟩:=v.get<|jk m;rw[h]at n;cases n;have hk:=key j u g;rw[q]at hk;rw[hk];have hd:=D.AV<|jk g;exact Ad I 50 _ _ _ _ _ _ O C A.in1 (.inl<|r.views (jk g)<|jk m) U B rx (by lia) (by lia) (by show A.units+1+50<aL;lia)
 apply yX
 .simp;lia
 intro j h1 k;simp at h1 k;simp;exact key j h1 k
def NI(T:Inv X c f H s){A:ig}{l:List D}{j:List V}{a:je}{O k:SI}{b:D}{i:V}{x:gU}(r:YP X.K H O l j)(v:Vals j a)(t:jv X.K H k b i)(u:RelV i x)(p:D.Ms l<=50)(g:b.dep<=50)(o:A.units+60<aL):
  ∃e:gU->Bool,(∀y∈a,EqAt A.in1 s y x<|e y)/\a.any e=l.any λd=>D.R1 d b:=by
 obtain⟨e,h,q⟩:=YI T r v t u p g o;have m:a.any e=(a.map e).any id:=by rw[wO];rfl
 have n:(l.any λd=>D.R1 d b)=(l.map λd=>D.R1 d b).any id:=by rw[wO];rfl
 exact⟨e,h,by rw[m,n,q]⟩
def inD(x:D):D->Option Bool
 |.tup l=>if D.Ms l<=50/\x.dep<=50 then J (l.any λd=>D.R1 d x)else U
 |.lst l=>if D.Ms l<=50/\x.dep<=50 then J (l.any λd=>D.R1 d x)else U
 |_=>U
def CQ(n:Bool)(E:X.A.units+60<aL):B0 X (au (if n then .NotIn else .In)) (λx y H Q=>∃O d e b,jv X.K H O d x/\jv X.K H O e y/\inD d e=J b/\Q (.bl (if n then !b else b)) H):=by
 intro c s f H x y v u Q M L T h;obtain⟨O,d,e,b,h1,N,m,q⟩:=h
 cases e with
 |tup l=>
  obtain⟨i,rfl⟩:=iM m;obtain⟨a,G,rfl,t,r⟩:=lE N;cases T;obtain⟨g,B,j,_⟩:=M.tuple t;obtain⟨e,p,o⟩:=NI (A:=X.A) M r B h1 L i.1 i.2 E;have k:∀w∈g.toArray,EqAt X.A.in1 s w v (e w):=λw z=>p w (by simpa using z);rw[<-o,show g.any e=g.toArray.any e by simp]at q;cases n
  .exact in_tupleAt e j k ⟨.bl _,H,M,rfl,q⟩
  exact notIn_tupleAt e j k ⟨.bl _,H,M,rfl,q⟩
 |lst l=>
  obtain⟨i,rfl⟩:=iM m;obtain⟨a,G,rfl,t,r⟩:=kO N;cases T;obtain⟨g,B,j,_⟩:=M.list t;obtain⟨e,p,o⟩:=NI (A:=X.A) M r B h1 L i.1 i.2 E;have k:∀w∈g.toArray,EqAt X.A.in1 s w v (e w):=λw z=>p w (by simpa using z);rw[<-o,show g.any e=g.toArray.any e by simp]at q;cases n
  .exact in_listAt e j.isList k ⟨.bl _,H,M,rfl,q⟩
  exact notIn_listAt e j.isList k ⟨.bl _,H,M,rfl,q⟩
 |_=>cases m
end
inductive rD1(K:iz)(g:D->Option (D×Bool))(x:V)(H:Hp)(Q:VK):Prop where
 |mk (O:SI) (d:D) (z:D×Bool) (_:∀p,¬Ow (H p)->¬O p) (_:jv K H O d x) (_:g d=z8 z) (_:Gen K H O z Q)
inductive rD(K:iz)(g:D->D->Option (D×Bool))(x y:V)(H:Hp)(Q:VK):Prop where
 |mk (O:SI) (d e:D) (z:D×Bool) (_:∀p,¬Ow (H p)->¬O p) (_:jv K H O d x) (_:jv K H O e y) (_:g d e=z8 z) (_:Gen K H O z Q)
inductive EU(K:iz)(g:List D->Option (D×Bool))(vs:List V)(H:Hp)(Q:VK):Prop where
 |mk (O:SI) (ds:List D) (z:D×Bool) (_:∀p,¬Ow (H p)->¬O p) (_:(A1 ds)=A1 vs) (_:∀(j:Nat) d v,ds[j]?=z8 d->vs[j]?=z8 v->jv K H O d v) (_:g ds=z8 z) (_:Gen K H O z Q)
section
variable {X:Cx}{e a b:gX}{fa fb:FO}{fs:List FO}{pos:bq}
def px1(h:PE X e (tUn (rD1 X.K g)<|tO X.K fa)):PX X e (qh g fa):=Uz h λx z v T O Q np d c G=>⟨O,x,z,np,d,c,G⟩
def M4(h:PE X e (Jh (rD X.K g) (tO X.K fa)<|tO X.K fb)):PX X e (il g fa fb):=Uy h λx y z v u T O Q np d f c G=>⟨O,x,y,z,np,d,f,c,G⟩
def pxn(h:PE X e (Kh (EU X.K g)<|tA X.K fs)):PX X e (iB g fs):=P9 h λc z i T O Q np f hv d G=>⟨O,c,z,np,f,hv,d,G⟩
def iP{K T}{O:SI}{i:Int}{v:V}(h:jv K T O (.int i) v):v=.int i:=h.elim (λh=>h.int) λ⟨_,_,h⟩=>h.elim
def HE{K T}(h:jv K T O (.bl i) v):v=.bl i:=h.elim (λh=>h.bl) λ⟨_,_,h⟩=>h.elim
def zi{K T}(h:jv K T O (.str i) v):v=.str i:=h.elim (λh=>h.str) λ⟨_,_,h⟩=>h.elim
def aej{K T}(h:jv K T O .T2 v):v=.T2:=h.elim (λh=>h.T2) λ⟨_,_,h⟩=>h.elim
def Gen.str{K T}(g:Gen K T O (.str i,C) Q):Q (.str i) T:=g _ T (λ_ _ e=>e) Rep.mkStr
noncomputable def gI(f:Int->Int->Option D):D->D->Option (D×Bool)
 |.int i,.int j=>(f i j).map λz=>(z,C)
 |_,_=>U
def yA{f:Int->Int->Option D}{d e:D}{z:D×Bool}(h:gI f d e=J z):∃i j y,d=.int i/\e=.int j/\f i j=J y/\z=(y,C):=by
 cases d with
 |int i=>
  cases e with
  |int j=>
   cases c:f i j with
   |none=>simp only[gI,c]at h;cases h
   |some y=>simp only[gI,c]at h;cases h;exact⟨i,j,y,rfl,rfl,c,rfl⟩
  |_=>cases h
 |_=>cases h
def yz{f:xQ}{M:Int->Int->Prop}[∀i j,Decidable<|M i j]{g:Int->Int->Int}(o:B0 X f (rI M λi j=>.int (g i j))):B0 X f (rD X.K (gI λi j=>if M i j then J (.int<|g i j)else U)):=by intro c s r T x y v u Q N p q h;obtain⟨O,d,e,z,np,h1,k,n,G⟩:=h;obtain⟨i,j,w,rfl,rfl,m,rfl⟩:=yA n;obtain⟨l,rfl⟩:=iM m;exact o c s r T x y v u Q N p q ⟨i,j,iP h1,iP k,l,G.int⟩
def MT{f:xQ}{g:Int->Int->Int}(n:B0 X f (Ht λi j=>.int (g i j))):B0 X f (rD X.K<|gI λi j=>J<|.int<|g i j):=by intro c s q T x y v u Q N o p h;obtain⟨O,d,e,z,np,h1,k,m,G⟩:=h;obtain⟨i,j,w,rfl,rfl,l,rfl⟩:=yA m;cases l;exact n c s q T x y v u Q N o p ⟨i,j,iP h1,iP k,G.int⟩
instance(i j:Int):Decidable (AQ i j):=by unfold AQ;exact inferInstance
instance(i j:Int):Decidable (Kr i j):=by unfold Kr;exact inferInstance
instance(i j:Int):Decidable (DH i j):=by unfold DH;exact inferInstance
def Er:=gI λi j=>J<|.int<|i-j
def qI:=gI λi j=>if AQ i j then J (.int<|i*j)else U
def NT:=gI λi j=>if Kr i j then J (.int<|i / j)else U
def zP:=gI λi j=>if 0<j then J (.int<|i%j)else U
def NO:=gI λi j=>if DH i j then J (.int<|i^j.toNat)else U
def Qw:B0 X (bz .Sub) (rD X.K Er):=MT U2
def Qz:B0 X (bz .Mult) (rD X.K qI):=yz U5
def QH:B0 X (bz .FloorDiv) (rD X.K NT):=yz QK
def QD:B0 X (bz .Mod) (rD X.K zP):=yz U6
def Qx:B0 X (bz .Pow) (rD X.K NO):=yz U3
noncomputable def nG:D->D->Option (D×Bool)
 |.int i,.int j=>J (.int<|i+j,C)
 |.str i,.str j=>if i.length+j.length<=sizeLine then J (.str<|i++j,C)else U
 |.tup l,.tup m=>if l.length+m.length<=sizeLine then J (.tup<|l++m,C)else U
 |.lst l,.lst m=>if l.length+m.length<=sizeLine then J (.lst<|l++m,Y)else U
 |_,_=>U
def QJ:B0 X (bz .Add) (rD X.K nG):=by
 intro g s σ H x y v u Q I L T h;obtain⟨O,d,e,z,np,h1,J,k,G⟩:=h
 cases d with
 |int i=>
  cases e with
  |int j=>cases k;exact U8 g s σ H x y v u Q I L T ⟨i,j,iP h1,iP J,G.int⟩
  |_=>cases k
 |str i=>
  cases e with
  |str j=>obtain⟨W,rfl⟩:=iM k;exact acC g s σ H x y v u Q I L T ⟨i,j,zi h1,zi J,W,G.str⟩
  |_=>cases k
 |tup l=>
  cases e with
  |tup m=>
   obtain⟨W,rfl⟩:=iM k;have k1:Rep X.K H O (.tup l) x:=h1.elim id λ⟨_,_,z⟩=>z.elim;have k2:Rep X.K H O (.tup m) y:=J.elim id λ⟨_,_,z⟩=>z.elim;obtain⟨M,xs,rfl,N,C⟩:=k1.tup;obtain⟨B,ys,rfl,U,E⟩:=k2.tup;have l1:=C.length;have l2:=E.length;by_cases hx:xs=[]
   .subst hx;have:l=[]:=by simpa using l1.symm
    subst this;cases L;cases T;obtain⟨f,Y,S,_⟩:=I.tuple N.sq;obtain⟨o,v2,V,_⟩:=I.tuple U.sq;have e1:f=[]:=by have:=Y.length;simpa using this.symm
    subst e1;obtain⟨⟨R,dd,q,sl⟩,r,w,n,hd⟩:=id S;obtain⟨⟨bT,D,data2,P⟩,A,t,Z,c⟩:=id V;simp only at w hd t c;subst w hd t c
    refine Cp ⟨_,r,rfl⟩ ⟨_,A,rfl⟩ F5 F4 F3 F1 (FZ _ _)
     (tuple_addW0 M B #[] o.toArray n Z dd D sl P (by simp)) ⟨r,A,⟨.ref B,H,I,rfl,?_⟩⟩
    exact G _ H (λ_ _ e=>e) (by simpa using k2)
   refine QM g s σ H _ _ v u Q I L T ⟨M,B,xs,ys,rfl,rfl,N.sq,U.sq,hx,by lia,λhy=>?_,λhy p hp=>?_⟩
   .subst hy;have:m=[]:=by simpa using l2.symm
    subst this;exact G _ H (λ_ _ e=>e) (by simpa using k1)
   exact G.tup hp (np p<|Kl hp) (C.append E)
  |_=>cases k
 |lst l=>
  cases e with
  |lst m=>
   obtain⟨W,rfl⟩:=iM k;obtain⟨M,xs,rfl,N,C⟩:=kO h1;obtain⟨B,ys,rfl,U,E⟩:=kO J;have l1:=C.length;have l2:=E.length;cases L;cases T;obtain⟨f,Y,S,_⟩:=I.list N;obtain⟨o,v2,V,_⟩:=I.list U;have e1:=Y.length;have e2:=v2.length;obtain⟨⟨R,dd,q,sl⟩,r,w,n,hd⟩:=id S.isList;obtain⟨⟨bT,D,data2,P⟩,A,t,Z,c⟩:=id V.isList;simp only at w hd t c;subst w hd t c
   refine Cp ⟨_,r,rfl⟩ ⟨_,A,rfl⟩ noFill_list_add seq_list_add PySem.F.slot_list_add PySem.F.entry_list_add (PySem.F.args_list_add_2 _ _)
    (list_addW M B f.toArray o.toArray n Z dd D sl P<|by simp;lia) ⟨r,A,?_⟩
   rw[show f.toArray++o.toArray=(f++o).toArray by simp];exact⟨.ref _,_,I.Kp (t':=s.toks) (Y.append v2)<|by rw[nN];lia,rfl,G.lst I.fresh<|C.append E⟩
  |_=>cases k
 |_=>cases k
def Ao(d e:D):Option (D×Bool):=if d.dep<=50/\e.dep<=50 then J (.bl<|D.R1 d e,C)else U
def D4(d e:D):Option (D×Bool):=if d.dep<=50/\e.dep<=50 then J (.bl (!D.R1 d e),C)else U
def Js(d e:D):Option (D×Bool):=(inD d e).map λb=>(.bl b,C)
def nF(d e:D):Option (D×Bool):=(inD d e).map λb=>(.bl (!b),C)
def U1(j:X.A.units+60<aL):B0 X (au .Eq) (rD X.K Ao):=by intro c s m T x y v u Q N k l h;obtain⟨O,d,e,z,np,h1,f,i,G⟩:=h;obtain⟨g,rfl⟩:=iM i;exact U7 j c s m T x y v u Q N k l ⟨O,d,e,h1,f,g,G.bl⟩
def UZ(j:X.A.units+60<aL):B0 X (au .NotEq) (rD X.K D4):=by intro c s m T x y v u Q N k l h;obtain⟨O,d,e,z,np,h1,f,i,G⟩:=h;obtain⟨g,rfl⟩:=iM i;exact U4 j c s m T x y v u Q N k l ⟨O,d,e,h1,f,g,G.bl⟩
inductive BndM{α β:Type}(x:Option α)(f:α->β)(b:β):Prop where
 |mk (a:α) (_:x=z8 a) (_:f a=b)
def iT{c d:Type}{x:Option c}{f:c->d}{b:d}(h:x.map f=J b):BndM x f b:=by
 cases x with
 |none=>cases h
 |some a=>exact⟨a,rfl,jZ h⟩
def U0(j:X.A.units+60<aL):B0 X (au .In) (rD X.K Js):=by intro c s m T x y v u Q N k l h;obtain⟨O,d,e,z,np,h1,f,i,G⟩:=h;obtain⟨b,g,rfl⟩:=iT i;exact CQ C j c s m T x y v u Q N k l ⟨O,d,e,b,h1,f,g,G.bl⟩
def adh(j:X.A.units+60<aL):B0 X (au .NotIn) (rD X.K nF):=by intro c s m T x y v u Q N k l h;obtain⟨O,d,e,z,np,h1,f,i,G⟩:=h;obtain⟨b,g,rfl⟩:=iT i;exact CQ Y j c s m T x y v u Q N k l ⟨O,d,e,b,h1,f,g,G.bl⟩
noncomputable def yt:D->Option (D×Bool)
 |.int i=>J (.int (-i),C)
 |_=>U
def Pl:ME X (wv .USub) (rD1 X.K yt):=by
 intro c s j T x v Q N g h;obtain⟨O,d,z,np,h1,f,G⟩:=h
 cases d with
 |int i=>cases f;exact TY c s j T x v Q N g ⟨i,iP h1,G.int⟩
 |_=>cases f
def A2:D->D->Option (D×Bool)
 |.tup l,.int i=>(GK l i).map λd=>(d,C)
 |.lst l,.int i=>(GK l i).map λd=>(d,C)
 |_,_=>U
def I9{K T}{O:SI}{l:List D}{c:List V}{i:Int}{d:D}(r:YP K T O l c)(h:GK l i=J d):∃v,GK c i=J v/\Rep K T O d v:=by unfold GK at h ⊢;rw[r.length];obtain⟨j,h1,f⟩:=gR h;rw[h1];obtain⟨v,g,k⟩:=r.get f;exact⟨v,g,k⟩
def SR:LI X (rD X.K A2):=by
 intro f c g s E T x y v u Q N B M h A;obtain⟨O,d,e,z,np,h1,t,j,G⟩:=h
 cases d with
 |tup l=>
  cases e with
  |int i=>obtain⟨w,m,rfl⟩:=iT j;obtain⟨p,o,rfl,q,r⟩:=lE h1;obtain⟨n,hv,k⟩:=I9 r m;exact Vo f c g s E T _ _ v u Q N B M ⟨p,o,i,n,rfl,iP t,q,hv,G _ T (λ_ _ e=>e) k⟩ A
  |_=>cases j
 |lst l=>
  cases e with
  |int i=>obtain⟨w,m,rfl⟩:=iT j;obtain⟨p,o,rfl,q,r⟩:=kO h1;obtain⟨n,hv,k⟩:=I9 r m;exact Rg f c g s E T _ _ v u Q N B M ⟨p,o,i,n,rfl,iP t,q,hv,G _ T (λ_ _ e=>e) k⟩ A
  |_=>cases j
 |_=>cases j
end
noncomputable def pd:List F2->Option (List D)
 |[]=>J []
 |.val r::os=>(pd os).map (r.1:: ·)
 |.slot _::_=>U
def vb(fs:List F):F:=λb=>(kD (fs.map hG) b).bind λp=>(pd p.1).bind λa=>if (A1 a)<=sizeLine then J ((.tup a,C),p.2)else U
def nW(fs:List F):F:=λδ=>(kD (fs.map hG) δ).bind λp=>(pd p.1).bind λa=>if (A1 a)<=sizeLine then J ((.lst a,Y),p.2)else U
section
variable {K:iz}{T m:SI}{f:L2.St}{g e:Dn}{H H':Hp}{os:List F2}{c:List V}
def Ops.rep(E:ER K H T f g)(B:Ops K T f g H os c e H' m){j:Nat}{r:D×Bool}{v:V}(h1:os[j]?=J (.val r))(h:c[j]?=J v):Rep K H' (λa=>X0 f e a\/T a) r.1 v:=by
 obtain⟨d,b⟩:=r
 cases b
 .exact B.val j d v h1 h
 obtain⟨p,rfl,k,i,ok⟩:=B.tmp j d v h1 h;refine ok.rep (λz=>?_) λb _ z=>z;rcases z with z|z
 .exact B.er.nT p z k
 exact(E.dom p z).ne i
theorem uM{O:SI}:∀{os:List F2}{c:List V}{d:List D},pd os=J d->os.length=A1 c->(∀(j:Nat)(r:D×Bool)(v:V),os[j]?=J (.val r)->c[j]?=J v->Rep K H' O r.1 v)->YP K H' O d c
 |[],c,d,h,n,_=>by
  cases h;have:c=[]:=by simpa using n.symm
  subst this;exact YP.nil
 |.slot i::os,c,d,h,_,_=>by cases h
 |.val r::os,c,d,h,n,k=>by
  obtain⟨l,h1,rfl⟩:=iT h
  cases c with
  |nil=>simp at n
  |cons v c=>exact YP.cons (k 0 r v I I)<|uM h1 (by simpa using n) λj o p a b=>k (j+1) o p (by simpa using a) (by simpa using b)
end
section
variable {X:Cx}{e a b:gX}{m:jP}{n fb:FO}{fs:List F}{c:bq}
def Uv{x1}(h:PA X m (tA X.K<|fs.map hG)):PX X (.Tuple m x1 c) (vb fs):=PX.imp (UQ h) λy O Q l=>by obtain⟨o,T,w,q,E,e,k⟩:=l;obtain⟨os,d,h1,e⟩:=gZ e;obtain⟨u,g,e⟩:=gR e;obtain⟨i,e⟩:=iM e;obtain⟨rfl,rfl⟩:=rh e;refine⟨o,T,os,d,E,h1,λx s t B=>?_⟩;have r:=uM g B.len λj r v a b=>B.rep E a b;exact⟨by rw[r.length];exact i,λp f=>(B.done k).tup f (B.np<|Kl f) r⟩
def UA(h:PA X m (tA X.K<|fs.map hG)):PX X (.List m c) (nW fs):=PX.imp (UU h) λy O Q l=>by obtain⟨o,T,w,q,E,e,k⟩:=l;obtain⟨os,d,h1,e⟩:=gZ e;obtain⟨u,f,e⟩:=gR e;obtain⟨g,e⟩:=iM e;obtain⟨rfl,rfl⟩:=rh e;refine⟨o,T,os,d,E,h1,λx s t B=>?_⟩;have r:=uM f B.len λj r v a b=>B.rep E a b;exact⟨by rw[r.length];exact g,λp i=>(B.done k).lst i r⟩
def Ic{g:List D}{f:List V}{d:D}(h:(A1 g)=A1 f)(hd:g=[d]):∃v,f=[v]:=by
 subst hd
 cases f with
 |nil=>simp at h
 |cons v r=>
  cases r with
  |nil=>exact⟨v,rfl⟩
  |cons _ _=>simp at h
noncomputable def g1(g:D->Option (D×Bool)):List D->Option (D×Bool)
 |[d]=>g d
 |_=>U
noncomputable def g2(g:D->D->Option (D×Bool)):List D->Option (D×Bool)
 |[d,e]=>g d e
 |_=>U
def ph{f:gU}{g:D->Option (D×Bool)}(h:∀(i:iN)(s:gM)(j:L2.St)(T:Hp)(x:V)(u:gU)(Q:VK)(O:SI)(d:D)(z:D×Bool),Inv X i j T s->RelV x u->(∀p,¬Ow (T p)->¬O p)->jv X.K T O d x->g d=J z->Gen X.K T O z Q->
  aa (ag X.prog X.w) X.A (call f [u]) (EP X i j Q) X.xe s):ki X f (EU X.K<|g1 g):=by
 intro i s j T B y Q N r q;obtain⟨O,l,z,np,o,hv,k,G⟩:=q
 match l,k with
 |[d],k=>obtain⟨v,rfl⟩:=Ic o I;obtain⟨u,rfl,t⟩:=pF r;exact h i s j T v u Q O d z N t np (hv 0 d v I I) k G
def Oi{f:gU}{g:D->D->Option (D×Bool)}(h:∀(i:iN)(s:gM)(k:L2.St)(T:Hp)(x y:V)(j:je)(Q:VK)(O:SI)(d e:D)(z:D×Bool),Inv X i k T s->Vals [x,y] j->(∀p,¬Ow (T p)->¬O p)->jv X.K T O d x->jv X.K T O e y->g d e=J z->Gen X.K T O z Q->
  aa (ag X.prog X.w) X.A (call f j) (EP X i k Q) X.xe s):ki X f (EU X.K<|g2 g):=by
 intro i s k T u j Q N r t;obtain⟨O,o,z,np,q,hv,l,G⟩:=t;rcases o with _|⟨d,_|⟨e,_|⟨_,_⟩⟩⟩<;>try cases l
 rcases u with _|⟨x,_|⟨y,_|⟨_,_⟩⟩⟩<;>try cases q
 exact h i s k T x y j Q O d e z N r np (hv 0 d x I I) (hv 1 e y I I) l G
noncomputable def qJ:D->Option (D×Bool)
 |.tup l=>J (.int<|A1 l,C)
 |.lst l=>J (.int<|A1 l,C)
 |_=>U
def ad7:ki X (.builtin "len") (EU X.K<|g1 qJ):=ph λf s j T x u Q O d z N i np hd g G=>by
 cases d with
 |tup l=>
  cases g;obtain⟨p,h,rfl,q,r⟩:=lE hd;refine wj f s j T [_] [u] Q N (.cons i .nil) ⟨p,h,rfl,.inr q,?_⟩;rw[r.length];exact G.int
 |lst l=>
  cases g;obtain⟨p,h,rfl,q,r⟩:=kO hd;refine wj f s j T [_] [u] Q N (.cons i .nil) ⟨p,h,rfl,.inl q,?_⟩;rw[r.length];exact G.int
 |_=>cases g
noncomputable def xE:D->Option (D×Bool)
 |.int i=>J (.int (if i<0 then -i else i),C)
 |_=>U
def aeb:ki X (.builtin "abs") (EU X.K<|g1 xE):=ph λf s j T x u Q O d z N h np hd g G=>by
 cases d with
 |int i=>cases g;exact Oj f s j T [x] [u] Q N (.cons h .nil) ⟨i,by rw[iP hd],G.int⟩
 |_=>cases g
noncomputable def Rl:D->Option (D×Bool)
 |.int i=>J (.int i,C)
 |.bl b=>J (.int (if b then 1 else 0),C)
 |_=>U
def ad8:ki X (.type "int") (EU X.K<|g1 Rl):=ph λf s j T x u Q O d z N h np hd g G=>by
 cases d with
 |int i=>cases g;exact BJ f s j T [x] [u] Q N (.cons h .nil)<|.inl ⟨i,by rw[iP hd],G.int⟩
 |bl i=>
  cases g;refine BJ f s j T [x] [u] Q N (.cons h .nil)<|.inr ⟨i,by rw[HE hd],?_⟩;have:=G.int;cases i<;>exact this
 |_=>cases g
noncomputable def mX:D->Option (D×Bool)
 |.tup l=>J (.tup l,C)
 |.lst l=>J (.tup l,C)
 |_=>U
def yg:ki X (.type "tuple") (EU X.K<|g1 mX):=ph λf s o T x u Q O d z N k np hd g G=>by
 cases d with
 |tup l=>
  cases g;have j:Rep X.K T O (.tup l) x:=hd.elim id λ⟨_,_,z⟩=>z.elim;obtain⟨p,h,rfl,q,r⟩:=j.tup;exact um f s o T [_] [u] Q N (.cons k .nil) ⟨p,h,rfl,.inr ⟨q.sq,G _ T (λ_ _ e=>e) j⟩⟩
 |lst l=>
  cases g;obtain⟨p,h,rfl,q,r⟩:=kO hd;exact um f s o T [_] [u] Q N (.cons k .nil) ⟨p,h,rfl,.inl ⟨q,λt i=>G.tup i (np t<|Kl i) r⟩⟩
 |_=>cases g
noncomputable def Bu:D->Option (D×Bool)
 |.tup l=>J (.lst l,Y)
 |.lst l=>J (.lst l,Y)
 |_=>U
def acW:ki X (.type "list") (EU X.K<|g1 Bu):=ph λf s k T x u Q O d z N j np hd g G=>by
 cases d with
 |tup l=>
  cases g;obtain⟨p,i,rfl,q,r⟩:=lE hd;exact wg f s k T [_] [u] Q N (.cons j .nil) ⟨p,i,rfl,.inr q,λt h=>G.lst h r⟩
 |lst l=>
  cases g;obtain⟨p,i,rfl,q,r⟩:=kO hd;exact wg f s k T [_] [u] Q N (.cons j .nil) ⟨p,i,rfl,.inl q,λt h=>G.lst h r⟩
 |_=>cases g
end
abbrev FT:=Dn->Option (Bool×Dn)
inductive tT(K:iz)(f:FT)(σ:L2.St)(H:Hp)(Q:Bool->Hp->Prop):Prop where
 |mk (δ:Dn) (T:SI) (b:Bool) (δ':Dn) (_:ER K H T σ δ) (_:f δ=z8 (b,δ')) (_:∀H',I8 σ δ H δ' H'->ER K H' T σ δ'->Q b H')
def PTX(X:Cx)(e:gX)(f:FT):Prop:=PT X e<|tT X.K f
def PWX(X:Cx)(e:gX)(f:FT):Prop:=PW X e<|tT X.K f
noncomputable def JX:(D×Bool)×Dn->Option (Bool×Dn)
 |((.bl b,_),a)=>J (b,a)
 |_=>U
def fT(f:F):FT:=λδ=>(f δ).bind JX
def Aq(h:JX p=J q):∃o,p=((.bl q.1,o),q.2):=by
 obtain⟨⟨d,o⟩,a⟩:=p
 cases d with
 |bl b=>cases h;exact⟨o,rfl⟩
 |_=>cases h
def Se{K:iz}{f:F}{a:L2.St}{O:Hp}{Q:Bool->Hp->Prop}(h:tT K (fT f) a O Q):tF K f a O λx i=>∃c,x=.bl c/\Q c i:=by obtain⟨l,T,b,m,E,e,k⟩:=h;obtain⟨p,h1,j⟩:=gR e;obtain⟨o,rfl⟩:=Aq j;refine⟨l,T,_,_,E,h1,λv g P=>?_⟩;obtain⟨d,r⟩:=P.rep E;exact⟨b,r.bl,k g P.1 d⟩
section
variable {X:Cx}{e a b c:gX}{A:jP}{l i:FO}{f g:F}{w n:FT}{m:bq}
def PT.imp'(h:PT X e t)(k:∀j T Q,p j T Q->t j T Q):PT X e p:=λd s j T Q O o=>h d s j T Q O<|k j T Q o
def PW.imp'(h:PW X e t)(k:∀j T Q,p j T Q->t j T Q):PW X e p:=λwh d s j T Q O o=>h wh d s j T Q O<|k j T Q o
def QR{r:R2}{g:D->D->Option (D×Bool)}(M:Wc X.K r g){t:L2.St}{H:Hp}{Q:VK}(N:tF X.K (il g l i) t H Q):Jh r (tO X.K l) (tO X.K i) t H Q:=by obtain⟨Y,T,R,F,E,e,k⟩:=N;obtain⟨o,d,h1,e⟩:=gZ e;obtain⟨U,q,I,e⟩:=gZ e;obtain⟨x,L,e⟩:=gR e;obtain⟨y,O,e⟩:=gR e;obtain⟨z,G,e⟩:=gR e;obtain⟨rfl,rfl⟩:=iD e;refine⟨Y,T,o,d,E,h1,λv P h=>⟨d,A6 T o v,U,q,h.er E,I,λu C s=>?_⟩⟩;have B:=Ops.cons E h<|Ops.cons (h.er E) s<|Ops.nil<|s.er<|h.er E;exact M x y z v u C _ Q (λp J=>B.np J) (B.view (j:=0) AT AT L) (B.view (j:=1) AT AT O) G (B.done k)
def X7{K:iz}{g:D->D->Option (D×Bool)}:Wc K (rD K g) g:=λx y z v u T O Q np h j d G=>⟨O,x,y,z,np,h,j,d,G⟩
noncomputable def sy(f g:FT):FT:=λd=>(f d).bind λp=>if p.1=Y then g p.2 else J (C,p.2)
noncomputable def Dk(f g:FT):FT:=λd=>(f d).bind λp=>if p.1=Y then J (Y,p.2)else g p.2
noncomputable def sv(f:FT):FT:=λδ=>(f δ).bind λp=>J (!p.1,p.2)
def Ab(f g:F):F:=λd=>(f d).bind λp=>(JX p).bind λq=>if q.1=Y then g q.2 else J ((.bl C,C),q.2)
def VQ(f:F):F:=λd=>(f d).bind λp=>(JX p).bind λq=>J ((.bl (!q.1),C),q.2)
def Ls.pre{K:iz}{T:SI}{h:L2.St}{δ δ1 δ2:Dn}{Q j q:Hp}{r:D×Bool}{v:V}(k:I8 h δ Q δ1 j)(P:Ls K T h δ1 j r δ2 v q):Ls K T h δ Q r δ2 v q:=by
 refine⟨k.trans P.1,?_⟩;obtain⟨d,o⟩:=r
 cases o
 .exact P.2
 obtain⟨p,h1,s,t⟩:=P.2;refine⟨p,h1,?_,t⟩
 cases u:Q p with
 |none=>rfl
 |some x=>exact absurd s<|k.dm p (by rw[u];simp)
noncomputable def JK(t:FT)(f g:F):F:=λd=>(t d).bind λp=>if p.1=Y then f p.2 else g p.2
end
inductive Out where
 |nx(δ:Dn)|rt(r:D×Bool)(δ:Dn)|bk(δ:Dn)|ct(δ:Dn)
abbrev FS:=Dn->Option Out
structure SK(A:jo)(σ:L2.St)(δ:Dn)(H:Hp)(σ':L2.St)(δ':Dn)(H':Hp):Prop where
 kp:∀a o,H a=z8 o->¬X0 σ δ a->H' a=z8 o
 owi:∀i a,OO σ' δ' i a->OO σ δ i a\/H a=z9\/(A i/\∃j,A j/\OO σ δ j a)
 dm:∀a,H a≠z9->H' a≠z9
 as:∀i,¬A i->σ'[i]?=σ[i]?
structure LL where
 p:Nat->Prop
 st:Option L2.St
structure FI(A:jo)(L:LL)(H0:Hp)(σ:L2.St)(δ:Dn)(H:Hp):Prop where
 ow:∀i a,OO σ δ i a->L.p i\/H0 a=z9
 dm:∀a,H0 a≠z9->H a≠z9
 al:∀j,A j->¬L.p j
 gh:∀z,L.st=z8 z->∀i,¬A i->σ[i]?=z[i]?
def RV(K:iz)(T:SI)(f:Hp)(r:D×Bool)(c:L2.St)(b:Dn)(v:V)(e:Hp):Prop:=
 match r with
 |(d,C)=>ER K e T c b/\Rep K e (λa=>X0 c b a\/T a) d v
 |(d,Y)=>∃p,v=.ref p/\f p=U/\ER K e (λa=>T a\/a=p) c b/\A4 K e (λa=>X0 c b a\/T a\/a=p) d p
section
variable {A:jo}{c b m:L2.St}{δ δ1 δ2:Dn}{H l g q:Hp}{L:LL}{K:iz}{T:SI}
def SK.refl:SK A c δ H c δ H:=⟨λ_ _ e _=>e,λ_ _ z=>.inl z,λ_ z=>z,λ_ _=>rfl⟩
def SK.ow(k:SK A c δ H b δ1 g)(a:gJ)(h:X0 b δ1 a):X0 c δ a\/H a=U:=by
 obtain⟨i,d,h1,o⟩:=h;rcases k.owi i a ⟨d,h1,o⟩with⟨e,f,n⟩|z|⟨_,j,_,e,f,n⟩
 .exact .inl ⟨i,e,f,n⟩
 .exact .inr z
 exact .inl ⟨j,e,f,n⟩
def SK.trans(x:SK A c δ H b δ1 g)(y:SK A b δ1 g m δ2 q):SK A c δ H m δ2 q where
 kp:=λa o e n=>y.kp a o (x.kp a o e n) λz=>(x.ow a z).elim n λz=>by rw[z]at e;cases e
 owi:=λi a z=>(y.owi i a z).elim (x.owi i a) λz=>z.elim (λz=>.inr (.inl (by
  cases h:H a with
  |none=>rfl
  |some o=>exact absurd z<|x.dm a<|by rw[h];simp))) λ⟨d,j,f,z⟩=>(x.owi j a z).elim (λz=>.inr (.inr ⟨d,j,f,z⟩)) λz=>z.elim (λz=>.inr (.inl z)) λ⟨_,k,ak,z⟩=>.inr (.inr ⟨d,k,ak,z⟩)
 dm:=λa z=>y.dm a<|x.dm a z
 as:=λi h=>(y.as i h).trans<|x.as i h
def I8.sk(k:I8 c δ H δ1 g):SK A c δ H c δ1 g:=⟨k.kp,λi a z=>.inl (k.owi i a z),k.dm,λ_ _=>rfl⟩
def FI.step(f:FI A L l c δ H)(k:SK A c δ H b δ1 g):FI A L l b δ1 g where
 ow:=λi a z=>(k.owi i a z).elim (f.ow i a) λz=>.inr (z.elim (λz=>by
  cases h:l a with
  |none=>rfl
  |some o=>exact absurd z<|f.dm a<|by rw[h];simp) λQ=>by obtain⟨_,j,d,z⟩:=Q;exact (f.ow j a z).resolve_left<|f.al j d)
 dm:=λa z=>k.dm a<|f.dm a z
 al:=f.al
 gh:=λz e i n=>(k.as i n).trans<|f.gh z e i n
def FI.fresh(f:FI A L l c δ H)(a:H p=U):l p=U:=by
 cases h:l p with
 |none=>rfl
 |some o=>exact absurd a<|f.dm p (by rw[h];simp)
end
def We(K:iz)(A:jo)(f:Hp)(D:Ends)(e:L2.St)(d:Dn)(Q:Hp)(T:SI)(out:Out):Prop:=
 match out with
 |.nx b=>∀a c,SK A e d Q a b c->ER K c T a b->D.nx a c
 |.bk b=>∀a c,SK A e d Q a b c->ER K c T a b->D.bk a c
 |.ct b=>∀a c,SK A e d Q a b c->ER K c T a b->D.ct a c
 |.rt r b=>∀v a c,SK A e d Q a b c->RV K T f r a b v c->D.rt v c
inductive tS(K:iz)(A:jo)(L:LL)(H0:Hp)(f:FS)(D:Ends)(σ:L2.St)(H:Hp):Prop where
 |mk (δ:Dn) (T:SI) (out:Out) (_:ER K H T σ δ) (_:FI A L H0 σ δ H) (_:f δ=z8 out) (_:We K A H0 D σ δ H T out)
def Ke(X:Cx)(A:jo)(L:LL)(a:Hp)(st:aU)(f:FS):Prop:=PS X st<|tS X.K A L a f
def DG(X:Cx)(A:jo)(L:LL)(a:Hp)(st:List aU)(f:FS):Prop:=Dg X st<|tS X.K A L a f
noncomputable def ir:FS:=λδ=>J<|.nx δ
noncomputable def gW(f g:FS):FS:=λδ=>(f δ).bind λo=>match o with
 |.nx δ1=>g δ1
 |o=>J o
noncomputable def nA(f:F):FS:=λa=>(f a).bind λp=>J<|.nx p.2
noncomputable def kn(f:F):FS:=λδ=>(f δ).bind λp=>J<|.rt p.1 p.2
noncomputable def pX(i:Nat):FS:=λa=>match a[i]? with
 |some (J (d,Y))=>J<|.rt (d,Y)<|a.set i U
 |some (J (d,C))=>J<|.rt (d,C) a
 |_=>U
noncomputable def AD(t:FT)(f g:FS):FS:=λδ=>(t δ).bind λp=>if p.1=Y then f p.2 else g p.2
noncomputable def jy(i:Nat)(f:F):FS:=λδ=>(f δ).bind λp=>if i<(A1 p.2)then J (.nx<|p.2.set i<|J p.1)else U
section
variable {X:Cx}{A:jo}{L:LL}{d:Hp}{st:aU}{l:List aU}{f g:FS}{m:F}{j:FT}{e c:gX}{i:bq}
def PS.imp'(h:PS X st t)(k:∀D b T,o D b T->t D b T):PS X st o:=λa s b T D Q n=>h a s b T D Q<|k D b T n
def Dg.imp'(h:Dg X l t)(k:∀D b T,o D b T->t D b T):Dg X l o:=λa s b T D Q n=>h a s b T D Q<|k D b T n
def UK(Q:PTX X c j)(M:DG X A L d a f)(O:DG X A L d b g):Ke X A L d (.If c a b i) (AD j f g):=PS.imp' (Yc Q M O) λD w N J=>by
 obtain⟨y,T,out,E,C,e,k⟩:=J;obtain⟨c,o,h1,e⟩:=gZ e;refine⟨y,T,c,o,E,h1,λx B z=>?_⟩;have u:SK A w y N w o x:=B.sk
 have fin:∀(h:FS),h o=z8 out->tS X.K A L d h D w x:=λh G=>by
  refine⟨o,T,out,z,C.step u,G,?_⟩
  cases out with
  |nx s=>exact λn p q t=>k n p (u.trans q) t
  |bk s=>exact λn p q t=>k n p (u.trans q) t
  |ct s=>exact λn p q t=>k n p (u.trans q) t
  |rt r s=>exact λv n p q R2=>k v n p (u.trans q) R2
 cases c with
 |true=>rw[hV I]at e;exact(show(if Y=Y then tS X.K A L d f D w x else _)from by rw[hV I];exact fin f e)
 |false=>rw[iC ky]at e;exact(show(if AC=Y then _ else tS X.K A L d g D w x)from by rw[iC ky];exact fin g e)
end
def mG{b:Type}{l:List b}{i j:Nat}{x y:b}(h:(l.set i x)[j]?=J y):(i=j/\i<A1 l/\y=x)\/(i≠j/\l[j]?=J y):=by
 rw[wQ]at h;split at h
 .rename_i a;split at h
  .rename_i c;exact .inl ⟨a,c,(jZ h).symm⟩
  cases h
 rename_i a;exact .inr ⟨a,h⟩
section
variable {K:iz}{T:SI}{f:L2.St}{l c:Dn}{H g:Hp}{x:D×Bool}{v:V}{i:Nat}
def OO.store{j:Nat}{a:gJ}(h:OO (f.set i<|J v) (l.set i<|J x) j a):(i≠j/\OO f l j a)\/(i=j/\x.2=Y/\v=.ref a):=by
 obtain⟨d,h1,m⟩:=h;rcases mG h1 with⟨e,_,q⟩|⟨ne,q⟩
 .rcases mG m with⟨_,_,k⟩|⟨b,_⟩
  .right;cases q;exact⟨e,rfl,(jZ k).symm⟩
  exact absurd e b
 rcases mG m with⟨n,_,_⟩|⟨_,k⟩
 .exact absurd n ne
 exact .inl ⟨ne,d,q,k⟩
def X0.store(h:X0 (f.set i<|J v) (l.set i<|J x) a):X0 f l a\/(x.2=Y/\v=.ref a):=by
 obtain⟨j,d,h1,k⟩:=h;rcases OO.store ⟨d,h1,k⟩with⟨_,e,b,m⟩|⟨_,b⟩
 .exact .inl ⟨j,e,b,m⟩
 exact .inr b
def ER.store(h:ER K g (JY T x v) f c)(E:i<A1 c)(u:match x with|(d,C)=>Rep K g (λa=>X0 f c a\/T a) d v|(d,Y)=>∃p,v=.ref p/\¬T p/\A4 K g (λa=>X0 f c a\/T a\/a=p) d p):
  ER K g T (f.set i<|J v) (c.set i<|J x):=by
 have r:i<(A1 f):=by rw[h.len];exact E
 have sub:∀b,g b≠U->(X0 (f.set i<|J v) (c.set i<|J x) b\/T b)->(X0 f c b\/JY T x v b):=λb _ z=>by
  rcases z with z|z
  .rcases z.store with z|z
   .exact .inl z
   exact .inr (.inr z)
  exact .inr (.inl z)
 refine⟨by rw[ud,ud];exact h.len,λj d o=>?_,λj d o=>?_,λj k d e a o hk h1 n=>?_,λa z=>?_,λa z=>h.dom a<|.inl z⟩
 .rcases mG o with⟨rfl,_,q⟩|⟨ne,q⟩
  .have q:=jZ q;subst q
   exact⟨v,pz r,Rep.mono (λ_ _ e _=>e) (λb Q z=>by
    rcases z with z|z
    .rcases z.store with z|z
     .exact .inl z
     exact absurd z.1 (by simp)
    exact .inr z) u⟩
  obtain⟨w,h1,n⟩:=h.val j d q;exact⟨w,by rw[lC ne];exact h1,Rep.mono (λ_ _ e _=>e) sub n⟩
 .rcases mG o with⟨rfl,_,q⟩|⟨ne,q⟩
  .have q:=jZ q;subst q;obtain⟨p,rfl,np,ok⟩:=u;refine⟨p,pz r,ok.mono (λ_ _ e _=>e) (λb Q z=>?_) λ_ e=>e⟩;rcases z with z|z
   .rcases z.store with z|z
    .exact .inl z
    have:=z.2;cases this;exact .inr<|.inr I
   exact .inr (.inl z)
  obtain⟨a,h1,n⟩:=h.own j d q;exact⟨a,by rw[lC ne];exact h1,n.mono (λ_ _ e _=>e) sub λ_ e=>e⟩
 .rcases OO.store ⟨d,o,h1⟩with⟨L,y,g1,g2⟩|⟨B,g1,g2⟩
  .rcases OO.store ⟨e,hk,n⟩with⟨O,s,g3,m⟩|⟨A,g3,m⟩
   .exact h.inj j k y s a g1 g3 g2 m
   exact absurd (bp ⟨g3,m⟩) (h.nT a ⟨j,y,g1,g2⟩)
  rcases OO.store ⟨e,hk,n⟩with⟨O,s,g3,m⟩|⟨A,g3,m⟩
  .exact absurd (bp ⟨g1,g2⟩) (h.nT a ⟨k,s,g3,m⟩)
  exact B.symm.trans A
 rcases z.store with z|z
 .exact λt=>h.nT a z<|.inl t
 obtain⟨d,b⟩:=x
 cases b
 .exact absurd z.1 (by simp)
 obtain⟨p,rfl,np,_⟩:=u;have:=z.2;cases this;exact np
def SK.store(k:I8 f l H c g)(b:A i)(h:x.2=Y->∀p,v=.ref p->H p=U):SK A f l H (f.set i<|J v) (c.set i<|J x) g where
 kp:=k.kp
 owi:=λj a z=>by
  rcases z.store with⟨_,z⟩|⟨_,m,n⟩
  .exact .inl (k.owi j a z)
  exact .inr (.inl<|h m a n)
 dm:=k.dm
 as:=λj d=>lC λ(e:i=j)=>d (by subst e;exact b)
end
section
variable {X:Cx}{A:jo}{L:LL}{g:Hp}{f:F}{e c:gX}{b a:bq}
def vG{K:iz}{T:SI}{k:L2.St}{n j:Dn}{Q l:Hp}{r:D×Bool}{v:V}{i:Nat}(E:ER K Q T k n)(P:Ls K T k n Q r j v l)(u:i<A1 j)(t:A i):
  SK A k n Q (k.set i<|J v) (j.set i<|J r) l/\ER K l T (k.set i<|J v) (j.set i<|J r):=by
 have w:r.2=Y->∀p,v=.ref p->Q p=U:=λh p hv=>by
  obtain⟨d,o⟩:=r
  cases o
  .cases h
  obtain⟨q,h1,m,_⟩:=P.2;rw[hv]at h1;cases h1;exact m
 refine⟨SK.store P.1 t w,ER.store (P.er E) u ?_⟩;obtain⟨d,o⟩:=r
 cases o
 .exact P.2.2
 obtain⟨p,rfl,m,x,s⟩:=P.2;exact⟨p,rfl,λz=>(E.dom p z).ne m,s⟩
end
abbrev Tg:=D->Dn->Option Dn
inductive tG(K:iz)(A:jo)(tg:Tg)(v:V)(σ:L2.St)(hp:Hp)(Q:L2.St->Hp->Prop):Prop where
 |mk (δ:Dn) (T:SI) (d:D) (δ':Dn) (_:ER K hp T σ δ) (_:Rep K hp (λa=>X0 σ δ a\/T a) d v) (_:tg d δ=z8 δ') (_:∀σ',SK A σ δ hp σ' δ' hp->ER K hp T σ' δ'->Q σ' hp)
def JR(X:Cx)(A:jo)(e:gX)(a:Tg):Prop:=PG X e<|tG X.K A a
noncomputable def gP(i:Nat):Tg:=λd δ=>if i<(A1 δ)then J (δ.set i<|J (d,C))else U
noncomputable def HJ:List Tg->List D->Dn->Option Dn
 |[],[],a=>J a
 |t::b,d::ds,a=>(t d a).bind<|HJ b ds
 |_,_,_=>U
def LK(a:List Tg):Tg
 |.tup ds,b=>HJ a ds b
 |_,_=>U
inductive M3(K:iz)(A:jo)(ts:List Tg)(vs:List V)(σ:L2.St)(hp:Hp)(Q:L2.St->Hp->Prop):Prop where
 |mk (δ:Dn) (T:SI) (ds:List D) (δ':Dn) (_:ER K hp T σ δ) (_:YP K hp (λa=>X0 σ δ a\/T a) ds vs) (_:HJ ts ds δ=z8 δ') (_:∀σ',SK A σ δ hp σ' δ' hp->ER K hp T σ' δ'->Q σ' hp)
section
variable {X:Cx}{A:jo}{g:bq}{e:gX}{f:jP}{t:Tg}{c:List Tg}
def PG.imp'{t d:TG}(h:PG X e t)(k:∀v b T Q,d v b T Q->t v b T Q):PG X e d:=λa s b T v u Q O r i=>h a s b T v u Q O r<|k v b T Q i
def Hn.imp'{t d:JZ}(h:Hn X f t)(k:∀v b T Q,d v b T Q->t v b T Q):Hn X f d:=λa s b T v u Q O r i=>h a s b T v u Q O r<|k v b T Q i
def aeE:Hn X [] (M3 X.K A []):=Hn.imp' Qn λv h O Q b=>by
 obtain⟨i,T,a,d,E,r,e,k⟩:=b
 cases a with
 |nil=>
  cases e;rw[YP]at r;exact⟨r,k h .refl E⟩
 |cons _ _=>cases e
def Bi(h1:JR X A e t)(p:Hn X f (M3 X.K A c))(u:(aQ (e::f) X.env).map (·.2)=b5 e X.env::(aQ f X.env).map (·.2)):Hn X (e::f) (M3 X.K A (t::c)):=Hn.imp' (aeF h1 p u) λv O N Q w=>by
 obtain⟨M,T,h,i,E,r,e,k⟩:=w
 cases h with
 |nil=>cases e
 |cons d h=>rw[YP]at r;obtain⟨B,G,rfl,x,y⟩:=r;obtain⟨a,q,e⟩:=gR e;refine⟨B,G,rfl,M,T,d,a,E,x,q,λL l m=>⟨a,T,h,i,m,?_,e,λj o n=>k j (l.trans o) n⟩⟩;exact YP.mono (λ_ _ e _=>e) (λb s z=>z.elim (λz=>(l.ow b z).elim aT λz=>absurd z s) bp) y
def Qm{k:Nat}(o:X.calm=Y)(h:Hn X f (M3 X.K A c)){n:Nat}(s:(aQ f X.env).length=n)(p:c.length=n)(x:(aQ f X.env).findIdx? (·.1)=U):JR X A (.Tuple f k g) (LK c):=PG.imp' (UP o h s x) λv z O Q u=>by
 obtain⟨i,T,d,j,E,r,e,k⟩:=u
 cases d with
 |tup b=>
  obtain⟨a,y,rfl,q,m⟩:=r.tup;refine⟨a,y,rfl,q.sq,?_,i,T,b,j,E,m,e,k⟩
  have:∀(c:List Tg)(b:List D)(i:Dn),HJ c b i=J j->b.length=c.length:=by
   intro c
   induction c with
   |nil=>intro b i h;cases b with|nil=>rfl|cons _ _=>cases h
   |cons t c w=>
    intro b i h
    cases b with
    |nil=>cases h
    |cons d b=>obtain⟨l,_,h⟩:=gR h;simp[w b l h]
  rw[m.length,this c b i e,p]
 |_=>cases e
end
abbrev SB:=Nat->Prop
def Je(B:SB)(T:SI)(c:L2.St)(b:Dn):SI:=λa=>(∃i,¬B i/\OO c b i a)\/T a
def Je.own(h:Je B T σ δ a):X0 σ δ a\/T a:=h.imp (λQ=>by obtain⟨i,_,d,h1,b⟩:=Q;exact ⟨i,d,h1,b⟩) id
structure JG(K:iz)(J:It)(ds:List D)(P O:SI)(H1:Hp):Prop where
 go:∀(i:Nat) d Hi,ds[i]?=z8 d->(∀a o,H1 a=z8 o->¬P a->Hi a=z8 o)->J.go i Hi/\∀x H',J.yld i Hi x H'->(∀a o,Hi a=z8 o->H' a=z8 o)/\
  ∀O':SI,(∀b,H1 b≠z9->O' b->O b)->(∀b,Hi b=z9->¬O' b)->Rep K H' O' d x
 stop:∀(i:Nat) Hi,A1 ds<=i->(∀a o,H1 a=z8 o->¬P a->Hi a=z8 o)->J.stop i Hi
abbrev AE:=Dn->Option (List D×Dn)
def tI(K:iz)(B:SB)(g:AE):TI:=λc Q R=>∃e T f b,ER K Q T c e/\g e=J (f,b)/\∀O d,I8 c e Q b d->ER K d T c b->JG K O f (Je B T c b) (λa=>X0 c b a\/T a) d->R O d
def JQ(X:Cx)(B:SB)(tg iter:gX)(a:AE):Prop:=PI X tg iter<|tI X.K B a
noncomputable def D8:D->Option (List D)
 |.tup l=>J l
 |.lst l=>J l
 |_=>U
def xy(f:FO):AE:=λδ=>(f δ).bind λp=>(res p.2 p.1).bind λd=>(D8 d).bind λl=>J (l,p.2)
noncomputable def jd(f:F):AE:=λδ=>(f δ).bind λp=>match p.1.1 with
 |.lst l=>J (l,p.2)
 |.tup l=>J (l,p.2)
 |_=>U
noncomputable def iI(lo:Int)(n:Nat):List D:=(ap n).map λ(k:Nat)=>.int (lo+k)
def yp(f:FO):AE:=λδ=>(kD [f] δ).bind λp=>match uP p.2 p.1 with
 |some [.int j]=>if -(2^62)<=j/\j<2^62 then J (iI 0 j.toNat,p.2)else U
 |_=>U
def SlB(B:SB)(f:FO):Prop:= ∀b i a,f b=J (.slot i,a)->B i
def PD:SlB B (hG f):=λb i a h=>by obtain⟨p,_,h⟩:=gR h;cases h
def PC(h:B i):SlB B (gK i):=λb j a e=>by
 unfold gK at e;split at e<;>cases e
 exact h
noncomputable def L4:D->Bool
 |.lst _=>Y
 |_=>C
def GU(b:Bool)(K:iz)(T:Hp)(P:SI)(a:gJ)(c:List V):Prop:=if b=Y then Dz K T P a c else Dy K T P a c
def GU.mono{K T H'}{P P':SI}(q:GU b K T P a xs)(k:∀b o,T b=J o->¬P b->H' b=J o)(c:∀b,P' b->P b):GU b K H' P' a xs:=by
 cases b
 .exact Dy.mono (K:=K) q k λb _=>c b
 exact Dz.mono q k λb _=>c b
def GU.l{K T}(q:GU Y K T P a xs):CU K T a xs:=Dz.sq q
def GU.t{K T}(q:GU C K T P a xs):Ek K T a xs:=Dy.sq (K:=K) q
def Bg{K T}(h:D8 d=J l)(r:Rep K T O d v):∃a b,v=.ref a/\GU (L4 d) K T O a b/\YP K T O l b:=by
 cases d with
 |tup m=>cases h;obtain⟨a,b,rfl,q,c⟩:=r.tup;exact⟨a,b,rfl,q,c⟩
 |lst m=>cases h;obtain⟨a,b,rfl,q,c⟩:=r.lst;exact⟨a,b,rfl,q,c⟩
 |_=>cases h
def Ops.seq{K:iz}{T G:SI}{h:L2.St}{A c:Dn}{N n:Hp}{os:List F2}{y:List V}(E:ER K N T h A)(W:Ops K T h A N os y c n G){j:Nat}(h1:os[j]?=J o)(x:y[j]?=J v)(s:res c o=J d)(t:D8 d=J l)(L:∀i,o=.slot i->B i):
  ∃a g,v=.ref a/\GU (L4 d) K n (Je B T h c) a g/\YP K n (λa=>X0 h c a\/T a) l g:=by
 have fin:Rep K n (λa=>X0 h c a\/T a) d v->∃a g,v=.ref a/\GU (L4 d) K n (Je B T h c) a g/\YP K n (λa=>X0 h c a\/T a) l g:=λr=>by obtain⟨a,g,rfl,q,u⟩:=Bg t r;exact⟨a,g,rfl,q.mono (λ_ _ e _=>e) λa z=>z.own,u⟩
 cases o with
 |val r=>cases s;exact fin<|W.rep E h1 x
 |slot i=>
  have hk:=W.slt j i _ h1 x
  have hd:∃f,c[i]?=J (J (d,f)):=by
   unfold res at s;dsimp only at s;split at s<;>cases s
   exact⟨_,by assumption⟩
  obtain⟨f,hd⟩:=hd
  cases f
  .obtain⟨w,p,M⟩:=W.er.val i _ hd;rw[hk]at p;cases p;exact fin<|Rep.mono (λ_ _ e _=>e) (λb _ z=>z.imp id<|W.tt b) M
  obtain⟨a,p,ok⟩:=W.er.own i _ hd;rw[hk]at p;cases p
  cases d with
  |lst m=>
   cases t;obtain⟨g,e,u⟩:=ok;exact⟨a,g,rfl,.inl ⟨.inl e,λz=>z.elim (λa'=>by obtain⟨k,O,Q,g1,g2⟩:=a';exact O<|W.er.inj i k _ _ a hd g1 hk g2▸L i I) λz=>W.er.nT a ⟨i,_,hd,hk⟩<|W.tt a z⟩,YP.mono (λ_ _ e _=>e) (λb _ z=>z.imp id<|W.tt b) u⟩
  |tup m=>exact ok.elim
  |_=>cases t
section
variable {X:Cx}{B:SB}{tg e:gX}{f:F}{c:FO}{g p:bq}
def PI.imp'(h:PI X tg e t)(k:∀b T R,i b T R->t b T R):PI X tg e i:=λa s b T R Q d=>h a s b T R Q<|k b T R d
def PI.or(h:PI X tg e t)(d:PI X tg e j):PI X tg e (λb T R=>t b T R\/j b T R):=λa s b T R Q i=>i.elim (h a s b T R Q)<|d a s b T R Q
def ItS(b:Bool)(K:iz)(a:gJ):It:=if b=Y then Itl K a else Itt K a
def NB{K:iz}{P O:SI}{m:Hp}{a:gJ}{k:List V}{l:List D}(q:GU b K m P a k)(r:YP K m O l k)(v:∀a,P a->O a):JG K (ItS b K a) l P O m:=by
 cases b<;>(
  refine⟨λi d Hi hd j=>?_,λi Hi w j=>?_⟩
  .have h:=GU.mono q j λ_ z=>z
   first|replace h:=h.l|replace h:=h.t
   obtain⟨x,u,A⟩:=r.get hd;refine⟨⟨k,x,h,u⟩,λy Q s=>?_⟩;obtain⟨rfl,s⟩:=s;have:=s k h;rw[u]at this;cases this;exact⟨λ_ _ e=>e,λE h1 T=>Rep.mono (λb o e n=>j b o e λz=>n<|v b z) h1 A⟩
  exact⟨k,by first|exact(GU.mono q j λ_ z=>z).l|exact(GU.mono q j λ_ z=>z).t,by rw[r.length];exact w⟩)
def zO{K:iz}{P O:SI}{b:Hp}(lo:Int)(n:Nat):JG K (LM lo n) (iI lo n) P O b:=by
 refine⟨λi d Hi hd j=>?_,λi Hi a j=>?_⟩
 .unfold iI at hd;rw[kg]at hd;obtain⟨k,h1,h⟩:=iT hd;have a:i<n:=by have:=(ue.mp h1).1;simpa using this
  have hk:k=i:=by rw[List.getElem?_range a]at h1;exact(jZ h1).symm
  subst hk;refine⟨a,λy m l=>?_⟩;obtain⟨rfl,rfl⟩:=l;refine⟨λ_ _ e=>e,λo _ _=>?_⟩;rw[<-h];exact Rep.mkInt
 unfold iI at a;have:n<=i:=by simpa using a
 exact this
def Eg(h:PO X e c)(C:SlB B c):JQ X B tg e (xy c):=PI.imp' (PI.or (Ql (tg:=tg) h)<|UO h) λy N R L=>by
 obtain⟨w,T,G,Q,E,e,k⟩:=L;obtain⟨o,u,h1,e⟩:=gZ e;obtain⟨d,A,e⟩:=gR e;obtain⟨l,x,e⟩:=gR e;obtain⟨rfl,rfl⟩:=iD e
 have key:∀v n,Af X.K T y w N o u v n->∃a s,v=.ref a/\GU (L4 d) X.K n (Je B T y u) a s/\R (ItS (L4 d) X.K a) n:=λv n P=>by have W:=Ops.cons E P<|Ops.nil<|P.er E;obtain⟨a,s,rfl,q,O⟩:=W.seq E (j:=0) I I A x λi M=>C _ _ _ (M▸h1);exact⟨a,s,rfl,q,k _ n W.keep (W.er.mono (λ_ _ e _=>e) (λb _ z=>W.tt b z) λa z=>W.er.dom a<|W.tt a z) (NB q O λa z=>z.own)⟩
 cases d with
 |lst m=>exact .inl ⟨w,T,_,_,E,h1,λv n P=>let⟨a,s,e,q,r⟩:=key v n P;⟨a,e,⟨s,q.l⟩,r⟩⟩
 |tup m=>exact .inr ⟨w,T,_,_,E,h1,λv n P=>let⟨a,s,e,q,r⟩:=key v n P;⟨a,e,⟨s,q.t⟩,r⟩⟩
 |_=>cases x
end
noncomputable def lJ(c:Tg)(b:FS):List D->FS
 |[],δ=>J<|.nx δ
 |d::ds,δ=>(c d δ).bind λδ1=>(b δ1).bind λo=>match o with
  |.nx a=>lJ c b ds a
  |.ct a=>lJ c b ds a
  |.bk a=>J<|.nx a
  |.rt r a=>J<|.rt r a
def nE(b:AE)(c:Tg)(a:FS):FS:=λδ=>(b δ).bind λp=>lJ c a p.1 p.2
section
variable {X:Cx}{A:jo}{L:LL}{l:Hp}{g iter:gX}{c:List aU}{j:AE}{t:Tg}{f:FS}{h:bq}
def Qf(hp:dU (ag X.prog X.w) X.A X.env X.xe)(hc:X.calm=At)(hi:JQ X (λ_=>False) g iter j)(hg:JR X A g t)(G:DG X A L l c f)(hs:∀x,aq iter X.env x=pure x):
  Ke X A L l (.For g iter c [] h) (nE j t f):=PS.imp' (UL hp hc hi hg G hs) λD M H hw=>by
 obtain⟨δ,T,out,E,gu,e,k⟩:=hw;obtain⟨u,q,h1,e⟩:=gZ e;refine⟨δ,T,u,q,E,h1,λJ Y K1 E1 ok=>?_⟩;have S:SK A M δ H M q Y:=K1.sk;refine⟨λi m s C'=>m=A1 u-i/\i<=A1 u/\∃p,SK A M q Y s p C'/\ER X.K C' T s p/\lJ t f (u.drop i) p=z8 out,⟨A1 u,by simp,lq _,q,.refl,E1,by simpa using e⟩,?_⟩;rintro i m O H2 ⟨rfl,hle,I',S2,N,e2⟩;have Z:∀a o,Y a=z8 o->¬Je (λ_=>False) T M q a->H2 a=z8 o:=λa o ea n=>S2.kp a o ea λ⟨i,d,z⟩=>n<|.inl ⟨i,id,d,z⟩;by_cases W:i<A1 u
 .refine .inr ?_;have hd:u[i]?=z8 u[i]:=jk W;obtain⟨go,yl⟩:=ok.go i _ H2 hd Z;rw[wN W]at e2;obtain⟨R,h3,e3⟩:=gR e2;obtain⟨o,h4,V⟩:=gR e3;refine⟨go,λs C'=>∃p,SK A M q Y s p C'/\ER X.K C' T s p/\lJ t f (u.drop<|i+1) p=z8 out,λs C' ⟨p,q1,q2,q3⟩=>⟨A1 u-(i+1),by omega,rfl,W,p,q1,q2,q3⟩,λx C' hy=>?_⟩;obtain⟨ext,rep⟩:=yl x C' hy;have eA:ER X.K C' T O I':=N.mono (λb ob eb _=>ext b ob eb) (λ_ _ z=>z) λa z=>(N.dom a z).up<|ext a;have gz:SK A M q Y O I' C':=S2.trans (I8.ext ext).sk;have rx:=rep (λa=>X0 O I' a\/T a) (λb G z=>z.elim (λz=>(S2.ow b z).elim aT λz=>absurd z G) bp) λb G z=>z.elim (λz=>N.GG z G) λz=>(N.dom b z).ne G;refine⟨I',T,u[i],R,eA,rx,h3,λσ3 S3 E3=>?_⟩;have P:=gz.trans S3;refine⟨R,T,o,E3,(gu.step S).step P,h4,?_⟩
  cases o with
  |nx y=>exact λB F Q U=>⟨y,P.trans Q,U,V⟩
  |ct y=>exact λB F Q U=>⟨y,P.trans Q,U,V⟩
  |bk y=>cases V;exact λB F Q U=>k B F (S.trans<|P.trans Q) U
  |rt r y=>cases V;exact λv B F Q R4=>k v B F (S.trans<|P.trans Q) R4
 refine .inl ⟨ok.stop i H2 (by omega) Z,?_⟩;rw[yW<|by omega]at e2;cases e2;exact k O H2 (S.trans S2) N
end
noncomputable def ou(c:FT)(b:FS):Nat->FS
 |0,_=>U
 |n+1,d=>(c d).bind λp=>if p.1=Y then(b p.2).bind λo=>(match o with
   |.nx a=>ou c b n a
   |.ct a=>ou c b n a
   |.bk a=>J<|.nx a
   |.rt r a=>J<|.rt r a)else J (.nx p.2)
def zN(f g:FO):AE:=λδ=>(kD [f,g] δ).bind λp=>match uP p.2 p.1 with
 |some [.int i,.int j]=>if -(2^62)<=i/\i<2^62/\ -(2^62)<=j/\j<2^62 then J (iI i (j-i).toNat,p.2)else U
 |_=>U
section
variable {X:Cx}{A:jo}{L:LL}{s:Hp}{B:SB}{t e c a b:gX}{d:List aU}{f:FT}{g:FS}{x u:FO}{l p:bq}
def adU{n:Nat}(hp:dU (ag X.prog X.w) X.A X.env X.xe)(hc:PTX X c f)(hb:DG X A L s d g):Ke X A L s (.While c d [] l) (ou f g n):=PS.imp' (Mq hp hc hb) λD F H hw=>by
 obtain⟨U,T,out,E,Z,e,k⟩:=hw;refine⟨λm i I=>∃h,SK A F U H i h I/\ER X.K I T i h/\ou f g m h=J out,⟨n,U,.refl,E,e⟩,?_⟩;rintro m J' H2 ⟨Y',S2,E2,e2⟩
 cases m with
 |zero=>cases e2
 |succ m=>
  obtain⟨S,C,h3,M⟩:=gZ e2;refine⟨Y',T,S,C,E2,h3,λR V P=>?_⟩;have O:SK A F U H J' C R:=S2.trans V.sk
  cases S with
  |false=>rw[iC ky]at M;cases M;exact YH<|k J' R O P
  |true=>
   rw[hV AT]at M;obtain⟨o,h4,N⟩:=gR M;refine YG ⟨λi I=>∃h,SK A F U H i h I/\ER X.K I T i h/\ou f g m h=J out,λi I q=>⟨m,yV _,q⟩,C,T,o,P,Z.step O,h4,?_⟩
   cases o with
   |nx j=>exact λy G z Q=>⟨j,O.trans z,Q,N⟩
   |ct j=>exact λy G z Q=>⟨j,O.trans z,Q,N⟩
   |bk j=>cases N;exact λy G z Q=>k y G (O.trans z) Q
   |rt r j=>cases N;exact λv y G z W=>k v y G (O.trans z) W
def sN{K:iz}{T v:SI}{E:L2.St}{O m:Dn}{Q r:Hp}{os:List F2}{k:List V}{n:List D}(B:Ops K T E O Q os k m r v)(h:uP m os=J n){j:Nat}{i:Int}(hd:n[j]?=J (.int i)):k[j]?=J (.int i):=by
 obtain⟨h1,w⟩:=om h;obtain⟨o,q,y⟩:=w j _ hd;have z:j<(A1 k):=by have:=(ue.mp q).1;have:=B.len;lia
 have hv:k[j]?=J k[j]:=jk z;have:=iP<|B.view q hv y;rw[hv,this]
end
abbrev NL:=List (D×Bool)->Option ((D×Bool)×Dn)
def G8(K:iz)(d:NL):Sp:=λvs O Q _=>∃T a r b,ER K O T (vs.map J) (a.map J)/\d a=J (r,b)/\∀v c,Ls K T (vs.map J) (a.map J) O r b v c->Q v c
noncomputable def iQ(args:List (D×Bool))(δ:Dn):Dn:=args.zipIdx.map λp=>if p.1.2=Y then(δ[p.2]?).join else J p.1
def Q1(n np:Nat)(a:jc)(f:FS):NL:=λargs=>
 if (A1 args)=np/\np<=n/\(args.zipIdx.all λp=>!(p.1.2&&a.contains p.2))=Y then
  match f (args.map J++ah (n-np) U)with
  |some (.rt r δ)=>J (r,iQ args δ)
  |some (.nx δ)=>J ((.T2,C),iQ args δ)
  |_=>U
 else U
def MR(a:List (D×Bool))(b:Dn)(i:Nat):(iQ a b)[i]?=a[i]?.map λx=>if x.2=Y then(b[i]?).join else J x:=by
 unfold iQ;rw[kg,FV]
 cases a[i]? with
 |none=>rfl
 |some x=>simp
def mW(h:x.join=J p):x=J (J p):=by
 cases x with
 |none=>cases h
 |some y=>exact lY J h
section
variable {K:iz}{T:SI}{A:jo}{k:List V}{f:List (D×Bool)}{H q:Hp}{m:Nat}{l:L2.St}{g:Dn}{r:D×Bool}{v:V}
def DJ{b:Type}{a:List b}{m i:Nat}{y:b}:(a.map J++ah m U)[i]?=J (J y)↔a[i]?=J y:=by
 by_cases h:i<A1 a
 .rw[oQ<|by simpa using h,kg];cases a[i]?<;>simp
 rw[oh<|by simpa using h];constructor
 .intro e;rw[Cq]at e;split at e<;>cases e
 intro e;exact absurd (ue.mp e).1 h
def tD{b:Type}{a:List b}{i:Nat}{y:b}:(a.map J)[i]?=J (J y)↔a[i]?=J y:=by rw[kg];cases a[i]?<;>simp
def Kw{i:Nat}{a:gJ}:OO (k.map J++ah m U) (f.map J++ah m U) i a↔OO (k.map J) (f.map J) i a:=by unfold OO;simp only[DJ,tD]
def Ei:X0 σ b a↔ ∃i,OO σ b i a:=Iff.rfl
def MQ:X0 (k.map J++ah m U) (f.map J++ah m U) a↔X0 (k.map J) (f.map J) a:=by rw[Ei,Ei];exact exists_congr λi=>Kw
def ER.pad(E:ER K H T (k.map J) (f.map J)):ER K H T (k.map J++ah m U) (f.map J++ah m U):=by
 have len:(A1 k)=(A1 f):=by simpa using E.len
 refine⟨by simp[len],λi d h=>?_,λi d h=>?_,λi j d e a h1 o p s=>?_,λa z=>E.nT a<|MQ.mp z,E.dom⟩
 .obtain⟨w,c,n⟩:=E.val i d<|tD.mpr<|DJ.mp h;exact⟨w,DJ.mpr<|tD.mp c,Rep.mono (λ_ _ e _=>e) (λb _ z=>z.imp MQ.mp id) n⟩
 .obtain⟨w,c,n⟩:=E.own i d<|tD.mpr<|DJ.mp h;exact⟨w,DJ.mpr<|tD.mp c,n.mono (λ_ _ e _=>e) (λb _ z=>z.imp MQ.mp id) λ_ e=>e⟩
 exact E.inj i j d e a (tD.mpr<|DJ.mp h1) (tD.mpr<|DJ.mp o) (tD.mpr<|DJ.mp p) (tD.mpr<|DJ.mp s)
def H9{J:SI}(E:ER K H T (k.map z8) (f.map z8))(S:SK A (k.map z8++ah m z9) (f.map z8++ah m z9) H l g q)(hA:∀(i:Nat) d,f[i]?=z8 (d,At)->¬A i)
  (Q:ER K q J l g)(hT:∀b,H b≠z9->J b->T b):ER K q J (k.map z8) (iQ f g)/\(∀b,X0 (k.map z8) (iQ f g) b->X0 l g b)/\I8 (k.map z8) (f.map z8) H (iQ f g) q:=by
 have len:(A1 k)=(A1 f):=by simpa using E.len
 have s:∀(i:Nat) d w,f[i]?=z8 (d,At)->k[i]?=z8 w->l[i]?=z8 (z8 w):=λi d w h1 p=>by rw[S.as i<|hA i d h1];exact DJ.mpr p
 have t:∀(i:Nat) d b,(iQ f g)[i]?=z8 (z8 (d,b))->(∃e,f[i]?=z8 (e,At)/\g[i]?=z8 (z8 (d,b)))\/(b=AC/\f[i]?=z8 (d,AC)):=λi d b h=>by
  rw[MR]at h;obtain⟨⟨e,c⟩,h1,p⟩:=iT h
  cases c
  .right;have:z8 (e,AC)=z8 (d,b):=by simpa using p
   cases this;exact⟨rfl,h1⟩
  left;exact⟨e,h1,mW<|by simpa using p⟩
 have B:∀i a,OO (k.map z8) (iQ f g) i a->OO l g i a/\OO (k.map z8) (f.map z8) i a:=λi a a'=>by
  obtain⟨d,h1,p⟩:=a'
  rcases t i d At h1 with⟨e,u,x⟩|⟨z,_⟩
  .exact⟨⟨d,x,s i e _ u (tD.mp p)⟩,⟨e,tD.mpr u,p⟩⟩
  cases z
 have G:∀b,X0 (k.map z8) (iQ f g) b->X0 l g b:=λb a'=>by
  obtain⟨i,d,h1,p⟩:=a'
  obtain⟨⟨e,I,L⟩,_⟩:=B i b ⟨d,h1,p⟩;exact⟨i,e,I,L⟩
 have C:∀b,X0 (k.map z8) (iQ f g) b->X0 (k.map z8) (f.map z8) b:=λb a'=>by
  obtain⟨i,d,h1,p⟩:=a'
  obtain⟨_,⟨e,I,L⟩⟩:=B i b ⟨d,h1,p⟩;exact⟨i,e,I,L⟩
 have kp:∀a o,H a=z8 o->¬X0 (k.map z8) (f.map z8) a->q a=z8 o:=λa o e n=>S.kp a o e λz=>n<|MQ.mp z;refine⟨⟨?_,λi d h=>?_,λi d h=>?_,λi j d e a h1 p u x=>?_,λa z=>Q.nT a<|G a z,Q.dom⟩,G,⟨kp,λi a z=>(B i a z).2,S.dm⟩⟩
 .simp[iQ,len]
 .have M:i<(A1 k):=by
   have:=(ue.mp h).1;simp[iQ]at this
   lia
  have hv:k[i]?=z8 k[i]:=jk M;rcases t i d AC h with⟨e,u,x⟩|⟨_,u⟩
  .obtain⟨w,y,O⟩:=Q.val i d x;rw[s i e _ u hv]at y;cases y;exact⟨_,tD.mpr hv,Rep.mono (λ_ _ e _=>e) (λb _ z=>z.imp (G b) id) O⟩
  obtain⟨w,y,O⟩:=E.val i d<|tD.mpr u;exact⟨w,y,Rep.mono (λb o e n=>kp b o e λz=>n<|.inl z) (λb D z=>z.imp (C b)<|hT b D) O⟩
 .have M:i<(A1 k):=by
   have:=(ue.mp h).1;simp[iQ]at this
   lia
  have hv:k[i]?=z8 k[i]:=jk M;rcases t i d At h with⟨e,u,x⟩|⟨z,_⟩
  .obtain⟨w,y,O⟩:=Q.own i d x;rw[s i e _ u hv]at y;have N:k[i]=V.ref w:=by simpa using y
   exact⟨w,by rw[<-N];exact tD.mpr hv,O.mono (λ_ _ e _=>e) (λb _ z=>z.imp (G b) id) λ_ e=>e⟩
  cases z
 obtain⟨_,⟨U,I,L⟩⟩:=B i a ⟨d,h1,u⟩;obtain⟨_,⟨Y,F,P⟩⟩:=B j a ⟨e,p,x⟩;exact E.inj i j U Y a I F L P
def pU(E:ER K H T (k.map J) (f.map J))(S:SK A (k.map J++ah m U) (f.map J++ah m U) H l g q)(h:∀(i:Nat) d,f[i]?=J (d,Y)->¬A i)
  (R:RV K T H r l g v q):Ls K T (k.map J) (f.map J) H r (iQ f g) v q:=by
 obtain⟨d,b⟩:=r
 cases b
 .obtain⟨a,o⟩:=R;obtain⟨c,ow,kp⟩:=H9 E S h a λ_ _ z=>z;exact⟨kp,c,Rep.mono (λ_ _ e _=>e) (λb _ z=>z.imp (ow b) id) o⟩
 obtain⟨p,rfl,j,a,ok⟩:=R;obtain⟨c,ow,kp⟩:=H9 E S h a (λb n z=>z.elim id λz=>by subst z;exact absurd j n);exact⟨kp,p,rfl,j,c,ok.mono (λ_ _ e _=>e) (λb _ z=>z.imp (ow b) id) λ_ e=>e⟩
end
section
variable {P:iw}{w:ik}{K:iz}{c:lz}{base:ip}{N:iA}{m:Nat}{b:jc}{fs:FS}{vs:List V}{H:Hp}{Q:VK}{E:XK}
def HM(h:G8 K (Q1 (A1 N) m b fs) vs H Q E):(A1 vs)=m:=by
 obtain⟨T,a,r,d,E0,e,_⟩:=h;unfold Q1 at e;split at e
 .rename_i f;have:=E0.len;simp at this;rw[this];exact f.1
 cases e
def Gs(h:G8 K (Q1 (A1 N) m b fs) vs H Q E):∃L:LL,(∀i,L.p i->i<m)/\tS K (λi=>i∈b) L H fs {nx:=λ_ k=>Q .T2 k,rt:=Q} (L2.oU N vs) H:=by
 obtain⟨T,f,r,u,E0,e,t⟩:=h;unfold Q1 at e;split at e
 .rename_i C;obtain⟨h1,U,B⟩:=C;have l:(A1 vs)=(A1 f):=by simpa using E0.len
  refine⟨⟨λi=>∃d,f[i]?=z8 (d,Y),z9⟩,λi ⟨d,hd⟩=>by have:=(ue.mp hd).1;lia,?_⟩;have J:L2.oU N vs=vs.map z8++ah (A1 N-m) z9:=by unfold L2.oU;rw[l,h1]
  have o:∀(i:Nat) d,f[i]?=z8 (d,Y)->¬(i∈b):=λi d hd O=>by
   have G:(f.zipIdx)[i]?=z8 ((d,Y),i):=by rw[FV,hd];simp
   have:=kf.mp B _ (lS G);simp at this;exact this O
  rw[J]
  have A:FI (λi=>i∈b) ⟨λi=>∃d,f[i]?=z8 (d,Y),z9⟩ H (vs.map z8++ah (A1 N-m) z9) (f.map z8++ah (A1 N-m) z9) H:=⟨λi a z=>by obtain⟨d,M,_⟩:=Kw.mp z;exact .inl ⟨d,tD.mp M⟩,λ_ z=>z,λj I' ⟨d,hd⟩=>o j d hd I',λ_ h=>nomatch h⟩
  cases q:fs (f.map z8++ah (A1 N-m) z9)with
  |none=>rw[q]at e;cases e
  |some out=>
   rw[q]at e;refine⟨_,T,out,E0.pad,A,q,?_⟩
   cases out with
   |rt Y' g=>obtain⟨rfl,rfl⟩:=iD e;exact λv s k n y=>t v k<|pU E0 n o y
   |nx g=>obtain⟨rfl,rfl⟩:=iD e;exact λs k n x=>t .T2 k<|pU (r:=(.T2,AC)) E0 n o ⟨x,Rep.GC⟩
   |bk g=>cases e
   |ct g=>cases e
 cases e
def Vz{x qual:av}{st:aU}{f:gJ}{g:mr}{e:iA}{k:Nat}(F:Gv K x qual st f g)(S:SS N e (gS st))
  (n:∀(d:gU)(A:ig)(a:List c3)(s:gM)(H:Hp)(E:XK)(L:LL),(∀i,L.p i->i<A1 e)->P1 k (A.deeper<|aP qual (gS st) s.heap.objs.size f d)->
   DG (pR Au P w K c base N qual (gS st) f d A a s H E).GI (λi=>i∈b) L H (kL st) fs):AP P w K c base Au (k+1) f g e (G8 K<|Q1 (A1 N) (A1 e) b fs):=
 F.ok S (λvs H Q E h=>HM h) λd A a s H vs Q E l h=>let⟨L,h1,j⟩:=Gs h;⟨_,n d A a s H E L h1 l,j⟩
end
noncomputable def yi(a:Dn):F2->Option (D×Bool)
 |.val r=>J (r.1,C)
 |.slot i=>(a[i]?).join
def jb(δ:Dn):List F2->Option (List<|D×Bool)
 |[]=>J []
 |o::os=>(yi δ o).bind λa=>(jb δ os).bind λl=>J (a::l)
@[simp] def Yt(o:F2)(a:D×Bool):List Nat:=match o with
 |.slot i=>if a.2=Y then[i]else[]
 |.val _=>[]
noncomputable def iu:List F2->List (D×Bool)->List Nat
 |[],_=>[]
 |_::_,[]=>[]
 |o::os,a::as=>Yt o a++iu os as
@[simp] def wb1(o:F2)(a:D×Bool)(x:Sl)(b:Dn):Dn:=match o with
 |.slot i=>if a.2=Y then b.set i x else b
 |.val _=>b
noncomputable def wb:List F2->List (D×Bool)->Dn->Dn->Dn
 |[],_,_,δ=>δ
 |_::_,[],_,δ=>δ
 |_::_,_::_,[],δ=>δ
 |o::os,a::as,x::outs,δ=>wb os as outs<|wb1 o a x δ
def hU(a:NL)(fs:List FO):F:=λδ=>(kD fs δ).bind λp=>(jb p.2 p.1).bind λargs=>if(iu p.1 args).Nodup then(a args).bind λq=>J (q.1,wb p.1 args q.2 p.2)else U
def oK{δ:Dn}:∀{os:List F2}{as:List (D×Bool)},jb δ os=J as->A1 as=os.length/\∀(j:Nat) a,as[j]?=J a->∃o,os[j]?=J o/\yi δ o=J a:=by
 intro k
 induction k with
 |nil=>intro as h;cases h;exact⟨rfl,λj d h=>by simp at h⟩
 |cons o os i=>
  intro as h;unfold jb at h;obtain⟨d,h1,h⟩:=gR h;obtain⟨l,c,h⟩:=gR h;cases h;obtain⟨f,g⟩:=i c;refine⟨by simp[f],λj e b=>?_⟩
  cases j with
  |zero=>simp at b;subst b;exact⟨o,rfl,h1⟩
  |succ j=>obtain⟨m,n,p⟩:=g j e (by simpa using b);exact⟨m,by simpa using n,p⟩
theorem sZ:∀{os:List F2}{as:List (D×Bool)}{j i:Nat}{d:D},os[j]?=J (.slot i)->as[j]?=J (d,Y)->i∈iu os as
 |[],_,_,_,_,h,_=>by simp at h
 |_::_,[],_,_,_,_,h=>by simp at h
 |o::os,(e,b)::as,0,i,d,h1,a=>by simp at h1 a;obtain⟨rfl,rfl⟩:=a;subst h1;simp[iu]
 |o::os,(e,b)::as,j+1,i,d,h1,a=>by
  have c:=sZ (os:=os) (as:=as) (j:=j) (i:=i) (d:=d) (by simpa using h1) (by simpa using a)
  cases o with
  |val r=>simpa[iu]using c
  |slot k=>
   cases b
   .simpa[iu]using c
   simp[iu,c]
theorem Bp:∀{os:List F2}{as:List (D×Bool)}{i:Nat},i∈iu os as->∃(j:Nat)(d:D),os[j]?=J (.slot i)/\as[j]?=J (d,Y)
 |[],_,_,h=>by simp[iu]at h
 |o::_,[],_,h=>by cases o<;>simp[iu]at h
 |o::os,(e,b)::as,i,h=>by
  have a:i∈iu os as->∃(j:Nat)(d:D),(o::os)[j]?=J (.slot i)/\((e,b)::as)[j]?=J (d,Y):=λh=>by obtain⟨j,d,h1,c⟩:=Bp h;exact⟨j+1,d,by simpa using h1,by simpa using c⟩
  cases o with
  |val r=>exact a (by simpa[iu]using h)
  |slot k=>
   cases b
   .exact a (by simpa[iu]using h)
   simp[iu]at h;rcases h with rfl|h
   .exact⟨0,e,rfl,rfl⟩
   exact a h
theorem Bq:∀{os:List F2}{as:List (D×Bool)}{j k i:Nat}{d e:D},(iu os as).Nodup->os[j]?=J (.slot i)->as[j]?=J (d,Y)->os[k]?=J (.slot i)->as[k]?=J (e,Y)->j=k
 |[],_,_,_,_,_,_,_,h,_,_,_=>by simp at h
 |_::_,[],_,_,_,_,_,_,_,h,_,_=>by simp at h
 |o::os,(n,b)::as,j,k,i,d,e,a,h1,c,f,g=>by
  cases j with
  |zero=>
   cases k with
   |zero=>rfl
   |succ k=>simp at h1 c;obtain⟨rfl,rfl⟩:=c;subst h1;have:=sZ (os:=os) (as:=as) (j:=k) (by simpa using f) (by simpa using g);simp[iu]at a;exact absurd this a.1
  |succ j=>
   cases k with
   |zero=>simp at f g;obtain⟨rfl,rfl⟩:=g;subst f;have:=sZ (os:=os) (as:=as) (j:=j) (by simpa using h1) (by simpa using c);simp[iu]at a;exact absurd this a.1
   |succ k=>
    have l:(iu os as).Nodup:=by
     cases o with
     |val r=>simpa[iu]using a
     |slot m=>
      cases b
      .simpa[iu]using a
      simp[iu]at a;exact a.2
    have:=Bq (os:=os) (as:=as) (j:=j) (k:=k) l (by simpa using h1) (by simpa using c) (by simpa using f) (by simpa using g)
    lia
theorem zg:∀{os:List F2}{as:List (D×Bool)}{a δ:Dn}{i:Nat},i∉iu os as->(wb os as a δ)[i]?=δ[i]?
 |[],_,_,_,_,_=>by simp[wb]
 |o::_,[],_,_,_,_=>by cases o<;>simp[wb]
 |o::os,(e,b)::as,[],_,_,_=>by cases o<;>cases b<;>simp[wb]
 |o::os,(e,b)::as,x::a,δ,i,h=>by
  cases o with
  |val r=>simp only[wb];exact zg (by simpa[iu]using h)
  |slot k=>
   cases b with
   |true=>simp[iu]at h;rw[wb,zg h.2];exact lC<|pA h.1
   |false=>simp only[wb];exact zg (by simpa[iu]using h)
theorem zh:∀{os:List F2}{as:List (D×Bool)}{a δ:Dn},(wb os as a δ).length=A1 δ
 |[],_,_,_=>by simp[wb]
 |o::_,[],_,_=>by cases o<;>simp[wb]
 |o::os,(e,b)::as,[],_=>by cases o<;>cases b<;>simp[wb]
 |o::os,(e,b)::as,x::a,δ=>by
  cases o with
  |val r=>simp only[wb];exact zh
  |slot k=>
   cases b with
   |true=>simp only[wb];rw[zh];exact ud
   |false=>simp only[wb];exact zh
theorem HC:∀{os:List F2}{as:List (D×Bool)}{a δ:Dn}{i j:Nat}{d:D}{x:Sl},(iu os as).Nodup->os[j]?=J (.slot i)->as[j]?=J (d,Y)->a[j]?=J x->i<A1 δ->(wb os as a δ)[i]?=J x
 |[],_,_,_,_,_,_,_,_,h,_,_,_=>by simp at h
 |o::_,[],_,_,_,_,_,_,_,_,h,_,_=>by simp at h
 |o::os,(e,b)::as,[],_,_,_,_,_,_,_,_,h,_=>by simp at h
 |o::os,(e,b)::as,y::a,δ,i,0,d,x,c,h1,f,g,l=>by simp at h1 f g;obtain⟨rfl,rfl⟩:=f;subst h1;subst g;simp[iu]at c;rw[wb,zg c.1];exact pz l
 |o::os,(e,b)::as,y::a,δ,i,j+1,d,x,c,h1,f,g,l=>by
  have n:(iu os as).Nodup:=by
   cases o with
   |val r=>simpa[iu]using c
   |slot m=>
    cases b
    .simpa[iu]using c
    simp[iu]at c;exact c.2
  cases o with
  |val r=>simp only[wb];exact HC n (by simpa using h1) (by simpa using f) (by simpa using g) l
  |slot k=>
   cases b with
   |true=>simp only[wb];exact HC n (by simpa using h1) (by simpa using f) (by simpa using g) (by show i<(δ.set k y).length;rw[ud];exact l)
   |false=>simp only[wb];exact HC n (by simpa using h1) (by simpa using f) (by simpa using g) l
section
variable {K:iz}{T u:SI}{l:L2.St}{δ f:Dn}{H m s:Hp}{os:List F2}{vs:List V}{c:List (D×Bool)}{g:Dn}{r:D×Bool}{v:V}
noncomputable def Tc(T:SI)(l:L2.St)(f:Dn)(vs:List V)(c:List (D×Bool)):SI:=λa=>T a\/(X0 l f a/\¬X0 (vs.map J) (c.map J) a)
def vO(B:Ops K T l δ H os vs f m u)(p:jb f os=J c){j:Nat}{d:D}(h:c[j]?=J (d,Y)):∃(i:Nat)(a:gJ),os[j]?=J (.slot i)/\f[i]?=J (J (d,Y))/\vs[j]?=J (.ref a)/\l[i]?=J (J<|.ref a):=by
 obtain⟨w,q⟩:=oK p;obtain⟨o,h1,b⟩:=q j _ h
 cases o with
 |val r=>cases b
 |slot i=>
  have e:f[i]?=J (J (d,Y)):=mW b;have t:j<(A1 vs):=by have:=(ue.mp h1).1;have:=B.len;lia
  have hv:vs[j]?=J vs[j]:=jk t;have k:=B.slt j i _ h1 hv;obtain⟨a,n,_⟩:=B.er.own i d e;rw[k]at n;have:vs[j]=V.ref a:=by simpa using n
  exact⟨i,a,h1,e,by rw[hv,this],by rw[k,this]⟩
def EA(B:Ops K T l δ H os vs f m u)(n:jb f os=J c){j:Nat}{a:gJ}(h:OO (vs.map J) (c.map J) j a):∃(i:Nat)(d:D),os[j]?=J (.slot i)/\c[j]?=J (d,Y)/\OO l f i a:=by obtain⟨d,h1,k⟩:=h;have e:=tD.mp h1;obtain⟨i,b,o,p,q,t⟩:=vO B n e;have:=tD.mp k;rw[q]at this;cases this;exact⟨i,d,o,e,d,p,t⟩
def Iw(B:Ops K T l δ H os vs f m u)(k:jb f os=J c)(h:X0 (vs.map J) (c.map J) a):X0 l f a:=by obtain⟨j,d,h1,b⟩:=h;obtain⟨i,_,_,_,e,n,o⟩:=EA B k ⟨d,h1,b⟩;exact⟨i,e,n,o⟩
def wk(E:ER K H T l δ)(B:Ops K T l δ H os vs f m u)(n:jb f os=z8 c)(nd:(iu os c).Nodup):ER K m (Tc T l f vs c) (vs.map z8) (c.map z8):=by
 obtain⟨F,Y⟩:=oK n
 have sub:∀b,(X0 (vs.map z8) (c.map z8) b\/Tc T l f vs c b)->X0 l f b\/T b:=λb z=>by
  rcases z with z|z|z
  .exact .inl (Iw B n z)
  .exact .inr z
  exact .inl z.1
 refine⟨by simp[F,B.len],λj d h=>?_,λj d h=>?_,λj k d e a h1 p x y=>?_,λa z t=>?_,λa z=>?_⟩
 .have h:=tD.mp h;obtain⟨o,h1,p⟩:=Y j _ h;have D:j<(A1 vs):=by have:=(ue.mp h1).1;have:=B.len;lia
  have hv:vs[j]?=z8 vs[j]:=jk D;refine⟨_,tD.mpr hv,?_⟩
  cases o with
  |val q=>
   have:q.1=d:=by cases p;rfl
   subst this;exact Rep.mono (λ_ _ e _=>e) (λb _ z=>sub b z)<|B.rep E h1 hv
  |slot i=>
   have x:f[i]?=z8 (z8 (d,AC)):=mW p;have y:=B.slt j i _ h1 hv;obtain⟨w,Q,R⟩:=B.er.val i d x;rw[y]at Q;have:vs[j]=w:=by simpa using Q
   rw[this];exact Rep.mono (λ_ _ e _=>e) (λb _ z=>(sub b z).imp id<|B.tt b) R
 .obtain⟨i,a,O,A,C,I⟩:=vO B n<|tD.mp h;obtain⟨b,L,U⟩:=B.er.own i d A;rw[I]at L;cases L;exact⟨a,tD.mpr C,U.mono (λ_ _ e _=>e) (λb _ z=>(sub b z).imp id<|B.tt b) λ_ e=>e⟩
 .obtain⟨i,S,O,A,G,C,I⟩:=EA B n ⟨d,h1,x⟩;obtain⟨P,V,g1,g2,J,M,N⟩:=EA B n ⟨e,p,y⟩;have:=B.er.inj i P G J a C M I N;subst this;exact Bq nd O A g1 g2
 .rcases t with t|t
  .exact B.er.nT a (Iw B n z) (B.tt a t)
  exact t.2 z
 rcases z with z|z
 .exact B.er.dom a (B.tt a z)
 exact B.er.Hb z.1
def IW{T' Td:SI}(E:ER K H T l δ)(B:Ops K T l δ H os vs f m u)(N:jb f os=z8 c)(nd:(iu os c).Nodup)(kC:I8 (vs.map z8) (c.map z8) m g s)
  (Y:ER K s Td (vs.map z8) g)(t1:∀b,Tc T l f vs c b->Td b)(t2:∀b,T' b->Td b)(t3:∀b,m b≠z9->T' b->T b):
  ER K s T' l (wb os c g f)/\(∀b,X0 l (wb os c g f) b->X0 (vs.map z8) g b\/Tc T l f vs c b)/\I8 l f m (wb os c g f) s:=by
 obtain⟨hl,hg⟩:=oK N;have ol:(A1 g)=(A1 c):=by have:=Y.len;have:=B.len;simp at*;lia
 have V:∀(i:Nat)(x:Sl),(wb os c g f)[i]?=z8 x->(i∉iu os c/\f[i]?=z8 x)\/∃(j:Nat)(d:D),os[j]?=z8 (.slot i)/\c[j]?=z8 (d,At)/\g[j]?=z8 x:=λi x h=>by
  by_cases A:i∈iu os c
  .right;obtain⟨j,d,h1,p⟩:=Bp A;have hj:j<(A1 g):=by have:=(ue.mp p).1;lia
   have X:g[j]?=z8 g[j]:=jk hj;have hi:i<(A1 f):=by have:=(ue.mp h).1;rwa [zh]at this
   have:=HC (δ:=f) nd h1 p X hi;rw[h]at this;cases this;exact⟨j,d,h1,p,X⟩
  left;rw[zg A]at h;exact⟨A,h⟩
 have I:∀{i:Nat}{a:gJ},i∉iu os c->OO l f i a->¬X0 (vs.map z8) (c.map z8) a:=λ{i a} A ⟨e,q,C'⟩ ⟨j,d,h1,p⟩=>by obtain⟨P,d2,g1,g2,R,G,g4⟩:=EA B N ⟨d,h1,p⟩;have:=B.er.inj i P e R a q G C' g4;subst this;exact A<|sZ g1 g2
 have U:∀i a,OO l (wb os c g f) i a->OO l f i a/\(X0 (vs.map z8) g a\/Tc T l f vs c a):=λi a a'=>by
  obtain⟨d,h1,p⟩:=a'
  rcases V i _ h1 with⟨A,y⟩|⟨j,e,g1,g2,G⟩
  .exact⟨⟨d,y,p⟩,.inr<|.inr ⟨⟨i,d,y,p⟩,I A ⟨d,y,p⟩⟩⟩
  obtain⟨P,b,q,C',J,L⟩:=vO B N g2;rw[g1]at q;cases q;rw[p]at L;cases L;exact⟨⟨e,C',p⟩,.inl ⟨j,d,G,tD.mpr J⟩⟩
 have W:∀b,X0 l (wb os c g f) b->X0 (vs.map z8) g b\/Tc T l f vs c b:=λb ⟨i,d,h1,p⟩=>(U i b ⟨d,h1,p⟩).2
 have F:∀b,X0 l (wb os c g f) b->X0 l f b:=λb a'=>by
  obtain⟨i,d,h1,p⟩:=a'
  obtain⟨⟨e,q,C'⟩,_⟩:=U i b ⟨d,h1,p⟩;exact⟨i,e,q,C'⟩
 have kp:∀a o,m a=z8 o->¬X0 l f a->s a=z8 o:=λa o e n=>kC.kp a o e λz=>n<|Iw B N z
 have O:∀b,(X0 l (wb os c g f) b\/T' b)->X0 (vs.map z8) g b\/Td b:=λb z=>by
  rcases z with z|z
  .exact(W b z).imp id (t1 b)
  exact .inr (t2 b z)
 refine⟨⟨by rw[zh];exact B.er.len,λi d h=>?_,λi d h=>?_,λi k d e a h1 p y h4=>?_,λa z t=>?_,λa z=>Y.dom a<|t2 a z⟩,W,⟨kp,λi a z=>(U i a z).1,kC.dm⟩⟩
 .rcases V i _ h with⟨A,y⟩|⟨j,e,g1,g2,G⟩
  .obtain⟨w,Q,M⟩:=B.er.val i d y;exact⟨w,Q,Rep.mono (λb o e n=>kp b o e λz=>n<|.inl z) (λb S z=>z.imp (F b) λz=>B.tt b<|t3 b S z) M⟩
  obtain⟨P,b,q,C',J,L⟩:=vO B N g2;rw[g1]at q;cases q;obtain⟨w,Q,M⟩:=Y.val j d G;have:=tD.mp Q;rw[J]at this;cases this;exact⟨_,L,Rep.mono (λ_ _ e _=>e) (λb _ z=>O b z) M⟩
 .rcases V i _ h with⟨A,y⟩|⟨j,e,g1,g2,G⟩
  .obtain⟨a,Q,M⟩:=B.er.own i d y;exact⟨a,Q,M.mono (λb o e n=>kp b o e λz=>n<|.inl z) (λb S z=>z.imp (F b) λz=>B.tt b<|t3 b S z) λo e=>kC.kp a o e<|I A ⟨d,y,Q⟩⟩
  obtain⟨P,b,q,C',J,L⟩:=vO B N g2;rw[g1]at q;cases q;obtain⟨a,Q,M⟩:=Y.own j d G;have:=tD.mp Q;rw[J]at this;cases this;exact⟨_,L,M.mono (λ_ _ e _=>e) (λb _ z=>O b z) λ_ e=>e⟩
 .obtain⟨⟨Z,q,C'⟩,_⟩:=U i a ⟨d,h1,y⟩;obtain⟨⟨R,J,L⟩,_⟩:=U k a ⟨e,p,h4⟩;exact B.er.inj i k Z R a q J C' L
 exact B.er.nT a (F a z) (B.tt a<|t3 a (B.er.GG<|F a z) t)
def oH(E:ER K H T l δ)(B:Ops K T l δ H os vs f m u)(k:jb f os=J c)(o:(iu os c).Nodup)(P:Ls K (Tc T l f vs c) (vs.map J) (c.map J) m r g v s):
  Ls K T l δ H r (wb os c g f) v s:=by
 obtain⟨d,b⟩:=r
 cases b
 .obtain⟨kC,h,w⟩:=P;obtain⟨i,ow,j⟩:=IW (T':=T) E B k o kC h (λ_ z=>z) (λ_ z=>.inl z) λ_ _ z=>z;refine⟨B.keep.trans j,i,Rep.mono (λ_ _ e _=>e) (λb _ z=>?_) w⟩;rcases z with z|z
  .exact ow b z
  exact .inr (.inl z)
 obtain⟨kC,p,rfl,n,h,ok⟩:=P;obtain⟨i,ow,j⟩:=IW (T':=λa=>T a\/a=p) E B k o kC h (λ_ z=>.inl z) (λb z=>z.elim (λz=>.inl (.inl z)) .inr) (λb t z=>z.elim id λz=>by subst z;exact absurd n t);refine⟨B.keep.trans j,p,rfl,?_,i,ok.mono (λ_ _ e _=>e) (λb _ z=>?_) λ_ e=>e⟩
 .cases q:H p with
  |none=>rfl
  |some x=>exact absurd n<|B.keep.dm p (by rw[q];simp)
 rcases z with z|z|z
 .exact(ow b z).imp id .inl
 .exact .inr (.inl<|.inl z)
 exact .inr (.inr z)
end
section
variable {X:Cx}{e:gX}{b:jP}{fs:List FO}{a p:bq}{k:Nat}{f:gJ}{g:mr}{d:iA}{c:NL}{x:av}
def P4(F:AP X.prog X.w X.K X.mg X.base Au k f g d (G8 X.K c))(L:P1 k X.A)(C:Gl X x)(I:X.mg x=z8 (.ref f))(hk:bY X.K (.ref f)=At)(y:Binds X.K g d [])
  (u:PA X (e::b) (tA X.K fs))(G:(x==("__debug__":av))=AC)(z:af (e::b) X.env=(AC,ba e X.env)::af b X.env)(s:(aB a<|af b X.env).any (·.1)=AC):
  PX X (.Call (.Name x p) (e::b) [] a) (hU c fs):=PX.imp (Qp F L C I hk y (.nil) Sy u G z s) λN H Q O=>by
 obtain⟨J,T,Y,M,E,e,k⟩:=O;obtain⟨os,j,h1,e⟩:=gZ e;obtain⟨h,l,e⟩:=gR e;dsimp only at e;split at e
 .rename_i m;obtain⟨r,i,t,e⟩:=gZ e;obtain⟨rfl,rfl⟩:=iD e;refine⟨J,T,os,j,E,h1,λn q U B=>?_⟩;show G8 X.K c (n++[]) q Q E0;rw[rN];exact⟨Tc T N j n h,h,r,i,wk E B l m,t,λv o P=>k v o<|oH E B l m P⟩
 cases e
end
structure Hg(A:jo)(d:gJ)(σ:L2.St)(δ:Dn)(H:Hp)(σ':L2.St)(δ':Dn)(H':Hp):Prop where
 kp:∀a o,H a=z8 o->¬X0 σ δ a->a≠d->H' a=z8 o
 owi:∀i a,OO σ' δ' i a->OO σ δ i a\/H a=z9\/(A i/\∃j,A j/\OO σ δ j a)
 dm:∀a,H a≠z9->H' a≠z9
 as:∀i,¬A i->σ'[i]?=σ[i]?
section
variable {A:jo}{d:gJ}{c b f:L2.St}{δ δ1 δ2:Dn}{H g l:Hp}
def SK.JS(k:SK A c δ H b δ1 g):Hg A d c δ H b δ1 g:=⟨λa o e n _=>k.kp a o e n,k.owi,k.dm,k.as⟩
def Hg.ow(k:Hg A d c δ H b δ1 g)(a:gJ)(h:X0 b δ1 a):X0 c δ a\/H a=U:=by
 obtain⟨i,e,h1,o⟩:=h;rcases k.owi i a ⟨e,h1,o⟩with⟨e,m,n⟩|z|⟨_,j,_,e,m,n⟩
 .exact .inl ⟨i,e,m,n⟩
 .exact .inr z
 exact .inl ⟨j,e,m,n⟩
def Hg.trans(x:Hg A d c δ H b δ1 g)(y:Hg A d b δ1 g f δ2 l):Hg A d c δ H f δ2 l where
 kp:=λa o e n p=>y.kp a o (x.kp a o e n p) (λz=>(x.ow a z).elim n λz=>by rw[z]at e;cases e) p
 owi:=λi a z=>(y.owi i a z).elim (x.owi i a) λz=>z.elim (λz=>.inr (.inl (by
  cases h:H a with
  |none=>rfl
  |some o=>exact absurd z<|x.dm a<|by rw[h];simp))) λ⟨m,j,q,z⟩=>(x.owi j a z).elim (λz=>.inr (.inr ⟨m,j,q,z⟩)) λz=>z.elim (λz=>.inr (.inl z)) λ⟨_,k,ak,z⟩=>.inr (.inr ⟨m,k,ak,z⟩)
 dm:=λa z=>y.dm a<|x.dm a z
 as:=λi h=>(y.as i h).trans<|x.as i h
end
noncomputable def vJ(p:(Int->Bool)×Nat)(d:D):(Int->Bool)×Nat:=match d with
 |.int k=>(λa=>p.1 a||decide (a=k),if p.1 k then p.2 else p.2+1)
 |_=>p
def mU(l:List D):(Int->Bool)×Nat:=l.foldl vJ (λ_=>C,0)
def Bf(l:List D)(k:Int):mU (l++[.int k])=((λa=>(mU l).1 a||decide (a=k)),if(mU l).1 k then(mU l).2 else(mU l).2+1):=by unfold mU;rw[FU];rfl
def PK:∀(l:List D)(p:(Int->Bool)×Nat),(l.foldl vJ p).2<=p.2+(A1 l):=by
 intro b
 induction b with
 |nil=>intro p;exact jh _
 |cons d l a=>
  intro p;have:=a<|vJ p d
  have h:(vJ p d).2<=p.2+1:=by
   unfold vJ;split
   .dsimp only;split<;>lia
   lia
  simp
  lia
def AtD(S:Option Bool)(K:iz)(T:Hp)(O:SI)(d:gJ)(a:List D):Prop:=match S with
 |some C=>∃c,T d=J (.lst c)/\YP K T O a c
 |some Y=>T d=J (.set (mU a).1 (mU a).2)
 |none=>∃b,AB K (T d) .set [] a b/\YP K T O a b
structure BS(S:Option Bool)(K:iz)(d:gJ)(T:SI)(σ:L2.St)(δ:Dn)(acc:List D)(H:Hp):Prop where
 er:ER K H T σ δ
 td:T d
 at':AtD S K H (λa=>X0 σ δ a\/T a) d acc
abbrev FB:=List D->Dn->Option (List D×Dn)
inductive GD(S:Option Bool)(K:iz)(A:jo)(d:gJ)(f:FB)(σ:L2.St)(H:Hp)(N:L2.St->Hp->Prop):Prop where
 |mk (δ:Dn) (T:SI) (acc d9:List D) (δ':Dn) (_:BS S K d T σ δ acc H) (_:f acc δ=z8 (d9,δ')) (_:∀σ' H',Hg A d σ δ H σ' δ' H'->BS S K d T σ' δ' d9 H'->N σ' H')
noncomputable def ja(f:F):FB:=λa δ=>(f δ).bind λp=>if (A1 a)<sizeLine then J (a++[p.1.1],p.2)else U
noncomputable def jr(b:Tg)(ti:FT)(a:FB):List D->FB
 |[],acc,δ=>J (acc,δ)
 |x::xs,acc,δ=>(b x δ).bind λδ1=>(ti δ1).bind λp=>(if p.1=Y then a acc p.2 else J (acc,p.2)).bind λq=>jr b ti a xs q.1 q.2
def Dw(c:AE)(d:Tg)(ti:FT)(b:FB):FB:=λa e=>(c e).bind λp=>jr d ti b p.1 a p.2
section
variable {K:iz}{A:jo}{d:gJ}{T:SI}{f r:L2.St}{j s:Dn}{p:List D}{H q:Hp}
def BS.step(b:BS S K d T f j p H)(k:SK A f j H r s q)(t:ER K q T r s):BS S K d T r s p q:=by
 refine⟨t,b.td,?_⟩;have h:=b.at'
 have m:∀{l:List D}{i:List V},YP K H (λa=>X0 f j a\/T a) l i->YP K q (λa=>X0 r s a\/T a) l i:=λg=>by
  refine YP.mono (λb o e n=>k.kp b o e λz=>n<|.inl z) (λc u z=>?_) g;rcases z with z|z
  .exact(k.ow c z).elim aT λz=>absurd z u
  exact .inr z
 rcases S with _|_|_
 .obtain⟨v,h1,g⟩:=h;exact⟨v,h1.keep λo e=>k.kp d o e λz=>b.er.nT d z b.td,m g⟩
 .obtain⟨i,h1,g⟩:=h;exact⟨i,k.kp d _ h1 λz=>b.er.nT d z b.td,m g⟩
 exact k.kp d _ h λz=>b.er.nT d z b.td
def Im(hg:∀v f H Q,tG K A tg v f H Q->g v f H Q)(hi:∀f H Q,tT K ft f H Q->ti f H Q)(hb:∀f H N,GD S K A d fb f H N->tb f H N)
  (b:BS S K d T f j p H)(P O:SI)(ok:JG K J' ds P O q)(s1:∀a o,q a=J o->¬P a->H a=J o)(s0:∀a,q a≠z9->X0 f j a\/a=d->P a)(s2:∀a,q a≠z9->(X0 f j a\/T a)->O a)(s3:∀a,q a≠z9->H a≠z9)(e:jr tg ft fb ds p j=J (d9,B))
  (k:∀E t,Hg A d f j H E B t->BS S K d T E B d9 t->N E t):HK J' g ti tb f H N:=by
 refine⟨λi m l w=>m=A1 ds-i/\i<=A1 ds/\∃h G,Hg A d f j H l h w/\BS S K d T l h G w/\jr tg ft fb (ds.drop i) G h=J (d9,B),⟨A1 ds,by simp,lq _,j,p,SK.refl.JS,b,by simpa using e⟩,?_⟩;rintro i m l w ⟨rfl,hle,h,G,Y',I',e2⟩
 have hO:∀a,q a≠z9->(X0 l h a\/T a)->O a:=λa W z=>by
  rcases z with z|z
  .exact(Y'.ow a z).elim (λz=>s2 a W<|.inl z) λz=>absurd z<|s3 a W
  exact s2 a W (.inr z)
 have ae:∀a o,q a=J o->¬P a->w a=J o:=λa o V n=>Y'.kp a o (s1 a o V n) (λz=>n<|s0 a (by rw[V];simp)<|.inl z) λz=>n<|s0 a (by rw[V];simp)<|.inr z;by_cases F:i<A1 ds
 .refine .inr ?_;have hd:ds[i]?=J ds[i]:=jk F;obtain⟨go,yl⟩:=ok.go i _ w hd ae;rw[wN F]at e2;obtain⟨C,h3,e3⟩:=gR e2;obtain⟨c,u,h4,e4⟩:=gZ e3;obtain⟨y,M,D,e5⟩:=gZ e4;refine⟨go,λx t hy=>?_⟩;obtain⟨ext,rep⟩:=yl x t hy;have eA:ER K t T l h:=I'.er.mono (λb ob eb _=>ext b ob eb) (λ_ _ z=>z) λa z=>(I'.er.dom a z).up<|ext a;have SX:SK A l h w l h t:=(I8.ext ext).sk;have R:=I'.step SX eA;have gz:Hg A d f j H l h t:=Y'.trans SX.JS;have rx:=rep (λa=>X0 l h a\/T a) hO λb hb z=>z.elim (λz=>I'.er.GG z hb) λz=>(I'.er.dom b z).ne hb;refine hg _ _ _ _ ⟨h,T,ds[i],C,eA,rx,h3,λU S3 Z=>?_⟩;have B3:=R.step S3 Z;have bU:=gz.trans S3.JS;refine hi _ _ _ ⟨C,T,c,u,Z,h4,λH4 K4 E4=>?_⟩;have S4:SK A U C t U u H4:=K4.sk;have X:=B3.step S4 E4;have L:=bU.trans S4.JS
  cases c with
  |false=>rw[iC ky]at D;obtain⟨rfl,rfl⟩:=iD D;exact YH ⟨A1 ds-(i+1),by lia,rfl,F,u,G,L,X,e5⟩
  |true=>rw[hV I]at D;exact YG<|hb _ _ _ ⟨u,T,G,y,M,X,D,λσ5 H5 S5 B5=>⟨A1 ds-(i+1),by lia,rfl,F,M,y,L.trans S5,B5,e5⟩⟩
 refine .inl ⟨ok.stop i w (by lia) ae,?_⟩;rw[yW<|by lia]at e2;obtain⟨rfl,rfl⟩:=iD e2;exact k l w Y' I'
end
section
variable {X:Cx}{A:jo}{d:gJ}{b:gX}{f:F}
def PB.imp'{code:c4 Unit}{t e:TB}(h:PB X code t)(k:∀c T N,e c T N->t c T N):PB X code e:=λa s c T N Q g=>h a s c T N Q<|k c T N g
def Qr{S:Option Bool}{e:gX}{depth:Nat}{c:nI}{r:AE}{u:Tg}{s:FT}{q:FB}(M:X.xe=λ_ _=>False)(hc:X.calm=At)
  (hl:(∃b g l p,e=.ListComp b g l p)\/(∃b g l p,e=.SetComp b g l p))(hg:(bJ e)[depth+1]?=z8 c)(Y:c.is_async=0)(i7:∀t,(bJ e)[depth+1+1]?=z8 t->t.is_async=0)
  (hs:∀x,aq c.iter X.env x=pure x)(pi:JQ X (λ_=>False) c.target c.iter r)(pg:JR X A c.target u)(Q:Hm X c.ifs (tT X.K s))(pb:PB X (iX e (depth+1) (.ref d) X.env) (GD S X.K A d q)):
  PB X (iX e depth (.ref d) X.env) (GD S X.K A d<|Dw r u s q):=PB.imp' (UY M hc hl hg Y i7 hs pi pg Q pb) λw H N D=>by
 obtain⟨v,T,G,P,F,B,e,k⟩:=D;obtain⟨U,j,h1,e⟩:=gZ e;refine⟨v,T,U,j,B.er,h1,λJ I L C ok=>?_⟩;have n:SK A w v H w j I:=L.sk;exact Im (λ_ _ _ _ h=>h) (λ_ _ _ h=>h) (λ_ _ _ h=>h) (B.step n C) _ _ ok (λa o e _=>e) (λa _ z=>z.elim (λa'=>by obtain⟨i,x,z⟩:=a';exact .inl ⟨i,id,x,z⟩) λz=>.inr (z▸B.td)) (λa _ z=>z) (λa z=>z) e λm E O y=>k m E (n.JS.trans O) y
end
def iR(caps:jc)(k:Nat)(fi:AE)(b:Tg)(ti:FT)(a:FB):F:=λδ=>(fi δ).bind λp=>(jb p.2<|caps.map .slot).bind λargs=>if(iu (caps.map .slot) args).Nodup then(jr b ti a p.1 []<|args.map J++ah k U).bind λq=>J ((.lst q.1,Y),wb (caps.map .slot) args (iQ args q.2) p.2)else U
noncomputable def qC(a:jc)(k:Nat)(b:L2.St):L2.St:=(a.map λj=>(b[j]?).join)++ah k U
def o0(S:Option Bool):HO:=match S with
 |some C=>.lst []
 |some Y=>.set (λ_=>C) 0
 |none=>.W2 []
noncomputable def qS(S:Option Bool)(Q:VK):VK:=match S with
 |some C|none=>Q
 |some Y=>λx b=>∃S n,∃a,x=.ref a/\b a=J (.set S n)/\Q (.int n) b
def rS(S:Option Bool)(a:List D):D×Bool:=match S with
 |some C=>(.lst a,Y)
 |none=>(.Sr .set [] a,Y)
 |some Y=>(.int (mU a).2,C)
def G9(S:Option Bool)(b:jc)(k:Nat)(d:AE)(e:Tg)(f:FT)(c:FB):F:=λδ=>(d δ).bind λp=>(jb p.2<|b.map .slot).bind λa=>if(iu (b.map .slot) a).Nodup then(jr e f c p.1 []<|a.map J++ah k U).bind λq=>J (rS S q.1,wb (b.map .slot) a (iQ a q.2) p.2)else U
def xM{S:Option Bool}{K:iz}{f:jc}{k:Nat}{fi:AE}{tg:Tg}{ti:FT}{fb:FB}{p:L2.St}{H:Hp}{Q:VK}(h:tF K (G9 S f k fi tg ti fb) p H Q):
  tI K (λi=>i∉f) fi p H λJ' q=>DV (o0 S) J' (tG K (λi=>A1 f<=i) tg) (tT K ti) (λd=>GD S K (λi=>A1 f<=i) d fb) (qC f k) p q (qS S Q):=by
 obtain⟨δ,T,rr,δr,E,e,kq⟩:=h;obtain⟨ds,s,h1,e⟩:=gZ e;obtain⟨g,t,e⟩:=gR e;dsimp only at e t;split at e
 case isFalse=>cases e
 rename_i Y;obtain⟨m,δ',h2,e⟩:=gZ e;obtain⟨rfl,rfl⟩:=iD e;refine⟨δ,T,ds,s,E,h1,λJ' q D A ok d hd=>?_⟩;obtain⟨hl,hg⟩:=oK t;have cP:(A1 g)=(A1 f):=by simpa using hl
 let C:List V:=f.map λj=>((p[j]?).join).getD .T2
 have there:∀(i j:Nat),f[i]?=J j->∃v,p[j]?=J (J v):=λi j l=>by
  have hi:i<(A1 g):=by have:=(ue.mp l).1;lia
  obtain⟨o,u,q2⟩:=hg i _ (jk hi);rw[kg,l]at u;cases u;have O:=mW q2;generalize g[i]=y at O;obtain⟨x,b⟩:=y
  cases b
  .obtain⟨v,h,_⟩:=A.val j x O;exact⟨v,h⟩
  obtain⟨a,h,_⟩:=A.own j x O;exact⟨_,h⟩
 have Z:∀(i j:Nat),f[i]?=J j->∃v,C[i]?=J v/\p[j]?=J (J v):=λi j l=>by obtain⟨v,hv⟩:=there i j l;refine⟨v,?_,hv⟩;show(f.map λj=>((p[j]?).join).getD .T2)[i]?=J v;rw[kg,l];simp[hv]
 have u5:qC f k p=C.map J++ah k z9:=by
  unfold qC
  congr 1
  apply uE;intro i;show _=((f.map λj=>((p[j]?).join).getD .T2).map J)[i]?;rw[kg,kg,kg]
  cases l:f[i]? with
  |none=>rfl
  |some j=>obtain⟨v,hv⟩:=there i j l;simp[hv]
 have I:Ops K T p s q (f.map F2.slot) C s q T:=by
  refine⟨by simp[C],.refl,A,λ_ z=>z,λj x v l=>?_,λj x v l=>?_,λj i v l hv=>?_⟩
  .rw[kg]at l;obtain⟨_,_,z⟩:=iT l;cases z
  .rw[kg]at l;obtain⟨_,_,z⟩:=iT l;cases z
  rw[kg]at l;obtain⟨c,X,z⟩:=iT l;cases z;obtain⟨v',u,q2⟩:=Z j i X;rw[hv]at u;cases u;exact q2
 have L:=wk A I t Y
 have W:∀(i:Nat) x,g[i]?=J (x,At)->¬(A1 f<=i):=λi x B=>by
  have:=(ue.mp B).1
  lia
 rw[u5];have B:=lr (o:=o0 S) hd
 have nz:∀a,q a≠z9->upd q d (o0 S) a≠z9:=λa z=>by
  cases U:q a with
  |none=>exact absurd U z
  |some o=>rw[B a o U];simp
 have b0:BS S K d (λa=>Tc T p s C g a\/a=d) (C.map J++ah k z9) (g.map J++ah k z9) [] (upd q d<|o0 S):=by
  refine⟨(L.pad).mono (λb o eb _=>B b o eb) (λb hb z=>z.elim id λz=>by subst z;exact absurd hd hb) λa z=>?_,.inr AT,?_⟩
  .rcases z with z|z
   .exact(L.dom a z).up (B a)
   subst z;rw[iF];rcases S with _|_|_<;>trivial
  rcases S with _|_|_
  .exact⟨[],⟨rfl,[],iF,.nil⟩,YP.nil⟩
  .exact⟨[],iF,YP.nil⟩
  exact iF
 refine Im (λ_ _ _ _ h=>h) (λ_ _ _ h=>h) (λ_ _ _ h=>h) b0 _ _ ok (λa o N _=>B a o N) (λa R z=>?_) (λa R z=>?_) nz h2 λσ' G M w=>?_
 .rcases z with z|z
  .obtain⟨j,x,g1,g2⟩:=MQ.mp z;obtain⟨i,_,u,_,O⟩:=EA I t ⟨x,g1,g2⟩;refine .inl ⟨i,λn=>n ?_,O⟩;rw[kg]at u;obtain⟨c,X,e⟩:=iT u;cases e;exact lS X
  subst z;exact absurd hd R
 .rcases z with z|z|z
  .exact .inl (Iw I t<|MQ.mp z)
  .rcases z with z|z
   .exact .inr z
   exact .inl z.1
  subst z;exact absurd hd R
 have F:SK (λi=>A1 f<=i) (C.map J++ah k z9) (g.map J++ah k z9) q σ' δ' G:=
  ⟨λa o N n=>M.kp a o (B a o N) n (by intro z;subst z;rw[N]at hd;cases hd),λi a z=>(M.owi i a z).imp id λz=>z.imp (λz=>by
   cases U:q a with
   |none=>rfl
   |some o=>exact absurd z<|nz a<|by rw[U];simp) id,λa z=>M.dm a<|nz a z,M.as⟩
 rcases S with _|_|_
 .obtain⟨us,hy,ry⟩:=w.at';have P:=pU (r:=(.Sr .set [] m,At)) (v:=.ref d) L F W ⟨d,rfl,hd,w.er,us,hy,YP.mono (λ_ _ e _=>e) (λb _ z=>z) ry⟩;exact kq (.ref d) G<|(oH A I t Y P).pre D
 .obtain⟨ys,hy,ry⟩:=w.at';have P:=pU (r:=(.lst m,At)) (v:=.ref d) L F W ⟨d,rfl,hd,w.er,ys,hy,YP.mono (λ_ _ e _=>e) (λb _ z=>z) ry⟩;exact kq (.ref d) G<|(oH A I t Y P).pre D
 have P:=pU (r:=(.int (mU m).2,AC)) (v:=.int (mU m).2) L F W ⟨w.er.mono (λ_ _ e _=>e) (λb _ z=>.inl z) λa z=>w.er.dom a<|.inl z,Rep.mkInt⟩;exact⟨_,_,d,rfl,w.at',kq (.int (mU m).2) G<|(oH A I t Y P).pre D⟩
def EX{K:iz}{a:jc}{k:Nat}{c:AE}{e:Tg}{ti:FT}{b:FB}{f:L2.St}{T:Hp}{Q:VK}(h:tF K (iR a k c e ti b) f T Q):
  Sf (tI K (λi=>i∉a) c) (tG K (λi=>A1 a<=i) e) (tT K ti) (λd=>GD C K (λi=>A1 a<=i) d b) (qC a k) f T Q:=xM (S:=C) h
section
variable {X:Cx}{elt:gX}{c:nI}{rest:nJ}{scope:iJ}{pos f7 py:bq}{N':iA}{caps:jc}{k:Nat}{fi:AE}{tg:Tg}{ti:FT}{fb:FB}{A:jo}{L:LL}{H0:Hp}
structure AF(X:Cx)(N':iA)(scope:iJ)(caps:jc)(k:Nat):Prop where
 cell:∀y∈scope.names,y.2=.cell->scope.names.lookup y.1=z8 .cell
 kind:scope.kind=.function
 names:∀y∈scope.names,y.2=.local->scope.names.lookup y.1=z8 .local
 free:∀y∈scope.names,y.2=.free->X.env.scope.names.lookup y.1=z8 .cell\/X.env.scope.names.lookup y.1=z8 .free
 len:(A1 caps)+k=A1 N'
 caps:∀(i j:Nat)(x:av),caps[i]?=z8 j->N'[i]?=z8 x->X.N[j]?=z8 x/\scope.names.lookup x=z8 .free
def AF.Jl(T:AF X N' scope caps k):AI X N' scope (qC caps k):=by
 refine⟨T.cell,T.kind,T.names,T.free,λd=>by simp[qC,T.len],λd i v x h1 f=>?_⟩;unfold qC at h1;by_cases b:i<A1 caps
 .rw[oQ<|by simpa using b,kg,jk b]at h1;obtain⟨g,h⟩:=T.caps i caps[i] x (jk b) f;refine⟨h,caps[i],g,?_⟩;have a:(d[caps[i]]?).join=J v:=by simpa using h1
  cases e:d[caps[i]]? with
  |none=>rw[e]at a;cases a
  |some y=>rw[e]at a;exact lY J a
 rw[oh<|by simpa using b,Cq]at h1;split at h1<;>cases h1
def P8(O:AF X N' scope caps k)(l:X.calm=Y)(j:c.is_async=0)(n:∀e,rest[0]?=J e->e.is_async=0)
  (m:∀x,aq c.iter X.env x=pure x)(q:JQ X (λi=>i∉caps) c.target c.iter fi)
  (p:∀(cl:jq)(O:gJ)(r:gM)(f:Hp)(fp:km)(a:iN),let b:=X.comp N' scope cl O r f fp a
   JR b (λi=>A1 caps<=i) c.target tg/\Hm b c.ifs (tT X.K ti)/\∀d,PB b (iX (.ListComp elt (c::rest) scope pos) 0 (.ref d) b.env)<|GD C X.K (λi=>A1 caps<=i) d fb):
  PX X (.ListComp elt (c::rest) scope pos) (iR caps k fi tg ti fb):=PX.imp (CN (o:=.lst []) (fp:=c.iter.pos) (new:=nb []) (g:=tG X.K (λi=>A1 caps<=i) tg) (ti:=tT X.K ti) (tb:=λd=>GD C X.K (λi=>A1 caps<=i) d fb) O.Jl l j n m q p (λ_ _ _ k=>nu<|k _ λ_=>⟨lq _,[],0,.nil,jT _ rfl⟩) (.inl ⟨_,_,_,_,rfl⟩) (hev:=by cases c;rfl)) λs T Q h=>EX h
def Mm{y:av}{i:Nat}(m:ck (.ListComp elt (c::rest) scope pos) (z8<|.Name y py) f7.line X.env=pure Y)
  (C:AF X N' scope caps k)(u:X.calm=Y)(t:c.is_async=0)(I:∀h,rest[0]?=z8 h->h.is_async=0)
  (z:∀x,aq c.iter X.env x=pure x)(Q:JQ X (λi=>i∉caps) c.target c.iter fi)(n:PG X (.Name y py) (EJ i))(s:A i)
  (O:∀(cl:jq)(C:gJ)(G:gM)(l:Hp)(o:km)(a:iN),let b:=X.comp N' scope cl C G l o a
   JR b (λi=>A1 caps<=i) c.target tg/\Hm b c.ifs (tT X.K ti)/\∀d,PB b (iX (.ListComp elt (c::rest) scope pos) 0 (.ref d) b.env)<|GD AC X.K (λi=>A1 caps<=i) d fb):
  Ke X A L H0 (.Assign [.Name y py] (.ListComp elt (c::rest) scope pos) f7) (jy i<|iR caps k fi tg ti fb):=PS.imp' (Mu (g:=tG X.K (λi=>A1 caps<=i) tg) (ti:=tT X.K ti) (tb:=λd=>GD AC X.K (λi=>A1 caps<=i) d fb) m C.Jl u t I z Q n O) λD M N B=>by
 obtain⟨J,T,out,E,fi,e,k⟩:=B;obtain⟨r,f,q,e⟩:=gZ e;obtain⟨w,rfl⟩:=iM e;refine EX ⟨J,T,r,f,E,q,λv j P=>?_⟩;obtain⟨h1,p⟩:=vG (A:=A) E P w s;exact k _ j h1 p
end
section
variable {K:iz}{T:SI}{d:L2.St}{c:Dn}{H:Hp}{i:Nat}{l m:List D}{a:gJ}{g:List V}
def OO.AR{j:Nat}{b:gJ}(hd:c[i]?=J (J (k,Y)))(h:OO d (c.set i<|J (d',Y)) j b):OO d c j b:=by
 obtain⟨e,h1,f⟩:=h;rcases mG h1 with⟨rfl,_,_⟩|⟨_,q⟩
 .exact⟨_,hd,f⟩
 exact⟨e,q,f⟩
def ER.AR(E:ER K H T d c)(hd:c[i]?=z8 (z8 (N,Y)))(t:d[i]?=z8 (z8<|.ref a))(r:A4 K (upd H a o) (λb=>X0 d c b\/T b) d' a):
  ER K (upd H a o) T d (c.set i<|z8 (d',Y))/\I8 d c H (c.set i<|z8 (d',Y)) (upd H a o):=by
 have U:i<(A1 c):=(ue.mp hd).1;have v:X0 d c a:=⟨i,_,hd,t⟩
 have B:∀b,X0 d (c.set i<|z8 (d',Y)) b->X0 d c b:=λb a'=>by
  obtain⟨j,e,h1,s⟩:=a'
  obtain⟨L,x,y⟩:=OO.AR hd ⟨e,h1,s⟩;exact⟨j,L,x,y⟩
 have kp:∀b u,H b=z8 u->¬(X0 d c b\/T b)->upd H a o b=z8 u:=λb u e n=>by rw[iL<|by intro z;subst z;exact n<|.inl v];exact e
 have I:∀b,H b≠z9->upd H a o b≠z9:=λb z=>by
  by_cases C:b=a
  .subst C;rw[iF];simp
  rw[iL C];exact z
 have sub:∀b,(X0 d (c.set i<|z8 (d',Y)) b\/T b)->X0 d c b\/T b:=λb z=>z.imp (B b) id;refine⟨⟨by rw[ud];exact E.len,λj e h=>?_,λj e h=>?_,λj k e f b h hk h1 s=>?_,λb z=>E.nT b<|B b z,λb z=>by have ne:b≠a:=λe=>E.nT a v<|e▸z;rw[iL ne];exact E.dom b z⟩,⟨λb u e n=>by rw[iL<|by intro z;subst z;exact n v];exact e,λj b z=>OO.AR hd z,I⟩⟩
 .rcases mG h with⟨_,_,q⟩|⟨_,q⟩
  .cases q
  obtain⟨w,p,A⟩:=E.val j e q;exact⟨w,p,Rep.mono kp (λb _ z=>sub b z) A⟩
 .rcases mG h with⟨rfl,_,q⟩|⟨ne,q⟩
  .cases q;exact⟨a,t,r.mono (λ_ _ e _=>e) (λb _ z=>sub b z) λ_ e=>e⟩
  obtain⟨b,p,A⟩:=E.own j e q;refine⟨b,p,A.mono kp (λb _ z=>sub b z) λu G=>?_⟩;rw[iL]
  .exact G
  intro z;subst z;exact ne<|E.inj i j _ _ _ hd q t p
 obtain⟨O,x,y⟩:=OO.AR hd ⟨e,h,h1⟩;obtain⟨Q,J,M⟩:=OO.AR hd ⟨f,hk,s⟩;exact E.inj j k O Q b x J y M
def ER.write(E:ER K H T d c)(hd:c[i]?=J (J (.lst l,Y)))(f:d[i]?=J (J<|.ref a))(r:YP K H (λb=>X0 d c b\/T b) m g):
  ER K (upd H a<|.lst g) T d (c.set i<|J (.lst m,Y))/\I8 d c H (c.set i<|J (.lst m,Y)) (upd H a<|.lst g):=
 E.AR hd f ⟨g,iF,YP.mono (λb o e n=>by rw[iL<|by intro z;subst z;exact n<|.inl ⟨i,_,hd,f⟩];exact e) (λ_ _ z=>z) r⟩
end
noncomputable def ml(i:Nat)(f:F):F:=λa=>match a[i]? with
 |some (J (.lst _,Y))=>(f a).bind λp=>match p.2[i]? with
  |some (J (.lst l,Y))=>if (A1 l)<sizeLine then J ((.T2,C),p.2.set i<|J (.lst<|l++[p.1.1],Y))else U
  |_=>U
 |_=>U
def zZ(i:Nat)(f:FO):F:=λa=>match a[i]? with
 |some (J (.lst _,Y))=>(f a).bind λp=>match res p.2 p.1,p.2[i]? with
  |some (.int k),J (J (.lst l,Y))=>if -(2^63)<=k/\k<2^63 then(Dv (A1 l) k).bind λj=>(l[j]?).bind λd=>J ((d,C),p.2.set i<|J (.lst<|l.eraseIdx j,Y))else U
  |_,_=>U
 |_=>U
def uO(i:Nat)(f:F)(g:FO):FS:=λa=>(f a).bind λp=>match p.2[i]? with
 |some (J _)=>(g p.2).bind λq=>match res q.2 q.1,q.2[i]? with
  |some (.int k),J (J (.lst l,Y))=>(Dv (A1 l) k).bind λj=>J<|.nx<|q.2.set i<|J (.lst<|l.set j p.1.1,Y)
  |_,_=>U
 |_=>U
section
variable {X:Cx}{e c:gX}{f:F}{k:FO}{b m a g:bq}{i:Nat}{x:av}{A:jo}{L:LL}{n:Hp}
theorem YP.erase{K T}{O:SI}:∀{l:List D}{o:List V}(j:Nat),YP K T O l o->YP K T O (l.eraseIdx j) (o.eraseIdx j)
 |[],o,j,h=>by rw[YP]at h;subst h;simp[YP]
 |d::l,o,0,h=>by rw[YP]at h;obtain⟨v,r,rfl,h1,p⟩:=h;exact p
 |d::l,o,j+1,h=>by rw[YP]at h;obtain⟨v,r,rfl,h1,p⟩:=h;exact YP.cons h1<|YP.erase j p
end
noncomputable def Ug(b:Tg)(f:F):FS:=λc=>(f c).bind λp=>(b p.1.1 p.2).bind λa=>J<|.nx a
section
variable {X:Cx}{A:jo}{L:LL}{m:Hp}{a b h e:gX}{fs:List F}{f:F}{t:Tg}{c l k pt d:bq}{x y:av}{i j:Nat}{kt k2}
def Qa{id:String}{p:bq}{n:jP}{o:List FO}{g:List D->Option (D×Bool)}{z:av}(s:ki X (.builtin id) (EU X.K g))(v:Gl X z)(w:X.mg z=U)(hv:ax z=J (.builtin id))(r:PA X (e::n) (tA X.K o))(B:z≠"__name__")(T:(z==("__debug__":av))=C)
  (u:af (e::n) X.env=(C,ba e X.env)::af n X.env)(q:(aB c<|af n X.env).any (·.1)=C):PX X (.Call (.Name z p) (e::n) [] c) (iB g o):=pxn<|zu s v w hv r B T u q
def P5{id:String}{p:bq}{n:jP}{o:List FO}{g:List D->Option (D×Bool)}{z:av}(s:ki X (.type id) (EU X.K g))(v:Gl X z)(w:X.mg z=U)(hv:ax z=J (.type id))(r:PA X (e::n) (tA X.K o))(B:z≠"__name__")(T:(z==("__debug__":av))=C)
  (u:af (e::n) X.env=(C,ba e X.env)::af n X.env)(q:(aB c<|af n X.env).any (·.1)=C):PX X (.Call (.Name z p) (e::n) [] c) (iB g o):=pxn<|pL s v w hv r B T u q
end
def V1:ax "len"=J (.builtin "len"):=by decide+kernel
def V2:ax "abs"=J (.builtin "abs"):=by decide+kernel
noncomputable def qj(N:iA)(c scope:iJ)(b:iA)(a:jc)(k:Nat):Bool:=
 (scope.names.all λy=>y.2 != .cell||scope.names.lookup y.1==J .cell)&&decide (scope.kind=.function)&&(scope.names.all λy=>y.2 != .local||scope.names.lookup y.1==J .local)&&
 (scope.names.all λy=>y.2 != .free||(c.names.lookup y.1==J .cell||c.names.lookup y.1==J .free))&&decide (A1 a+k=A1 b)&&
 ((a.zip b).all λp=>N[p.1]?==J p.2&&scope.names.lookup p.2==J .free)
def Aj(n:X.N=N)(q:X.env.scope=sc)(h:qj N sc scope c a k=Y):AF X c scope a k:=by
 subst n;subst q;unfold qj at h;simp only[kX,kf,oM]at h;obtain⟨⟨⟨⟨⟨h1,d⟩,f⟩,g⟩,l⟩,m⟩:=h;refine⟨λy b e=>?_,d,λy b e=>?_,λy b e=>?_,l,λi j x o r=>?_⟩
 .have:=h1 y b;rw[e]at this;simpa using this
 .have:=f y b;rw[e]at this;simpa using this
 .have:=g y b;rw[e]at this;simpa using this
 have p:(j,x)∈a.zip c:=by
  have:(a.zip c)[i]?=J (j,x):=by rw[DK];exact⟨o,r⟩
  exact lS this
 have:=m _ p;simpa using this
noncomputable def iZ:FT:=λδ=>J (Y,δ)
inductive Ty where
 |int|bool|str|tuple|list|dict
noncomputable def Ty.n:Ty->String
 |.int=>"int"|.bool=>"bool"|.str=>"str"|.tuple=>"tuple"|.list=>"list"|.dict=>"dict"
noncomputable def J2:D->Ty->Bool
 |.bl _,.bool=>Y
 |.bl _,.int=>Y
 |.int _,.int=>Y
 |.str _,.str=>Y
 |.tup _,.tuple=>Y
 |.lst _,.list=>Y
 |.Sr .dct _ _,.dict=>Y
 |_,_=>C
noncomputable def tyD:D->String
 |.T2=>"NoneType"|.bl _=>"bool"|.int _=>"int"|.str _=>"str"|.tup _=>"tuple"|.lst _=>"list"|.Sr .dct _ _=>"dict"|.Sr .set _ _=>"set"|.Sr _ _ _=>"NoneType"
section
variable {X:Cx}{b:iN}{c:L2.St}{H:Hp}{s:gM}
def EE(K:iz)(d:D)(t:Ty):dg K (.type<|tyD d) (.type t.n)=J (J2 d t):=by
 cases d with
 |Sr k _ _=>cases k<;>cases t<;>with_unfolding_all rfl
 |_=>cases t<;>with_unfolding_all rfl
def GL(Q:Inv X b c H s)(h:AB X.K (H a) k l i us)(hk:k=.dct\/k=.set:=by first|exact .inl rfl|exact .inr I):s.TypeIs (.ref a) (tyD<|.Sr k l i):=by
 cases k with
 |dct=>
  rcases h with⟨d,e,_⟩|⟨d,e,_⟩
  .obtain⟨_,_,i,_,o,g,j,h1,f,_⟩:=(show VP X.prog X.w H s.heap a (.dK d)from Q.hok a _ e)
   exact⟨o,h1,f.1⟩
  obtain⟨_,_,p,_,o,g,j,h1,f,_⟩:=(show VP X.prog X.w H s.heap a (.dT d)from Q.hok a _ e)
  exact⟨o,h1,f.1⟩
 |set=>
  obtain⟨_,m,e,_⟩:=h;obtain⟨g,n,t,h1,_⟩:=(show VP X.prog X.w H s.heap a (.W2 m)from Q.hok a _ e)
  exact⟨_,h1,rfl⟩
 |exc T=>rcases hk with z|z<;>cases z
 |_=>exact h.elim
def pB{K H}(h:jv K H O (.Sr k g f) v):JP (λa d=>AB K (H a) k g f d) (YP K H O f) v:=by
 rcases h with h|⟨a,rfl,h⟩
 .obtain⟨a,d,e,q,r⟩:=h.Sr;exact⟨a,d,e,q.2,r⟩
 obtain⟨d,e,r⟩:=h;exact⟨a,d,rfl,e,r⟩
end
def Y1{K:iz}{T:Nat}(h:∀n∈["int","bool","str","tuple","list","dict"],dg K (.ref T) (.type n)=J C)(t:Ty){a b:List D}:dg K (.ref T) (.type t.n)=J (J2 (.Sr (.exc T) a b) t):=by
 cases t<;>exact h _ (by simp[Ty.n])
section
variable {X:Cx}{c:iN}{f:L2.St}{H:Hp}{s:gM}
def aaI(N:Inv X c f H s)(hd:jv X.K H O d x)(g:RelV x u)(h:∀m,Q (.bool<|J2 d t) {s with toks:=m}):
  aa (ag X.prog X.w) A (call (.builtin "isinstance") [u,.type t.n]) Q E s:=by
 cases d with
 |T2=>have:=aej hd;subst this;cases g;exact vq PySem.W.kitx_none N.Ej br (EE X.K .T2 t) (λz=>nomatch z) h
 |bl b=>have:=HE hd;subst this;cases g;exact vq PySem.W.kitx_bool N.Ej br (EE X.K (.bl b) t) (λz=>nomatch z) h
 |int b=>have:=iP hd;subst this;obtain⟨m,rfl⟩:=g;exact vq PySem.W.kitx_int N.Ej br (EE X.K (.int b) t) (λz=>nomatch z) h
 |str b=>have:=zi hd;subst this;obtain⟨m,rfl⟩:=g;exact vq PySem.W.kitx_str N.Ej br (EE X.K (.str b) t) (λz=>nomatch z) h
 |tup l=>obtain⟨a,y,rfl,q,_⟩:=lE hd;cases g;obtain⟨j,_,⟨o,h1,i,_⟩,_⟩:=N.tuple q;exact vq PySem.W.kitx_tuple N.Ej ⟨o,h1,i⟩ (EE X.K (.tup l) t) (λz=>nomatch z) h
 |lst l=>obtain⟨a,y,rfl,q,_⟩:=kO hd;cases g;obtain⟨j,_,⟨o,n,h1,i,_⟩,_⟩:=N.list q;exact vq PySem.W.kitx_list N.Ej ⟨o,h1,i⟩ (EE X.K (.lst l) t) (λz=>nomatch z) h
 |Sr k p r=>
  obtain⟨a,B,rfl,q,_⟩:=pB hd;cases g
  cases k with
  |dct=>exact vq PySem.W.kitx_dict N.Ej (GL N q) (EE X.K (.Sr .dct p r) t) (λz=>nomatch z) h
  |set=>exact vq PySem.W.kitx_set N.Ej (GL N q) (EE X.K (.Sr .set p r) t) (λz=>nomatch z) h
  |exc T=>obtain⟨_,o,e,h1,i,v⟩:=q;exact vq (i a) N.Ej (show VP X.prog X.w H s.heap a (.AJ o<|.own 0)from N.hok a _ e).1 (Y1 v t) (λz=>nomatch z) h
  |_=>exact q.elim
end
def G5(a:List Ty)(d:D):Option (D×Bool):=J (.bl<|a.any<|J2 d,C)
section
variable {X:Cx}{e:gX}{c:FO}{b p a:bq}{z:av}
def UB{t:Ty}(L:PO X e c)(J:Gl X "isinstance")(M:X.mg "isinstance"=z9)(y:Gl X z)(f:X.mg z=z9)(Y:ax z=z8 (.type t.n))(N:z≠"__name__")(j4:(z==("__debug__":av))=AC)(hv:ax "isinstance"=z8 (.builtin "isinstance"))
  (s1:af [e,.Name z a] X.env=(AC,ba e X.env)::af [.Name z a] X.env)(s2:af [.Name z a] X.env=(AC,ba (.Name z a) X.env)::af [] X.env)(w:(aB b<|af [.Name z a] X.env).any (·.1)=AC):
  PX X (.Call (.Name "isinstance" p) [e,.Name z a] [] b) (qh (G5 [t]) c):=by
 have G:ki X (.builtin "isinstance") (λm H Q=>∃(O:SI)(d:D)(x:V),m=[x,.ty t.n]/\jv X.K H O d x/\Q (.bl<|J2 d t) H):=by intro l s W H m us Q I r h;obtain⟨O,d,x,rfl,hd,q⟩:=h;obtain⟨u,w',rfl,P,F⟩:=HF r;cases F;exact aaI I hd P λtk=>⟨.bl _,H,I.tok _,rfl,q⟩
 refine PX.imp (zu G J M hv (nS L (nS (Qq (v:=.ty t.n) y f Y AT N j4) rT s2) s1) (by decide) (by decide) s1 w) λW H Q U=>?_;obtain⟨R,T,rr,S,E,e,k⟩:=U;obtain⟨o,g,h1,e⟩:=gZ e;obtain⟨x,A,e⟩:=gR e;obtain⟨zz,C,e⟩:=gR e;cases C;obtain⟨rfl,rfl⟩:=iD e;refine⟨R,T,o,g,E,h1,λv Z i=>?_⟩;have B:=Ops.cons E i<|Ops.nil<|i.er E;refine⟨_,x,v,rfl,B.view (j:=0) AT AT A,?_⟩;have:=(B.done k).bl;simpa using this
end
noncomputable def tQ:List D->Option (List Bool)
 |[]=>J []
 |.bl b::l=>(tQ l).map (b:: ·)
 |_::_=>U
def xD:D->Option (D×Bool)
 |.lst l=>(tQ l).map λbs=>(.bl<|bs.all id,C)
 |_=>U
def Dd:D->Option (D×Bool)
 |.lst l=>(tQ l).map λbs=>(.bl<|bs.any id,C)
 |_=>U
theorem yh{K T}{O:SI}:∀{l:List D}{bs:List Bool}{e:List V}{d:je},tQ l=J bs->YP K T O l e->Vals e d->LSm.BoolsAre d bs
 |[],bs,e,d,h,r,v=>by
  cases h;rw[YP]at r;subst r;cases v;exact .nil
 |.bl b::l,bs,e,d,h,r,v=>by
  obtain⟨f,h1,rfl⟩:=iT h;rw[YP]at r;obtain⟨x,j,rfl,g,i⟩:=r;have:=g.bl;subst this
  cases v with
  |cons a c=>cases a;exact .cons b<|yh h1 i c
 |.T2::l,_,_,_,h,_,_=>by cases h
 |.int _::l,_,_,_,h,_,_=>by cases h
 |.str _::l,_,_,_,h,_,_=>by cases h
 |.tup _::l,_,_,_,h,_,_=>by cases h
 |.lst _::l,_,_,_,h,_,_=>by cases h
 |.Sr _ _ _::l,_,_,_,h,_,_=>by cases h
section
variable {X:Cx}
def abM{h a:ip}{o:el}(hk:∀b x,b∉[h.objs.size]->(h.push o).get? b=J x->a.get? b=J x)(b:gJ)(x:el)(e:h.get? b=J x):a.get? b=J x:=
 hk b x (λz=>by have:=Aw.mp z;subst this;exact absurd (jN e)<|oS _) (jz _ e)
def IV(q:Bool)(B:X.calm=Y):ki X (.builtin (if q then "all" else "any")) (EU X.K<|g1 (if q then xD else Dd)):=ph λm s J N x u Q O d z M C np hd j G=>by
 cases d with
 |lst l=>
  cases q<;>(
   obtain⟨bs,y,rfl⟩:=iT j;obtain⟨p,T,rfl,q,r⟩:=kO hd;cases C;obtain⟨a,v,c,_⟩:=M.list q;have are:=yh y r v;have k:X.A.in1.handled=U:=M.ok.hd B;have f:p<s.heap.objs.size:=by obtain⟨_,e,_⟩:=c.isList;exact jN e
   first|refine call_all_walk (za c.isList ⟨s.heap.objs.size,[s.heap.objs.size,p],[s.heap.objs.size],a.toArray.size,_,_,λi=>(bs[i]?).getD Y,rfl,Walks.list k _ p (jB f) a.toArray,⟨⟨_,jT _ rfl,rfl,rfl⟩,c.isList.push _⟩,λi w E o n h g=>?_,λt L hk=>?_⟩)|refine call_any_walk<|za c.isList ⟨s.heap.objs.size,[s.heap.objs.size,p],[s.heap.objs.size],a.toArray.size,_,_,λi=>(bs[i]?).getD AC,rfl,Walks.list k _ p (jB f) a.toArray,⟨⟨_,jT _ rfl,rfl,rfl⟩,c.isList.push _⟩,λi w E o n h g=>?_,λt L hk=>?_⟩
   .obtain⟨b,e,rfl⟩:=are.get i w (by simpa using h);dsimp only at g;rw[e]at g;exact rP g
   rw[jY,are.length];(first|rw[LSm.range_all]|rw[LSm.range_any])
   exact⟨.bl _,N,M.kept<|abM hk,rfl,G.bl⟩)
 |_=>cases q<;>cases j
def aea(a:X.calm=Y):ki X (.builtin "all") (EU X.K<|g1 xD):=IV Y a
def ad9(a:X.calm=Y):ki X (.builtin "any") (EU X.K<|g1 Dd):=IV C a
def NQ:=gI λi j=>J<|.int (if j>i then j else i)
def NP:=gI λi j=>J<|.int (if j<i then j else i)
def acV(c:X.calm=Y):ki X (.builtin "max") (EU X.K<|g2 NQ):=Oi λa s k T x y h Q O d e z N r np h1 b g G=>by obtain⟨i,j,w,rfl,rfl,f,rfl⟩:=yA g;cases f;exact ad5 c a s k T [x,y] h Q N r ⟨i,j,by rw[iP h1,iP b],G.int⟩
def acU(c:X.calm=Y):ki X (.builtin "min") (EU X.K<|g2 NP):=Oi λa s k T x y h Q O d e z N r np h1 b g G=>by obtain⟨i,j,w,rfl,rfl,f,rfl⟩:=yA g;cases f;exact ad4 c a s k T [x,y] h Q N r ⟨i,j,by rw[iP h1,iP b],G.int⟩
def zq{lo:Int}{n:Nat}{a:mS}(h:gE (λi v=>∃t,v=.int (lo+(i:Int)*1) t) a n):Vals ((ap n).map λ(k:Nat)=>V.int<|lo+k) a.toList:=by
 have key:∀(l:je)(m:Nat),(∀(j:Nat) v,l[j]?=J v->∃t,v=.int (lo+((m+j:Nat):Int)) t)->Vals ((bA m<|A1 l).map λ(k:Nat)=>V.int<|lo+k) l:=by
  intro l
  induction l with
  |nil=>intro m _;exact .nil
  |cons v l d=>intro m hv;obtain⟨t,e⟩:=hv 0 v I;refine .cons ⟨t,by simpa using e⟩<|d (m+1) λj w c=>?_;obtain⟨f,b⟩:=hv (j+1) w (by simpa using c);exact⟨f,by rw[b];congr 2;first|done|lia⟩
 have:=key a.toList 0 λj v hv=>by obtain⟨t,e⟩:=h.2 j v (by simpa using hv);exact⟨t,by rw[e];congr 1⟩
 rw[kU,h.1,<-List.range_eq_range']at this;exact this
def acu{K T}(lo:Int)(n:Nat):YP K T O (iI lo n) ((ap n).map λ(k:Nat)=>V.int<|lo+k):=by
 unfold iI
 induction(ap n)with
 |nil=>exact YP.nil
 |cons k l a=>exact YP.cons Rep.mkInt a
end
def CW(lo a:Int):Prop:= -(2^62)<=lo/\lo<2^62/\ -(2^62)<=a/\a<2^62/\(a-lo).toNat<=2^24
instance(lo hi:Int):Decidable (CW lo hi):=by unfold CW;infer_instance
noncomputable def JI(lo a:Int):List V:=(ap (a-lo).toNat).map λ(k:Nat)=>V.int<|lo+k
def CW.small{lo a:Int}(h:CW lo a):pp lo a 1=Y:=small_one h.1 h.2.1 h.2.2.1 h.2.2.2.1
def HR(lo a:Int):dY lo a 1=((a-lo).toNat:Nat):=by rw[vv];split<;>lia
section
variable {c:iw}{w:ik}{A:ig}{E:iK}{s:gM}
def acT{Q:List gU->gM->Prop}{r:gJ}{lo n:Int}{t u v:o5}(O:A.handled=U)(q:w9 s.heap r lo n 1 t u v)(ok:CW lo n)
  (N:∀(g:ip) k (d:mS),(∀b o,s.heap.get? b=J o->g.get? b=J o)->gE (λi v=>∃t,v=.int (lo+(i:Int)*1) t) d (n-lo).toNat->Q d.toList {s with heap:=g,toks:=k}):
  aa (ag c w) A (ey<|.ref r) Q E s:=by
 unfold ey;refine gL<|FR<|qt F.entry_proto_collect ?_;rw[vp F.plain_proto_collect _];refine gL (m:=nb [])<|nu ?_;refine hJ ⟨uD F.plain_list_iadd _,qt F.entry_list_iadd ?_⟩;rw[vp F.plain_list_iadd _];have B:=jT s.heap (o:=({cls:=.type "list",data:=.seq ([]:List gU).toArray}:el)) I
 let R:gC->gM->Prop:=λr j=>∃(g:ip)(k:Nat)(d:mS)(l:Nat),r=.ok (.ret<|.ref s.heap.objs.size)/\j={s with heap:=g,toks:=k}/\(∀b o,s.heap.get? b=J o->g.get? b=J o)/\
  g.get? s.heap.objs.size=J {cls:=.type "list",dict:=U,data:=.seq d l,slots:= #[]}/\gE (λi v=>∃t,v=.int (lo+(i:Int)*1) t) d (n-lo).toNat
 have fin:∀{r j},R r j->∃v,r=.ok (.ret v)/\aa (ag c w) A (match v with
   |Value.ref a=>do
    match(<-load a).data with
     |Data.seq xs _=>pure xs.toList
     |_=>ib "internal:collect"
   |_=>ib "internal:collect") Q E j:=λ{r j} T=>by
  obtain⟨g,k,d,l,rfl,rfl,hk,y,x⟩:=T;exact⟨_,rfl,gL (m:=load s.heap.objs.size)<|Cv y<|hJ<|N g k d hk x⟩
 refine mz (wpAny_extend_range (A:=A) (R:=R) (s:={s with heap:=s.heap.push {cls:=.type "list",data:=.seq ([]:List gU).toArray}}) O (jz _ q) ok.small (HR lo n) ok.2.2.2.2 _ _ 0 B λg k z l hk y x=>⟨g,k,z,l,rfl,rfl,λb o e=>hk b o (jB<|jN e)<|jz _ e,y,x⟩) (λf j h=>?_) λe j h=>?_
 .cases f with
  |done f=>obtain⟨v,hv,p⟩:=fin h;cases hv;exact p
  |again l=>exact⟨h.1,oR h.2 λr L q=>by obtain⟨v,rfl,p⟩:=fin q;exact p⟩
 obtain⟨v,hv,_⟩:=fin h;cases hv
def abN{Q₁:iK}{r:gJ}{lo j:Int}{t u v:o5}(q:A.handled=U)(n:w9 s.heap r lo j 1 t u v)(ok:CW lo j)
  (h:∀(d:ip) l (a:mS),(∀b o,s.heap.get? b=J o->d.get? b=J o)->gE (λi v=>∃t,v=.int (lo+(i:Int)*1) t) a (j-lo).toNat->Q₁ (.ref d.objs.size) {s with heap:=d.push {cls:=.type "tuple",data:=.seq a},toks:=l}):
  bO (ag c w) A (.call (.builtin "tuple.__new__") ⟨[.type "tuple",.ref r],[]⟩) (ia Q₁ E) s:=by
 refine rG ?_;refine gL (m:=cn "tuple.__new__" _)<|uc (F.newCall_tuple_1 _)<|hJ ⟨uD F.plain_tuple_new _,qt F.entry_tuple_new ?_⟩;rw[vp F.plain_tuple_new _];have z:=sub_tuple_self;have k:=init_tuple_lookup;have x:=madeHere_tuple;have f:s.TypeIs (.ref r) "range":=⟨_,n,rfl⟩
 have g:A.in1.handled=U:=q
 wp_walk using uH f,acT g n ok
 intro d l a hk p;have y:a.size<=sizeLine:=by rw[p.1,jQ];have:=ok.2.2.2.2;omega
 refine gL (m:=bh a.toList.toArray) ?_;unfold bh;refine nu ?_ (by show a.toList.toArray.size<=sizeLine;simpa using y);refine hJ ?_;have e:a.toList.toArray=a:=by simp
 rw[e];exact h d l a hk p
def abD{Q:iK}{r:gJ}{lo g:Int}{t u v:o5}(k:A.handled=U)(m:w9 s.heap r lo g 1 t u v)(ok:CW lo g)
  (h:∀(f:ip) j (e:mS),(∀b o,s.heap.get? b=J o->f.get? b=J o)->gE (λi v=>∃t,v=.int (lo+(i:Int)*1) t) e (g-lo).toNat->Q (.ref f.objs.size) {s with heap:=f.push {cls:=.type "tuple",data:=.seq e},toks:=j}):
  aa (ag c w) A (call (.type "tuple") [.ref r]) Q E s:=by
 refine callType_codes (Q₁:=λobj a=>a.TypeIs obj "tuple"/\Q obj a) OZ (F.typeCall_tuple_1 _) Lf
  (abN k m ok λf j e l n=>⟨⟨_,jT _ rfl,rfl⟩,h f j e l n⟩) λobj a d=>?_
 exact⟨d.1,F.args_object_init_2 obj _,object_init_meets OZ.init.lookup OZ.made (by decide) c w A.in1 _ a ⟨d.1,rfl,d.2⟩⟩
end
section
variable {X:Cx}
def BI:ki X (.type "range") (λc T Q=>∃i j,c=[.int i,.int j]/\∀r,T r=U->Q (.ref r) (upd T r<|.rng i j)):=by intro a s k T c g Q O r h;obtain⟨i,j,rfl,h⟩:=h;obtain⟨u,f,rfl,⟨t,rfl⟩,⟨d,rfl⟩⟩:=HF r;exact wT ⟨.ref _,_,O.laid (o:=.rng i j) (λb o e=>jz _ e) (jh _) ⟨_,_,_,jT _ rfl⟩,rfl,h _ O.fresh⟩
def abE(i:X.calm=Y):ki X (.type "list") (λf T Q=>∃r lo a,f=[.ref r]/\T r=J (.rng lo a)/\CW lo a/\∀l,T l=U->Q (.ref l) (upd T l<|.lst<|JI lo a)):=by intro d s q T f p Q O g h;obtain⟨r,lo,a,rfl,j,ok,h⟩:=h;obtain⟨u,rfl,k⟩:=pF g;cases k;obtain⟨t,u,v,er⟩:=O.hok r _ j;refine call_list_range (A:=X.A) (O.ok.hd i) er ok.small (HR lo a) ok.2.2.2.2 λn o b c kp e items=>?_;have m:=zq items;refine⟨.ref _,_,O.laid kp (jh _) (show VP X.prog X.w _ _ _ (.lst<|JI lo a)from⟨?_,b.toList,c,m,by simpa using e⟩),rfl,h _ O.fresh⟩;have:=ok.2.2.2.2;simp only[JI,jf,g6,jQ];omega
def abG(k:X.calm=Y):ki X (.type "tuple") (λi T Q=>∃r lo c,i=[.ref r]/\T r=J (.rng lo c)/\CW lo c/\∀l,T l=U->Q (.ref l) (upd T l<|.tup<|JI lo c)):=by intro d s x T i y Q O j h;obtain⟨r,lo,c,rfl,m,ok,h⟩:=h;obtain⟨u,rfl,n⟩:=pF j;cases n;obtain⟨t,u,v,er⟩:=O.hok r _ m;refine abD (A:=X.A) (O.ok.hd k) er ok λg q a kp items=>?_;have p:=zq items;have f:Inv X d x T {s with heap:=g,toks:=q}:=O.kept kp;refine⟨.ref _,_,f.laid (λb o e=>jz _ e) (jh _) (show VP X.prog X.w _ _ _ (.tup<|JI lo c)from⟨?_,a.toList,p,by have:=Es.new g a;simpa using this⟩),rfl,h _ f.fresh⟩;have:=ok.2.2.2.2;simp only[JI,jf,g6,jQ];omega
def KL(mk:List D->D)(o:Bool):List D->Option (D×Bool)
 |[.int j]=>if CW 0 j then J (mk<|iI 0 j.toNat,o)else U
 |[.int i,.int j]=>if CW i j then J (mk<|iI i (j-i).toNat,o)else U
 |_=>U
def HS{K T}(lo a:Int):YP K T O (iI lo (a-lo).toNat) (JI lo a):=acu lo _
variable {a b:gX}{n m:FO}{p g d f:bq}
def DS(h:upd T r o l=U):T l=U:=by
 by_cases e:l=r
 .subst e;rw[iF]at h;cases h
 rwa [iL e]at h
def BQ{K:iz}{T o:SI}{s:L2.St}{r c:Dn}{Q l:Hp}{os:List F2}{k:List V}{e:List D}(B:Ops K T s r Q os k c l o)(h:uP c os=J e){is:gQ}(hd:e=is.map .int):k=is.map .int:=by
 obtain⟨h1,t⟩:=om h;apply uE;intro j;by_cases q:j<A1 is
 .rw[sN B h (j:=j) (i:=is[j])<|by rw[hd];simp];simp[q]
 have u:=B.len;subst hd;simp at h1;rw[fq<|by lia,fq<|by simp;lia]
def Ux{T:String}{z:av}{mk:List D->D}{o:Bool}(hT:(T="list"/\mk=.lst/\o=At)\/(T="tuple"/\mk=.tup/\o=AC))(U:X.calm=At)(Y:Gl X z)(hm:X.mg z=z9)(hv:ax z=z8 (.type T))(hn:z≠"__name__")(j4:(z==("__debug__":av))=AC)
  (J:Gl X "range")(O:X.mg "range"=z9)(N:PA X [a,b] (tA X.K [n,m]))
  (s1:af [.Call (.Name "range" g) [a,b] [] f] X.env=(AC,ba (.Call (.Name "range" g) [a,b] [] f) X.env)::af [] X.env)(s2:af [a,b] X.env=(AC,ba a X.env)::af [b] X.env)
  (M:(aB d<|af [] X.env).any (·.1)=AC)(G:(aB f<|af [b] X.env).any (·.1)=AC):
  PX X (.Call (.Name z p) [.Call (.Name "range" g) [a,b] [] f] [] d) (iB (KL mk o) [n,m]):=by
 have t:∀{w c:Dn}{os:List F2},kD [n,m] w=z8 (os,c)->os.length=2:=λ{w c os} h1=>by unfold kD at h1;obtain⟨p,q1,h1⟩:=gR h1;obtain⟨q,v,h1⟩:=gR h1;unfold kD at v;obtain⟨p3,q3,v⟩:=gR v;obtain⟨q4,F,v⟩:=gR v;unfold kD at F;cases F;obtain⟨rfl,rfl⟩:=iD h1;cases v;rfl
 rcases hT with⟨rfl,rfl,rfl⟩|⟨rfl,rfl,rfl⟩
 .refine PX.imp (pL (abE U) Y hm hv (nS (pL BI J O Cu N (by decide) (by decide) s2 G) rT s1) hn j4 s1 M) λZ H Q C=>?_;obtain⟨w,T,S,L,E,e,k⟩:=C;obtain⟨os,c,h1,e⟩:=gZ e;obtain⟨R,y,e⟩:=gR e;obtain⟨W,h,e⟩:=gR e;obtain⟨rfl,rfl⟩:=iD e;refine⟨w,T,os,c,E,h1,λV x P B=>?_⟩;unfold KL at h;split at h
  .obtain⟨s,_⟩:=om y;have:=t h1;simp at s;omega
  .rename_i i j;obtain⟨ok,rfl⟩:=iM h;refine⟨i,j,BQ B y (is:=[i,j]) AT,λr A=>⟨r,i,j,rfl,iF,ok,λl s=>?_⟩⟩;have I:∀a u,x a=z8 u->upd (upd x r<|.rng i j) l (.lst<|JI i j) a=z8 u:=λa u e=>lr s a u<|lr A a u e;exact(B.done k) l _ (DS s) I ⟨JI i j,iF,HS i j⟩
  cases h
 refine PX.imp (pL (abG U) Y hm hv (nS (pL BI J O Cu N (by decide) (by decide) s2 G) rT s1) hn j4 s1 M) λZ H Q C=>?_;obtain⟨w,T,S,L,E,e,k⟩:=C;obtain⟨os,c,h1,e⟩:=gZ e;obtain⟨R,y,e⟩:=gR e;obtain⟨W,h,e⟩:=gR e;obtain⟨rfl,rfl⟩:=iD e;refine⟨w,T,os,c,E,h1,λV x P B=>?_⟩;unfold KL at h;split at h
 .obtain⟨s,_⟩:=om y;have:=t h1;simp at s;omega
 .rename_i i j;obtain⟨ok,rfl⟩:=iM h;refine⟨i,j,BQ B y (is:=[i,j]) AT,λr A=>⟨r,i,j,rfl,iF,ok,λl s=>?_⟩⟩;have I:∀a u,x a=z8 u->upd (upd x r<|.rng i j) l (.tup<|JI i j) a=z8 u:=λa u e=>lr s a u<|lr A a u e;exact(B.done k) _ _ I (Rep.J9 ⟨iF,B.np<|Kl<|DS s⟩<|HS i j)
 cases h
end
def Src(h:ip)(it l:gJ)(i:Nat)(a:mS):Prop:=(h.IsListIter it l i/\h.IsList l a)\/(h.IsTupleIter it l i/\h.IsTuple l a)
section
variable {prog:iw}{w:ik}{A:ig}{E:iK}{s:gM}{it l:gJ}{i:Nat}{xs:mS}
def Src.ne(x:Src h it l i xs):l≠it:=by intro e;subst e;rcases x with⟨⟨o,h1,b,a⟩,c,g1,g2,n,g3⟩|⟨⟨o,h1,b,a⟩,c,g1,g2,n,g3⟩<;>(rw[h1]at g1;cases g1;rw[a]at g3;cases g3)
def Src.lt(x:Src h it l i xs):it<h.objs.size/\l<h.objs.size:=by rcases x with⟨⟨o,h1,_⟩,a,g1,_⟩|⟨⟨o,h1,_⟩,a,g1,_⟩<;>exact⟨jN h1,jN g1⟩
def Src.keep(x:Src h it l i xs)(c:∀o,h.get? it=J o->h'.get? it=J o)(d:∀o,h.get? l=J o->h'.get? l=J o):Src h' it l i xs:=by
 rcases x with⟨⟨o,h1,r⟩,a,g1,b⟩|⟨⟨o,h1,r⟩,a,g1,b⟩
 .exact .inl ⟨⟨o,c _ h1,r⟩,a,d _ g1,b⟩
 exact .inr ⟨⟨o,c _ h1,r⟩,a,d _ g1,b⟩
def Ba{Q:iK}(c:s.heap.IsTupleIter it l i)(q:s.heap.IsTuple l xs)(n:∀x,xs[i]?=J x->∀b,b.IsTupleIter it l (i+1)->aG it s.heap b->Q x {s with heap:=b})
  (g:xs[i]?=U->A.handled=U/\∀b e,dt it s.heap b->(∃o,b.get? e=J o/\o.cls=.type "StopIteration")->E (.ref e) {s with heap:=b}):aa (ag prog w) A (bD<|.ref it) Q E s:=by
 obtain⟨o,d,p,hd⟩:=id c;obtain⟨t,k,_,r,j⟩:=q;unfold bD;refine gL<|uI (name:=bC "__next__") c.typeIs Le<|og Le c.typeIs F.entry_tuple_iterator_next ?_<|F.args_tuple_iterator_next_1 _;refine gL (m:=nt (.ref it) 0)<|rk d hd (x:=.ref l) I ?_;show aa _ _ (if(bW l==ao)=Y then _ else _) _ _ s;rw[iC (by show ¬(bW l==ao)=Y;exact ky)];refine gL (m:=nt (.ref it) 1)<|rk d hd (x:=.int i 0) I ?_;refine gL (m:=seqItems?<|.ref l)<|Cj k j ?_
 cases f:xs[i]? with
 |some x=>simp only[wV,f];refine gL<|uC d hd (by simp)<|hJ ⟨x,rfl,hJ<|n x f _ ⟨_,rL _ d (Ci<|tY hd _),(Cg ..).trans p,?_⟩ (qr ..)⟩;rw[tY hd];simp[de]
 |none=>
  obtain⟨h,g⟩:=g f;simp only[wV,f];refine gL<|vw<|gL<|uC d hd (by simp) ?_;refine gL (m:=gl (.type "StopIteration") []) ?_;simp -iota only[gl];refine gL<|nu (gL (m:=eX _ _)<|uc (a:=ao) (by first|rfl|(simp -iota;rfl)) ?_) (by size_fits);refine nu ?_ (by size_fits);simp -iota only[t6];refine gL<|FQ ?_
  first|rw[show A.in1.handled=U from h]|rw[h]
  exact gL<|hJ<|FP<|g _ _ (((qr ..).extBut.push _).push _) ⟨_,jT _ rfl,rfl⟩
def Src.item{x:gU}{Q:iK}(st:Src s.heap it l i xs)(g:xs[i]?=J x)(h:∀c,Src c it l (i+1) xs->aG it s.heap c->Q x {s with heap:=c}):
  aa (ag prog w) A (bD<|.ref it) Q E s:=by
 have ne:=st.ne;rcases st with⟨a,b⟩|⟨a,b⟩
 .exact wpAny_nextOf_list_item a b g λc f d=>h c (.inl ⟨f,b.extBut d.extBut ne⟩) d
 exact Ba a b (λj e c f d=>by rw[g]at e;cases e;exact h c (.inr ⟨f,b.extBut d.extBut ne⟩) d) λe=>by rw[g]at e;cases e
def Src.stop{Q:iK}(f:A.handled=U)(st:Src s.heap it l i xs)(g:xs[i]?=U)
  (d:∀c e,dt it s.heap c->(∃o,c.get? e=J o/\o.cls=.type "StopIteration")->E (.ref e) {s with heap:=c}):aa (ag prog w) A (bD<|.ref it) Q E s:=by
 rcases st with⟨a,b⟩|⟨a,b⟩
 .exact wpAny_nextOf_list_end f a b g d
 exact Ba a b (λx e=>by rw[g]at e;cases e) λ_=>⟨f,d⟩
def Src.new(a:s.heap.IsList l xs\/s.heap.IsTuple l xs)(d:∀c,Src c s.heap.objs.size l 0 xs->c.objs.size=s.heap.objs.size+1->(∀b o,s.heap.get? b=J o->c.get? b=J o)->Q (.ref s.heap.objs.size) {s with heap:=c}):
  aa (ag prog w) A (cG<|.ref l) Q E s:=by
 rcases a with a|a
 .exact za a (d _ (.inl ⟨⟨_,jT _ rfl,rfl,rfl⟩,a.push _⟩) (oN ..) λb o e=>jz _ e)
 exact Gf a (d _ (.inr ⟨⟨_,jT _ rfl,rfl,rfl⟩,a.push _⟩) (oN ..) λb o e=>jz _ e)
end
section
variable {f:iw}{w:ik}{A:ig}{E:iK}{s:gM}{e it l:gJ}{i:Nat}{c:Int}{h:mS}
def ac7{x old:gU}{Q:iK}(he:dy s.heap e it c old)(st:Src s.heap it l i h)(hx:h[i]?=z8 x)(Y:e≠it)(cM:e≠l)
  (hQ:∀T,fZ T e it (c+1) x s.heap.objs.size->Src T it l (i+1) h->T.get? s.heap.objs.size=z8 {cls:=.type "tuple",data:=.seq #[.int c s.toks,x]}->T.objs.size=s.heap.objs.size+1->
   (∀b o,b≠e->b≠it->s.heap.get? b=z8 o->T.get? b=z8 o)->Q (.ref s.heap.objs.size) {s with heap:=T,toks:=s.toks+1}):
  aa (ag f w) A (bc.«enumerate.__next__» ⟨[.ref e],[]⟩) (λfin s'=>∃v,fin=.done (.ret v)/\Q v s') E s:=by
 obtain⟨C,g,d,k,os⟩:=s;refine gL (m:=nt (.ref e) 2)<|rk he AT (x:=.ref it) AT<|gL<|st.item hx λj I G=>?_;replace G:aG it C j:=G;have V:dy j e it c old:=(G.2 e Y).trans he;refine gL (m:=nt (.ref e) 3)<|rk (s:=⟨j,g,d,k,os⟩) V AT (x:=de c) AT ?_;refine gL (m:=nt (.ref e) 4)<|rk (s:=⟨j,g,d,k,os⟩) V AT (x:=.none) AT ?_;refine gL (m:=mkInt c)<|wpAny_mkInt (s:=⟨j,g,d,k,os⟩) ?_;refine gL (m:=io (.ref e) 3<|de<|c+1)<|yU (s:=⟨j,g,d,k+1,os⟩) V (by simp) λn S O=>?_;replace O:aG e j n:=O;replace S:dy n e it (c+1) old:=S;refine gL (m:=io (.ref e) 4 .none)<|yU (s:=⟨n,g,d,k+1,os⟩) S (by simp) λa R L=>?_;replace L:aG e n a:=L;replace R:dy a e it (c+1) old:=R;refine gL (m:=newTuple [.int c k,x])<|FN (s:=⟨a,g,d,k+1,os⟩) ?_;have H:a.objs.size=C.objs.size:=by rw[L.1,O.1,G.1]
 have U:dy (a.push {cls:=.type "tuple",data:=.seq #[.int c k,x]}) e it (c+1) old:=jz _ R;have W:e<C.objs.size:=jN he;have u:(a.push {cls:=.type "tuple",data:=.seq #[.int c k,x]}).get? C.objs.size=z8 {cls:=.type "tuple",data:=.seq #[.int c k,x]}:=by rw[<-H];exact jT _ rfl
 have up:∀b o,b≠e->b≠it->C.get? b=z8 o->(a.push {cls:=.type "tuple",data:=.seq #[.int c k,x]}).get? b=z8 o:=λb o B D q=>jz _ (L.extBut b o B<|O.extBut b o B<|G.extBut b o D q);have z:Src (a.push {cls:=.type "tuple",data:=.seq #[.int c k,x]}) it l (i+1) h:=I.keep (λo q=>jz _ (L.extBut _ o Y.symm (O.extBut _ o Y.symm q))) λo q=>jz _ (L.extBut _ o cM.symm (O.extBut _ o cM.symm q));have y:(a.push {cls:=.type "tuple",data:=.seq #[.int c k,x]}).objs.size=C.objs.size+1:=by rw[oN,H]
 rw[H];generalize (a.push {cls:=.type "tuple",data:=.seq #[.int c k,x]})=h₄ at U u up z y;refine gL (m:=cS<|.ref e) ?_;unfold cS;refine gL<|rk (s:=⟨h₄,g,d,k+1,os⟩) U AT (x:=.none) AT<|hJ ?_;simp -iota;refine gL<|vw<|gL<|rk (s:=⟨h₄,g,d,k+1,os⟩) U AT (x:=old) AT<|gL<|yU (s:=⟨h₄,g,d,k+1,os⟩) U (by simp) λp P N=>?_;replace N:aG e h₄ p:=N;replace P:dy p e it (c+1) x:=P;refine gL (m:=cB (.ref e)<|.ref C.objs.size) ?_;unfold cB;refine gL<|yU (s:=⟨p,g,d,k+1,os⟩) P (by simp) λr K M=>?_;replace M:aG e p r:=M;replace K:fZ r e it (c+1) x C.objs.size:=K;refine yU (s:=⟨r,g,d,k+1,os⟩) K (by simp) λt F J=>?_;replace J:aG e r t:=J;replace F:fZ t e it (c+1) x C.objs.size:=F;have all:∀b o,b≠e->h₄.get? b=z8 o->t.get? b=z8 o:=λb o B q=>J.extBut b o B<|M.extBut b o B<|N.extBut b o B q;refine gL<|xz<|hJ ⟨_,rfl,hQ t F (z.keep (λo q=>all _ o Y.symm q) λo q=>all _ o cM.symm q) (all _ _ (rm W) u) ?_ λb o B D q=>all b o B<|up b o B D q⟩;rw[J.1,M.1,N.1,y]
def xi{x old:gU}{Q:Hw}(m:dy s.heap e it c old)(st:Src s.heap it l i h)(r:h[i]?=J x)(p:e≠it)(n:e≠l)
  (q:∀g,fZ g e it (c+1) x s.heap.objs.size->Src g it l (i+1) h->g.get? s.heap.objs.size=J {cls:=.type "tuple",data:=.seq #[.int c s.toks,x]}->g.objs.size=s.heap.objs.size+1->
   (∀b o,b≠e->b≠it->s.heap.get? b=J o->g.get? b=J o)->Q (J<|.ref s.heap.objs.size) {s with heap:=g,toks:=s.toks+1}):
  aa (ag f w) A (cU<|.ref e) Q E s:=by
 have j:s.TypeIs (.ref e) "enumerate":=⟨_,m,rfl⟩
 unfold cU
 exact gL (wM (uI (name:=bC "__next__") j Cf (og Cf j Ld
  (ac7 m st r p n λg a b c d k=>hJ<|q g a b c d k) (Lc _))))
def ym{old:gU}{Q:Hw}(n:A.handled=U)(g:dy s.heap e it c old)(st:Src s.heap it l i h)(q:h[i]?=U)
  (j:∀a,dt it s.heap a->Q U {s with heap:=a}):aa (ag f w) A (cU<|.ref e) Q E s:=by
 have d:s.TypeIs (.ref e) "enumerate":=⟨_,g,rfl⟩
 unfold cU;refine gL<|wM<|uI (name:=bC "__next__") d Cf<|og Cf d Ld ?_<|Lc _;refine gL (m:=nt (.ref e) 2)<|rk g I (x:=.ref it) I<|gL<|st.stop n q ?_;rintro a x r ⟨o,p,k⟩;exact gL<|yT (T:="StopIteration") (b:=Y) ⟨o,p,k⟩ FL<|hJ<|j _ r
end
section
variable {X:Cx}{d:iN}{g:L2.St}{H:Hp}{s:gM}{f:ip}
def adF{t':Nat}{ch:km}{a:gJ}{o:HO}(M:Inv X d g H s)(j:∀b∈ch,tV X d H b)(k:∀b u,b∉ch->s.heap.get? b=J u->f.get? b=J u)(p:s.heap.objs.size<=a)(new:VP X.prog X.w (upd H a o) f a o):
  Inv X d g (upd H a o) {s with heap:=f,toks:=t'}:=by
 have L:=M.hok.fresh p;have l:∀b u,H b=J u->b∉ch:=λb u e z=>by have:=(j b z).1;rw[this]at e;cases e
 have up:∀b u,H b=J u->upd H a o b=J u:=λb u e=>by rw[iL<|lH e L];exact e
 have N:∀b u,s.heap.get? b=J u->H b=U->upd H a o b=U:=λb u e n=>by rw[iL λz=>by subst z;exact absurd (jN e)<|OS.mpr p];exact n
 refine M.step (g':=s.gens) (d':=s.drawn) (ch:=ch) (λb i=>?_) (λb u _ _ h e _=>k b u h e) (λb u _ _ h e _=>⟨u.slots,k b u h e⟩) (λb u _ e n=>N b u e n)
  (λb u h e=>⟨u,k b u h e⟩) (λb Q e=>up b _ e) (λb _ _ e=>up b _ e) (λb G e=>⟨#[],by rw[up b _ e];simp⟩) (λm E=>?_) (λb u e=>?_) M.bare
 .obtain⟨_,f1,T,y,A,B⟩:=j b i;exact⟨y,f1,A,B⟩
 .obtain⟨u,x,t,O,r⟩:=E;exact⟨u,x,t,k _ u (λz=>(j _ z).2.1 I) O,r⟩
 by_cases i:b=a
 .subst i;rw[iF]at e;cases e;exact new
 rw[iL i]at e;refine(M.hok b u e).D0 (λc v h q=>k c v ?_ q) (λc q=>up c _ q) (λc Q q=>up c _ q) λc _ _ q=>up c _ q;rcases h with z|z
 .rw[z];exact l b u e
 exact l c _ z
def adG{t':Nat}{ch:km}(Q:Inv X d g H s)(h:∀b∈ch,tV X d H b)(k:∀b u,b∉ch->s.heap.get? b=J u->f.get? b=J u):Inv X d g H {s with heap:=f,toks:=t'}:=by
 have i:∀b u,H b=J u->b∉ch:=λb u e z=>by have:=(h b z).1;rw[this]at e;cases e
 refine Q.step (g':=s.gens) (d':=s.drawn) (ch:=ch) (λb w=>?_) (λb u _ _ a e _=>k b u a e) (λb u _ _ a e _=>⟨u.slots,k b u a e⟩) (λb u _ e n=>n)
  (λb u a e=>⟨u,k b u a e⟩) (λb A e=>e) (λb _ _ e=>e) (λb T e=>⟨#[],by rw[e];simp⟩) (λm x=>?_) (λb u e=>?_) Q.bare
 .obtain⟨_,f1,B,o,p,t⟩:=h b w;exact⟨o,f1,p,t⟩
 .obtain⟨u,l,j,y,r⟩:=x;exact⟨u,l,j,k _ u (λz=>(h _ z).2.1 I) y,r⟩
 refine(Q.hok b u e).D0 (λc v a q=>k c v ?_ q) (λc q=>q) λc A q=>q;rcases a with z|z
 .rw[z];exact i b u e
 exact i c _ z
end
def J5(b:Bool)(K:iz)(T:Hp)(l:gJ)(a:List V):Prop:=if b=Y then CU K T l a else Ek K T l a
def JL(b:Bool)(h:ip)(it l:gJ)(i:Nat):Prop:=if b=Y then h.IsListIter it l i else h.IsTupleIter it l i
def JL.keep(x:JL b h it l i)(k:∀o,h.get? it=J o->h'.get? it=J o):JL b h' it l i:=by
 cases b
 .exact PySem.Heap.IsTupleIter.at (show h.IsTupleIter it l i from x) k
 exact PySem.Heap.IsListIter.at (show h.IsListIter it l i from x) k
def JL.obj(x:JL b h it l i):∃o,h.get? it=J o/\∀v,o.data≠ .cell v:=by
 cases b<;>(obtain⟨o,e,c,d⟩:=x;exact⟨o,e,λv z=>by rw[d]at z;cases z⟩)
section
variable {X:Cx}{d:iN}{e:L2.St}{H:Hp}{s:gM}
def HL(T:Inv X d e H s)(q:J5 b X.K H l xs)(t:JL b s.heap it l i):∃a,Vals xs a/\Src s.heap it l i a.toArray:=by
 cases b
 .obtain⟨a,v,p,_⟩:=T.tuple q;exact⟨a,v,.inr ⟨t,p⟩⟩
 obtain⟨a,v,p,_⟩:=T.list q;exact⟨a,v,.inl ⟨t,p.isList⟩⟩
def Pu(T:Inv X d e H s)(q:J5 b X.K H l xs)(a:J5 b X.K H l c):xs=c:=by
 cases b
 .exact T.AU q a
 exact T.C3 q a
def Vq(t:JL b h it l i)(k:Src h it l i xs)(n:Src j it l p xs)(m:∀o,h.get? l=J o->j.get? l=J o):JL b j it l p:=by
 cases b
 .rcases n with⟨a,c⟩|⟨a,_⟩
  .rcases k with⟨⟨o,h1,f,_⟩,_⟩|⟨_,o,h1,f,_⟩
   .obtain⟨g,g1,g2,_⟩:=t;rw[h1]at g1;cases g1;rw[f]at g2;injection g2 with g2;exact absurd g2 (by decide)
   obtain⟨g,g1,g2,_⟩:=c;rw[m _ h1]at g1;cases g1;rw[f]at g2;injection g2 with g2;exact absurd g2 (by decide)
  exact a
 rcases n with⟨a,_⟩|⟨a,c⟩
 .exact a
 rcases k with⟨_,o,h1,f,_⟩|⟨⟨o,h1,f,_⟩,_⟩
 .obtain⟨g,g1,g2,_⟩:=c;rw[m _ h1]at g1;cases g1;rw[f]at g2;injection g2 with g2;exact absurd g2 (by decide)
 obtain⟨g,g1,g2,_⟩:=t;rw[h1]at g1;cases g1;rw[f]at g2;injection g2 with g2;exact absurd g2 (by decide)
end
def LP(b:Bool)(K:iz)(l:gJ)(c:Int):It:=⟨λi Q=>∃a x,J5 b K Q l a/\a[i]?=J x,
 λi Q x d=>∃(T:gJ)(y:V),x=.ref T/\Q T=U/\d=upd Q T (.tup [.int<|c+i,y])/\∀a,J5 b K Q l a->a[i]?=J y,λi Q=>∃a,J5 b K Q l a/\(A1 a)<=i⟩
def adI{P:iw}{w:ik}{K:iz}{m:jP}{k1}{pos:bq}(b:Bool)(e it l:gJ)(c:Int)(f6:e≠it):
  Turn P w K (.Tuple m k1 pos) (LP b K l c) [e,it] e (λi h=>(∃old,dy h e it (c+i) old)/\JL b h it l i) where
 mem:=by simp
 obj:=λi h st a C=>by
  obtain⟨⟨old,f⟩,st⟩:=st;have r9:a=e\/a=it:=by simpa using C
  rcases r9 with rfl|rfl
  .exact⟨_,f,λv z=>by have z':Data.fields _=Data.cell v:=z;cases z'⟩
  exact st.obj
 keep:=λi h h' st k=>by obtain⟨⟨old,f⟩,st⟩:=st;exact⟨⟨old,k e (by simp) _ f⟩,st.keep λo q=>k it (by simp) o q⟩
 item:=by
  intro X J N G R i g s Z H E I t st M;subst J N G;obtain⟨⟨old,f⟩,st⟩:=st;obtain⟨xs,x,L,U⟩:=M;obtain⟨Y,D,d⟩:=HL I L st;obtain⟨u,hu,ru⟩:=D.get U
  have T:e≠l:=λz=>by subst z;have S:=(t e<|by simp).1;rcases d with⟨_,o,h1,B,_⟩|⟨_,o,h1,B,_⟩<;>(have W:s.heap.get? e=_:=f;rw[h1]at W;cases W;injection B with B;exact absurd B<|by decide)
  refine xi f d (x:=u) (by simpa using hu) f6 T λh' ho y hT hsz kp=>⟨.ref s.heap.objs.size,rfl,?_⟩
  refine wpAny_letOwnedTupleGo_enum ho λj p Q=>?_;have r:e<s.heap.objs.size:=jN f
  have F:∀a o,a∉[e,it]->s.heap.get? a=z8 o->j.get? a=z8 o:=λa o O q=>by have V:a≠e:=λz=>O (by simp[z]);have n2:a≠it:=λz=>O (by simp[z]);exact Q.extBut a o V<|kp a o V n2 q
  have n:j.get? s.heap.objs.size=z8 {cls:=.type "tuple",data:=.seq #[.int (c+i) s.toks,u]}:=Q.extBut _ _ (rm r) hT
  have I1:Inv X g Z (upd H s.heap.objs.size<|.tup [.int<|c+i,x]) {s with heap:=j,toks:=s.toks+1}:=
   adF I t F (jh _) (show VP X.prog X.w _ _ _ (.tup [.int<|c+i,x])from⟨by show 2<=sizeLine;decide,[.int (c+i) s.toks,u],.cons ⟨_,rfl⟩<|.cons ru .nil,_,n,rfl,⟨0,rfl⟩,rfl⟩)
  have A:JL b j it l (i+1):=by refine Vq st d (y.keep (λo q=>Q.extBut _ o f6.symm q) λo q=>Q.extBut _ o T.symm q) λo q=>F l o ?_ q;have:=d.ne;simp;exact⟨T.symm,this⟩
  refine⟨.ref s.heap.objs.size,_,I1,rfl,⟨_,x,rfl,I.fresh,rfl,λys hy=>by rw[Pu I hy L];exact U⟩,⟨⟨u,?_⟩,A⟩,λa C=>?_⟩
  .have e1:c+((i+1:Nat):Int)=c+i+1:=by lia
   show dy j e it (c+((i+1:Nat):Int)) u;rw[e1];exact p
  have S:=(t a C).1;rw[iL]
  .exact S
  intro z;have i7:a=e\/a=it:=by simpa using C
  rcases i7 with rfl|rfl
  .exact absurd z (jB r)
  exact absurd z (jB d.lt.1)
 done:=by intro X J N G R i g s Z H E I t st M;subst J N G;obtain⟨⟨old,f⟩,st⟩:=st;obtain⟨xs,L,U⟩:=M;obtain⟨Y,D,d⟩:=HL I L st;have hl:=D.length;exact ym (I.ok.hd R) f d (by simp;lia) λh' eb=>⟨rfl,adG (t':=s.toks) I t λa o O q=>eb a o (λz=>O<|by simp[z]) q⟩
 self:=λ_ _ _ _ _ st h=>by obtain⟨⟨old,f⟩,_⟩:=st;exact mL f h
def LU{K T}(q:GU b K T P a xs):J5 b K T a xs:=by
 cases b
 .exact q.t
 exact q.l
def ady{K:iz}{P O:SI}{h:Hp}{a:gJ}{g:List V}{l:List D}{b:Bool}{c:Int}(q:GU b K h P a g)(r:YP K h O l g)(A:∀a,P a->O a):
  JG K (LP b K a c) (l.zipIdx.map λp=>.tup [.int<|c+p.2,p.1]) P O h:=by
 have sq:∀Hi,(∀a o,h a=J o->¬P a->Hi a=J o)->J5 b K Hi a g:=λHi f=>LU<|q.mono f λ_ z=>z;refine⟨λi d Hi hd f=>?_,λi Hi C f=>⟨g,sq Hi f,by rw[r.length];simpa using C⟩⟩;rw[kg]at hd;obtain⟨⟨Q,j⟩,h1,u⟩:=iT hd;rw[FV]at h1;obtain⟨G,v,w⟩:=iT h1;obtain⟨rfl,rfl⟩:=rh w;obtain⟨x,s,N⟩:=r.get v;refine⟨⟨g,x,sq Hi f,s⟩,λy M E=>?_⟩;obtain⟨T,z,rfl,m,rfl,k⟩:=E;have k:=k g<|sq Hi f;rw[s]at k;cases k;have ext:=lr (o:=.tup [.int<|c+i,x]) m;refine⟨ext,λL h1 t=>?_⟩;subst u;refine Rep.J9 ⟨iF,t T m⟩<|YP.cons ?_<|YP.cons (Rep.mono (λb o e n=>ext b o<|f b o e λz=>n<|A b z) (λb B z=>h1 b B z) N) YP.nil;simp;exact Rep.mkInt
open AutoSeq1 (wpAny_loadPart')
section
variable {f:iw}{w:ik}{A:ig}{E:iK}{s:gM}
def Vs{T a:String}{self:gU}{rz:je}{kw:List (av×gU)}(h:l9 (.type T) "__init__"=pure (J<|.builtin "object.__init__"))(i:Bind.madeBy (.type T)=pure (J a))(e:(J a !=J "object.__new__")=Y):
  zx (bc.«object.__init__» ⟨self::rz,kw⟩) (λ_ R s=>s.TypeIs self T/\R (.ok<|.ret .none) s):=by
 refine Meets.of_wp λf w A R s d=>?_;obtain⟨g,c⟩:=d;by_cases b:(!rz.isEmpty||!kw.isEmpty)=Y
 .unfold bc.«object.__init__»;simp only[b,mR]
  repeat (any_goals (first|assumption|wp_step))
  exact⟨_,rfl,c⟩
 unfold bc.«object.__init__»;simp only[b,kY];exact hJ ⟨_,rfl,c⟩
def acY{T b:String}{q:bc}{a:je}{kw:List (av×gU)}{S:PySem.Spec}{Q:iK}(i:TypeCalled T b "object.__init__")(z:(z8 b !=z8 "object.__new__")=Y)(M:wf T ⟨a,kw⟩=pure ())
  (x:cn b ⟨.type T::a,kw⟩=pure ())(o:∀obj,e9 "object.__init__" ⟨obj::a,kw⟩)(j:i3 t0 b=z8 q)(g:zx (q ⟨.type T::a,kw⟩) S)
  (h:S A.in1 (ia (λobj d=>d.TypeIs obj T/\Q obj d) E) s):aa (ag f w) A (call (.type T) a kw) Q E s:=by
 obtain⟨c,J,u⟩:=i.mro;have n:=i.made;have G:=i.sub;refine wX<|rG ?_;show aa _ _ (w4 (.type T) _) _ _ _;refine hJ ⟨FK _ (by decide+kernel),qt F.entry_type_call ?_⟩;rw[FH (FG T a kw)<|units_type_call_type T a kw];have h1:=i.notType;have O:=i.canCreate
 repeat (any_goals (first|assumption|wp_step))
 refine oR (Ce i.plain j<|uc x<|g f w A.in1 _ s h) λr d p=>?_
 cases r with
 |error e=>exact p
 |ok B=>
  cases B with
  |ret obj=>
   obtain⟨t,v⟩:=p;have N:=i.init.lookup;have L:=i.init.bind obj
   repeat (any_goals (first|assumption|wp_step))
   have C:=Vs (self:=obj) (rz:=a) (kw:=kw) i.init.lookup i.made z;refine oR (Ce i.init.plain Lf<|i.init.check _ _ _ _ _ _ _ _ t (o obj) (C f w A.in1 (ia (λr k=>r=.none/\Q obj k) E) d ⟨t,rfl,v⟩)) λl k m=>?_
   cases l with
   |error e=>exact m
   |ok y=>
    cases y with
    |ret r=>
     obtain⟨rfl,v⟩:=m
     repeat (any_goals (first|assumption|wp_step))
    |_=>exact m.elim
  |_=>exact p.elim
def ab4(a b:gU):wf "enumerate" ⟨[a],[("start",b)]⟩=pure ():=by kernel_rfl
def acf(a b:gU):cn "enumerate.__new__" ⟨[.type "enumerate",a],[("start",b)]⟩=pure ():=by kernel_rfl
def ab5(o a b:gU):e9 "object.__init__" ⟨[o,a],[("start",b)]⟩:=by unfold e9;rw[signature?_of (id:="object.__init__") (n:=['_','_','t','i','n','i','_','_']) (o:=['t','c','e','j','b','o']) (by kernel_rfl) F.owner_object];kernel_rfl
noncomputable def tM(it:gJ)(c:Int):Obj:={cls:=.type "enumerate",data:=.fields #[.none,.bool C,.ref it,de c,.none,.none]}
def ac6(l:gJ)(i:mS)(c:Int)(t:o5)(k:bn c=Y):zx (bc.«enumerate.__new__» ⟨[.type "enumerate",.ref l],[("start",.int c t)]⟩) (λ_ R s=>(s.heap.IsList l i\/s.heap.IsTuple l i)/\
  ∀e,Src e s.heap.objs.size l 0 i->e.objs.size=s.heap.objs.size+1->(∀b o,s.heap.get? b=J o->e.get? b=J o)->R (.ok<|.ret<|.ref e.objs.size) {s with heap:=e.push (tM s.heap.objs.size c)}):=
 .of_wp λf w A R s h=>by
  obtain⟨m,g,d,p,os⟩:=s;obtain⟨j,h⟩:=h;have n:=sub_enumerate
  wp_walk
  refine wpAny_stack_any λst=>hJ ?_;generalize Builtin.SmallTypes.calledThroughType.match_1 _ _ _ _=b;cases b<;>(wp_walk using Src.new j;intro e a b c;wp_walk;exact⟨_,rfl,h e a b c⟩)
def acX(g:s.heap.IsList l xs\/s.heap.IsTuple l xs)(e:bn c=Y)
  (h:∀d,Src d s.heap.objs.size l 0 xs->d.objs.size=s.heap.objs.size+1->(∀b o,s.heap.get? b=J o->d.get? b=J o)->Q (.ref d.objs.size) {s with heap:=d.push (tM s.heap.objs.size c)}):
  aa (ag f w) A (call (.type "enumerate") [.ref l] [("start",.int c t)]) Q E s:=
 acY F.called_enumerate (by decide) (ab4 _ _) (acf _ _) (λobj=>ab5 obj _ _) F.entry_enumerate_new (ac6 l xs c t e) ⟨g,λd a b c=>⟨⟨_,jT _ rfl,rfl⟩,h d a b c⟩⟩
end
section
variable {X:Cx}{g:iN}{i:L2.St}{H:Hp}{s:gM}{m:jP}{y:Nat}{n:bq}
def RA{R:It->Hp->Prop}{E:iK}{b:Bool}{l:gJ}{T:List V}{k:je}{h':ip}{c:Int}(Q:Inv X g i H s)(u:J5 b X.K H l T)(q:Src h' s.heap.objs.size l 0 k.toArray)(j:h'.objs.size=s.heap.objs.size+1)
  (kp:∀b o,s.heap.get? b=J o->h'.get? b=J o)(r:R (LP b X.K l c) H):aa (ag X.prog X.w) X.A (cG<|.ref h'.objs.size) (PIE X g i (.Tuple m y n) R) E {s with heap:=h'.push (tM s.heap.objs.size c)}:=by
 have t:dy (h'.push<|tM s.heap.objs.size c) h'.objs.size s.heap.objs.size c .none:=jT _ rfl;refine mL t ?_;have f:Inv X g i H {s with heap:=h'.push (tM s.heap.objs.size c)}:=Q.kept (t':=s.toks) λb o e=>jz _ (kp b o e);have v:h'.objs.size≠s.heap.objs.size:=by rw[j];exact Nat.succ_ne_self _
 refine⟨h'.objs.size,[h'.objs.size,s.heap.objs.size],_,_,H,rfl,f,adI b h'.objs.size s.heap.objs.size l c v,⟨⟨.none,by simpa using t⟩,?_⟩,λa x=>?_,r⟩
 .have d:=q.keep (h':=h'.push<|tM s.heap.objs.size c) (λo e=>jz _ e) (λo e=>jz _ e)
  cases b
  .rcases d with⟨_,o,h1,h,_⟩|⟨a,_⟩
   .obtain⟨_,_,p,_⟩:=f.tuple u;obtain⟨B,g1,g2,_⟩:=p;rw[h1]at g1;cases g1;rw[h]at g2;injection g2 with g2;exact absurd g2 (by decide)
   exact a
  rcases d with⟨a,_⟩|⟨_,o,h1,h,_⟩
  .exact a
  obtain⟨_,_,p,_⟩:=f.list u;obtain⟨B,g1,g2,_⟩:=p.isList;rw[h1]at g1;cases g1;rw[h]at g2;injection g2 with g2;exact absurd g2 (by decide)
 have z:a=h'.objs.size\/a=s.heap.objs.size:=by simpa using x
 rcases z with rfl|rfl
 .exact Q.JA (by rw[j];exact rK _) (Q.hok.fresh<|by rw[j];exact rK _)
 exact Q.JA (jh _) (Q.hok.fresh<|jh _)
def SV(K:iz)(c:Int)(d:TA):TI:=λi H R=>d i H λe a=>∃b l f,e=[.ref l]/\J5 b K a l f/\R (LP b K l c) a
def Ub(T:Inv X g i H s)(q:J5 b X.K H l xs):∃a,Vals xs a/\(s.heap.IsList l a.toArray\/s.heap.IsTuple l a.toArray):=by
 cases b
 .obtain⟨a,v,p,_⟩:=T.tuple q;exact⟨a,v,.inr p⟩
 obtain⟨a,v,p,_⟩:=T.list q;exact⟨a,v,.inl p.isList⟩
def RH:ax "enumerate"=J (.type "enumerate"):=by decide+kernel
def yv{M:eT}{A:ig}{E:iK}{s:gM}{b:c3}{c:bq}{T:String}{e:gX}{j:List n0}{Q:iK}
  (h:aa M A (gc<|aB c<|af [e] b) (λw d=>aa M A (evalAll ((dP c<|cz j b).map (·.2))) (λo f=>aa M A (call (.type T) w (((dP c<|cz j b).filterMap (·.1)).zip o)) Q E f) E d) E s)
  (u:aB c (af [e] b)=(C,ba e b)::aB c (af [] b))(q:(aB c<|af [e] b).any (·.1)=C)(p:(dP c<|cz j b).all (·.1.isSome)=Y)(l:(dP c<|cz j b).any (·.1.isNone)=C):
  aa M A (callWith c (.type T) [] (aB c<|af [e] b)<|dP c<|cz j b) Q E s:=by
 have t:aa M A (evalArgs (.type T) Y (aB c<|af [e] b)<|dP c<|cz j b) (λa d=>aa M A (call (.type T) ([]++a.pos) a.kw) Q E d) E s:=by rw[u]at h ⊢;exact evalArgs_kwB p h
 unfold callWith;refine gL<|lU<|mz t (λa d k=>gL<|rO ?_) λ_ _ x=>x;simp only[q,l,Bool.or_false];exact gL<|hJ<|gL<|mz k (λr f v=>gL<|lU<|wpAny_point<|hJ v) λ_ _ x=>x
def aeD{a:gX}{k:TA}{p d M kp:bq}{c:Int}{z:Nat}(L:Gl X "enumerate")(Q:X.mg "enumerate"=z9)(B:PA X [a] k)(C:bn c=Y)
  (E:aB d (af [a] X.env)=(AC,ba a X.env)::aB d (af [] X.env))(w:(aB d<|af [a] X.env).any (·.1)=AC):
  PI X (.Tuple m y n) (.Call (.Name "enumerate" p) [a] [⟨z8 "start",.Constant (.int c) z M,kp⟩] d) (SV X.K c k):=by
 intro g s i H R I h;refine vz<|qd I L Q RH<|yv (NR (B d g s i H _ I h) ?_) E w AT AT;rintro us s1 ⟨vs,H1,r,N,b,l,xs,hv,j,q⟩;subst hv;obtain⟨u,rfl,U⟩:=pF N;cases U;refine kws_cons<|NR (MJ g s1 i H1 (λv o=>v=.int c/\o=H1) r ⟨rfl,rfl⟩) λv s2 ⟨x,H2,f,Y',T,A⟩=>kws_nil ?_;subst T;subst A;obtain⟨t,rfl⟩:=Y';obtain⟨J,_,O⟩:=Ub f j;exact acX O C λD e G kp=>RA f j e G kp q
noncomputable def C6(c:Int)(f:F):AE:=λa=>(f a).bind λp=>match p.1.1 with
 |.tup l=>J (l.zipIdx.map λq=>.tup [.int<|c+q.2,q.1],p.2)
 |.lst l=>J (l.zipIdx.map λq=>.tup [.int<|c+q.2,q.1],p.2)
 |_=>U
def Qv{K:iz}{T:SI}{i:L2.St}{d c:Dn}{H:Hp}{r:D×Bool}{f:F}{Q:List V->Hp->Prop}(E:ER K H T i d)(h:f d=J (r,c))(k:∀v l,I8 i d H c l->ER K l T i c->Rep K l (λa=>X0 i c a\/T a) r.1 v->Q [v] l):tA K [hG f] i H Q:=by
 refine⟨d,T,[.val r],c,E,?_,λu o w B=>?_⟩
 .show((hG f d).bind λp=>(kD [] p.2).bind λq=>J (p.1::q.1,q.2))=_;simp only[hG,h,Option.bind,kD]
 have t:=B.len;rcases u with _|⟨v,_|⟨_,_⟩⟩<;>try cases t
 exact k v o B.keep (B.er.mono (λ_ _ e _=>e) (λb _ z=>B.tt b z) λa z=>B.er.dom a<|B.tt a z)<|B.rep E (j:=0) I I
def N4{K:iz}{B:SB}{c:Int}{f:F}{i:L2.St}{H:Hp}{R:It->Hp->Prop}(A:tI K B (C6 c f) i H R):SV K c (tA K [hG f]) i H R:=by
 obtain⟨L,T,w,r,E,e,k⟩:=A;obtain⟨⟨⟨d,o⟩,h⟩,h1,e⟩:=gR e;refine Qv E h1 λv j u t O=>?_
 have key:∀{l},D8 d=J l->J (l.zipIdx.map λq=>D.tup [.int<|c+q.2,q.1],h)=J (w,r)->∃b a p,[v]=[V.ref a]/\J5 b K j a p/\R (LP b K a c) j:=λx e=>by obtain⟨rfl,rfl⟩:=iD e;obtain⟨a,p,rfl,q,Q⟩:=Bg x O;have q:=q.mono (λ_ _ e _=>e) (P':=Je B T i h) λa z=>z.own;exact⟨_,a,p,rfl,LU q,k _ j u t (ady q Q λa z=>z.own)⟩
 cases d with
 |tup l=>exact key I e
 |lst l=>exact key I e
 |_=>cases e
def adX{B:SB}{a:gX}{f:F}{p b q kp:bq}{c:Int}{z:Nat}(k:Gl X "enumerate")(l:X.mg "enumerate"=U)(e:PX X a f)(h:bn c=Y)(s0:af [a] X.env=(C,ba a X.env)::af [] X.env)
  (j:aB b (af [a] X.env)=(C,ba a X.env)::aB b (af [] X.env))(d:(aB b<|af [a] X.env).any (·.1)=C):
  JQ X B (.Tuple m y n) (.Call (.Name "enumerate" p) [a] [⟨J "start",.Constant (.int c) z q,kp⟩] b) (C6 c f):=PI.imp' (aeD k l (zw (PX.po e) CP s0) h j d) λi H R o=>N4 o
end
section
variable {c:iw}{w:ik}{A:ig}{E:iK}{s:gM}{z TI TO i h g f:gJ}{k:Nat}{e d:mS}{x y a b:gU}
end
section
variable {X:Cx}{a:jP}{c:Nat}{b:bq}
end
end PX
namespace TS
def Ask(M:eT)(A:ig)(G:gM->Prop)(it:Nat->dF)(d:j5)(N:Nat)(lt:Nat->Nat->Bool):Prop:= ∀i j,i<N->j<N->∀s,G s->∀a,aa M A (u8 d (it i).1 (it j).1) (λb c=>G c/\b=lt i j) a s
structure Cs where
 M:eT
 A:ig
 E:gU->gM->Prop
 G:gM->Prop
 it:Nat->dF
 lt:Nat->Nat->Bool
 κ:j5
 N:Nat
 as:∀i j,lt i j=At->lt j i=AC
 tr:∀{i j k},lt j i=AC->lt k j=AC->lt k i=AC
 ask:Ask M A G it κ N lt
section
variable {X:Cs}{α β:Type}{f:α->StateT qR c4 β}{Q:β->qR->Prop}{st:qR}
def wp(X:Cs){α:Type}(m:StateT qR c4 α)(Q:α->qR->Prop)(st:qR):Prop:= ∀s,X.G s->aa X.M X.A (m.run st) (λr a=>X.G a/\Q r.1 r.2) X.E s
def gY{a:β}(h:Q a st):wp X (pure a) Q st:=λs g=>by rw[FF];exact hJ ⟨g,h⟩
def jS{m:StateT qR c4 α}(h:wp X m (λa c=>wp X (f a) Q c) st):wp X (m>>=f) Q st:=λs g=>by rw[StateT.run_bind];exact gL<|mz (h s g) (λr d b=>b.2 d b.1) λ_ _ e=>e
def Hz{m:StateT qR c4 α}{Q b:α->qR->Prop}(h:wp X m Q st)(i:∀a c,Q a c->b a c):wp X m b st:=λs g=>mz (h s g) (λr _ d=>⟨d.1,i _ _ d.2⟩) λ_ _ e=>e
def iO{c:Prop}[Decidable c]{t e:StateT qR c4 β}(h1:c->wp X t Q st)(a: ¬c->wp X e Q st):wp X (if c then t else e) Q st:=by split<;>simp_all
def oj{f:qR->StateT qR c4 β}(h:wp X (f st) Q st):wp X (get>>=f) Q st:=jS λs g=>by rw[StateT.run_get];exact hJ ⟨g,h⟩
def uK{g:qR->qR}{f:PUnit->StateT qR c4 β}(h:wp X (f ⟨⟩) Q (g st)):wp X (modify g>>=f) Q st:=jS λs g=>by rw[StateT.run_modify];exact hJ ⟨g,h⟩
def HA{m:c4 α}(h:∀s,X.G s->aa X.M X.A m (λa b=>X.G b/\wp X (f a) Q st) X.E s):wp X (liftM m>>=f) Q st:=jS λs g=>by show aa X.M X.A ((StateT.lift m:StateT qR c4 α).run st) _ X.E s;rw[StateT.run_lift];exact gL<|mz (h s g) (λa b c=>hJ c) λ_ _ e=>e
def sM{x:String}{f:Unit->StateT qR c4 β}(h:wp X (f ()) Q st):wp X (liftM (rule x)>>=f) Q st:=HA λs g=>vw ⟨g,h⟩
def Pk{e:Nat}{g:Nat->α->StateT qR c4 (ForInStep α)}{T:Nat->α->qR->Prop}{O:α->qR->Prop}
  (m:∀i c st,i<e->T i c st->wp X (g i c) (λr b=>match r with|.done d=>O d b|.yield d=>T (i+1) d b) st)(l:∀c st,T e c st->O c st):
  ∀(n a:Nat)(c:α)(st:qR),a+n=e->T a c st->wp X (eJ (bA a n 1) c g) O st:=by
 intro p
 induction p with
 |zero=>intro a c st rfl h;exact gY<|l _ _ h
 |succ n o=>
  intro a c st q h;rw[yS,Cn];refine jS<|Hz (m a c st (by lia) h) λr b k=>?_
  cases r with
  |done j=>exact gY k
  |yield j=>exact o _ j b (by lia) k
def lW{g:Nat->α->StateT qR c4 (ForInStep α)}(T:Nat->α->qR->Prop)(O:α->qR->Prop){a b:Nat}{c:α}(h:T a c st)
  (l:∀i c st,i<a+(b-a)->T i c st->wp X (g i c) (λr e=>match r with|.done d=>O d e|.yield d=>T (i+1) d e) st)
  (j:∀c st,T (a+(b-a)) c st->O c st)(k:∀c st,O c st->wp X (f c) Q st):wp X (eJ [a:b] c g>>=f) Q st:=by
 refine jS<|Hz ?_ k;rw[Std.Legacy.Range.forIn_eq_forIn_range'];exact Pk l j _ _ _ _ (by simp) h
noncomputable abbrev ar(X:Cs)(l:jc):Array Keyed:=(l.map X.it).toArray
def lD{l:jc}{i x:Nat}{f:dF->StateT qR c4 β}(e:l[i]?=J x)(h:wp X (f<|X.it x) Q st):wp X (elem' (ar X l) i>>=f) Q st:=jS (by rw[elem'_eq,show(ar X l)[i]?=J (X.it x) by simp[e]];exact gY h)
def DO{i j:Nat}{f:Option Bool->StateT qR c4 β}(hk:kindOf st=X.κ)(k:i<X.N)(l:j<X.N)(h:∀b,X.lt i j=b->wp X (f<|J b) Q st):wp X (lt' (X.it i) (X.it j)>>=f) Q st:=jS (by rw[lt'_eq];refine oj ?_;rw[hk];refine HA λs g=>wM<|mz (X.ask i j k l s g λ_ _=>False) (λb m c=>?_) λe m d=>d.elim;obtain⟨a,rfl⟩:=c;exact⟨a,gY<|h _ rfl⟩)
structure Rp(X:Cs)(q:Array (Nat×Nat×Nat))(L:jc)(st:qR):Prop where
 a:ee st=ar X L
 k:kindOf st=X.κ
 f:eG st=z9
 q:pendingOf st=q
 p:L.Perm (ap X.N)
def Rp.n{q:Array (Nat×Nat×Nat)}{L:jc}(R:Rp X q L st){i x:Nat}(e:L[i]?=J x):x<X.N:=by simpa using R.p.mem_iff.mp<|lS e
def DP{q:Array (Nat×Nat×Nat)}{L:jc}(R:Rp X q L st){i j x y:Nat}{f:Option Bool->StateT qR c4 β}(c:L[i]?=J x)(d:L[j]?=J y)(h:∀b,X.lt x y=b->wp X (f<|J b) Q st):wp X (ltAt' i j>>=f) Q st:=jS (by rw[ltAt'_eq];refine oj ?_;rw[R.a];exact lD c<|lD d<|by rw[<-bind_pure (lt' _ _)];exact DO R.k (R.n c) (R.n d) λb e=>gY<|h b e)
def acn{α:Type}(T A R:List α){d:Nat}(hd:d=(A1 A) / 2):mirror (T++(A++R)).toArray (A1 T) (A1 T+A1 A) d=(T++(A.reverse++R)).toArray:=by
 have hd:d=(A1 T+A1 A-A1 T) / 2:=by lia
 subst hd;apply Array.ext_getElem?;intro k;rw[getElem?_mirror_all<|by simp];simp;by_cases h1:k<A1 T
 .rw[iC<|by lia,oQ h1,oQ h1]
 obtain⟨k,rfl⟩:=Nat.exists_eq_add_of_le<|kb h1;rw[oh (by lia) (l₂:=A.reverse++R),Cd];by_cases a:k<A1 A
 .rw[hV<|by lia,oh<|by lia,oQ<|by lia,oQ<|by simpa using a,List.getElem?_reverse a]
  congr 1;lia
 rw[iC<|by lia,oh<|by lia,Cd,oh<|by lia,oh<|by simpa using a,Lb]
def acd{α:Type}(R:List α)(x:α):∀(A T:List α){i:Nat},i=A1 T+A1 A->bubble (T++(A++x::R)).toArray i (A1 A)=(T++(x::(A++R))).toArray:=by
 intro c
 induction c with
 |nil=>intro T i h;exact I
 |cons a A b=>
  intro T i h;have:=b (T++[a]) (i:=i) (by simp at h ⊢;lia);rw[mQ,bubble_succ,show T++(a::A++x::R)=T++[a]++(A++x::R) by simp,this];have e:i-A1 A=A1 T+1:=by simp at h;lia
  rw[e,g5];simp[Array.swapIfInBounds]
variable {q:Array (Nat×Nat×Nat)}{T A R:jc}{i j x:Nat}
def Lw{b:A7}{L a:jc}(S:Rp X q L st)(e:b=ar X a)(p:a.Perm L):Rp X q a (setArr st b):=⟨e,S.k,S.f,S.q,p.trans S.p⟩
def Gm{f:Unit->StateT qR c4 β}(S:Rp X q (T++(A++R)) st)(c:i=A1 T)(e:j=A1 T+A1 A)(h:∀b,Rp X q (T++(A.reverse++R)) b->wp X (f ()) Q b):wp X (wr i j>>=f) Q st:=by rw[reverseSlice'_eq];subst c e;refine uK<|h _ (Lw S ?_<|((yR A).append_right R).append_left T);have:=acn (T.map X.it) (A.map X.it) (R.map X.it) (d:=(A1 T+A1 A-A1 T) / 2) (by simp);simpa[ar,S.a]using this
def TU{f:Unit->StateT qR c4 β}(S:Rp X q (T++(A++x::R)) st)(c:i=A1 T+A1 A)(d:j=A1 T)(h:∀b,Rp X q (T++(x::(A++R))) b->wp X (f ()) Q b):wp X (moveDown' i j>>=f) Q st:=by rw[moveDown'_eq];subst c d;refine uK<|h _ (Lw S ?_<|OQ.symm.append_left T);have:=acd (R.map X.it) (X.it x) (A.map X.it) (T.map X.it) (i:=A1 T+A1 A) (by simp);simpa[ar,S.a]using this
end
abbrev Cs.le(X:Cs)(i j:Nat):Prop:=X.lt j i=C
section
variable {X:Cs}{o:Type}{Q:o->qR->Prop}{st:qR}{q:Array (Nat×Nat×Nat)}{T A B D R L:jc}{i j x y:Nat}{r:Nat->Nat->Prop}
def JU(h:i=A1 T+A1 A):(T++(A++x::R))[i]?=J x:=by subst h;simp
def ix1(h:i=A1 T+A1 A+1):(T++(A++x::y::R))[i]?=J y:=by subst h;rw[<-oO,oh<|by simp];simp
def D6(u:D.Pairwise r)(h:∀z∈D,r z y):(D++[y]).Pairwise r:=qz.mpr ⟨u,La _ _,λa c b d=>Aw.mp d▸h a c⟩
def ED(e:∀{a b c},r a b->r b c->r a c)(u:(D++[x]).Pairwise r)(h:r x y):∀z∈D++[x],r z y:=λz d=>by
 rcases nQ.mp d with d|d
 .exact e ((qz.mp u).2.2 z d x jF) h
 rw[Aw.mp d];exact h
def LA{g:Nat->Option (Option Nat)×Nat->StateT qR c4 (ForInStep<|Option (Option Nat)×Nat)}{f:Option (Option Nat)×Nat->StateT qR c4 o}{lo n m:Nat}
  (p:∀i n,g i (U,n)=(ltAt' (lo+n) (lo+n-1)>>=λx=>match x with|some b=>if b=Y then pure (.done (U,n))else pure (.yield (U,n+1))|_=>pure<|.done (J U,n)))
  (S:Rp X q (T++(A++x::R)) st)(v:(A1 T)=lo)(t:n=A1 A+1)(a:m=n+R.length)(u:(A++[x]).Pairwise X.le)
  (h:∀A x R,Rp X q (T++(A++x::R)) st->m=A1 A+1+R.length->(A++[x]).Pairwise X.le->(∀y l,R=y::l->X.lt y x=Y)->wp X (f (U,A1 A+1)) Q st):wp X (eJ [n:m] (U,n) g>>=f) Q st:=by
 refine lW (λi c s=>s=st/\c=(U,i)/\∃A x R,Rp X q (T++(A++x::R)) st/\i=A1 A+1/\m=i+R.length/\(A++[x]).Pairwise X.le)
  (λc s=>s=st/\∃A x R,Rp X q (T++(A++x::R)) st/\c=(U,A1 A+1)/\m=A1 A+1+R.length/\(A++[x]).Pairwise X.le/\∀y l,R=y::l->X.lt y x=Y) ⟨rfl,rfl,A,x,R,S,t,a,u⟩ ?_ ?_ ?_
 .rintro i c s d ⟨rfl,rfl,A,x,R,S,rfl,h1,u⟩;rw[p];obtain⟨y,l,rfl⟩:=rF (l:=R) (by lia);refine DP S (ix1<|by lia) (JU<|by lia) λb e=>?_
  cases b
  .exact gY ⟨rfl,rfl,A++[x],y,l,by simpa using S,by simp,by simp at h1;lia,D6 u<|ED X.tr u e⟩
  exact gY ⟨rfl,A,x,_,S,rfl,h1,u,λ_ _ k=>by cases k;exact e⟩
 .rintro c s ⟨rfl,rfl,A,x,R,S,d,h1,u⟩;exact⟨rfl,A,x,R,S,by rw[d],by lia,u,λy l e=>by subst e;simp at h1;lia⟩
 rintro c s ⟨rfl,A,x,R,S,rfl,a,u,e⟩;exact h A x R S a u e
def Lx{c:Prop}[Decidable c]{k:StateT qR c4 o}(S:Rp X q (T++(A++R)) st)(e:i=A1 T)(f:j=A1 T+A1 A)(d: ¬c->A1 A=1)(h:∀b,Rp X q (T++(A.reverse++R)) b->wp X k Q b):wp X (if c then wr i j>>=λ_=>k else k) Q st:=iO (λ_=>Gm S e f h) λz=>h _ (by obtain⟨a,rfl⟩:=Wq.mp<|d z;exact S)
def dnT(d:(A++B).Pairwise λa b=>X.le b a)(u:B.Pairwise X.le):(A++B.reverse).Pairwise λa b=>X.le b a:=by rw[qz]at d ⊢;exact⟨d.1,Gk.mpr u,λa c b e=>d.2.2 a c b<|c5.mp e⟩
def Cs.rf(X:Cs)(i:Nat):X.le i i:=g7.mpr λh=>hZ<|h.symm.trans<|X.as i i h
def Sb{k m:StateT qR c4 o}(P:qR->Prop)(b:(∀a,P a->wp X k Q a)->wp X m Q st)(hk:∀a,P a->wp X k Q a):wp X m Q st:=b hk
def aeu{lo m:Nat}{Q:Option Nat->qR->Prop}(S:Rp X q (T++x::R) st)(p:(A1 T)=lo)(f:m=1+R.length)(h:∀A R g,Rp X q (T++(A++R)) g->A≠[]->A.Pairwise X.le->m=A1 A+R.length->Q (J<|A1 A) g):wp X (countRun' lo m) Q st:=by
 have fin:∀A x R g,Rp X q (T++(A++x::R)) g->m=A1 A+1+R.length->(A++[x]).Pairwise X.le->Q (J<|A1 A+1) g:=λA x R g S f u=>by simpa using h (A++[x]) R g (by simpa using S) (by simp) u (by simpa using f)
 have ge:∀{a b c},X.le b a->X.le c b->X.le c a:=λh1 t=>X.tr t h1;rw[countRun'_eq];dsimp only;refine LA (λ_ _=>rfl) (A:=[]) S p I f (by simp) λA x R S f u O=>?_;refine iO (λ_=>gY<|fin A x R _ S f u) λM=>?_;obtain⟨y,l,rfl⟩:=rF (l:=R) (by simp at M;lia);apply Sb λg=>Rp X q (T++((A++[x]).reverse++y::l)) g/\∀z∈A++[x],X.le y z
 .intro F;have w:=X.as _ _ (O y l I);refine iO (λh1=>?_) λh1=>F _ ?_
  .obtain⟨a,A,rfl⟩:=rF (l:=A)<|Nat.lt_of_succ_lt_succ h1;refine DP S (x:=a) (y:=x) (JU (A:=[])<|by simpa using p.symm) (JU<|by simp;lia) λb e=>?_
   cases b
   .refine Gm (A:=a::A++[x]) (by simpa using S) p.symm (by simp;lia) λg n=>F _ ⟨n,λz k=>X.tr (X.tr w e) ?_⟩;rcases mP.mp k with rfl|k
    .exact X.rf _
    exact(A8.mp u).1 z k
   exact gY<|fin _ x _ _ S f u
  obtain rfl:=yQ (l:=A) (by simpa using h1);exact⟨S,by simpa using w⟩
 rintro st ⟨S,d⟩;have t:(A1 A)+2<=m:=by simp at f;lia
 dsimp only
 refine sM (lW (λi c s=>∃C B x R,c=(U,i,A1 B)/\Rp X q (T++(C++(B++x::R))) s/\i=A1 C+A1 B+1/\m=i+R.length/\(C++(B++[x])).Pairwise (λa b=>X.le b a)/\(B++[x]).Pairwise X.le)
  (λc s=>∃C B x R,c=(U,A1 C+A1 B+1,A1 B)/\Rp X q (T++(C++(B++x::R))) s/\m=A1 C+A1 B+1+R.length/\(C++(B++[x])).Pairwise (λa b=>X.le b a)/\(B++[x]).Pairwise X.le) ⟨(A++[x]).reverse,[],y,l,rfl,S,by simp,by simp at f ⊢;lia,?_,by simp⟩ ?_ ?_ ?_)
 .exact D6 (Gk.mpr u) λz k=>d z<|c5.mp k
 .rintro i c s v ⟨C,B,x,R,rfl,S,rfl,f,d,u⟩;obtain⟨y,l,rfl⟩:=rF (l:=R) (by lia);rw[<-oO]at S;refine DP S (ix1<|by simp;lia) (JU<|by simp;lia) λb e=>?_
  cases b
  .refine DP S (JU<|by simp;lia) (ix1<|by simp;lia) λb N=>?_
   cases b
   .refine gY ⟨C,B++[x],y,l,by simp,by simpa using S,by simp;lia,by simp at f;lia,?_,D6 u<|ED X.tr u e⟩;rw[<-oO]at d ⊢;rw[<-oO];exact D6 d<|ED (r:=λa b=>X.le b a) ge d N
   exact gY ⟨C,B,x,_,rfl,by simpa using S,f,d,u⟩
  refine Lx (T:=T++C) (A:=B++[x]) (by simpa using S) (by simp;lia) (by simp;lia) (λz=>by simp at z ⊢;exact z) λg n=>gY ⟨C++(B++[x]).reverse,[],y,l,rfl,by simpa using n,by simp;lia,by simp at f;lia,D6 (dnT d u) λz k=>?_,by simp⟩;rw[<-oO]at d;exact ED (r:=λa b=>X.le b a) ge d (X.as _ _ e) z (by simpa[or_comm]using k)
 .rintro c s ⟨C,B,x,R,rfl,S,v,f,d,u⟩;exact⟨C,B,x,R,by rw[v],S,by lia,d,u⟩
 rintro c s ⟨C,B,x,R,rfl,S,f,d,u⟩;refine Lx (T:=T++C) (A:=B++[x]) (by simpa using S) (by simp;lia) (by simp;lia) (λz=>by simp at z ⊢;exact z) λg n=>?_;refine Gm (T:=T) (A:=C++(B++[x]).reverse) (by simpa using n) p.symm (by simp;lia) λg n=>?_;have u:=Gk.mpr<|dnT d u;rcases yP (C++(B++[x]).reverse).reverse with e|⟨E,G,e⟩
 .simp at e
 rw[e,Cc]at n u;have k:=lY dv e;simp at k;exact LA (λ_ _=>rfl) (A:=E) (x:=G) (R:=R) (by simpa using n) p (by dsimp only;lia) (by dsimp only;lia) u λA x R S f u _=>gY<|fin A x R _ S f u
end
section
variable {X:Cs}{g:Type}{Q:g->qR->Prop}{st:qR}{q:Array (Nat×Nat×Nat)}{T A B D R L:jc}{i j x y:Nat}{p:Nat->Bool}
abbrev Mo(X:Cs)(p:Nat->Bool):Prop:= ∀a b,X.le a b->p b=Y->p a=Y
abbrev Lo(p:Nat->Bool)(A:jc)(a:Nat):Prop:= ∀i,i<a->p (A.getD i 0)=Y
abbrev Hi(p:Nat->Bool)(A:jc)(a:Nat):Prop:= ∀i,a<=i->i<A1 A->p (A.getD i 0)=C
def M7:Mo X λz=>!X.lt x z:=λa b h c=>by simp at c ⊢;exact X.tr h c
def Yq:Mo X λz=>X.lt z x:=λa b h c=>by
 cases e:X.lt a x
 .exact hZ<|(X.tr e h).symm.trans c
 exact e
def upD(u:A.Pairwise X.le)(b:i<=j)(h:j<A1 A):X.le (A.getD i 0) (A.getD j 0):=by
 have a:i<(A1 A):=by lia
 simp only[qp,jk h,jk a];rcases gV b with e|rfl
 .exact OY.mp u i j a h e
 exact X.rf _
def Ey(u:A.Pairwise X.le)(m:Mo X p)(h:i<A1 A)(e:p (A.getD i 0)=Y):Lo p A (i+1):=λj a=>m _ _ (upD u (by lia) h) e
def EI(u:A.Pairwise X.le)(m:Mo X p)(e:p (A.getD i 0)=C):Hi p A i:=λj a h=>by
 cases c:p (A.getD j 0)with
 |false=>rfl
 |true=>exact(m _ _ (upD u a h) c).symm.trans e
def Iq(h:Lo p A i):∀z∈A.take i,p z=Y:=λz a=>by obtain⟨k,hk,rfl⟩:=FE a;have hk:=rM▸hk;have:=h k (by lia);simpa[show k<(A1 A) by lia]using this
def ID(h:Hi p A i):∀z∈A.drop i,p z=C:=λz a=>by obtain⟨k,hk,rfl⟩:=FE a;simp at hk;have:=h (i+k) (by lia) (by lia);simpa[show i+k<(A1 A) by lia]using this
def ixD(a:(A1 T)=j)(h:i<A1 A):(T++(A++R))[j+i]?=J (A.getD i 0):=by subst a;rw[oh<|by lia,Cd,oQ h];simp[h]
def aaJ(u:A.Pairwise X.le)(h1:∀z∈A.take i,(!X.lt y z)=Y)(e:∀z∈A.drop i,(!X.lt y z)=C):(A.take i++y::A.drop i).Pairwise X.le:=by
 rw[<-rE i A,qz]at u;refine qz.mpr ⟨u.1,A8.mpr ⟨λz f=>X.as _ _ (by simpa using e z f),u.2.1⟩,λa d b c=>?_⟩;rcases mP.mp c with rfl|c
 .simpa using h1 a d
 exact u.2.2 a d b c
def TV{lo n k:Nat}{Q:Bool->qR->Prop}(S:Rp X q (T++(A++R)) st)(N:(A1 T)=lo)(E:(A1 A)=k)(O:0<k)(o:n<=k+R.length)(hk:k<=n)(u:A.Pairwise X.le)
  (h:∀A R w,Rp X q (T++(A++R)) w->A1 A=n->A.Pairwise X.le->Q Y w):wp X (binarySort' lo n k) Q st:=by
 rw[binarySort'_eq,show max k 1=k by lia];dsimp only;refine lW (λk c s=>c=(U,())/\∃A R,Rp X q (T++(A++R)) s/\(A1 A)=k/\A.Pairwise X.le/\n<=k+R.length) (λc s=>c=(U,())/\∃A R,Rp X q (T++(A++R)) s/\(A1 A)=n/\A.Pairwise X.le) ⟨rfl,A,R,S,E,u,o⟩ ?_ ?_ ?_
 .rintro k c s m ⟨rfl,A,R,S,rfl,u,o⟩;obtain⟨y,l,rfl⟩:=rF (l:=R) (by lia)
  refine lW (λi c r=>r=s/\∃a b,c=(U,a,b)/\a<=b/\b<=A1 A/\b<=a+(A1 A-i)/\Lo (λz=>!X.lt y z) A a/\Hi (λz=>!X.lt y z) A b)
   (λc r=>r=s/\∃a b,c=(U,a,b)/\a<=A1 A/\Lo (λz=>!X.lt y z) A a/\Hi (λz=>!X.lt y z) A a) ⟨rfl,0,A1 A,rfl,by lia,by lia,by lia,λi h=>by lia,λi h M=>by lia⟩ ?_ ?_ ?_
  .rintro i c _ m ⟨rfl,a,b,rfl,h1,t,v,d,f⟩;dsimp only;refine iO (λe=>gY ⟨rfl,a,b,rfl,by lia,d,(show a=b by lia)▸f⟩) λe=>?_;refine DP S (JU<|by lia) (ixD N<|by lia) λc e=>?_
   cases c
   .exact gY ⟨rfl,_,b,rfl,by lia,by lia,by lia,Ey u M7 (by lia)<|by rw[e];rfl,f⟩
   exact gY ⟨rfl,a,_,rfl,by lia,by lia,by lia,d,EI u M7<|by rw[e];rfl⟩
  .rintro c _ ⟨rfl,a,b,rfl,h1,t,v,d,f⟩;exact⟨rfl,a,b,rfl,by lia,d,(show a=b by lia)▸f⟩
  rintro c _ ⟨rfl,a,b,rfl,h1,t,v⟩;refine TU (T:=T++A.take a) (A:=A.drop a) (by rw[oO,<-oO (A.take a),rE];exact S) (by simp;lia) (by simp;lia) λr G=>gY ⟨rfl,A.take a++y::A.drop a,l,by simpa using G,by simp;lia,aaJ u (Iq t)<|ID v,by simp at o;lia⟩
 .rintro c s ⟨rfl,A,R,S,m,u,o⟩;exact⟨rfl,A,R,S,by lia,u⟩
 rintro c s ⟨rfl,A,R,S,m,u⟩;exact gY<|h A R s S m u
noncomputable def Rk:Bool->dF->Array dF->Nat->Nat->Nat->StateT qR c4 (Option Nat):=sortPriv%PySem.Builtin.gallop
noncomputable def aeA:Array dF->Array dF->StateT qR c4 (Array dF):=sortPriv%PySem.Builtin.mergeLo
noncomputable def aeB:Array dF->Array dF->StateT qR c4 (Array dF):=sortPriv%PySem.Builtin.mergeHi
noncomputable def PH:Nat->StateT qR c4 Unit:=sortPriv%PySem.Builtin.setMinGallop
def Xx{k:Nat->Nat->StateT qR c4 g}{m:StateT qR c4 g}(P:Nat->Nat->Prop)(c:(∀a b,P a b->wp X (k a b) Q st)->wp X m Q st)(hk:∀a b,P a b->wp X (k a b) Q st):wp X m Q st:=c hk
noncomputable abbrev gp(X:Cs)(left:Bool)(x z:Nat):Bool:=if left=Y then X.lt z x else !X.lt x z
def Cz{left:Bool}{base:Nat}{f:Option Bool->StateT qR c4 g}(hk:kindOf st=X.κ)(k:∀z∈A,z<X.N)(c:x<X.N)(l:(A1 T)=base)(a:i<A1 A)(h:∀b,gp X left x (A.getD i 0)=b->wp X (f<|J b) Q st):
  wp X ((elem' (ar X<|T++(A++R)) (base+i)>>=λz=>if left=Y then lt' z (X.it x)else lt' (X.it x) z>>=λr=>pure<|n3 (λx=>!x) r)>>=f) Q st:=by
 have d:A.getD i 0<X.N:=k _ (by simp[a]);refine jS<|lD (ixD l a) ?_
 cases left
 .exact DO hk c d λb e=>gY<|h (!b)<|lY not e
 rw[hV I,<-bind_pure (lt' _ _)];exact DO hk d c λb e=>gY<|h b e
def wZ{left:Bool}{base n hint:Nat}{Q:Option Nat->qR->Prop}(hk:kindOf st=X.κ)(t:∀z∈A,z<X.N)(w:x<X.N)(u:A.Pairwise X.le)(G:L=T++(A++R))(v:(A1 T)=base)(H:(A1 A)=n)(C:hint<n)
  (h:∀r,r<=n->(∀z∈A.take r,gp X left x z=Y)->(∀z∈A.drop r,gp X left x z=AC)->Q (z8 r) st):wp X (Rk left (X.it x) (ar X L) base n hint) Q st:=by
 subst G
 have m:Mo X (gp X left x):=by
  cases left
  .exact M7
  exact Yq
 apply Xx λa b=>a<=b/\b<=n/\Lo (gp X left x) A a/\Hi (gp X left x) A b
 .intro F;refine Cz hk t w v (H▸C) λb e=>?_;refine iO (λz=>?_) λz=>?_
  .subst z
   refine lW (λi c s=>st=s/\∃a b,c=(U,a,b)/\a<b/\i<b/\hint+a<n/\Lo (gp X left x) A (hint+a+1)) (λc s=>st=s/\∃a b,c=(U,a,b)/\a<b/\hint+a<n/\Lo (gp X left x) A (hint+a+1)/\(n-hint<=b\/Hi (gp X left x) A (hint+b)))
    ⟨rfl,0,1,rfl,by lia,by lia,C,Ey u m (H▸C) e⟩ ?_ ?_ ?_
   .rintro i c _ E ⟨rfl,a,b,rfl,h1,o,l,f⟩;dsimp only;refine iO (λz=>gY ⟨rfl,a,b,rfl,h1,l,f,.inl z⟩) λz=>Cz hk t w v (by lia) λc e=>?_
    cases c
    .exact gY ⟨rfl,a,b,rfl,h1,l,f,.inr<|EI u m e⟩
    exact gY ⟨rfl,_,_,rfl,by lia,by lia,by lia,Ey u m (by lia) e⟩
   .rintro c _ ⟨rfl,a,b,rfl,h1,o,l,f⟩;exact⟨rfl,a,b,rfl,h1,l,f,.inl<|by lia⟩
   rintro c _ ⟨rfl,a,b,rfl,h1,l,f,k⟩;dsimp only;generalize I:hint+a+1=c at*;generalize O:hint+min b (n-hint)=d;refine F c d ⟨by lia,by lia,f,λi J M=>?_⟩;rcases k with k|k
   .lia
   exact k i (by lia) M
  refine lW (λi c s=>st=s/\∃a b,c=(U,a,b)/\a<b/\i<b/\a<=hint/\Hi (gp X left x) A (hint-a)) (λc s=>st=s/\∃a b,c=(U,a,b)/\a<b/\a<=hint/\Hi (gp X left x) A (hint-a)/\(hint<b\/Lo (gp X left x) A (hint-b+1)))
   ⟨rfl,0,1,rfl,by lia,by lia,by lia,EI u m<|by simpa[z]using e⟩ ?_ ?_ ?_
  .rintro i c _ E ⟨rfl,a,b,rfl,h1,o,l,f⟩;dsimp only;refine iO (λz=>gY ⟨rfl,a,b,rfl,h1,l,f,.inl z⟩) λz=>Cz hk t w v (by lia) λc e=>?_
   cases c
   .exact gY ⟨rfl,_,_,rfl,by lia,by lia,by lia,EI u m e⟩
   exact gY ⟨rfl,a,b,rfl,h1,l,f,.inr<|Ey u m (by lia) e⟩
  .rintro c _ ⟨rfl,a,b,rfl,h1,o,l,f⟩;exact⟨rfl,a,b,rfl,h1,l,f,.inl<|by lia⟩
  rintro c _ ⟨rfl,a,b,rfl,h1,l,f,k⟩;dsimp only;generalize O:hint-a=d at*;generalize I:hint+1-min b (hint+1)=c;refine F c d ⟨by lia,by lia,λi J=>?_,f⟩;rcases k with k|k
  .lia
  exact k i (by lia)
 rintro a b ⟨h1,o,l,f⟩;refine lW (λi c s=>st=s/\∃a b,c=(U,a,b)/\a<=b/\b<=n/\b<=a+(n-i)/\Lo (gp X left x) A a/\Hi (gp X left x) A b) (λc s=>st=s/\∃a,c=(U,a,a)/\a<=n/\Lo (gp X left x) A a/\Hi (gp X left x) A a) ⟨rfl,a,b,rfl,h1,o,by lia,l,f⟩ ?_ ?_ ?_
 .rintro i c _ E ⟨rfl,a,b,rfl,h1,o,l,f,k⟩;refine iO (λz=>?_) λz=>Cz hk t w v (by dsimp only at z ⊢;lia) λc e=>?_
  .have:a=b:=by dsimp only at z;lia
   subst this;exact gY ⟨rfl,a,rfl,o,f,k⟩
  dsimp only at z
  cases c
  .exact gY ⟨rfl,a,_,rfl,by dsimp only;lia,by dsimp only;lia,by dsimp only;lia,f,EI u m e⟩
  exact gY ⟨rfl,_,b,rfl,by dsimp only;lia,o,by dsimp only;lia,Ey u m (by dsimp only;lia) e,k⟩
 .rintro c _ ⟨rfl,a,b,rfl,h1,o,l,f,k⟩;have:a=b:=by lia
  subst this;exact⟨rfl,a,rfl,o,f,k⟩
 rintro c _ ⟨rfl,a,rfl,o,f,k⟩;exact gY<|h a o (Iq f)<|ID k
end
section
variable {X:Cs}{β:Type}{Q:β->qR->Prop}{st:qR}{pq:Array (Nat×Nat×Nat)}{q r L Z a b o k:jc}{i j x y:Nat}{le:Nat->Nat->Prop}{out:A7}
structure MG(le:Nat->Nat->Prop)(Z a b o:jc):Prop where
 s:o.Pairwise le
 c:∀x∈o,∀y∈a++b,le x y
 p:(o++(a++b)).Perm Z
 ua:a.Pairwise le
 ub:b.Pairwise le
def MG.put(m:MG le Z (k++a) b o)(h:∀x∈k,∀y∈b,le x y):MG le Z a b (o++k):=by
 have f:=qz.mp m.ua;refine⟨qz.mpr ⟨m.s,f.1,λx e y d=>m.c x e y<|by simp[d]⟩,λx e y d=>?_,by simpa using m.p,f.2.1,m.ub⟩;rcases nQ.mp e with e|e
 .refine m.c x e y ?_;simp at d ⊢;exact .inr d
 rcases nQ.mp d with d|d
 .exact f.2.2 x e y d
 exact h x e y d
def Mg(X:Cs)(le:Nat->Nat->Prop)(Z a b:jc)(out:A7):Prop:= ∃o,out=ar X o/\MG le Z a b o
def Rs(X:Cs)(Z:jc)(out:A7):Prop:= ∃o,out=ar X o/\o.Pairwise X.le/\o.Perm Z
def Mg.sw(m:Mg X le Z a b out):Mg X le Z b a out:=by obtain⟨o,e,m⟩:=m;exact⟨o,e,m.s,λx d y f=>m.c x d y<|by simpa[or_comm]using f,(R8.append_left o).trans m.p,m.ub,m.ua⟩
def Mg.put(m:Mg X le Z a b out){a':jc}{c:A7}(e:a=k++a')(h:∀x∈k,∀y∈b,le x y)(d:c=out++ar X k):Mg X le Z a' b c:=by obtain⟨o,rfl,m⟩:=m;exact⟨o++k,by simpa[ar]using d,(e▸m).put h⟩
def Mg.a1(m:Mg X le Z (q.drop i) b out)(c:i<A1 q)(h:∀y∈b,le q[i] y):Mg X le Z (q.drop<|i+1) b (out.push<|X.it q[i]):=m.put (k:=[q[i]]) (wN c) (by simpa using h) (by simp[ar])
def Mg.ak(m:Mg X le Z (q.drop i) b out)(h:∀x∈(q.drop i).take j,∀y∈b,le x y):Mg X le Z (q.drop<|i+j) b (out++(ar X q).extract i (i+j)):=m.put (by rw[<-List.drop_drop,rE]) h (by simp[ar])
def Mg.fin(m:Mg X X.le Z (q.drop i) (r.drop j) out)(h:∀x∈q.drop i,∀y∈r.drop j,X.le x y):Rs X Z (out++(ar X q).extract i (ar X q).size++(ar X r).extract j (ar X r).size):=by obtain⟨o,e,m⟩:=((m.put (k:=q.drop i) (a':=[]) (by simp) h I).sw).put (k:=r.drop j) (a':=[]) (by simp) (by simp) I;exact⟨o,by rw[<-e];simp[ar,db],m.s,by simpa using m.p⟩
def Mg.end(m:Mg X X.le Z (q.drop i) (r.drop j) out)(h:(A1 q)<=i\/(A1 r)<=j):Rs X Z (out++(ar X q).extract i (ar X q).size++(ar X r).extract j (ar X r).size):=m.fin λx c y d=>by
 rcases h with h|h
 .rw[yW h]at c;cases c
 rw[yW h]at d;cases d
def Mg.hd(m:Mg X le Z (q.drop i) b out)(f:∀{a b c},le a b->le b c->le a c)(e:i<A1 q)(h:le x q[i]):∀y∈q.drop i,le x y:=λy d=>by
 obtain⟨o,_,m⟩:=m;have:=m.ua;rw[wN e]at this d;rcases mP.mp d with rfl|d
 .exact h
 exact f h ((A8.mp this).1 y d)
def Ka{P:d->Prop}{f:α->β->d}{T:α->β->Prop}{c:d}(x:∃a b,c=f a b/\T a b)(h:∀a b,T a b->P (f a b)):P c:=by obtain⟨_,_,rfl,i⟩:=x;exact h _ _ i
def eX4{P:g->Prop}{f:α->β->l->ε->g}{T:α->β->l->ε->Prop}{c:g}(x:∃a b d e,c=f a b d e/\T a b d e)(h:∀a b c d,T a b c d->P (f a b c d)):P c:=by obtain⟨_,_,_,_,rfl,i⟩:=x;exact h _ _ _ _ i
def MC{P:l->Prop}{f:α->β->m->ε->ζ->l}{T:α->β->m->ε->ζ->Prop}{c:l}(x:∃a b d e g,c=f a b d e g/\T a b d e g)(h:∀a b c d e,T a b c d e->P (f a b c d e)):P c:=by obtain⟨_,_,_,_,_,rfl,i⟩:=x;exact h _ _ _ _ _ i
def MB{P:l->Prop}{f:α->β->m->ε->ζ->η->l}{T:α->β->m->ε->ζ->η->Prop}{c:l}(x:∃a b d e g k,c=f a b d e g k/\T a b d e g k)(h:∀a b c d e g,T a b c d e g->P (f a b c d e g)):P c:=by obtain⟨_,_,_,_,_,_,rfl,i⟩:=x;exact h _ _ _ _ _ _ i
def Kc{a b c d e P:Prop}(h:a->b->c->d->e->P)(x:a/\b/\c/\d/\e):P:=h x.1 x.2.1 x.2.2.1 x.2.2.2.1 x.2.2.2.2
def Cy{f:Unit->StateT qR c4 β}{n:Nat}(S:Rp X pq L st)(h:∀c,Rp X pq L c->wp X (f ()) Q c):wp X (PH n>>=f) Q st:=uK (g:=λs=>SortSt.mk' (kindOf s) (ee s) (pendingOf s) n<|eG s)<|h _ ⟨S.a,S.k,S.f,S.q,S.p⟩
def HB{e:Type}{k:e->Nat->StateT qR c4 β}{m:StateT qR c4 β}(P:e->Nat->qR->Prop)(f:(∀c n d,P c n d->wp X (k c n) Q d)->wp X m Q st)(hk:∀c n d,P c n d->wp X (k c n) Q d):wp X m Q st:=f hk
def Ly{k:Nat->StateT qR c4 β}{m:StateT qR c4 β}(P:Nat->qR->Prop)(d:(∀n c,P n c->wp X (k n) Q c)->wp X m Q st)(hk:∀n c,P n c->wp X (k n) Q c):wp X m Q st:=d hk
def Xw{Q:Array dF->qR->Prop}(S:Rp X pq L st)(u1:q.Pairwise X.le)(u2:r.Pairwise X.le)(J:∀z∈q,z<X.N)(M:∀z∈r,z<X.N)(h1:0<A1 q)(h2:0<A1 r)(hd:∀y∈q,X.le r[0] y)(top:∀x∈r,X.le x q[A1 q-1])
  (h:∀out s,Rp X pq L s->Rs X (q++r) out->Q out s):wp X (aeA (ar X q)<|ar X r) Q st:=by
 have sq:(ar X q).size=(A1 q):=by simp
 have sr:(ar X r).size=(A1 r):=by simp
 have K:Mg X X.le (q++r) (q.drop 0) (r.drop 1) #[X.it r[0]]:=Mg.sw<|Mg.a1 (q:=r) (i:=0) (out:= #[]) ⟨[],rfl,.nil,by simp,by simpa using R8,by simpa using u2,by simpa using u1⟩ h2 hd
 have last:∀{out i j},Mg X X.le (q++r) (q.drop i) (r.drop j) out->i+1=A1 q->Rs X (q++r) (out++(ar X r).extract j (ar X r).size++(ar X q).extract i (ar X q).size):=λ{_ i j} m e=>m.sw.fin λx H y w=>by
  have hi:i<(A1 q):=by lia
  rw[wN hi,yW<|by lia,Aw]at w;have:=top x<|Cb H;simpa only[w,<-e,g5]using this
 refine sM<|lD (x:=r[0]) (by simp) ?_;refine iO (λe=>gY<|h _ _ S (K.end<|.inr<|by simp at e;lia)) λe=>iO (λp=>gY<|h _ _ S (last K<|by simpa using p)) λp=>oj ?_
 let I:=λ(c:Nat) out d f s=>Rp X pq L s/\Mg X X.le (q++r) (q.drop d) (r.drop f) out/\d+1<A1 q/\f<A1 r/\c<=d+f
 refine lW (λi c s=>∃out d f B,c=(z9,out,d,f,B)/\I (i+1) out d f s) (λc s=>∃out t,c=(z8 out,t)/\Rp X pq L s/\Rs X (q++r) out) ⟨_,0,1,_,rfl,S,K,by simp at p;lia,by simp at e;lia,by lia⟩ ?_ ?_ ?_
 .intro i c s _ h;apply eX4 h;clear h;intro out d f B D;refine lW (λj c s=>∃out d f ac v,c=(z9,out,d,f,ac,v)/\I (i+1+j) out d f s) (λc s=>(∃out t,c=(z8 out,t)/\Rp X pq L s/\Rs X (q++r) out)\/∃out d f ac v,c=(z9,out,d,f,ac,v)/\I (i+1) out d f s) ⟨_,_,_,_,_,rfl,D⟩ ?_ ?_ ?_
  .intro j c s _ h;apply MC h;clear h;refine λout d f ac v=>Kc λS m C n E=>?_;dsimp only;refine lD (x:=r[f]) (by simp) (lD (x:=q[d]) (by simp)<|DO S.k (M _ (by simp)) (J _ (by simp)) λb e=>?_)
   cases b
   .have l:=m.a1 (by lia)<|m.sw.hd X.tr n e;exact lD (x:=q[d]) (by simp)<|iO (λe=>gY<|.inl ⟨_,_,rfl,S,last l<|by simpa using e⟩) λe=>iO (λ_=>gY<|.inr ⟨_,_,_,_,_,rfl,S,l,by simp at e;lia,n,by lia⟩) λ_=>gY ⟨_,_,_,_,_,rfl,S,l,by simp at e;lia,n,by lia⟩
   have l:=(m.sw.a1 n<|m.hd X.tr (by lia)<|X.as _ _ e).sw;exact lD (x:=r[f]) (by simp)<|iO (λe=>gY<|.inl ⟨_,_,rfl,S,l.end<|.inr<|by simp at e;lia⟩) λe=>iO (λ_=>gY<|.inr ⟨_,_,_,_,_,rfl,S,l,C,by simp at e;lia,by lia⟩) λ_=>gY ⟨_,_,_,_,_,rfl,S,l,C,by simp at e;lia,by lia⟩
  .refine λc s h=>aH ?_;obtain⟨_,d,f,_,_,_,S,m,C,n,E⟩:=h;lia
  intro c s z;refine z.elim (λh=>?_) λh=>?_
  .apply Ka h;exact λout _ U=>gY ⟨out,_,rfl,U⟩
  apply MC h;clear h z;refine λout d f ac v D=>sM<|lW (λj c s=>∃out d f B ac v,c=(z9,out,d,f,B,ac,v)/\I (i+1+j) out d f s) (λc s=>(∃out t,c=(z8 out,t)/\Rp X pq L s/\Rs X (q++r) out)\/∃out d f B ac v,c=(z9,out,d,f,B,ac,v)/\I (i+2) out d f s) ⟨_,_,_,_,_,_,rfl,D⟩ ?_ ?_ ?_
  .intro j c s _ h;apply MB h;clear h;refine λout d f B ac v=>Kc λS m C n E=>?_;dsimp only;apply Ly λ_ s=>Rp X pq L s
   .intro F;refine iO (λ_=>?_) λ_=>?_
    .generalize B-1=g;exact F g s S
    exact F B s S
   intro g s S;refine Cy S λs S=>lD (x:=r[f]) (by simp)<|jS<|wZ (T:=q.take d) (A:=q.drop d) (R:=[]) S.k (λz Y=>J z<|Cb Y) (M _ (by simp)) (u1.sublist<|FD _ _) (by simp) (by simp;lia) (by simp) (by simp;lia) λk _ P V=>?_;dsimp only;apply HB λout d s=>Rp X pq L s/\Mg X X.le (q++r) (q.drop d) (r.drop f) out/\d+1<A1 q/\i+1+j<=d+f/\∀y∈q.drop d,X.le r[f] y
   .intro F;have mk:=m.ak (j:=k) λx H y w=>m.sw.hd (x:=x) X.tr n (by simpa using P x H) y w;have u:∀y∈q.drop (d+k),X.le r[f] y:=λy w=>X.as _ _ (by simpa using V y<|by simpa using w);refine iO (λe=>?_) λe=>?_
    .refine iO (λG=>gY<|.inl ⟨_,_,rfl,S,last mk<|by simpa using G⟩) λG=>iO (λp=>gY<|.inl ⟨_,_,rfl,S,mk.end<|.inl<|by simp at p;lia⟩) λp=>?_;generalize out++(ar X q).extract d (d+k)=out at mk ⊢;generalize W:d+k=ic at mk u G p ⊢;exact F out ic s ⟨S,mk,by simp at G p;lia,by lia,u⟩
    rw[show k=0 by lia]at u;exact F out d s ⟨S,m,C,E,u⟩
   refine λout d s=>Kc λS m C E u=>?_;have l:=(m.sw.a1 n u).sw;refine lD (x:=r[f]) (by simp)<|iO (λe=>gY<|.inl ⟨_,_,rfl,S,l.end<|.inr<|by simp at e;lia⟩) λe=>lD (x:=q[d]) (by simp)<|jS<|wZ (T:=r.take<|f+1) (A:=r.drop<|f+1) (R:=[]) S.k (λz Y=>M z<|Cb Y) (J _ (by simp)) (u2.sublist<|FD _ _) (by simp) (by simp;lia) (by simp) (by simp at e ⊢;lia) λO _ P V=>?_;dsimp only;apply HB λout f s=>Rp X pq L s/\Mg X X.le (q++r) (q.drop d) (r.drop f) out/\f<A1 r/\i+1+j<d+f/\∀y∈r.drop f,X.le q[d] y
   .intro F;have mk:=(l.sw.ak (j:=O) λx H y w=>l.hd X.tr (by lia) (X.as _ _ (P x H)) y w).sw;have u:∀y∈r.drop (f+1+O),X.le q[d] y:=λy w=>V y (by simpa using w);refine iO (λ_=>?_) λe3=>?_
    .refine iO (λp=>gY<|.inl ⟨_,_,rfl,S,mk.end<|.inr<|by simp at p;lia⟩) λp=>?_;generalize out.push (X.it r[f])++(ar X r).extract (f+1) (f+1+O)=out at mk ⊢;generalize W:f+1+O=ic at mk u p ⊢;exact F out ic s ⟨S,mk,by simp at p;lia,by lia,u⟩
    rw[show O=0 by lia]at u;exact F _ _ s ⟨S,l,by simp at e;lia,by lia,u⟩
   refine λout f s=>Kc λS m n E u=>?_;have l:=m.a1 (by lia) u;exact lD (x:=q[d]) (by simp)<|iO (λe=>gY<|.inl ⟨_,_,rfl,S,last l<|by simpa using e⟩) λe=>iO (λ_=>gY<|.inr ⟨_,_,_,_,_,_,rfl,S,l,by simp at e;lia,n,by lia⟩) λ_=>gY ⟨_,_,_,_,_,_,rfl,S,l,by simp at e;lia,n,by lia⟩
  .refine λc s h=>aH ?_;obtain⟨_,d,f,_,_,_,_,S,m,C,n,E⟩:=h;lia
  intro c s z;refine z.elim (λh=>?_) λh=>?_
  .apply Ka h;exact λout _ U=>gY ⟨out,_,rfl,U⟩
  apply MB h;clear h z;exact λ_ _ _ _ _ _ h=>Cy h.1 λs S=>gY ⟨_,_,_,_,rfl,S,h.2⟩
 .refine λc s h=>aH ?_;obtain⟨_,d,f,_,_,S,m,C,n,E⟩:=h;lia
 intro c s x;apply Ka x;exact λ_ _ m=>gY<|h _ _ m.1 m.2
end
section
variable {X:Cs}{u:Type}{Q:u->qR->Prop}{st:qR}{l:Array (Nat×Nat×Nat)}{q r L Z a b o k:jc}{i j x y n:Nat}{out:A7}
theorem ss1(n:Nat):n+1-1=n:=rfl
abbrev Cs.ge(X:Cs)(i j:Nat):Prop:=X.le j i
def Mg.h1(m:Mg X X.ge Z (q.take<|n+1).reverse b out)(c:n<A1 q)(h:∀y∈b,X.le y q[n]):Mg X X.ge Z (q.take n).reverse b (out.push<|X.it q[n]):=m.put (k:=[q[n]]) (by rw[FC];simp[c]) (by simpa using h) (by simp[ar])
def Mg.hk(m:Mg X X.ge Z (q.take n).reverse b out)(c:i<=n)(h:∀x∈(q.take n).drop i,∀y∈b,X.le y x):Mg X X.ge Z (q.take i).reverse b (out++((ar X q).extract i n).reverse):=m.put (k:=((q.take n).drop i).reverse) (by rw[<-List.reverse_append,<-dk c,<-eK,dk c,rE]) (by simpa using h) (by simp[ar,List.extract_eq_drop_take'])
def Mg.L5(m:Mg X X.ge Z (q.take i).reverse (r.take j).reverse out)(h:∀x∈q.take i,∀y∈r.take j,X.le x y):Rs X Z ((ar X q).extract 0 i++(ar X r).extract 0 j++out.reverse):=by obtain⟨o,e,m⟩:=(m.sw.put (k:=(r.take j).reverse) (a':=[]) (by simp) (by simpa using λx c y d=>h y d x c) I).sw.put (k:=(q.take i).reverse) (a':=[]) (by simp) (by simp) I;refine⟨o.reverse,?_,Gk.mpr m.s,(yR o).trans<|by simpa using m.p⟩;have:=lY Array.reverse e;simpa[ar,List.extract_eq_take_drop]using this
def Mg.JB(m:Mg X X.ge Z (q.take i).reverse (r.take j).reverse out)(h:i=0\/j=0):Rs X Z ((ar X q).extract 0 i++(ar X r).extract 0 j++out.reverse):=m.L5 λx c y d=>by
 rcases h with rfl|rfl
 .cases c
 cases d
def Mg.M9(m:Mg X X.ge Z (q.take<|n+1).reverse b out)(d:n<A1 q)(h:X.le q[n] x):∀y∈(q.take<|n+1).reverse,X.le y x:=λy c=>by
 obtain⟨o,_,m⟩:=m;have:=m.ua;rw[show(q.take<|n+1).reverse=q[n]::(q.take n).reverse by rw[FC];simp[d]]at this c;rcases mP.mp c with rfl|c
 .exact h
 exact X.tr ((A8.mp this).1 y c) h
def aX7{a b c d e f g P:Prop}(h:a->b->c->d->e->f->g->P)(x:a/\b/\c/\d/\e/\f/\g):P:=Kc (λa b c d e=>h a b c d e.1 e.2.1 e.2.2) x
def aX6{a b c d e f P:Prop}(h:a->b->c->d->e->f->P)(x:a/\b/\c/\d/\e/\f):P:=Kc (λa b c d e=>h a b c d e.1 e.2) x
def Xy{Q:Array dF->qR->Prop}(S:Rp X l L st)(u1:q.Pairwise X.le)(u2:r.Pairwise X.le)(hq:∀z∈q,z<X.N)(hr:∀z∈r,z<X.N)(h1:0<A1 q)(h2:0<A1 r)(hd:∀y∈q,X.le r[0] y)(top:∀x∈r,X.le x q[A1 q-1])
  (h:∀out s,Rp X l L s->Rs X (q++r) out->Q out s):wp X (aeB (ar X q)<|ar X r) Q st:=by
 have sq:(ar X q).size=(A1 q):=by simp
 have sr:(ar X r).size=(A1 r):=by simp
 have V:Mg X X.ge (q++r) (q.take<|A1 q-1).reverse (r.take<|A1 r).reverse #[X.it q[A1 q-1]]:=Mg.h1 (out:= #[]) ⟨[],rfl,.nil,by simp,by simpa[gF h1]using(yR q).append (yR r),by simpa[gF h1,Gk]using u1,by simpa[Gk]using u2⟩ (by lia) (by simpa using top)
 have last:∀{out i},Mg X X.ge (q++r) (q.take i).reverse (r.take 1).reverse out->Rs X (q++r) ((ar X r).extract 0 1++(ar X q).extract 0 i++out.reverse):=λm=>m.sw.L5 λx D y Y=>by obtain⟨b,r,rfl⟩:=rF h2;simp at D;subst D;exact hd y<|uB Y
 refine sM<|lD (x:=q[A1 q-1]) (by simp) ?_;rw[sq,sr];refine iO (λe=>gY<|h _ _ S (V.JB<|.inl<|by simpa using e)) λe=>iO (λB=>gY<|h _ _ S ?_) λB=>oj ?_
 .have B:(A1 r)=1:=by simpa using B
  rw[B]at V ⊢;exact last V
 let I:=λ(c:Nat) out d f s=>Rp X l L s/\Mg X X.ge (q++r) (q.take d).reverse (r.take f).reverse out/\0<d/\d<=A1 q/\1<f/\f<=A1 r/\c+d+f<=A1 q+A1 r
 refine lW (λi c s=>∃d f out O,c=(z9,d,f,out,O)/\I (i+1) out d f s) (λc s=>∃out t,c=(z8 out,t)/\Rp X l L s/\Rs X (q++r) out) ⟨_,_,_,_,rfl,S,V,by simp at e;lia,by lia,by simp at B;lia,by lia,by lia⟩ ?_ ?_ ?_
 .intro i c s _ h;apply eX4 h;clear h;intro d f out O i0;refine lW (λj c s=>∃d f out ac w,c=(z9,d,f,out,ac,w)/\I (i+1+j) out d f s) (λc s=>(∃out t,c=(z8 out,t)/\Rp X l L s/\Rs X (q++r) out)\/∃d f out ac w,c=(z9,d,f,out,ac,w)/\I (i+1) out d f s) ⟨_,_,_,_,_,rfl,i0⟩ ?_ ?_ ?_
  .intro j c s _ h;apply MC h;clear h;refine λd f out ac w=>aX7 λS m G J C E M=>?_;obtain⟨n,rfl⟩:∃n,d=n+1:=⟨d-1,by lia⟩
   obtain⟨p,rfl⟩:∃n,f=n+1:=⟨f-1,by lia⟩
   dsimp only[ss1];refine lD (x:=r[p]) (by simp)<|lD (x:=q[n]) (by simp)<|DO S.k (hr _ (by simp)) (hq _ (by simp)) λb e=>?_
   cases b
   .have v:=(m.sw.h1 (by lia)<|m.M9 (by lia) e).sw;refine lD (x:=r[p]) (by simp)<|iO (λe=>?_) λe=>iO (λ_=>gY<|.inr ⟨_,_,_,_,_,rfl,S,v,G,J,by simp at e;lia,by lia,by lia⟩) λ_=>gY ⟨_,_,_,_,_,rfl,S,v,G,J,by simp at e;lia,by lia,by lia⟩;obtain rfl:p=1:=by simpa using e
    exact gY<|.inl ⟨_,_,rfl,S,last v⟩
   have v:=m.h1 (by lia)<|m.sw.M9 (by lia)<|X.as _ _ e;exact lD (x:=q[n]) (by simp)<|iO (λe=>gY<|.inl ⟨_,_,rfl,S,v.JB<|.inl<|by simpa using e⟩) λe=>iO (λ_=>gY<|.inr ⟨_,_,_,_,_,rfl,S,v,by simp at e;lia,by lia,C,E,by lia⟩) λ_=>gY ⟨_,_,_,_,_,rfl,S,v,by simp at e;lia,by lia,C,E,by lia⟩
  .refine λc s h=>aH ?_;obtain⟨_,_,_,_,_,_,S,m,G,J,C,E,M⟩:=h;lia
  intro c s z;refine z.elim (λh=>?_) λh=>?_
  .apply Ka h;exact λout _ hs=>gY ⟨out,_,rfl,hs⟩
  apply MC h;clear h z;refine λd f out ac w i0=>sM<|lW (λj c s=>∃d f out O ac w,c=(z9,d,f,out,O,ac,w)/\I (i+1+j) out d f s) (λc s=>(∃out t,c=(z8 out,t)/\Rp X l L s/\Rs X (q++r) out)\/∃d f out O ac w,c=(z9,d,f,out,O,ac,w)/\I (i+2) out d f s) ⟨_,_,_,_,_,_,rfl,i0⟩ ?_ ?_ ?_
  .intro j c s _ h;apply MB h;clear h;refine λd f out O ac w=>aX7 λS m G J C E M=>?_;obtain⟨p,rfl⟩:∃n,f=n+1:=⟨f-1,by lia⟩
   dsimp only[ss1];apply Ly λ_ s=>Rp X l L s
   .intro F;refine iO (λ_=>?_) λ_=>?_
    .generalize O-1=g;exact F g s S
    exact F O s S
   intro g s S;refine Cy S λs S=>lD (x:=r[p]) (by simp)<|jS<|wZ (T:=[]) (A:=q.take d) (R:=q.drop d) S.k (λz hz=>hq z<|uB hz) (hr _ (by simp)) (u1.sublist<|wW _ _) (by simp) AT (by simp;lia) (by lia) λk hk t1 t2=>?_;dsimp only;apply HB λout d s=>Rp X l L s/\Mg X X.ge (q++r) (q.take d).reverse (r.take<|p+1).reverse out/\0<d/\d<=A1 q/\i+1+j+d+p<A1 q+A1 r/\∀y∈q.take d,X.le y r[p]
   .intro F;have mk:=m.hk hk λx D y Y=>m.sw.M9 (x:=x) (by lia) (X.as _ _ (by simpa using t2 x D)) y Y;have U:∀y∈q.take k,X.le y r[p]:=λy Y=>by simpa using t1 y (by rwa [eK,dk hk])
    refine iO (λe=>?_) λe=>?_
    .refine iO (λH=>gY<|.inl ⟨_,_,rfl,S,mk.JB<|.inl<|by simpa using H⟩) λH=>?_;generalize out++((ar X q).extract k d).reverse=out at mk ⊢;generalize ea:k=ic at mk U H ⊢;exact F out ic s ⟨S,mk,by simp at H;lia,by lia,by lia,U⟩
    obtain rfl:k=d:=by lia
    exact F out _ s ⟨S,m,G,J,by lia,U⟩
   refine λout P s=>aX6 λS m G J M U=>?_;have v:=(m.sw.h1 (by lia)<|by simpa using U).sw;obtain⟨n,rfl⟩:∃n,P=n+1:=⟨P-1,by lia⟩
   dsimp only[ss1];refine lD (x:=r[p]) (by simp)<|iO (λe=>?_) λe=>lD (x:=q[n]) (by simp)<|jS<|wZ (T:=[]) (A:=r.take p) (R:=r.drop p) S.k (λz hz=>hr z<|uB hz) (hq _ (by simp)) (u2.sublist<|wW _ _) (by simp) AT (by simp;lia) (by lia) λK aV t1 t2=>?_
   .obtain rfl:p=1:=by simpa using e
    exact gY<|.inl ⟨_,_,rfl,S,last v⟩
   dsimp only;apply HB λout f s=>Rp X l L s/\Mg X X.ge (q++r) (q.take<|n+1).reverse (r.take f).reverse out/\1<f/\f<=A1 r/\i+1+j+(n+1)+f<A1 q+A1 r/\∀y∈r.take f,X.le y q[n]
   .intro F;have mk:=(v.sw.hk aV λx D y Y=>v.M9 (x:=x) (by lia) (t2 x D) y Y).sw;have W:∀y∈r.take K,X.le y q[n]:=λy Y=>X.as _ _ (t1 y<|by rwa [eK,dk aV]);refine iO (λ_=>?_) λe3=>?_
    .refine iO (λH=>?_) λH=>iO (λB=>gY<|.inl ⟨_,_,rfl,S,mk.JB<|.inr<|by simpa using B⟩) λB=>?_
     .obtain rfl:K=1:=by simpa using H
      exact gY<|.inl ⟨_,_,rfl,S,last mk⟩
     generalize out.push (X.it r[p])++((ar X r).extract K p).reverse=out at mk ⊢;generalize ea:K=ic at mk W H B ⊢;exact F out ic s ⟨S,mk,by simp at H B;lia,by lia,by lia,W⟩
    obtain rfl:K=p:=by lia
    exact F _ _ s ⟨S,v,by simp at e;lia,by lia,M,W⟩
   refine λout f s=>aX6 λS m C E M U=>?_;have v:=m.h1 (by lia) (by simpa using U);exact lD (x:=q[n]) (by simp)<|iO (λe=>gY<|.inl ⟨_,_,rfl,S,v.JB<|.inl<|by simpa using e⟩) λe=>iO (λ_=>gY<|.inr ⟨_,_,_,_,_,_,rfl,S,v,by simp at e;lia,by lia,C,E,by lia⟩) λ_=>gY ⟨_,_,_,_,_,_,rfl,S,v,by simp at e;lia,by lia,C,E,by lia⟩
  .refine λc s h=>aH ?_;obtain⟨_,_,_,_,_,_,_,S,m,G,J,C,E,M⟩:=h;lia
  intro c s z;refine z.elim (λh=>?_) λh=>?_
  .apply Ka h;exact λout _ hs=>gY ⟨out,_,rfl,hs⟩
  apply MB h;exact λ_ _ _ _ _ _ h=>Cy h.1 λs S=>gY ⟨_,_,_,_,rfl,S,h.2⟩
 .refine λc s h=>aH ?_;obtain⟨_,_,_,_,_,S,m,G,J,C,E,M⟩:=h;lia
 intro c s x;apply Ka x;exact λ_ _ m=>gY<|h _ _ m.1 m.2
end
section
variable {X:Cs}{t:Type}{Q:t->qR->Prop}{st:qR}{d:Array (Nat×Nat×Nat)}{T A B R L:jc}{i j x y n s:Nat}{o C:List (List Nat)}{r w:List (Nat×Nat×Nat)}
def NY{c:Type}:∀(m K T R:List c)(j a:Nat),a+j=A1 T->K.length=A1 m->(m.zipIdx j).foldl (λ(x:Array c) (p:c×Nat)=>x.setIfInBounds (a+p.2) p.1) (T++(K++R)).toArray=(T++(m++R)).toArray:=by
 intro f
 induction f with
 |nil=>intro K T R j a h b;rw[yQ b];rfl
 |cons y m e=>intro K T R j a h b;obtain⟨k,K,rfl⟩:=rF (l:=K) (by simp[b]);rw[List.zipIdx_cons,uA];have:=e K (T++[y]) R (j+1) a (by simp;lia) (by simpa using b);simpa[h]using this
def Rn(X:Cs):Nat->List (List Nat)->List (Nat×Nat×Nat)->Prop
 |_,[],[]=>True
 |s,A::o,p::r=>p.1=s/\p.2.1=A1 A/\A≠[]/\A.Pairwise X.le/\Rn X (s+A1 A) o r
 |_,_,_=>False
theorem Rn.cut:∀{r:List (Nat×Nat×Nat)}{s:Nat}{o:List (List Nat)},Rn X s o (r++w)->∃a L2,o=a++L2/\Rn X (s+A1 a.flatten) L2 w/\∀M q,Rn X (s+A1 a.flatten) M q->Rn X s (a++M) (r++q)
 |[],s,o,h=>⟨[],o,rfl,h,λ_ _ h=>h⟩
 |p::r,s,[],h=>h.elim
 |p::r,s,A::o,h=>by
  obtain⟨h1,b,c,f,g⟩:=h;obtain⟨a,L2,rfl,k,l⟩:=Rn.cut g;have e:s+(A::a).flatten.length=s+A1 A+(A1 a.flatten):=by simp;lia
  exact⟨A::a,L2,rfl,e▸k,λM q h=>⟨h1,b,c,f,l M q<|e▸h⟩⟩
def TR{s:qR}{f:PUnit->StateT qR c4 t}(h:wp X (f ⟨⟩) Q s):wp X (set s>>=f) Q st:=jS λ_ g=>by rw[StateT.run_set];exact hJ ⟨g,h⟩
def upA(u:A.Pairwise X.le)(v:B.Pairwise X.le)(h:∀a∈A,∀b∈B,X.le a b):(A++B).Pairwise X.le:=qz.mpr ⟨u,v,h⟩
def Tj(a:L=T++(A++R))(b:i=A1 T)(c:j=A1 T+A1 A):(ar X L).extract i j=ar X A:=by subst a b c;simp
def Sa{Q:Bool->qR->Prop}(S:Rp X d (o.flatten++R) st)(hr:Rn X 0 o d.toList)(hi:i+1<d.size)(h:∀b8 bB gG,Rp X bB (gG.flatten++R) b8->Rn X 0 gG bB.toList->bB.size+1=d.size->A1 gG.flatten=A1 o.flatten->Q At b8):wp X (mergeAt' i) Q st:=by
 obtain⟨d⟩:=d
 obtain⟨H,⟨Y,D,K⟩,⟨sb,F,du⟩,U,rfl,rfl⟩:∃H x y U,d=H++x::y::U/\(A1 H)=i:=by have hi:i+1<(A1 d):=hi;exact⟨d.take i,d[i],d[i+1],d.drop<|i+2,by simp,by simp;lia⟩
 obtain⟨L1,L2,rfl,h2,h3⟩:=Rn.cut hr
 obtain⟨A,B,L2,rfl⟩:∃A B L,L2=A::B::L:=by
  match L2,h2 with
  |A::B::L,_=>exact⟨A,B,L,rfl⟩
  |[A],h=>exact h.2.2.2.2.elim
  |[],h=>exact h.elim
 obtain⟨O,Z,a1,P,hb,cO,b1,V,h4⟩:=h2;dsimp only at O Z hb cO;obtain⟨κ',a',p',g,f'⟩:=st;have e1:a'=_:=S.a;have e2:p'=_:=S.q;subst e1 e2;rw[show(L1++A::B::L2).flatten++R=L1.flatten++(A++(B++(L2.flatten++R))) by simp]at S ⊢
 have fin:∀b8 M,Rp X (H++(Y,D+F,K)::U).toArray (L1.flatten++(M++(L2.flatten++R))) b8->M.Perm (A++B)->M.Pairwise X.le->Q At b8:=λb8 M J em u=>by have em:=em.length_eq;rw[nN,<-Z,<-cO]at em;refine h _ (H++(Y,D+F,K)::U).toArray (L1++M::L2) (by simpa using J) (h3 _ _ ⟨O,em.symm,λe=>a1 ?_,u,by rwa [em,Z,cO,<-wK]⟩) (by simp;lia) (by simp;lia);exact yQ (by rw[e]at em;simp at em;lia)
 have ep:∀z,((H++(Y,D,K)::(sb,F,du)::U).toArray.setIfInBounds (A1 H) z).eraseIdxIfInBounds (A1 H+1)=(H++z::U).toArray:=λz=>by simp[List.eraseIdx_append];intro;lia
 clear h h3 h4 hr;generalize L1.flatten=T at*;generalize L2.flatten++R=R at*;have hN:∀z,z∈A\/z∈B->z<X.N:=λz l=>by simpa using S.p.mem_iff.mp<|nO _ (by rcases l with h|h<;>simp[h])
 obtain⟨y,B',eB⟩:=List.exists_cons_of_ne_nil b1
 have hy:∀z∈B,X.le y z:=λz l=>by
  rw[eB]at V l;rcases mP.mp l with rfl|l
  .exact X.rf _
  exact(A8.mp V).1 z l
 refine oj ?_;dsimp only;rw[show(H++(Y,D,K)::(sb,F,du)::U).toArray[A1 H]?=z8 (Y,D,K) by simp,show(H++(Y,D,K)::(sb,F,du)::U).toArray[A1 H+1]?=z8 (sb,F,du) by simp];dsimp only;rw[ep];refine TR<|lD (x:=y) (by rw[eB];exact JU<|by lia)<|jS<|wZ S.k (λz h=>hN z<|.inl h) (hN y<|.inr<|by simp[eB]) P I (by lia) Z.symm (by have:=R9.mpr a1;lia) λk hk t1 t2=>?_;have S2:Rp X (H++(Y,D+F,K)::U).toArray (T++(A++(B++R))) (SortSt.mk' κ' (ar X<|T++(A++(B++R))) (H++(Y,D+F,K)::U).toArray g f'):=⟨rfl,S.k,S.f,rfl,S.p⟩
 have done:(∀a∈A,X.le a y)->Q At (SortSt.mk' κ' (ar X<|T++(A++(B++R))) (H++(Y,D+F,K)::U).toArray g f'):=λz=>fin _ (A++B) (by simpa using S2) (.refl _) (upA P V λa O b hb=>X.tr (z a O)<|hy b hb);rw[Z]at hk;obtain⟨v,E,rfl,rfl⟩:∃v E,A=v++E/\(A1 v)=k:=⟨A.take k,A.drop k,by simp,by simp;lia⟩
 have t1:∀z∈v,X.le z y:=λz l=>by simpa using t1 z (by simpa using l)
 have t2:∀z∈E,X.le y z:=λz l=>X.as _ _ (by simpa using t2 z<|by simpa using l);rw[nN]at Z hb;dsimp only;rcases yP E with e|⟨A3,x,e⟩
 .subst e;rw[hV<|by simp[Z]];exact gY<|done (by simpa using t1)
 rw[Cc]at e;have l1:0<(A1 E):=by simp[e]
 rw[iC<|by simp;lia];refine lD (x:=x) (by rw[e,show T++(v++(A3++[x])++(B++R))=T++((v++A3)++x::(B++R)) by simp];exact JU (by have:=lY dv e;simp at this ⊢;lia))<|jS<|wZ (T:=T++(v++E)) (R:=R) S.k (λz h=>hN z<|.inr h) (hN x<|.inl<|by simp[e]) V (by rw[<-oO]) (by simp;lia) cO.symm (by have:=R9.mpr b1;lia) λk2 aV t3 t4=>?_;rw[cO]at aV;obtain⟨I',G,rfl,rfl⟩:∃I' G,B=I'++G/\(A1 I')=k2:=⟨B.take k2,B.drop k2,by simp,by simp;lia⟩
 have v3:∀z∈I',X.le z x:=λz l=>X.as _ _ (by simpa using t3 z<|by simpa using l);have v4:∀z∈G,X.le x z:=λz l=>by simpa using t4 z (by simpa using l)
 have lx:∀a∈v++E,X.le a x:=by rw[e,<-oO]at P ⊢;exact ED X.tr P<|X.rf x
 cases I' with
 |nil=>exact gY<|done λa O=>X.tr (lx a O)<|v4 y (by simp[show G=y::B' from eB])
 |cons b I'=>
  obtain rfl:b=y:=(uz eB).1;refine iO (λc=>by simp at c) λ_=>?_;rw[Tj (A:=E) (T:=T++v) (R:=b::I'++G++R) (by simp) (by simp;lia)<|by simp;lia,Tj (A:=b::I') (T:=T++(v++E)) (R:=G++R) (by simp) (by simp;lia)<|by simp;lia]
  have W:∀out s,Rp X (H++(Y,D+F,K)::U).toArray (T++(v++E++(b::I'++G++R))) s->Rs X (E++b::I') out->Q (eG s).isNone (setArr s<|out.toList.zipIdx.foldl (λa x=>a.setIfInBounds (Y+A1 v+x.2) x.1)<|ee s):=λout s J ho=>by
   obtain⟨M,rfl,u,hp⟩:=ho;rw[J.f,J.a];refine fin _ (v++(M++G)) ⟨?_,J.k,J.f,J.q,fx ?_ J.p⟩ ?_ ?_
   .have:=NY (M.map X.it) ((E++b::I').map X.it) ((T++v).map X.it) ((G++R).map X.it) 0 (Y+A1 v) (by simp;lia) (by simpa using hp.length_eq.symm);simpa[ar]using this
   .simpa using(((hp.append_right<|G++R).append_left v).append_left T)
   .simpa using((hp.append_right G).append_left v)
   rw[qz]at P V;refine upA P.1 (upA u V.2.1 λa O c m=>?_) λa O c m=>?_
   .rcases nQ.mp (hp.mem_iff.mp O)with O|O
    .exact X.tr (lx a<|by simp[O]) (v4 c m)
    exact V.2.2 a O c m
   have m:c∈E\/c∈b::I'++G:=by
    rcases nQ.mp m with m|m
    .rcases nQ.mp (hp.mem_iff.mp m)with m|m
     .exact .inl m
     exact .inr (wY _ m)
    exact .inr (nO _ m)
   rcases m with m|m
   .exact P.2.2 a O c m
   exact X.tr (t1 a O) (hy c m)
  have hd:∀z∈E,X.le (b::I')[0] z:=t2;have top:∀z∈b::I',X.le z E[A1 E-1]:=λz l=>by subst e;simpa using v3 z l
  have l2:0<(b::I').length:=by simp
  have h3:∀z∈E,z<X.N:=λz l=>hN z<|.inl (by simp[l]);have h4:∀z∈b::I',z<X.N:=λz l=>hN z<|.inr<|wY _ l;have u1:=(qz.mp P).2.1;have u2:=(qz.mp V).1;exact iO (λc=>jS<|Xw S2 u1 u2 h3 h4 l1 l2 hd top λout s J ho=>uK<|oj<|gY<|W out s J ho) λc=>jS<|Xy S2 u1 u2 h3 h4 l1 l2 hd top λout s J ho=>uK<|oj<|gY<|W out s J ho
end
section
variable {X:Cs}{st:qR}{b:Array (Nat×Nat×Nat)}{A L:jc}
theorem Rn.mod{w:Nat}:∀{c:List (Nat×Nat×Nat)}{s:Nat}{a:List (List Nat)}(i:Nat),Rn X s a c->Rn X s a (c.modify i λx=>(x.1,x.2.1,w))
 |[],s,a,i,h=>by cases i<;>exact h
 |p::c,s,[],i,h=>h.elim
 |p::c,s,A::a,0,h=>h
 |p::c,s,A::a,i+1,h=>⟨h.1,h.2.1,h.2.2.1,h.2.2.2.1,Rn.mod i h.2.2.2.2⟩
theorem Rn.le:∀{c:List (Nat×Nat×Nat)}{s:Nat}{a:List (List Nat)},Rn X s a c->A1 c<=A1 a.flatten
 |[],s,a,h=>lq _
 |p::c,s,[],h=>h.elim
 |p::c,s,A::a,h=>by have:=Rn.le h.2.2.2.2;have:=R9.mpr h.2.2.1;simp at*;omega
theorem Rn.push{A:jc}{w:Nat}:∀{d:List (Nat×Nat×Nat)}{s:Nat}{c:List (List Nat)},Rn X s c d->A≠[]->A.Pairwise X.le->Rn X s (c++[A]) (d++[(s+A1 c.flatten,A1 A,w)])
 |[],s,[],h,a,u=>⟨rfl,rfl,a,u,trivial⟩
 |[],s,A::c,h,a,u=>h.elim
 |p::d,s,[],h,a,u=>h.elim
 |p::d,s,B::c,h,a,u=>⟨h.1,h.2.1,h.2.2.1,h.2.2.2.1,by simpa[wK]using Rn.push (w:=w) h.2.2.2.2 a u⟩
def Pj{Q:Unit->qR->Prop}(S:Rp X #[] L st)(h:∀E b L,Rp X b L E->L.Pairwise X.le->Q () E):wp X sortRuns' Q st:=by
 have I:(ee st).size=X.N:=by rw[S.a];simpa using S.p.length_eq
 have y:∀{b L st},Rp X b L st->A1 L=X.N:=λS=>by simpa using S.p.length_eq
 rw[sortRuns'_eq];refine oj ?_;rw[I];dsimp only;refine lW (λi c s=>∃b,∃g:List (List Nat),∃R,c=(U,A1 g.flatten)/\Rp X b (g.flatten++R) s/\Rn X 0 g b.toList/\i<=A1 g.flatten) (λc s=>c.1=U/\∃b g,Rp X b g.flatten s/\Rn X 0 g b.toList) ⟨#[],[],L,rfl,S,trivial,lq _⟩ ?_ ?_ ?_
 .rintro i c s t ⟨b,g,R,rfl,S,d,o⟩;have r:=y S;dsimp only;refine iO (λe=>?_) λe=>?_
  .obtain rfl:R=[]:=yQ (by simp at r e;omega);exact gY ⟨rfl,b,g,by simpa using S,d⟩
  obtain⟨x,R,rfl⟩:=rF (l:=R) (by simp at r e;omega);refine jS<|aeu S AT (by simp at r ⊢;omega) λA R s S a1 u M=>?_;apply Ly λn s=>∃A R,n=A1 A/\Rp X b (g.flatten++(A++R)) s/\A≠[]/\A.Pairwise X.le
  .intro F;have T:=R9.mpr a1;refine iO (λe=>?_) λe=>?_
   .refine sM (jS<|TV S AT AT T (by simp at r;omega) (by omega) u λA R s S o u=>iO (λc=>by simp at c) λ_=>?_);generalize J:min (X.N-A1 g.flatten) (minRun' X.N X.N 0)=n at o ⊢;exact F n s ⟨A,R,o.symm,S,by intro z;subst z;simp at o e;omega,u⟩
   exact F (A1 A) s ⟨A,R,rfl,S,a1,u⟩
  rintro _ s ⟨A,R,rfl,S,a1,u⟩;refine oj ?_;apply Sb λs=>∃b m,Rp X b (m.flatten++(A++R)) s/\Rn X 0 m b.toList/\(A1 m.flatten)=A1 g.flatten
  .intro F;rw[S.q]
   cases b.back? with
   |none=>exact F s ⟨b,g,S,d,rfl⟩
   |some z=>
    refine lW (λ_ c s=>c=(U,())/\∃b m,Rp X b (m.flatten++(A++R)) s/\Rn X 0 m b.toList/\(A1 m.flatten)=A1 g.flatten) (λc s=>c=(U,())/\∃b m,Rp X b (m.flatten++(A++R)) s/\Rn X 0 m b.toList/\(A1 m.flatten)=A1 g.flatten) ⟨rfl,b,g,S,d,rfl⟩ ?_ (λ_ _ h=>h) ?_
    .rintro j c s _ ⟨rfl,b,m,S,d,o⟩;refine oj ?_;rw[S.q]
     cases H:(if b.size>1 then b[b.size-2]? else U)with
     |none=>exact gY ⟨rfl,b,m,S,d,o⟩
     |some z=>
      refine iO (λ_=>gY ⟨rfl,b,m,S,d,o⟩) λ_=>jS<|Sa S d ?_ λs v w S d _ O=>iO (λc=>by simp at c) λ_=>gY ⟨rfl,v,w,S,d,O.trans o⟩;split at H
      .omega
      cases H
    rintro c s ⟨rfl,b,m,S,d,o⟩;exact uK<|F _ ⟨_,m,⟨S.a,S.k,S.f,rfl,S.p⟩,by rw[S.q,Array.toList_modify];exact d.mod _,o⟩
  rintro s ⟨b,m,S,d,o⟩;refine uK<|gY ⟨_,m++[A],R,?_,⟨by simpa using S.a,S.k,S.f,rfl,by simpa using S.p⟩,?_,?_⟩
  .rw[List.flatten_append,nN,o];simp
  .rw[S.q,dQ,<-o,<-Ca (A1 m.flatten)];exact d.push a1 u
  have:=R9.mpr a1;simp at*;omega
 .rintro c s ⟨b,g,R,rfl,S,d,o⟩;have r:=y S;obtain rfl:R=[]:=yQ (by simp at r o;omega);exact⟨rfl,b,g,by simpa using S,d⟩
 rintro⟨_,c⟩ s ⟨rfl,b,g,S,d⟩;have r:=y S;have G:=d.le;refine lW (λi c s=>c=(U,())/\∃b g,Rp X b g.flatten s/\Rn X 0 g b.toList/\(b.size<=1\/b.size+i<=X.N)) (λc s=>c=(U,())/\∃b g,Rp X b g.flatten s/\Rn X 0 g b.toList/\b.size<=1) ⟨rfl,b,g,S,d,.inr<|by rw[kU]at G;omega⟩ ?_ ?_ ?_
 .rintro i c s _ ⟨rfl,b,g,S,d,t⟩;refine oj ?_;rw[S.q];refine iO (λe=>gY ⟨rfl,b,g,S,d,e⟩) λe=>jS<|Sa (R:=[]) (by simpa using S) d ((λc:Bool=>show(if c=Y then b.size-2-1 else b.size-2)+1<b.size by split<;>omega) _) λs v w S d I _=>iO (λc=>by simp at c) λ_=>gY ⟨rfl,v,w,by simpa using S,d,.inr<|by omega⟩
 .rintro c s ⟨rfl,b,g,S,d,t⟩;exact⟨rfl,b,g,S,d,by omega⟩
 rintro c s ⟨rfl,b,g,S,d,t⟩;refine gY<|h s b _ S ?_;obtain⟨C'⟩:=b
 match C',g,d,t with
 |[],[],_,_=>exact .nil
 |[p],[A],d,_=>simpa using d.2.2.2.1
 |p::[],A::B::g,d,_=>exact d.2.2.2.2.elim
 |[],A::g,d,_=>exact d.elim
 |p::C',[],d,_=>exact d.elim
 |p::U'::C',g,d,t=>simp at t
end
end TS
namespace PX
open L2 PySem.SeqAt
open PySem.AutoSeq1 (wpAny_loadPart')
open PySem.MeetsSeq PySem.MeetsSeq2 PySem.MeetsSeq3
noncomputable def ly(op:ce)(i j:Int):Bool:=match op with
 |.Lt=>decide (i<j)|.LtE=>decide (i<=j)|.Gt=>decide (i>j)|_=>decide<|i>=j
def Bt(a:ce):Prop:=a=.Lt\/a=.LtE\/a=.Gt\/a=.GtE
def R7(op:ce)(A:ig)(s:gM)(y x:gU)(b:Bool):Prop:= ∀(a:iw)(w:ik)(E:iK)(Q:iK),Q (.bool b) s->aa (ag a w) A (richCompare op y x) Q E s
def ON(op:ce)(A:ig)(s:gM)(fin:Bool):List (gU×gU)->Bool->Prop
 |[],r=>r=fin
 |(y,x)::rest,r=>∃e,EqAt A s y x e/\(if e=Y then ON op A s fin rest r else R7 op A s y x r)
def DU{op:ce}{f:bc}(N:op=.Lt/\f=bc.«tuple.__lt__»\/op=.LtE/\f=bc.«tuple.__le__»)(l b:gJ)(items j:mS)(n E:Nat)(dd t:Option gJ)(T u:yF)(r:Bool):
  zx (f ⟨[.ref l,.ref b],[]⟩) (λA R s=>s.heap.get? l=J {cls:=.type "tuple",dict:=dd,data:=.seq items n,slots:=T}/\s.heap.get? b=J {cls:=.type "tuple",dict:=t,data:=.seq j E,slots:=u}/\
   ON op A.in1 s (ly op items.size j.size) (items.toList.zip j.toList) r/\R (.ok<|.ret<|.bool r) s):=by
 rcases N with⟨h1,rfl⟩|⟨h1,rfl⟩
 all_goals
  refine .of_wp λc w A R s h=>?_;obtain⟨p,g,d,q,os⟩:=s;obtain⟨B,v,a,h⟩:=h;have O:=AutoSeq1.sub_tuple_tuple
  wp_walk using rc B,rc v,wJ _ (λi b o=>b.1=U/\o=⟨p,g,d,q,os⟩/\ON op A.in1 ⟨p,g,d,q,os⟩ (ly op items.size j.size) i r) _
  case turn=>
   rintro⟨y,x⟩ i b o ⟨m,rfl,e,z,a⟩;refine gL<|z c w _ _ ?_
   cases e with
   |true=>
    simp at a
    wp_walk
    exact⟨rfl,rfl,a⟩
   |false=>
    simp at a;subst h1;have k:=a c w
    wp_walk using k
    exact⟨_,rfl,by simpa using h⟩
  case fin=>
   rintro⟨Q,L⟩ o ⟨m,rfl,a⟩;subst h1;simp only at m;subst m;have a:r=_:=a;rw[a]at h
   wp_walk
   exact⟨_,rfl,by simpa[o6,ly]using h⟩
  case h=>exact⟨rfl,rfl,a⟩
section
variable {A:ig}{s:gM}{l b:gJ}{items a:mS}{r:Bool}
def Md(z:op=.Lt\/op=.LtE)(y:s.heap.IsTuple l items)(v:s.heap.IsTuple b a)(k:A.units<aL)(m:ON op A.in1 s (ly op items.size a.size) (items.toList.zip a.toList) r):R7 op A s (.ref l) (.ref b) r:=λp w E Q h=>by
 obtain⟨⟨u,dd,i,q⟩,d,j,n,hd⟩:=id y;obtain⟨⟨B,f,data2,g⟩,e,t,o,c⟩:=id v;simp only at j hd t c;subst j hd t c;rcases z with rfl|rfl
 .exact K9 (op:=.Lt) ⟨_,d,rfl⟩ ⟨_,e,rfl⟩ PySem.F.slot_tuple_lt PySem.F.entry_tuple_lt (PySem.F.args_tuple_lt_2 _ _) (DU (.inl ⟨rfl,rfl⟩) l b items a n o dd f q g r) ⟨d,e,m,show dI r≠fk/\Q (.bool r) s from⟨(λx=>nomatch x),h⟩⟩ k
 exact K9 (op:=.LtE) ⟨_,d,rfl⟩ ⟨_,e,rfl⟩ PySem.F.slot_tuple_le PySem.F.entry_tuple_le (PySem.F.args_tuple_le_2 _ _) (DU (.inr ⟨rfl,rfl⟩) l b items a n o dd f q g r) ⟨d,e,m,show dI r≠fk/\Q (.bool r) s from⟨(λx=>nomatch x),h⟩⟩ k
end
mutual
noncomputable def nX(a:ce):D->D->Option Bool
 |.int i,e=>match e with|.int j=>J (ly a i j)|_=>U
 |.tup l,e=>match e with|.tup m=>if a=.Lt\/a=.LtE then nB a l m else U|_=>U
 |_,_=>U
noncomputable def nB(a:ce):List D->List D->Option Bool
 |[],m=>J<|ly a 0<|A1 m
 |x::l,e=>match e with|[]=>J (ly a ((x::l).length) 0)|y::m=>if D.R1 x y=Y then nB a l m else nX a x y
end
def qe(c:ce)(a b k:Int):ly c (a+k) (b+k)=ly c a b:=by
 cases c<;>simp[ly]
section
variable {X:Cx}{c:iN}{f:L2.St}{H:Hp}{s:gM}
def Eb(b:Bt op):R7 op A s (.int i t) (.int j u) (ly op i j):=λa w E Q h=>by
 rcases b with rfl|rfl|rfl|rfl
 .exact(sa h:aa (ag a w) A (au .Lt _ _) Q E s)
 .exact(sm h:aa (ag a w) A (au .LtE _ _) Q E s)
 .exact(sn h:aa (ag a w) A (au .Gt _ _) Q E s)
 exact(ss h:aa (ag a w) A (au .GtE _ _) Q E s)
def Me(ho:Bt op)(I:Inv X c f H s):∀(n:Nat)(d e:D)(v u:V)(a b:gU)(O B:SI)(A:ig)(r:Bool),jv X.K H O d v->jv X.K H B e u->RelV v a->RelV u b->d.dep<=n->e.dep<20000->A.units+n<aL->nX op d e=z8 r->R7 op A s a b r:=by
 intro n
 induction n with
 |zero=>
  intro d e v u a b O B A r hd T G J M Z hA g
  cases d with
  |int i=>
   cases e with
   |int j=>have:=iP hd;subst this;have:=iP T;subst this;obtain⟨t,rfl⟩:=G;obtain⟨t',rfl⟩:=J;simp only[nX]at g;rw[<-jZ g];exact Eb ho
   |_=>cases g
  |tup l=>rw[D.dep]at M;lia
  |_=>cases g
 |succ n ih=>
  intro d e v u a b O B A r hd T G J M Z hA g
  cases d with
  |int i=>
   cases e with
   |int j=>have:=iP hd;subst this;have:=iP T;subst this;obtain⟨t,rfl⟩:=G;obtain⟨t',rfl⟩:=J;simp only[nX]at g;rw[<-jZ g];exact Eb ho
   |_=>cases g
  |tup l=>
   cases e with
   |tup m=>
    simp only[nX]at g;split at g
    case isFalse=>cases g
    rename_i N;rw[D.dep]at M Z;obtain⟨p,E,rfl,q,z⟩:=lE hd;obtain⟨p2,L,rfl,q2,o⟩:=lE T;cases G;cases J;obtain⟨h,Q,pl,_⟩:=I.tuple q;obtain⟨w,C,f9,_⟩:=I.tuple q2;have R:A.in1.units=A.units+1:=rfl
    have key:∀(l m:List D)(E L:List V)(h w:je)(k:Int),D.Ms l+1<=n+1->D.Ms m<20000->YP X.K H O l E->YP X.K H B m L->Vals E h->Vals L w->nB op l m=z8 r->ON op A.in1 s (ly op (h.length+k)<|w.length+k) (h.zip w) r:=by
     intro l
     induction l with
     |nil=>
      intro m E L h w k F P z o Q C g;rw[YP]at z;subst z;cases Q;simp only[nB]at g;have e1:=o.length;have e2:=C.length;show r=_;rw[qe,<-jZ g]
      congr 1
      lia
     |cons x l U'=>
      intro m E L h w k F P z o Q C g;rw[YP]at z;obtain⟨vx,xr,rfl,g1,g2⟩:=z
      cases Q with
      |cons a1 Y'=>
       cases m with
       |nil=>
        rw[YP]at o;subst o;cases C;simp only[nB]at g;have e1:=g2.length;have e2:=Y'.length;rw[f8];show r=_;rw[qe,<-jZ g]
        congr 1
        simp;lia
       |cons y m=>
        rw[YP]at o;obtain⟨vy,yr,rfl,S,g4⟩:=o
        cases C with
        |cons b1 b2=>
         simp only[nB]at g;rw[D.Ms]at F P;rw[uy];refine⟨D.R1 x y,Ad I n x y vx vy _ _ O B A.in1 (.inl g1) (.inl S) a1 b1 (by lia) (by lia) (by rw[R];lia),?_⟩
         cases W:D.R1 x y with
         |true=>
          rw[W,hV AT]at g;rw[hV AT];have:=U' m xr yr _ _ (k+1) (by lia) (by lia) g2 g4 Y' b2 g;simp only[mQ];have e:∀a:Nat,(((a+1:Nat):Int)+k)=(a:Int)+(k+1):=λa=>by lia
          rw[e,e];exact this
         |false=>rw[W,iC ky]at g;rw[iC ky];exact ih x y vx vy _ _ O B A.in1 r (.inl g1) (.inl S) a1 b1 (by lia) (by lia) (by rw[R];lia) g
    have:=key l m E L h w 0 (by lia) (by lia) z o Q C g;refine Md N pl f9 (by lia) ?_;simpa using this
   |_=>cases g
  |_=>cases g
def qL(a:ce)(d e:D):Option (D×Bool):=if d.dep<=50/\e.dep<=50 then(nX a d e).map λb=>(.bl b,C)else U
def Qy(b:Bt op)(l:X.A.units+60<aL):B0 X (au op) (rD X.K<|qL op):=by
 intro c s f H x y v u Q T j k h;obtain⟨O,d,e,z,np,h1,g,a,G⟩:=h;unfold qL at a;split at a
 .rename_i hd;obtain⟨r,i,rfl⟩:=iT a;have:=Me b T 50 d e x y v u O O X.A r h1 g j k hd.1 (by lia) (by lia) i X.prog X.w X.xe (EP X c f Q) ⟨.bl r,H,T,rfl,G.bl⟩;rcases b with rfl|rfl|rfl|rfl<;>exact this
 cases a
end
open TS
section
variable {b:iw}{w:ik}{A:ig}{E:iK}{s:gM}
noncomputable def oV(h:ip)(a:gJ)(c:je):Heap:=((h.update a<|aM λ_=> #[]).push<|bi "tuple" c.toArray 0).push<|bi "list" #[] 0
noncomputable def NC(a:je)(i:Nat):Keyed:=(a.getD i ao,a.getD i ao)
def uh{a:gJ}{c:je}{n:Nat}{P:r0->gM->Prop}{κ:j5}{lt:Nat->Nat->Bool}(r:s.heap.get? a=z8 (bi "list" c.toArray n))(z:(A1 c)<=sizeLine)(as:∀i j,lt i j=Y->lt j i=AC)(J:∀{i j k},lt j i=AC->lt k j=AC->lt k i=AC)
  (hk:2<=A1 c->aa (ag b w) A (keyKind' c.toArray) (λg d=>d={s with heap:=oV s.heap a c}/\g=κ) (λ_ _=>False) {s with heap:=oV s.heap a c})
  (ask:2<=A1 c->Ask (ag b w) A (λd=>d={s with heap:=oV s.heap a c}) (NC c) κ (A1 c) lt)
  (h:∀p:List Nat,p.Perm (ap<|A1 c)->p.Pairwise (λi j=>lt j i=AC)->P (.done<|.ret .none) {s with heap:=(oV s.heap a c).update a (aM λ_=>(p.map λi=>c.getD i ao).toArray)}):
  aa (ag b w) A (bc.«list.sort» ⟨[.ref a],[]⟩) P E s:=by
 rw[list_sort_plain];have M:a<s.heap.objs.size:=jN r;refine gL<|FA r AT<|gL<|ux r AT ?_ (by rw[jY];exact z)<|lq _;obtain⟨u,B⟩:∃u,(s.heap.update a<|aM λ_=>(#[]:Array gU)).get? a=z8 (bi "list" #[] u):=⟨_,wI r λ_=> #[]⟩
 refine gL<|yO B AT<|gL<|FN ?_ (by show (A1 c)<=_;exact z);refine gL<|B9 ?_<|lq _;refine lU ?_;have q:(oV s.heap a c).get? a=z8 (bi "list" #[] u):=jz _ (jz _ B);show aa (ag b w) A _ P E {s with heap:=oV s.heap a c};dsimp only;by_cases l:c.toArray.size<2
 .rw[hV l,hV l];refine gL<|hJ ?_;rw[FF];refine gL<|hJ ?_;dsimp only;refine gL<|yO q AT<|gL<|ux q AT ?_ (lq _) ?_
  .simp only[wR,jX];refine hJ ?_;have t:(A1 c)<2:=by simpa using l
   have:=h (ap<|A1 c) (rC _) (by rw[OY];intro i j m O N;simp at m O;lia)
   have e:((c.toArray.zip c.toArray).map (·.2))=((ap<|A1 c).map λi=>c.getD i ao).toArray:=by
    apply tu
    .simp
    intro i h1 I;have m:i<(A1 c):=by simpa using h1
    simp[m]
   rw[e];exact this
  rw[kS,kA];simp;lia
 rw[iC l,iC l];have t:2<=(A1 c):=by simpa using l
 refine gL<|mz (hk t) (λg d y=>?_) λ_ _ x=>x.elim;obtain⟨rfl,rfl⟩:=y;refine gL (mz (Pj (X:=⟨_,A,E,λd=>d={s with heap:=oV s.heap a c},NC c,lt,g,A1 c,as,J,ask t⟩) (L:=ap<|A1 c) ⟨?_,rfl,rfl,rfl,.refl _⟩ (Q:=λ_ o=>∃p,(ee o).map (·.2)=(p.map λi=>c.getD i ao).toArray/\eG o=U/\p.Perm (ap<|A1 c)/\p.Pairwise λi j=>lt j i=AC) (λo _ p R v=>⟨p,?_,R.f,R.p,v⟩) _ rfl) ?_ λ_ _ e=>e)
 .show c.toArray.zip c.toArray=_;apply tu
  .simp
  intro i h1 I;have m:i<(A1 c):=by simpa using h1
  simp[NC,m]
 .rw[R.a];simp[NC]
 rintro⟨⟨⟩,o⟩ d ⟨rfl,C,out,G,H,v⟩;dsimp only;have T:(A1 C)=(A1 c):=by simpa using H.length_eq
 refine gL<|yO q AT<|gL<|ux q AT ?_ (lq _) ?_
 .rw[G];simp;rw[out];exact hJ<|h C H v
 rw[out,jY,jf,T];lia
end
mutual
noncomputable def cT:D->D->Ordering
 |.int i,e=>match e with|.int j=>if i<j then .lt else if i=j then .eq else .gt|_=>.lt
 |.tup l,e=>match e with|.int _=>.gt|.tup m=>cL l m|_=>.lt
 |_,e=>match e with|.int _=>.gt|.tup _=>.gt|_=>.eq
noncomputable def cL:List D->List D->Ordering
 |[],m=>match m with|[]=>.eq|_::_=>.lt
 |x::l,m=>match m with|[]=>.gt|y::m=>match cT x y with
  |.lt=>.lt
  |.gt=>.gt
  |.eq=>cL l m
end
mutual
theorem IY:∀x:D,cT x x=.eq
 |.int i=>by simp[cT]
 |.tup l=>by simp only[cT];exact I0 l
 |.T2=>by simp[cT]
 |.bl _=>by simp[cT]
 |.str _=>by simp[cT]
 |.lst _=>by simp[cT]
 |.Sr _ _ _=>by simp[cT]
theorem I0:∀l:List D,cL l l=.eq
 |[]=>by simp[cL]
 |x::l=>by simp only[cL,IY x];exact I0 l
end
mutual
theorem wo:∀x y:D,cT y x=(cT x y).swap
 |.int i,.int j=>by
  simp only[cT,cT];by_cases h1:i<j
  .rw[hV h1,iC<|by lia,iC<|by lia];rfl
  rw[iC h1];by_cases a:i=j
  .rw[hV a,iC<|by lia,hV a.symm];rfl
  rw[iC a,hV<|by lia];rfl
 |.tup l,.tup m=>by simp only[cT,cT];exact IZ l m
 |.int _,.tup _=>by simp[cT]
 |.int _,.T2=>by simp[cT]
 |.int _,.bl _=>by simp[cT]
 |.int _,.str _=>by simp[cT]
 |.int _,.lst _=>by simp[cT]
 |.int _,.Sr _ _ _=>by simp[cT]
 |.tup _,.int _=>by simp[cT]
 |.tup _,.T2=>by simp[cT]
 |.tup _,.bl _=>by simp[cT]
 |.tup _,.str _=>by simp[cT]
 |.tup _,.lst _=>by simp[cT]
 |.tup _,.Sr _ _ _=>by simp[cT]
 |.T2,y=>by cases y<;>simp[cT]
 |.bl _,y=>by cases y<;>simp[cT]
 |.str _,y=>by cases y<;>simp[cT]
 |.lst _,y=>by cases y<;>simp[cT]
 |.Sr _ _ _,y=>by cases y<;>simp[cT]
theorem IZ:∀l m:List D,cL m l=(cL l m).swap
 |[],[]=>by simp[cL]
 |[],_::_=>by simp[cL]
 |_::_,[]=>by simp[cL]
 |x::l,y::m=>by
  simp only[cL,cL,wo x y];cases h:cT x y<;>simp[Ordering.swap]
  exact IZ l m
end
def Nl(h1:cT x y≠ .gt)(a:cT y x≠ .gt):cT x y=.eq:=by
 rw[wo x y]at a
 cases h:cT x y with
 |lt=>rw[h]at a;exact absurd I a
 |eq=>rfl
 |gt=>exact absurd h h1
mutual
theorem wm:∀x y z:D,cT x y≠ .gt->cT y z≠ .gt->cT x z≠ .gt
 |.int i,y,z,h1,d=>by
  cases z with
  |int k=>
   cases y with
   |int j=>
    simp only[cT]at h1 d ⊢
    have a:i<=j:=by
     by_cases a:i<j
     .lia
     rw[iC a]at h1;by_cases b:i=j
     .lia
     rw[iC b]at h1;exact absurd I h1
    have b:j<=k:=by
     by_cases a:j<k
     .lia
     rw[iC a]at d;by_cases b:j=k
     .lia
     rw[iC b]at d;exact absurd I d
    by_cases c:i<k
    .rw[hV c];simp
    rw[iC c,hV<|by lia];simp
   |_=>simp[cT]at d
  |_=>simp[cT]
 |.tup l,y,z,h1,d=>by
  cases y with
  |int j=>simp[cT]at h1
  |tup m=>
   cases z with
   |int k=>simp[cT]at d
   |tup n=>simp only[cT]at h1 d ⊢;exact E5 l m n h1 d
   |_=>simp[cT]
  |_=>cases z<;>simp_all [cT]
 |.T2,y,z,h1,d=>by cases y<;>cases z<;>simp_all [cT]
 |.bl _,y,z,h1,d=>by cases y<;>cases z<;>simp_all [cT]
 |.str _,y,z,h1,d=>by cases y<;>cases z<;>simp_all [cT]
 |.lst _,y,z,h1,d=>by cases y<;>cases z<;>simp_all [cT]
 |.Sr _ _ _,y,z,h1,d=>by cases y<;>cases z<;>simp_all [cT]
 termination_by x y z=>sizeOf x+sizeOf y+sizeOf z
theorem E5:∀l m n:List D,cL l m≠ .gt->cL m n≠ .gt->cL l n≠ .gt
 |[],m,n,_,_=>by cases n<;>simp[cL]
 |x::l,[],n,h1,_=>by simp[cL]at h1
 |x::l,y::m,[],_,a=>by simp[cL]at a
 |x::l,y::m,z::n,h1,a=>by
  have a1:cT x y≠ .gt:=λh=>by simp only[cL,h]at h1;exact h1 I
  have c:cT y z≠ .gt:=λh=>by simp only[cL,h]at a;exact a I
  have g:=wm x y z a1 c;simp only[cL]
  cases b:cT x z with
  |lt=>simp
  |gt=>exact absurd b g
  |eq=>
   have f:cT z x≠ .gt:=by rw[wo x z,b];simp[Ordering.swap]
   have d:cT x y=.eq:=Nl a1<|wm y z x c f;have e:cT y z=.eq:=Nl c<|wm z x y f a1;simp only[cL,d]at h1;simp only[cL,e]at a;exact E5 l m n h1 a
 termination_by l m n=>sizeOf l+sizeOf m+sizeOf n
end
def CL(x y:D):Bool:=cT x y== .lt
def OU:CL x y=Y↔cT x y=.lt:=by simp[CL]
def xu:CL x y=C↔cT x y≠ .lt:=by simp[CL]
def OV:CL y x=C↔cT x y≠ .gt:=by rw[xu,wo x y];cases cT x y<;>simp
def V8(x y:D)(h:CL x y=Y):CL y x=C:=by rw[OV,OU.mp h];simp
def XB(h1:CL y x=C)(a:CL z y=C):CL z x=C:=OV.mpr<|wm _ _ _ (OV.mp h1) (OV.mp a)
mutual
noncomputable def D.pr:D->Bool
 |.int _=>Y
 |.tup l=>D.GS l
 |_=>C
noncomputable def D.GS:List D->Bool
 |[]=>Y
 |x::l=>D.pr x&&D.GS l
end
mutual
theorem Hc:∀x y:D,D.pr x=Y->D.pr y=Y->D.R1 x y=(cT x y== .eq)
 |.int i,.int j,_,_=>by
  simp only[D.R1,cT];by_cases h:i=j
  .subst h;simp
  rw[iC h];by_cases a:i<j<;>simp[h,a]
 |.int _,.tup _,_,_=>by simp[D.R1,cT]
 |.tup _,.int _,_,_=>by simp[D.R1,cT]
 |.tup l,.tup m,h1,a=>by simp only[D.R1,cT];rw[D.pr]at h1 a;exact IJ l m h1 a
 |.T2,_,h,_=>by simp[D.pr]at h
 |.bl _,_,h,_=>by simp[D.pr]at h
 |.str _,_,h,_=>by simp[D.pr]at h
 |.lst _,_,h,_=>by simp[D.pr]at h
 |.Sr _ _ _,_,h,_=>by simp[D.pr]at h
 |_,.T2,_,h=>by simp[D.pr]at h
 |_,.bl _,_,h=>by simp[D.pr]at h
 |_,.str _,_,h=>by simp[D.pr]at h
 |_,.lst _,_,h=>by simp[D.pr]at h
 |_,.Sr _ _ _,_,h=>by simp[D.pr]at h
theorem IJ:∀l m:List D,D.GS l=Y->D.GS m=Y->D.B4 l m=(cL l m== .eq)
 |[],[],_,_=>by simp[D.B4,cL]
 |[],_::_,_,_=>by simp[D.B4,cL]
 |_::_,[],_,_=>by simp[D.B4,cL]
 |x::l,y::m,h1,a=>by rw[D.GS,kX]at h1 a;simp only[D.B4,cL];rw[Hc x y h1.1 a.1,IJ l m h1.2 a.2];cases cT x y<;>simp
end
mutual
theorem sJ:∀x y:D,D.pr x=Y->D.pr y=Y->cT x y=.eq->x=y
 |.int i,.int j,_,_,h=>by
  simp only[cT]at h;by_cases h1:i<j
  .rw[hV h1]at h;cases h
  rw[iC h1]at h;by_cases c:i=j
  .rw[c]
  rw[iC c]at h;cases h
 |.tup l,.tup m,a,b,h=>by simp only[cT]at h;rw[D.pr]at a b;rw[E6 l m a b h]
 |.int _,.tup _,_,_,h=>by simp[cT]at h
 |.tup _,.int _,_,_,h=>by simp[cT]at h
 |.T2,_,a,_,_=>by simp[D.pr]at a
 |.bl _,_,a,_,_=>by simp[D.pr]at a
 |.str _,_,a,_,_=>by simp[D.pr]at a
 |.lst _,_,a,_,_=>by simp[D.pr]at a
 |.Sr _ _ _,_,a,_,_=>by simp[D.pr]at a
 |_,.T2,_,a,_=>by simp[D.pr]at a
 |_,.bl _,_,a,_=>by simp[D.pr]at a
 |_,.str _,_,a,_=>by simp[D.pr]at a
 |_,.lst _,_,a,_=>by simp[D.pr]at a
 |_,.Sr _ _ _,_,a,_=>by simp[D.pr]at a
theorem E6:∀l m:List D,D.GS l=Y->D.GS m=Y->cL l m=.eq->l=m
 |[],[],_,_,_=>rfl
 |[],_::_,_,_,h=>by simp[cL]at h
 |_::_,[],_,_,h=>by simp[cL]at h
 |x::l,y::m,a,b,h=>by
  rw[D.GS,kX]at a b;simp only[cL]at h
  cases e:cT x y with
  |eq=>rw[e]at h;rw[sJ x y a.1 b.1 e,E6 l m a.2 b.2 h]
  |lt=>rw[e]at h;cases h
  |gt=>rw[e]at h;cases h
end
mutual
theorem yE:∀x y:D,D.pr x=Y->D.pr y=Y->∀b,nX .Lt x y=J b->b=CL x y
 |.int i,.int j,_,_,b,h=>by
  simp only[nX]at h;rw[<-jZ h,CL];simp only[cT,ly];by_cases h1:i<j
  .simp[h1]
  rw[iC h1];by_cases a:i=j<;>simp[h1,a]
 |.int _,.tup _,_,_,b,h=>by simp[nX]at h
 |.tup _,.int _,_,_,b,h=>by simp[nX]at h
 |.tup l,.tup m,h1,a,b,h=>by simp only[nX]at h;rw[hV<|.inl trivial]at h;rw[D.pr]at h1 a;rw[CL];simp only[cT];exact IT l m h1 a b h
 |.T2,_,h,_,_,_=>by simp[D.pr]at h
 |.bl _,_,h,_,_,_=>by simp[D.pr]at h
 |.str _,_,h,_,_,_=>by simp[D.pr]at h
 |.lst _,_,h,_,_,_=>by simp[D.pr]at h
 |_,.T2,_,h,_,_=>by simp[D.pr]at h
 |_,.bl _,_,h,_,_=>by simp[D.pr]at h
 |_,.str _,_,h,_,_=>by simp[D.pr]at h
 |_,.lst _,_,h,_,_=>by simp[D.pr]at h
theorem IT:∀l m:List D,D.GS l=Y->D.GS m=Y->∀b,nB .Lt l m=J b->b=(cL l m== .lt)
 |[],[],_,_,b,h=>by simp only[nB]at h;rw[<-jZ h];simp[ly,cL]
 |[],_::_,_,_,b,h=>by simp only[nB]at h;rw[<-jZ h];simp[ly,cL]<;>lia
 |_::_,[],_,_,b,h=>by simp only[nB]at h;rw[<-jZ h];simp[ly,cL]<;>lia
 |x::l,y::m,h1,a,b,h=>by
  rw[D.GS,kX]at h1 a;simp only[nB]at h;rw[Hc x y h1.1 a.1]at h;simp only[cL]
  cases c:cT x y with
  |eq=>rw[c]at h;simp at h;exact IT l m h1.2 a.2 b h
  |lt=>rw[c]at h;simp at h;have:=yE x y h1.1 a.1 b h;rw[this,CL,c]
  |gt=>rw[c]at h;simp at h;have:=yE x y h1.1 a.1 b h;rw[this,CL,c]
end
section
variable {a:Type}(lt:a->a->Bool)
noncomputable def C7(x:a):List a->List a
 |[]=>[x]
 |y::l=>if lt y x=Y then y::C7 x l else x::y::l
def mx:List a->List a
 |[]=>[]
 |x::l=>C7 lt x<|mx l
theorem tx(x:a):∀l:List a,(C7 lt x l).Perm (x::l)
 |[]=>rC _
 |y::l=>by
  rw[C7];split
  .exact((tx x l).cons y).trans (fH x y l)
  exact rC _
theorem jL:∀l:List a,(mx lt l).Perm l
 |[]=>rC _
 |x::l=>(tx lt x _).trans<|(jL l).cons x
end
def NF{x:D}:∀{l:List D},(l.Pairwise λx y=>CL y x=C)->(C7 CL x l).Pairwise λx y=>CL y x=C:=by
 intro d
 induction d with
 |nil=>intro _;exact La _ _
 |cons y l c=>
  intro h;have h:=A8.mp h;rw[C7]
  cases b:CL y x
  .refine A8.mpr ⟨λz a=>?_,A8.mpr h⟩;rcases mP.mp a with rfl|a
   .exact b
   exact XB b (h.1 z a)
  refine A8.mpr ⟨λz a=>?_,c h.2⟩;rcases mP.mp ((tx CL x l).mem_iff.mp a)with rfl|a
  .exact V8 _ _ b
  exact h.1 z a
theorem mT:∀l:List D,(mx CL l).Pairwise λx y=>CL y x=C
 |[]=>bX
 |x::l=>NF<|mT l
def Kv{l m:List D}(h:∀x∈m,D.pr x=Y)(a:l.Perm m)(c:l.Pairwise λx y=>CL y x=C):l=mx CL m:=
 xx (λx y d e h1 b=>sJ x y (h x<|a.mem_iff.mp d) (h y<|(jL CL m).mem_iff.mp e)<|Nl (OV.mp h1)<|OV.mp b) c (mT m) (a.trans (jL CL m).symm)
def adK{a:List D}{p:jc}(pr:∀x∈a,D.pr x=Y)(d:p.Perm (ap<|A1 a))(f:p.Pairwise λi j=>CL (a.getD j .T2) (a.getD i .T2)=C):p.map (λi=>a.getD i .T2)=mx CL a:=by
 have e:(ap<|A1 a).map (λi=>a.getD i .T2)=a:=by apply uE;intro i;by_cases c:i<A1 a<;>simp[c]
 have b:=d.map λi=>a.getD i .T2;rw[e]at b;exact Kv pr b<|nD.mpr f
noncomputable def kP:D->Option Nat
 |.int _=>J 0
 |.tup (.int _::_)=>J 1
 |.tup (.tup _::_)=>J 2
 |_=>U
noncomputable def IA:Nat->j5
 |0=>u6
 |1=>xc Y
 |_=>xc C
structure Dq(k:Nat)(l:List D):Prop where
 hd:∀x∈l,kP x=z8 k
 pr:∀x∈l,D.pr x=At
 dp:∀x∈l,x.dep<=50
 cm:∀x∈l,∀y∈l,(nX .Lt x y).isSome=At
def lF(l:List D):Bool:=A1 l<=1||match l with
 |[]=>Y
 |x::_=>(kP x).isSome&&(l.all λy=>kP y==kP x&&D.pr y&&decide (y.dep<=50))&&l.all λy=>l.all λz=>(nX .Lt y z).isSome
def Bc(h:lF l=Y):(A1 l)<=1\/∃k,Dq k l:=by
 unfold lF at h;rw[uw]at h;rcases h with h|h
 .left;simpa using h
 right
 cases l with
 |nil=>exact⟨0,λx a=>absurd a rg,λx a=>absurd a rg,λx a=>absurd a rg,λx a=>absurd a rg⟩
 |cons x m=>simp only[kX,kf,oM]at h;obtain⟨⟨h1,c⟩,d⟩:=h;obtain⟨k,hk⟩:=Kx.mp h1;refine⟨k,λy b=>?_,λy b=>(c y b).1.2,λy b=>(c y b).2,λy b z e=>d y b z e⟩;have:=(c y b).1.1;rw[hk]at this;simpa using this
section
variable {X:Cx}{d:iN}{f:L2.St}{H:Hp}{s:gM}
def sO(v:Vals xs a)(b:i<a.length):RelV (xs.getD i .T2) (a.getD i ao):=by
 have e:=v.length;have h:xs[i]?=J xs[i]:=jk (by omega);obtain⟨w,c,j⟩:=v.get h;have h1:xs.getD i .T2=xs[i]:=by simp[show i<xs.length by omega]
 have g:a.getD i ao=w:=by rw[jk b]at c;have:=jZ c;simp[b,this]
 rw[h1,g];exact j
def sY(r:YP X.K H O ds xs)(a:i<ds.length):Rep X.K H O (ds.getD i .T2) (xs.getD i .T2):=by
 have e:=r.length;have hd:ds[i]?=J ds[i]:=jk a;obtain⟨v,b,g⟩:=r.get hd;have h1:ds.getD i .T2=ds[i]:=by simp[a]
 have c:xs.getD i .T2=v:=by rw[jk<|by lia]at b;have:=jZ b;simp[show i<xs.length by lia,this]
 rw[h1,c];exact g
def zH{ds:List D}{i:Nat}(a:i<A1 ds):ds.getD i .T2∈ds:=by simp[a]
theorem EG(I:Inv X d f H s){A:ig}{b:Bool}{O z:SI}(hA:A.units+60<aL){r:Bool}{Q:qV}(n:Q r s):∀(l m:List D)(u v:List V)(g o:je)(k:Int)(i:Nat),D.Ms l<=50->D.Ms m<=50->
  ((b&&i==0)=At->∀x y l' m',l=x::l'->m=y::m'->(∃a,x=.int a)/\∃c,y=.int c)->YP X.K H O l u->YP X.K H z m v->Vals u g->Vals v o->nB .Lt l m=J r->
  ∀fin:Bool,fin=ly .Lt (g.length+k) (o.length+k)->PySem.W.KatLex X.prog X.w A b fin Q (g.zip o) i s
 |[],m,u,v,g,o,k,i,_,_,_,p,q,v1,v2,j,fin,hf=>by
  rw[YP]at p;subst p;cases v1;simp only[nB]at j;have U':=q.length;have Y:=v2.length;show Q fin s;rw[hf,qe];rw[<-jZ j]at n;have:ly .Lt ((([]:List gU).length:Nat):Int) (o.length:Int)=ly .Lt 0 (m.length:Int):=by congr 1;lia
  rw[this];exact n
 |x::l,[],u,v,g,o,k,i,_,_,_,p,q,v1,v2,j,fin,hf=>by
  rw[YP]at q;subst q;cases v2;simp only[nB]at j;have U':=p.length;have Y:=v1.length;rw[f8];show Q fin s;rw[hf,qe];rw[<-jZ j]at n;have:ly .Lt (g.length:Int) ((([]:List gU).length:Nat):Int)=ly .Lt (((x::l).length:Nat):Int) 0:=by congr 1;lia
  rw[this];exact n
 |x::l,y::m,u,v,g,o,k,i,J',N,hb,p,q,v1,v2,j,fin,hf=>by
  rw[YP]at p q;obtain⟨L,R,rfl,g1,g2⟩:=p;obtain⟨T,S,rfl,C,P⟩:=q
  cases v1 with
  |cons a1 G=>
   cases v2 with
   |cons B M=>
    simp only[nB]at j;rw[D.Ms]at J' N;rw[uy];refine PySem.W.kat_cons<|Ad I 50 x y L T _ _ O z A (.inl g1) (.inl C) a1 B (by lia) (by lia) (by lia) X.prog X.w _ _ ?_
    cases E:D.R1 x y with
    |true=>
     rw[E,hV AT]at j;refine PySem.W.kat_yes<|EG I hA n l m R S _ _ (k+1) (i+1) (by lia) (by lia) (λh=>by simp at h) g2 P G M j fin ?_;rw[hf];simp only[mQ];have e:∀a:Nat,(((a+1:Nat):Int)+k)=(a:Int)+(k+1):=λa=>by lia
     rw[e,e]
    |false=>
     rw[E,iC ky]at j;refine PySem.W.kat_no ?_
     cases F:(b&&i==0)with
     |true=>obtain⟨⟨a,rfl⟩,c,rfl⟩:=hb F x y l m AT AT;have:=g1.int;subst this;have:=C.int;subst this;obtain⟨t,rfl⟩:=a1;obtain⟨Z,rfl⟩:=B;simp only[nX]at j;rw[<-jZ j]at n;exact oneLt_int n
     |false=>exact PySem.W.kat_one _ _ (Me (.inl AT) I 50 x y L T _ _ O z A r (.inl g1) (.inl C) a1 B (by lia) (by lia) (by lia) j X.prog X.w _ _ n)
def Za(I:Inv X d f H s){O:SI}{u:List D}{N:List V}{e:je}{A:ig}(hA:A.units+60<aL)(rr:YP X.K H O u N)(v:Vals N e){k:Nat}(B:Dq k u):
  Ask (ag X.prog X.w) A (λT=>T=s) (NC e) (IA k) e.length (λi j=>CL (u.getD i .T2)<|u.getD j .T2):=by
 intro i j hi hj T q9 E';subst q9;have e1:=rr.length;have e2:=v.length;have J:u.getD i .T2∈u:=zH (by lia);have M:u.getD j .T2∈u:=zH (by lia);have ri:=sY rr (i:=i) (by lia);have rj:=sY rr (i:=j) (by lia);have vi:=sO v hi;have vj:=sO v hj;obtain⟨b,E⟩:=Kx.mp<|B.cm _ J _ M;have h9:=yE _ _ (B.pr _ J) (B.pr _ M) b E;have r:=B.hd _ J;have g:=B.hd _ M;have di:=B.dp _ J;have dj:=B.dp _ M;show aa _ _ (u8 (IA k) (e.getD i ao)<|e.getD j ao) _ _ _;dsimp only;rw[<-h9];generalize u.getD i .T2=x at*;generalize u.getD j .T2=y at*;generalize N.getD i .T2=vx at*;generalize N.getD j .T2=vy at*;generalize e.getD i ao=a at*;generalize e.getD j ao=c at*
 have C:∀(l m:List D)(G:Bool),x=.tup l->y=.tup m->(G=At->∀x y Z m',l=x::Z->m=y::m'->(∃a,x=.int a)/\∃c,y=.int c)->aa (ag X.prog X.w) A (u8 (xc G) a c) (λU R=>R=T/\U=b) E' T:=λl m G F P hh=>by subst F P;obtain⟨p,us,rfl,q,r1⟩:=ri.tup;obtain⟨p2,ws,rfl,q2,r2⟩:=rj.tup;cases vi;cases vj;obtain⟨S,w1,⟨o,ho,hc,n,hd⟩,_⟩:=I.tuple q.sq;obtain⟨L,w2,⟨o2,o9,u9,n2,Y⟩,_⟩:=I.tuple q2.sq;simp only[nX]at E;rw[hV<|.inl trivial]at E;rw[D.dep]at di dj;refine PySem.W.kat_lt ho hd o9 Y ?_;have:=EG I (b:=G) hA (Q:=λU R=>R=T/\U=b) ⟨rfl,rfl⟩ l m us ws S L 0 0 (by lia) (by lia) (λh=>hh<|by simpa using h) r1 r2 w1 w2 E (decide<|S.toArray.size<L.toArray.size) (by simp[ly]);simpa using this
 match k,r,g with
 |0,r,g=>
  cases x with
  |int ix=>
   cases y with
   |int iy=>have:=ri.int;subst this;have:=rj.int;subst this;obtain⟨t,rfl⟩:=vi;obtain⟨t',rfl⟩:=vj;simp only[nX]at E;rw[<-jZ E];show aa _ _ (u8 u6 _ _) _ _ _;rw[keyLt'_oneType];exact oneLt_int ⟨rfl,rfl⟩
   |tup m=>cases m with
    |nil=>simp[kP]at g
    |cons z m=>cases z<;>simp[kP]at g
   |_=>simp[kP]at g
  |tup m=>cases m with
   |nil=>simp[kP]at r
   |cons z m=>cases z<;>simp[kP]at r
  |_=>simp[kP]at r
 |1,r,g=>
  cases x with
  |tup l=>
   cases y with
   |tup m=>
    refine C l m At AT AT λ_ x y Z m' F P=>?_;subst F P;refine⟨?_,?_⟩
    .cases x with
     |int a=>exact⟨a,rfl⟩
     |_=>simp[kP]at r
    cases y with
    |int a=>exact⟨a,rfl⟩
    |_=>simp[kP]at g
   |_=>simp[kP]at g
  |_=>simp[kP]at r
 |(n+2),r,g=>
  cases x with
  |tup l=>
   cases y with
   |tup m=>exact C l m AC AT AT λh=>absurd h ky
   |_=>simp[kP]at g
  |_=>simp[kP]at r
end
open PySem.W
section
variable {X:Cx}{c:iN}{y:L2.St}{H:Hp}{s:gM}
def EN(I:Inv X c y H s){O:SI}{T:gU}(P:D->Prop)(t:∀x v u,P x->Rep X.K H O x v->RelV v u->Looks (ag X.prog X.w) s.heap (tz u) T):∀{ds:List D}{b:List V}{a:je},YP X.K H O ds b->Vals b a->
  (∀d∈ds,∃x l,d=.tup (x::l)/\P x)->∃fs,KatTups s.heap a fs/\(A1 fs)=A1 a/\∀f∈fs,Looks (ag X.prog X.w) s.heap (tz f) T:=by
 intro E
 induction E with
 |nil=>intro b a r v _;rw[YP]at r;subst r;cases v;exact⟨[],KatTups.nil,rfl,λf A=>absurd A rg⟩
 |cons d ds C'=>
  intro b a r v h;rw[YP]at r;obtain⟨W,Z,rfl,g1,g2⟩:=r
  cases v with
  |cons a1 j=>
   obtain⟨fs,L,Q,G⟩:=C' g2 j λd hd=>h d<|iY _ hd;obtain⟨x,l,rfl,J⟩:=h d jF;obtain⟨p,S,rfl,q,i⟩:=g1.tup;cases a1;obtain⟨Y,N,⟨o,B,z,n,hd⟩,_⟩:=I.tuple q.sq;rw[YP]at i;obtain⟨M,yr,rfl,m,R⟩:=i
   cases N with
   |cons k U'=>
    rename_i f F;refine⟨f::fs,KatTups.cons B z hd (by simp) L,by simp[Q],λg e=>?_⟩;rcases mP.mp e with rfl|e
    .exact t x M _ J m k
    exact G g e
def Vk(I:Inv X c y H s){O:SI}{ds:List D}{J:List V}{b:je}{A:ig}(f:YP X.K H O ds J)(v:Vals J b){k:Nat}(B:Dq k ds)(N:2<=b.length):
  aa (ag X.prog X.w) A (keyKind' b.toArray) (λL s'=>s'=s/\L=IA k) (λ_ _=>False) s:=by
 have S:=f.length;have W:=v.length
 match k,B with
 |0,B=>
  refine kas_kind (T:=.type "int") N (λu F=>?_) AT AT ⟨rfl,rfl⟩;obtain⟨i,Q,e⟩:=FE F;have G:=sY f (i:=i) (by lia);have E:=sO v Q;have hd:=B.hd _ (zH (ds:=ds) (i:=i)<|by lia);have:b.getD i ao=u:=by simp[Q,e]
  rw[this]at E
  cases h:ds.getD i .T2 with
  |int a=>rw[h]at G;have:=G.int;rw[this]at E;obtain⟨t,rfl⟩:=E;exact Looks.of_pure AT
  |tup l=>
   rw[h]at hd
   cases l with
   |nil=>simp[kP]at hd
   |cons z m=>cases z<;>simp[kP]at hd
  |_=>rw[h]at hd;simp[kP]at hd
 |1,B=>
  obtain⟨fs,f1,M,g⟩:=EN I (T:=.type "int") (λx=>∃a,x=.int a) (λx P u j C r=>by
   obtain⟨a,rfl⟩:=j;have:=C.int;subst this;obtain⟨t,rfl⟩:=r
   exact Looks.of_pure AT) f v λd hd=>by
    have:=B.hd d hd
    cases d with
    |tup l=>
     cases l with
     |nil=>simp[kP]at this
     |cons z m=>
      cases z with
      |int a=>exact⟨_,m,rfl,a,rfl⟩
      |_=>simp[kP]at this
    |_=>simp[kP]at this
  exact kat_kind f1 (by lia) g AT ⟨rfl,rfl⟩
 |(n+2),B=>
  obtain⟨fs,f1,M,g⟩:=EN I (T:=.type "tuple") (λx=>∃a,x=.tup a) (λx P u j C r=>by
   obtain⟨a,rfl⟩:=j;obtain⟨p,us,rfl,q,Z⟩:=C.tup;cases r;obtain⟨R,w1,⟨o,Y,U,n,hd⟩,_⟩:=I.tuple q.sq;have:Looks (ag X.prog X.w) s.heap (tz<|.ref p) o.cls:=(Looks.ld Y).andThen .now
   rw[U]at this;exact this) f v λd hd=>by
    have:=B.hd d hd
    cases d with
    |tup l=>
     cases l with
     |nil=>simp[kP]at this
     |cons z m=>
      cases z with
      |tup a=>exact⟨_,m,rfl,a,rfl⟩
      |_=>simp[kP]at this
    |_=>simp[kP]at this
  exact kat_kind f1 (by lia) g AT ⟨rfl,rfl⟩
def jw(l:List D):Option (D×Bool):=if lF l=Y/\(A1 l)<=sizeLine then J (.lst<|mx CL l,Y)else U
def nV(d:D):Option (D×Bool):=(D8 d).bind jw
def aek{b:List V}{a:je}(v:Vals b a):∀(p:jc),(∀i∈p,i<A1 a)->Vals (p.map λi=>b.getD i .T2) (p.map λi=>a.getD i ao):=by
 intro f
 induction f with
 |nil=>intro _;exact .nil
 |cons i p e=>intro h;exact .cons (sO v<|h i jF)<|e λj d=>h j<|iY _ d
def Ma{O:SI}{a:List D}{b:List V}(r:YP X.K H O a b):∀(p:jc),(∀i∈p,i<A1 a)->YP X.K H O (p.map λi=>a.getD i .T2) (p.map λi=>b.getD i .T2):=by
 intro f
 induction f with
 |nil=>intro _;exact YP.nil
 |cons i p e=>intro h;exact YP.cons (sY r<|h i jF)<|e λj d=>h j<|iY _ d
def acM{b:List D}{n:Nat}(e:n=A1 b)(h1:(A1 b)<=1){p:jc}(a:p.Perm (ap n)):p.map (λi=>b.getD i .T2)=mx CL b:=by
 subst e
 match b,h1,a with
 |[],_,a=>
  have:p=[]:=by simpa using a.length_eq
  subst this;rfl
 |[d],_,a=>
  have e:(A1 p)=1:=by simpa using a.length_eq
  match p,e,a with
  |[i],_,a=>
   have:i=0:=by have:=a.mem_iff.mp<|Aw.mpr I;simpa using this
   subst this;rfl
def sU(hu:X.A.units+62<aL)(I:Inv X c y H s){O:SI}{f:List D}{M:List V}{a:je}{x:gU}{Q:VK}{z:D×Bool}(u:YP X.K H O f M)(v:Vals M a)(hg:jw f=z8 z)(G:Gen X.K H O z Q)
  (hc:∀(Y:List gU->gM->Prop)(E':iK)(N:ig),N.handled=X.A.handled->(∀(h':ip)(d:Nat),(∀b o,s.heap.get? b=z8 o->h'.get? b=z8 o)->Y a {s with heap:=h',toks:=d})->aa (ag X.prog X.w) N (ey x) Y E' s):
  aa (ag X.prog X.w) X.A (call (.builtin "sorted") [x]) (EP X c y Q) X.xe s:=by
 unfold jw at hg;obtain⟨⟨L,hz⟩,rfl⟩:=iM hg;have r:=u.length;have e2:=v.length;refine Calls.call_function_entry z7 xf xl (args_sorted1 _) ?_;unfold bc.«sorted»;refine gL (m:=checkCount "sorted" 1 1 _)<|hJ ?_;refine gL<|hc _ _ _ rfl λh1 d R=>?_;refine gL<|B9 ?_ (by lia);have t:(h1.push<|bi "list" a.toArray 0).get? h1.objs.size=z8 (bi "list" a.toArray 0):=jT _ rfl;have C:Inv X c y H {s with heap:=h1,toks:=d}:=I.kept R
 have keep:∀b o,h1.get? b=z8 o->(oV (h1.push<|bi "list" a.toArray 0) h1.objs.size a).get? b=z8 o:=λb o l=>by have P:b≠h1.objs.size:=jB<|jN l;refine jz _ (jz _ ?_);rw[Fy _ _ _ _ P];exact jz _ l
 have U:Inv X c y H {s with heap:=oV (h1.push<|bi "list" a.toArray 0) h1.objs.size a,toks:=d}:=C.kept keep;have Z:∀i∈ap a.length,i<a.length:=λi q=>by simpa using q
 refine gL<|lU<|og (s:={s with heap:=h1.push<|bi "list" a.toArray 0,toks:=d}) uu ⟨_,t,rfl⟩ sx ?body<|args_list_sort _
 case body=>
  have fin:∀p:List Nat,p.Perm (ap a.length)->p.map (λi=>f.getD i .T2)=mx CL f->EP X c y Q (.ref h1.objs.size) {s with heap:=(oV (h1.push<|bi "list" a.toArray 0) h1.objs.size a).update h1.objs.size<|aM λ_=>(p.map λi=>a.getD i ao).toArray,toks:=d}:=λp e T=>by
   have F:∀i∈p,i<a.length:=λi q=>by simpa using e.mem_iff.mp q
   have J:∃n,(oV (h1.push<|bi "list" a.toArray 0) h1.objs.size a).get? h1.objs.size=z8 (bi "list" #[] n):=by
    obtain⟨r,S⟩:∃r,((h1.push<|bi "list" a.toArray 0).update h1.objs.size<|aM λ_=>(#[]:Array gU)).get? h1.objs.size=z8 (bi "list" #[] r):=⟨_,wI t λ_=> #[]⟩
    exact⟨r,jz _ (jz _ S)⟩
   obtain⟨n,J⟩:=J;obtain⟨E,W⟩:∃E,((oV (h1.push<|bi "list" a.toArray 0) h1.objs.size a).update h1.objs.size<|aM λ_=>(p.map λi=>a.getD i ao).toArray).get? h1.objs.size=z8 (bi "list" (p.map λi=>a.getD i ao).toArray E):=⟨_,wI J λ_=>(p.map λi=>a.getD i ao).toArray⟩
   have g:∀b o,h1.get? b=z8 o->((oV (h1.push<|bi "list" a.toArray 0) h1.objs.size a).update h1.objs.size<|aM λ_=>(p.map λi=>a.getD i ao).toArray).get? b=z8 o:=λb o l=>by rw[Fy _ _ _ _ (jB<|jN l)];exact keep b o l
   have pl:p.length=a.length:=by simpa using e.length_eq
   refine⟨.ref h1.objs.size,_,C.laid (t':=d) g (jh _) (show VP X.prog X.w _ _ _ (.lst<|p.map λi=>M.getD i .T2)from⟨by rw[jf];lia,_,E,aek v p F,W⟩),rfl,?_⟩;refine G.lst C.fresh ?_;rw[<-T];exact Ma u p λi q=>by have:=F i q;lia
  rcases Bc L with hlen|⟨k,B⟩
  .refine uh (κ:=general') (lt:=λ_ _=>AC) (s:={s with heap:=h1.push<|bi "list" a.toArray 0,toks:=d}) t (by lia) (λ_ _ _=>rfl) (λ_ _=>rfl) (λh=>by lia) (λh=>by lia) λp e _=>⟨_,rfl,hJ ⟨_,rfl,fin p e ?_⟩⟩
   exact acM (by lia) hlen e
  refine uh (κ:=IA k) (lt:=λi j=>CL (f.getD i .T2)<|f.getD j .T2) (s:={s with heap:=h1.push<|bi "list" a.toArray 0,toks:=d}) t (by lia) (λ_ _=>V8 _ _) XB (λh=>Vk U u v B h) (λ_=>Za (A:=X.A.in1.in1) U (by show X.A.units+1+1+60<aL;lia) u v B) λp e T=>⟨_,rfl,hJ ⟨_,rfl,fin p e<|adK B.pr (by rw[show f.length=a.length by lia];exact e) T⟩⟩
def we(j:X.A.units+62<aL):ki X (.builtin "sorted") (EU X.K<|g1 nV):=ph λc s y H x u Q O d z I t np hd a G=>by
 obtain⟨l,g,a⟩:=gR a
 have M:l.length<=sizeLine:=by unfold jw at a;exact(iM a).1.2
 cases d with
 |lst m=>
  cases g;obtain⟨p,J,rfl,q,r⟩:=kO hd;cases t;obtain⟨i,v,T,_⟩:=I.list q;have E:=r.length;have L:=v.length;obtain⟨o,h,f,n,hd⟩:=T.isList;refine sU j I r v a G λN B w _ e=>Fx p (.inl AT) h f hd (λb k=>by simpa using e b s.toks k) (by rw[jY];lia)
 |tup m=>
  cases g;obtain⟨p,J,rfl,q,r⟩:=lE hd;cases t;obtain⟨i,v,⟨o,h,f,n,hd⟩,_⟩:=I.tuple q;have E:=r.length;have L:=v.length;refine sU j I r v a G λN B w _ e=>Fx p (.inr AT) h f hd (λb k=>by simpa using e b s.toks k) (by rw[jY];lia)
 |_=>cases g
def aec:ax "sorted"=J (.builtin "sorted"):=by decide+kernel
end
def abh:ax "isinstance"=J (.builtin "isinstance"):=by decide+kernel
structure Tx(mg:lz):Prop where
 n_len:mg "len"=z9
 n_abs:mg "abs"=z9
 n_int:mg "int"=z9
 n_tuple:mg "tuple"=z9
 n_list:mg "list"=z9
 n_range:mg "range"=z9
 n_isinstance:mg "isinstance"=z9
 n_bool:mg "bool"=z9
 n_max:mg "max"=z9
 n_min:mg "min"=z9
 n_all:mg "all"=z9
 n_any:mg "any"=z9
 n_sorted:mg "sorted"=z9
 n_enumerate:mg "enumerate"=z9
 n_zip:mg "zip"=z9
 n_set:mg "set"=z9
def adQ{K:iz}{T:Hp}{O:SI}:∀a:List Int,YP K T O (a.map .int) (a.map V.int):=by
 intro c
 induction c with
 |nil=>exact YP.nil
 |cons n a b=>exact YP.cons Rep.mkInt<|b
def Aa(d e:ce)(a b c:FO):F:=λf=>(a f).bind λp=>(b p.2).bind λq=>match res q.2 p.1,res q.2 q.1 with
 |some (.int i),J (.int j)=>if ly d i j=Y then(c q.2).bind λr=>match res r.2 r.1 with
   |some (.int k)=>J ((.bl<|ly e j k,C),r.2)
   |_=>U
  else J ((.bl C,C),q.2)
 |_,_=>U
section
variable {X:Cx}{a b c:gX}{m l g:FO}{n:bq}{d f:ce}
def Ib(h:Bt d):B0 X (au d) (Ht λi j=>.bl (ly d i j)):=by
 rcases h with rfl|rfl|rfl|rfl
 .exact Yi
 .exact Yj
 .exact Yk
 exact Yl
def ad2(A:tF X.K (Aa d f m l g) σ H' Q):LN (Ht λi j=>.bl (ly d i j)) (Ht λi j=>.bl (ly f i j)) (tO X.K m) (tO X.K l) (tO X.K g) σ H' Q:=by
 obtain⟨M,T,F,N,E,e,k⟩:=A;unfold Aa at e;obtain⟨x,p,h1,e⟩:=gZ e;obtain⟨G,q,y,e⟩:=gZ e;refine⟨M,T,x,p,E,h1,λv U h=>⟨p,A6 T x v,G,q,h.er E,y,λu Y o=>?_⟩⟩;have B:=Ops.cons E h<|Ops.cons (h.er E) o<|Ops.nil<|o.er<|h.er E;dsimp only at e;split at e
 .rename_i i j C I;have hv:=iP<|B.view (j:=0) AT AT C;have t:=iP<|B.view (j:=1) AT AT I;refine⟨i,j,hv,t,ly d i j,rfl,?_⟩;by_cases c:ly d i j=At
  .rw[hV c]at e ⊢;obtain⟨J,r,z,e⟩:=gZ e;dsimp only at e;split at e
   .rename_i O L;obtain⟨rfl,rfl⟩:=iD e;refine⟨q,_,J,r,o.er<|h.er E,z,λw D P3=>?_⟩;have s:=Ops.cons E h<|Ops.cons (h.er E) o<|Ops.cons (o.er<|h.er E) P3<|Ops.nil<|P3.er<|o.er<|h.er E;exact⟨j,O,t,iP<|s.view (j:=2) AT AT L,(s.done k).bl⟩
   cases e
  rw[iC c]at e ⊢;obtain⟨rfl,rfl⟩:=iD e;exact(B.done k).bl
 cases e
end
noncomputable def Lz(x:V)(c:Bool):Bool:=match x with
 |.bl b=>b==c
 |_=>C
noncomputable def gIs:D->D->Option (D×Bool)
 |.bl b,.bl c=>J (.bl<|b==c,C)
 |_,.bl _=>J (.bl C,C)
 |.T2,.T2=>J (.bl Y,C)
 |_,.T2=>J (.bl C,C)
 |_,_=>U
noncomputable def zQ:D->D->Option (D×Bool)
 |.bl b,.bl c=>J (.bl (!(b==c)),C)
 |_,.bl _=>J (.bl Y,C)
 |.T2,.T2=>J (.bl C,C)
 |_,.T2=>J (.bl Y,C)
 |_,_=>U
section
variable {X:Cx}
def HG(a:RelV x v)(c:Bool):plainIs v (.bool c)=Y/\(v== .bool c)=Lz x c:=by
 cases x<;>first
  |(cases a;exact⟨rfl,rfl⟩)
  |(obtain⟨t,rfl⟩:=a;exact⟨rfl,rfl⟩)
  |(rename_i b;cases a;refine⟨rfl,?_⟩;cases b<;>cases c<;>rfl)
def MV:B0 X (au .Is) (λx y T Q=>∃c,y=.bl c/\Q (.bl<|Lz x c) T):=by intro a s f T x y v u Q O d e h;obtain⟨c,rfl,q⟩:=h;cases e;obtain⟨h1,b⟩:=HG d c;exact wpAny_is_plain h1<|Di O q (by rw[b])
def Bj:B0 X (au .IsNot) (λx y T Q=>∃c,y=.bl c/\Q (.bl (!Lz x c)) T):=by intro a s f T x y v u Q O d e h;obtain⟨c,rfl,q⟩:=h;cases e;obtain⟨h1,b⟩:=HG d c;exact wpAny_isNot_plain h1<|Di O q (by rw[b])
def zj{K T}(h:jv K T O (.bl b) v):v=.bl b:=h.elim (λh=>h.bl) λ⟨_,_,h⟩=>h.elim
def xa{K T}(h:jv K T O .T2 v):v=.T2:=h.elim (λh=>h.T2) λ⟨_,_,h⟩=>h.elim
def aei{K T}(h:jv K T O d v)(f:∀b,d≠ .bl b)(c:Bool):Lz v c=C:=by
 cases d with
 |bl b=>exact absurd I<|f b
 |T2=>rw[xa h];rfl
 |int i=>rw[iP h];rfl
 |str x=>
   rcases h with h|⟨a,_,h⟩
   .rw[h.str];rfl
   exact h.elim
 |tup l=>
   rcases h with h|⟨a,_,h⟩
   .rw[Rep]at h;obtain⟨a,e,rfl,_⟩:=h;rfl
   exact h.elim
 |lst l=>
   rcases h with h|⟨a,rfl,h⟩
   .rw[Rep]at h;obtain⟨a,e,rfl,_⟩:=h;rfl
   rfl
 |Sr _ _ _=>
   rcases h with h|⟨a,rfl,h⟩
   .rw[Rep]at h;obtain⟨a,e,rfl,_⟩:=h;rfl
   rfl
def ab0{K T}(h:jv K T O d v)(e:d≠ .T2):v≠ .T2:=by
 cases d with
 |bl b=>rw[zj h];intro z;cases z
 |T2=>exact absurd I e
 |int i=>rw[iP h];intro z;cases z
 |str x=>
   rcases h with h|⟨a,_,h⟩
   .rw[h.str];intro z;cases z
   exact h.elim
 |tup l=>
   rcases h with h|⟨a,_,h⟩
   .rw[Rep]at h;obtain⟨a,c,rfl,_⟩:=h;intro z;cases z
   exact h.elim
 |lst l=>
   rcases h with h|⟨a,rfl,h⟩
   .rw[Rep]at h;obtain⟨a,c,rfl,_⟩:=h;intro z;cases z
   intro z;cases z
 |Sr _ _ _=>
   rcases h with h|⟨a,rfl,h⟩
   .rw[Rep]at h;obtain⟨a,c,rfl,_⟩:=h;intro z;cases z
   intro z;cases z
def QE(n:Bool):B0 X (au (if n then .IsNot else .Is)) (rD X.K (if n then zQ else gIs)):=by
 intro a s j T x y v u Q N g i h;obtain⟨O,d,e,z,np,h1,o,l,G⟩:=h
 cases e with
 |bl c=>
  have f:=zj o;by_cases k:∃b,d=.bl b
  .obtain⟨b,rfl⟩:=k;cases n<;>cases l<;>(first|refine MV a s j T x y v u Q N g i ⟨c,f,?_⟩|refine Bj a s j T x y v u Q N g i ⟨c,f,?_⟩)<;>(rw[zj h1];exact G.bl)
  have p:∀b,d≠ .bl b:=λb z=>k ⟨b,z⟩;have m:z=(.bl n,C):=by cases n<;>cases d<;>first|exact absurd I (p _)|(cases l;rfl)
  subst m;cases n<;>(first|refine MV a s j T x y v u Q N g i ⟨c,f,?_⟩|refine Bj a s j T x y v u Q N g i ⟨c,f,?_⟩)<;>(rw[aei h1 p c];exact G.bl)
 |T2=>
  have f:=xa o;by_cases k:d=.T2
  .subst k;cases n<;>cases l<;>(first|refine MU a s j T x y v u Q N g i ⟨f,?_⟩|refine Ia a s j T x y v u Q N g i ⟨f,?_⟩)<;>(rw[xa h1];exact G.bl)
  have m:z=(.bl n,C):=by cases n<;>cases d<;>first|exact absurd I k|(cases l;rfl)
  subst m;cases n<;>(first|refine MU a s j T x y v u Q N g i ⟨f,?_⟩|refine Ia a s j T x y v u Q N g i ⟨f,?_⟩)<;>(rw[kN<|ab0 h1 k];exact G.bl)
 |_=>cases n<;>cases d<;>cases l
def adi:B0 X (au .IsNot) (rD X.K zQ):=QE Y
end
end PX
namespace HT
open L2
section
variable {a:iw}{w:ik}{A:ig}{E:iK}{s:gM}
def acp{t c:gJ}{items:mS}{g i:gU}{lo d:Option Int}{Q:iK}(b:f4 s.heap t items)(e:s.heap.IsSliceOf c g i .none)(n:dh g lo)(o:dh i d)
  (f:IX items.size 0 lo=0/\IX items.size items.size d=items.size)(h:Q (.ref t) s):aa (ag a w) A (c9 (.ref t)<|.ref c) Q E s:=by
 obtain⟨os,j,k,p⟩:=id e;have l:s.TypeIs (.ref c) "slice":=⟨os,j,k⟩
 unfold c9
 try with_reducible refine lU ?_
 first|refine gL (hJ ?_)|skip
 refine gL<|mA b.typeIs (by decide) ?_
 refine gL (uI (name:=bC "__getitem__") b.typeIs Ax
  (og Ax b.typeIs Lp ?_<|mm _ _))
 show aa _ _ (cf (.ref t)>>=_) _ _ s;refine gL<|wn b ?_;refine gL<|uH l ?_;rw[hV<|by decide];refine gL<|pJ e n o ?_;rw[f.1,f.2];show aa _ _ (if((((0:Nat):Int)==0&&(1:Int)==1&&(items.size-0)==items.size)=Y)then _ else _) _ _ s;rw[hV<|by simp];refine gL (m:=dJ _) ?_;unfold dJ;refine gL<|uH b.typeIs ?_;refine hJ ?_;rw[hV<|by decide];refine gL<|vw ?_
 first
  |exact gL<|hJ ⟨_,rfl,hJ h⟩
  |exact hJ ⟨_,rfl,hJ h⟩
  |exact gL<|hJ<|hJ ⟨_,rfl,hJ h⟩
  |(refine gL ?_;trace_state;done)
end
end HT
namespace PX
open L2 PySem.SeqAt
noncomputable def ye(l:List D)(lo a:Option Int):List D:=(l.drop<|HT.IX (A1 l) 0 lo).take<|HT.IX (A1 l) (A1 l) a-HT.IX (A1 l) 0 lo
def JV(lo a:Option Int):D->Option (D×Bool)
 |.tup l=>J (.tup<|ye l lo a,C)
 |.lst l=>J (.lst<|ye l lo a,Y)
 |_=>U
inductive rSlD(K:iz)(x:V)(lo hi:Option Int)(H:Hp)(Q:VK):Prop where
 |mk (O:SI) (d:D) (z:D×Bool) (_:∀p,¬Ow (H p)->¬O p) (_:jv K H O d x) (_:JV lo hi d=z8 z) (_:Gen K H O z Q)
def YP.cut{K T}(r:YP K T O l xs)(lo a:Option Int):YP K T O (ye l lo a) (EV xs lo a):=by unfold ye EV;rw[r.length];exact(r.drop _).take _
section
variable {X:Cx}
def D7{b:iN}{s:gM}{h:L2.St}{N:Hp}{a:gJ}{v e f:gU}{lo c:Option Int}{d:gJ}{Q:VK}{O:SI}{l:List D}{g:List V}(M:Inv X b h N s)(n:RelV (.ref a) v)(j:s.heap.IsSliceOf d e f .none)(k:dh e lo)(m:dh f c)
  (q:CU X.K N a g)(r:YP X.K N O l g)(G:Gen X.K N O (.lst<|ye l lo c,Y) Q):∃T id,l9 (.type T) "__getitem__"=pure (J<|.builtin id)/\s.TypeIs v T/\aa (ag X.prog X.w) X.A (c9 v<|.ref d) (EP X b h Q) X.xe s:=
 Px b s h N (.ref a) v e f lo c d Q M n j k m ⟨a,g,rfl,q,λp i=>G.lst i<|r.cut lo c⟩
def XZ:MH X (rSlD X.K):=by
 intro f s E T x v B M lo g A Q N n i k m h;obtain⟨O,d,z,np,hd,o,G⟩:=h
 cases d with
 |tup l=>
  cases o;rcases hd with hd|⟨a,_,h⟩
  .obtain⟨a,b,rfl,q,r⟩:=hd.tup;by_cases j:HT.IX b.length 0 lo=0/\HT.IX b.length b.length g=b.length
   .cases n;obtain⟨t,y,w,L⟩:=N.tuple q.sq;have c:t.toArray.size=b.length:=by rw[jY];exact y.length.symm
    refine⟨"tuple",_,Ax.lookup,w.typeIs,?_⟩;refine HT.acp w i k m (by rw[c];exact j) ⟨.ref a,T,N,rfl,?_⟩
    have e:ye l lo g=l:=by unfold ye;rw[<-r.length,j.1,j.2];simp[r.length]
    rw[e]at G;exact G (.ref a) T (λ_ _ e=>e) hd
   exact Uc f s E T (.ref a) v B M lo g A Q N n i k m ⟨a,b,rfl,q.sq,j,λp u=>G.tup u (np p<|Kl u)<|r.cut lo g⟩
  exact h.elim
 |lst l=>
  cases o;rcases hd with hd|⟨a,rfl,h⟩
  .obtain⟨a,b,rfl,q,r⟩:=hd.lst;exact D7 N n i k m q.sq r G
  obtain⟨b,e,r⟩:=h;exact D7 N n i k m (.inl<|.inl e) r G
 |_=>cases o
end
def By(a b:FO):F:=λc=>(a c).bind λp=>(b p.2).bind λq=>match res q.2 q.1 with
 |some (.int i)=>(res q.2 p.1).bind λx=>(JV (J i) U x).bind λz=>J (z,q.2)
 |_=>U
def uj(a b:FO):F:=λδ=>(a δ).bind λp=>(b p.2).bind λq=>match res q.2 q.1 with
 |some (.int i)=>(res q.2 p.1).bind λx=>(JV U (J i) x).bind λz=>J (z,q.2)
 |_=>U
section
variable {X:Cx}{a lo d:gX}{g e f:FO}{b c:bq}
end
end PX
namespace L2
section
variable {X:Cx}
def XN(O:It)(g:TG)(a:TT)(tb:gJ->TB)(pre:St->St)(b:St)(T:Hp)(Q:VK):Prop:=DV (.set (λ_=>C) 0) O g a tb pre b T Q
def Gr(c:TI)(g:TG)(ti:TT)(tb:gJ->TB)(pre:St->St):TE:=λa T Q=>c a T λO b=>XN O g ti tb pre a b Q
def T5(d:gJ)(e:TE):TB:=λc T N=>e c T λy a=>∃k S n,y=.int k/\a d=J (.set S n)/\n+1<fJ/\N c (upd a d<|.set (λb=>S b||decide (b=k)) (if S k then n else n+1))
def MO{a:gX}{c:nJ}{i:iJ}{p:bq}{depth:Nat}{d:gJ}{j:TE}(E:c[depth+1]?=U)(C:PE X a j):PB X (iX (.SetComp a c i p) depth (.ref d) X.env) (T5 d j):=by
 intro f s m M N I h
 have r:iX (.SetComp a c i p) depth (.ref d) X.env=(do let v <-ba a X.env;cg a.pos;let _ <-call (.builtin "set.add") [.ref d,v]):=by unfold iX;simp -iota only[clausesOf.eq_def];rw[E]
 rw[r];refine gL<|NR (C f s m M _ I h) ?_;rintro u s1 ⟨y,H1,g,G,k,S,n,z,hd,Q,q⟩;subst z;obtain⟨t,rfl⟩:=G;have A:s1.heap.SetOf (gm X.prog X.w) d S n:=g.hok d _ hd;refine gL<|rO<|gL<|call_set_add (knd:=gm X.prog X.w) (k:=k) (intKind_is _ _ k t) AT A Q λJ T l=>hJ ⟨m,_,?_,q⟩;refine g.write (x:=d) (e:=d) (by rw[hd];exact trivial) (.inl AT) (λb u B O=>by rw[T.2 b B];exact O) ?_ l;obtain⟨o,_,_,_,L,_⟩:=l;exact⟨o,L⟩
end
end L2
namespace PX
open L2 PySem.SeqAt
noncomputable def Dx(f:F):FB:=λa b=>(f b).bind λp=>match p.1.1 with
 |.int k=>if (A1 a)+1<fJ then J (a++[.int k],p.2)else U
 |_=>U
section
variable {X:Cx}{A:jo}{d:gJ}{c:gX}{f:F}
def ade{j:nJ}{J:iJ}{p:bq}{depth:Nat}(E:j[depth+1]?=z9)(y:PX X c f):PB X (iX (.SetComp c j J p) depth (.ref d) X.env) (GD At X.K A d<|Dx f):=PB.imp' (MO E y) λm H N I=>by
 obtain⟨w,T,g,U,M,B,e,k⟩:=I;obtain⟨r,h,h1,e⟩:=gZ e;obtain⟨O,Q⟩:=r
 cases O with
 |int i=>
  obtain⟨Y,e⟩:=iM e;obtain⟨rfl,rfl⟩:=rh e;refine⟨w,T,(.int i,Q),h,B.er,h1,λv s P=>?_⟩;obtain⟨q,G⟩:=P.rep B.er;have hv:v=.int i:=G.int;have t:SK A m w H m h s:=P.1.sk;have x:=B.step t q;have C:=PK g (λ_=>AC,0);refine⟨i,_,_,hv,x.at',by unfold mU;lia,k m _ ?_ ?_⟩
  .have:Hg A d m h s m h (upd s d<|.set (λu=>(mU g).1 u||decide (u=i)) (if(mU g).1 i then(mU g).2 else(mU g).2+1)):=⟨λa o e n L=>by rw[iL L];exact e,λi a z=>.inl z,λa z=>by
    by_cases l:a=d
    .subst l;rw[iF];simp
    rw[iL l];exact z,λ_ _=>rfl⟩
   exact t.JS.trans this
  refine⟨q.mono (λb o e n=>by rw[iL<|by intro z;subst z;exact n B.td];exact e) (λ_ _ z=>z) λa z=>?_,B.td,?_⟩
  .by_cases l:a=d
   .subst l;rw[iF];trivial
   rw[iL l];exact q.dom a z
  show upd _ _ _ _=_;rw[iF,Bf]
 |_=>cases e
end
def tH(b:jc)(k:Nat)(d:AE)(e:Tg)(ti:FT)(c:FB):F:=λf=>(d f).bind λp=>(jb p.2<|b.map .slot).bind λa=>if(iu (b.map .slot) a).Nodup then(jr e ti c p.1 []<|a.map J++ah k U).bind λq=>J ((.int (mU q.1).2,C),wb (b.map .slot) a (iQ a q.2) p.2)else U
def adZ{K:iz}{b:jc}{k:Nat}{f:AE}{g:Tg}{ti:FT}{e:FB}{j:L2.St}{T:Hp}{Q:VK}(h:tF K (tH b k f g ti e) j T Q):
  Gr (tI K (λi=>i∉b) f) (tG K (λi=>A1 b<=i) g) (tT K ti) (λd=>GD Y K (λi=>A1 b<=i) d e) (qC b k) j T (λx c=>∃S n,∃a,x=.ref a/\c a=J (.set S n)/\Q (.int n) c):=xM (S:=Y) h
section
variable {X:Cx}{l:gX}{c:nI}{f:nJ}{scope:iJ}{j y p:bq}{O:iA}{b:jc}{k:Nat}{L:AE}{A:Tg}{ti:FT}{B:FB}
def ad6:ki X (.builtin "len") (λi N Q=>∃S n,∃a,i=[.ref a]/\N a=z8 (.set S n)/\Q (.int n) N):=by
 intro g s J N i G Q M r h;obtain⟨S,n,a,rfl,e,q⟩:=h;obtain⟨u,rfl,C⟩:=pF r;cases C;obtain⟨o,m,E,t,z,hex,hd,_,_,T,v,x⟩:=(show s.heap.SetOf (gm X.prog X.w) a S n from M.hok a _ e)
 have d:(m.size:Int)<2^63:=by
  have:fJ=4096:=rfl
  lia
 refine call_len_set z hex hd v d ⟨.int n,N,?_,⟨_,by rw[x]⟩,q⟩;exact(M.tok _)
def adT{z:av}(C:AF X O scope b k)(hc:X.calm=At)(ha:c.is_async=0)(i7:∀U',f[0]?=z8 U'->U'.is_async=0)
  (hs:∀x,aq c.iter X.env x=pure x)(pi:JQ X (λi=>i∉b) c.target c.iter L)
  (l5:∀(cl:jq)(C:gJ)(s3:gM)(H3:Hp)(fp:km)(r:iN),let t:=X.comp O scope cl C s3 H3 fp r
   JR t (λi=>A1 b<=i) c.target A/\Hm t c.ifs (tT X.K ti)/\∀d,PB t (iX (.SetComp l (c::f) scope j) 0 (.ref d) t.env)<|GD At X.K (λi=>A1 b<=i) d B)
  (hg:Gl X z)(hm:X.mg z=U)(hv:ax z=z8 (.builtin "len"))(hn:z≠"__name__")(j4:(z==("__debug__":av))=AC)
  (h1:af [.SetComp l (c::f) scope j] X.env=(AC,ba (.SetComp l (c::f) scope j) X.env)::af [] X.env)(d8:(aB y<|af [] X.env).any (·.1)=AC):
  PX X (.Call (.Name z p) [.SetComp l (c::f) scope j] [] y) (tH b k L A ti B):=
 PX.imp (zu ad6 hg hm hv (nS (CN (fp:=c.iter.pos) (new:=t7<|.type "set") (o:=.set (λ_=>AC) 0) (g:=tG X.K (λi=>A1 b<=i) A) (ti:=tT X.K ti) (tb:=λd=>GD At X.K (λi=>A1 b<=i) d B) C.Jl hc ha i7 hs pi l5 (λ_ _ _ k=>wpAny_newSet_of (knd:=gm X.prog X.w) λ_ R=>k _ λ_=>R) (.inr ⟨_,_,_,_,rfl⟩) (hev:=by cases c;rfl)) rT h1) hn j4 h1 d8) λY H Q h=>by
  have q:=adZ h
  have mono:∀{u I:VK},(∀v H,u v H->I v H)->Gr (tI X.K (λi=>i∉b) L) (tG X.K (λi=>A1 b<=i) A) (tT X.K ti) (λd=>GD At X.K (λi=>A1 b<=i) d B) (qC b k) Y H u->Gr (tI X.K (λi=>i∉b) L) (tG X.K (λi=>A1 b<=i) A) (tT X.K ti) (λd=>GD At X.K (λi=>A1 b<=i) d B) (qC b k) Y H I:=by
   rintro u I hq ⟨δ,T,ds,G,E,h1,kk⟩;refine⟨δ,T,ds,G,E,h1,λJ N P D ok d hd=>?_⟩;obtain⟨W,V,step⟩:=kk J N P D ok d hd;refine⟨W,V,λi m M F w=>?_⟩;rcases step i m M F w with⟨s1,s2⟩|s
   .exact .inl ⟨s1,hq _ _ s2⟩
   exact .inr s
  exact mono (λv N a'=>by obtain⟨S,n,a,e,h2,h3⟩:=a';exact ⟨S,n,a,by rw[e],h2,h3⟩) q
end
end PX
namespace HT
open L2
section
variable {a:iw}{w:ik}{A:ig}{E:iK}{s:gM}
end
end HT
namespace L2
section
variable {X:Cx}{e st:gX}{c b:TE}{a d:bq}
end
end L2
namespace PX
open L2 PySem.SeqAt
section
variable {X:Cx}{a st:gX}{d fs:FO}{b c:bq}
end
section
variable {b:jP}{a:c3}
end
end PX
namespace TT
noncomputable def S:Nat->Nat
 |0=>0
 |n+1=>5*S n+1
theorem Jc(m:Nat):∀n:Nat,S (m+n)=5^n*S m+S n
 |0=>by simp[S]
 |n+1=>by rw[<-wK,S,Jc m n,S,tX,uv,<-pW,wH 5 (5^n)];lia
theorem zY:∀n:Nat,∃c,5^n=4*c+1
 |0=>⟨0,rfl⟩
 |n+1=>by obtain⟨c,e⟩:=zY n;exact⟨5*c+1,by rw[tX,e];lia⟩
theorem OL:∀k:Nat,∃c,S (2^k)=2^k*(2*c+1)
 |0=>⟨0,rfl⟩
 |k+1=>by
  obtain⟨c,e⟩:=OL k;obtain⟨d,f⟩:=zY (2^k)
  have h:S (2^(k+1))=(5^2^k+1)*S (2^k):=by rw[tX,Nat.mul_two,Jc,eu,Fw]
  refine⟨2*(d*c)+d+c,?_⟩;rw[h,f,e,tX];have:4*d+1+1=2*(2*d+1):=by lia
  rw[this,pW 2,wH (2*d+1),pW (2^k),pW (2^k),<-pW 2 (2^k),wH 2 (2^k),pW (2^k) 2]
  congr 2
  rw[eu,uv,Fw,wG,pW 2 c,B8 c 2 d,wH c d]
  lia
def OM(k n:Nat):S (2^k+n)%2^k=S n%2^k:=by obtain⟨c,e⟩:=OL k;rw[Jc,e,B8,lf]
def Jb:∀(k e:Nat),e<2^k->∃n,n<2^k/\S n%2^k=e:=by
 intro u
 induction u with
 |zero=>intro e h;exact⟨0,by simp,by simp at h;subst h;rfl⟩
 |succ k t=>
  intro e h;have l:0<2^k:=lb k;obtain⟨n,z,s⟩:=t (e%2^k)<|wF _ l;obtain⟨c,m⟩:=OL k;obtain⟨d,o⟩:=zY n
  have b:S (2^k+n)=2^(k+1)*(4*d*c+2*d+c)+2^k+S n:=by
   rw[Jc,m,o,tX,B8,pW (2^k) 2]
   have:(4*d+1)*(2*c+1)=2*(4*d*c+2*d+c)+1:=by rw[eu,uv,Fw,wG,B8 (4*d) 2 c];lia
   rw[this,uv,wG]
  rw[tX]at h b ⊢;generalize 2^k=P at*;have j:=lm (S n) P;have i:=lm e P;rw[s]at j;have A:e / P<2:=Nat.div_lt_of_lt_mul (by rw[wH]at h;lia)
  have mk:∀a q x,a=P*2*q+x->x<P*2->a%(P*2)=x:=λa q x h1 b=>by rw[h1,lf,Nat.mod_eq_of_lt b]
  have y:=wF e l;have v:S n / P=2*(S n / P / 2)+S n / P%2:=by lia
  have g:S n=P*2*(S n / P / 2)+(P*(S n / P%2)+e%P):=by rw[pW,<-wK,<-uv,<-v];exact j.symm
  generalize S n / P / 2=q at g;have w:S n / P%2<2:=wF _ (by decide);generalize S n / P%2=r at g w;generalize e / P=f at*;by_cases p:r=f
  .exact⟨n,by lia,mk _ q _ (by rw[g,p,i]) h⟩
  refine⟨P+n,by lia,mk _ (4*d*c+2*d+c+q+r) _ ?_ h⟩;rw[b,g,uv (P*2) _ r,uv (P*2) _ q];rcases(show r=0\/r=1 by lia)with rfl|rfl
  .have:f=1:=by lia
   subst this;rw[Fv,Fv];rw[wG]at i;lia
  have:f=0:=by lia
  subst this;rw[wG,wG];rw[Fv]at i;lia
noncomputable def ls(mask:Nat)(h:Int):Nat->Nat×Nat
 |0=>(aK h%(mask+1),aK h)
 |k+1=>ca mask (ls mask h k).1 (ls mask h k).2
def RI(h:Int):aK h<2^64:=by
 unfold aK;have:=Fu h (show(0:Int)<2^64 by decide);have:=Ft h (show(2^64:Int)≠0 by decide)
 lia
def Ik(mask:Nat)(h:Int):∀k,(ls mask h k).1<=mask
 |0=>by have:=wF (aK h) (show 0<mask+1 by lia);show _%(mask+1)<=_;lia
 |k+1=>by show(_%(mask+1))<=_;have:=wF ((ls mask h k).1*5+1+(ls mask h k).2 / 32) (show 0<mask+1 by lia);lia
theorem Ij(mask:Nat)(h:Int):∀k,(ls mask h k).2=aK h / 32^k
 |0=>by simp[ls]
 |k+1=>by show(ls mask h k).2 / 32=_;rw[Ij mask h k,tX,Nat.div_div_eq_div_mul]
def Q5(mask:Nat)(h:Int)(k:Nat)(hk:13<=k):(ls mask h k).2=0:=by rw[Ij];refine Nat.div_eq_of_lt<|nv (RI h) ?_;exact jW (show 2^64<=32^13 by decide)<|wD (by decide) hk
theorem Nd(mask:Nat)(h:Int)(m:Nat)(a:(ls mask h 13).1=S m%(mask+1)):∀n,(ls mask h (13+n)).1=S (m+n)%(mask+1)
 |0=>a
 |n+1=>by show(((ls mask h (13+n)).1*5+1+(ls mask h (13+n)).2 / 32)%(mask+1))=_;rw[Q5 mask h _ (by lia),Nd mask h m a n,Nat.zero_div,p5,<-wK m n 1,S,s8,Nat.mod_mul_mod,<-s8,wH 5]
def Eu(hk:mask+1=2^k)(h:Int)(g:e<=mask):∃n,n<mask+14/\(ls mask h n).1=e:=by
 have i:=Ik mask h 13;obtain⟨m,c,b⟩:=Jb k (ls mask h 13).1 (by lia);obtain⟨q,d,eq⟩:=Jb k e (by lia);rw[<-hk]at b eq c d;have a:=Nd mask h m b.symm;by_cases f:m<=q
 .exact⟨13+(q-m),by lia,by rw[a,show m+(q-m)=q by lia];exact eq⟩
 refine⟨13+(q+(mask+1)-m),by lia,?_⟩;rw[a,show m+(q+(mask+1)-m)=2^k+q by lia,hk,OM,<-hk];exact eq
def GA(mask i:Nat)(h:i<=mask):i<=aw mask i/\aw mask i<=mask/\aw mask i<=i+9:=by unfold aw;split<;>lia
def tm(mask:Nat)(h:Int):Nat->Nat
 |0=>0
 |k+1=>tm mask h k+(aw mask (ls mask h k).1-(ls mask h k).1)+1
theorem Sd(mask:Nat)(h:Int):∀k,tm mask h k<=10*k
 |0=>jh _
 |k+1=>by have:=Sd mask h k;have:=GA mask _ (Ik mask h k);unfold tm;lia
def at_(mask:Nat)(h:Int)(k t:Nat):SetTable.Probe:=⟨(ls mask h k).1+t,aw mask (ls mask h k).1-(ls mask h k).1-t,(ls mask h k).1,(ls mask h k).2,U⟩
theorem uR(mask:Nat)(h:Int):∀k t,t<=aw mask (ls mask h k).1-(ls mask h k).1->pr mask h (tm mask h k+t)=at_ mask h k t
 |0,0,_=>rfl
 |k+1,0,_=>by have e:=uR mask h k (aw mask (ls mask h k).1-(ls mask h k).1)<|jh _;show JO mask (pr mask h<|tm mask h k+(aw mask (ls mask h k).1-(ls mask h k).1))=_;rw[e];unfold JO at_;simp only[Nat.sub_self,kY,gt_iff_lt];rfl
 |k,t+1,a=>by
  have e:=uR mask h k t (by lia);show JO mask (pr mask h<|tm mask h k+t)=_;rw[e];unfold JO at_;rw[hV (show aw mask (ls mask h k).1-(ls mask h k).1-t>0 by lia)];simp
  lia
def Mz(hk:mask+1=2^k)(h:Int)(a:e<=mask):∃n,n<10*(mask+14)/\(pr mask h n).j=e:=by obtain⟨r,b,er⟩:=Eu hk h a;have:=Sd mask h r;refine⟨tm mask h r,by lia,?_⟩;have:=uR mask h r 0<|lq _;rw[p5]at this;rw[this];exact er
theorem My(mask:Nat)(h:Int):∀n,(pr mask h n).dummy=U
 |0=>rfl
 |n+1=>by show(JO mask<|pr mask h n).dummy=U;unfold JO;split<;>exact My mask h n
theorem Ef(mask:Nat)(h:Int):∀n,∃k t,n=tm mask h k+t/\t<=aw mask (ls mask h k).1-(ls mask h k).1
 |0=>⟨0,0,rfl,lq _⟩
 |n+1=>by
  obtain⟨k,t,e,b⟩:=Ef mask h n;by_cases a:t+1<=aw mask (ls mask h k).1-(ls mask h k).1
  .exact⟨k,t+1,by lia,a⟩
  exact⟨k+1,0,by unfold tm;lia,lq _⟩
def Mx(mask:Nat)(h:Int)(n:Nat):(pr mask h n).j<=mask:=by obtain⟨k,t,e,a⟩:=Ef mask h n;rw[e,uR mask h k t a];have:=GA mask _ (Ik mask h k);show(ls mask h k).1+t<=mask;lia
def CH{c:Array Nat}(g:c.toList.Pairwise (· < ·)){i j:Nat}{a b:Nat}(h:i<j)(h1:c[i]?=J a)(d:c[j]?=J b):a<b:=by rw[<-mw]at h1 d;obtain⟨e,rfl⟩:=ue.mp h1;obtain⟨f,rfl⟩:=ue.mp d;exact OY.mp g i j e f h
def Ov{c:Array Nat}(q:c.toList.Pairwise (· < ·))(j:Nat):∀(d lo b:Nat),lo<=b->b<=c.size->b-lo<=d->
  (∀i a,i<lo->c[i]?=J a->a<j)->(∀i a,b<=i->c[i]?=J a->j<=a)->
  let p:=SetTable.below.go c j d lo b
  p<=c.size/\(∀i a,i<p->c[i]?=J a->a<j)/\(∀i a,p<=i->c[i]?=J a->j<=a):=by
 intro u
 induction u with
 |zero=>
  intro lo b h1 g t h k;have:lo=b:=by lia
  subst this;exact⟨g,h,k⟩
 |succ d r=>
  intro lo b h1 g t h k;unfold SetTable.below.go;by_cases n:lo<b
  .rw[hV n];have o:(lo+b) / 2<c.size:=by lia
   have m:c[(lo+b) / 2]?=J c[(lo+b) / 2]:=pk o;have hd:c.getD ((lo+b) / 2) j=c[(lo+b) / 2]:=by simp[o]
   dsimp only;rw[hd];by_cases l:c[(lo+b) / 2]<j
   .rw[hV l];refine r ((lo+b) / 2+1) b (by lia) g (by lia) (λi a s f=>?_) k;by_cases e:i=(lo+b) / 2
    .subst e;rw[m]at f;cases f;exact l
    exact yY (CH q (by lia) f m) l
   rw[iC l];refine r lo ((lo+b) / 2) (by lia) (by lia) (by lia) h λi a s f=>?_;by_cases e:i=(lo+b) / 2
   .subst e;rw[m]at f;cases f;lia
   have:=CH q (show(lo+b) / 2<i by lia) m f;lia
  rw[iC n];have:lo=b:=by lia
  subst this;exact⟨g,h,k⟩
def oJ{b:Array Nat}(d:b.toList.Pairwise (· < ·))(j:Nat):am b j<=b.size/\(∀i a,i<am b j->b[i]?=J a->a<j)/\(∀i a,am b j<=i->b[i]?=J a->j<=a):=
 Ov d j b.size 0 b.size (lq _) (jh _) (by lia) (λi a h=>by lia) (λi a h1 c=>by have:=(OR.mp c).1;lia)
def An{a:Array Nat}(c:a.toList.Pairwise (· < ·)){i j:Nat}(h:a[i]?=J j):am a j=i:=by
 obtain⟨h1,d,e⟩:=oJ c j;by_cases g:i<am a j
 .exact absurd (d i j g h) (oS _)
 by_cases f:am a j<i
 .have k:=(OR.mp h).1;have b:a[am a j]?=J a[am a j]:=pk (by omega);have:=e _ _ (jh _) b;have:=CH c f b h;omega
 omega
theorem C8(j:Nat):y4 #[] j=C:=rfl
def pH{t:lR}(a:t.place.toList.Pairwise (· < ·)){i j:Nat}(h:t.place[i]?=J j):t.slot j=.live i:=by unfold gv;dsimp only;rw[An a h,h];simp
def acN{t:lR}(hd:t.dummies= #[]){j:Nat}(h:j∉t.place.toList):t.slot j=.empty:=by
 unfold gv;dsimp only
 have:(t.place[am t.place j]?==J j)=C:=by rw[Ay];intro e;rw[<-mw]at e;exact h<|lS e
 rw[this,hd,C8];rfl
def OD(t:lR)(p:cj):t.advance p=JO t.mask p:=by unfold y9 JO;split<;>rfl
def Mv{l:gQ}{t:lR}(ok:J4 l t)(hashAt:Nat->Int)(h:Int):∀(a n:Nat),(∃M,n<=M/\M<n+a/\(pr t.mask h M).j∉t.place.toList)->
    ∃m,n<=m/\(∀q,n<=q->q<m->∃i,t.place[i]?=J (pr t.mask h q).j/\hashAt i≠h)/\
      (((pr t.mask h m).j∉t.place.toList/\da t hashAt h a (pr t.mask h n)=J (.empty (pr t.mask h m).j U))\/
       (∃i,t.place[i]?=J (pr t.mask h m).j/\hashAt i=h/\da t hashAt h a (pr t.mask h n)=J (.candidate (pr t.mask h m).j i<|pr t.mask h<|m+1))):=by
  intro p
  induction p with
  |zero=>
    rintro n ⟨M,h1,f,g⟩
    lia
  |succ a o=>
    rintro n ⟨M,h1,f,g⟩;unfold da;by_cases d:(pr t.mask h n).j∈t.place.toList
    · obtain⟨i,c⟩:=qu d
      rw[mw]at c;rw[pH ok.ris c];dsimp only;by_cases b:hashAt i=h
      · refine⟨n,jh _,λq h1 f=>by lia,.inr ⟨i,c,b,?_⟩⟩
        rw[hV<|by simpa using b,OD];rfl
      · rw[iC<|by simpa using b,OD]
        have s:M≠n:=λe=>g<|e▸d;obtain⟨m,g1,g2,k⟩:=o (n+1) ⟨M,by lia,by lia,g⟩;refine⟨m,by lia,λq u r=>?_,k⟩;by_cases e:q=n
        · subst e;exact⟨i,c,b⟩
        · exact g2 q (by lia) r
    · rw[acN ok.dum d]
      dsimp only;rw[My];exact⟨n,jh _,λq h1 f=>by lia,.inl ⟨d,rfl⟩⟩
def EB:∀(n:Nat)(l:jc),A1 l<=n->∃e,e<=n/\e∉l:=by
 intro d
 induction d with
 |zero=>intro l h;exact⟨0,jh _,by cases l with|nil=>simp|cons _ _=>simp at h⟩
 |succ n c=>
  intro l h;by_cases a:n+1∈l
  .obtain⟨e,h1,b⟩:=c (l.erase<|n+1) (by rw[K8 a];lia);exact⟨e,by lia,λz=>b<|(B7<|by lia).mpr z⟩
  exact⟨n+1,jh _,a⟩
def J4.free(ok:J4 f t)(h:Int):∃M,M<10*(t.mask+14)/\(pr t.mask h M).j∉t.place.toList:=by
 obtain⟨k,_,_,hk⟩:=ok.pow
 have h1:(A1 t.place.toList)<=t.mask:=by have:=ok.len;have:=ok.room;rw[kU];lia
 obtain⟨e,c,d⟩:=EB t.mask _ h1;obtain⟨n,a,b⟩:=Mz hk h c;exact⟨n,a,by rw[b];exact d⟩
def lI{b:Type}(a:Array b)(p:Nat)(x:b):(aA a p x).toList=a.toList.take p++x::a.toList.drop p:=by unfold aA;simp;rw[db<|by simp]
def acs(h:xs.toList.Pairwise (· < ·))(o:j∉xs.toList):(aA xs (am xs j) j).toList.Pairwise (· < ·):=by
 obtain⟨h1,l,k⟩:=oJ h j;rw[lI,qz];refine⟨h.sublist<|wW _ _,?_,?_⟩
 .rw[A8];refine⟨λa d=>?_,h.sublist<|FD _ _⟩;obtain⟨i,c⟩:=qu d;rw[cE]at c;have m:=k _ _ (show am xs j<=am xs j+i by lia) (by rw[<-mw];exact c);have:a≠j:=λe=>o (e▸lS c)
  lia
 intro a d b g
 have f:a<j:=by
  obtain⟨i,c⟩:=qu d;rw[List.getElem?_take]at c;split at c
  .rename_i n;exact l i a n (by rw[<-mw];exact c)
  cases c
 rcases mP.mp g with rfl|g
 .exact f
 obtain⟨i,c⟩:=qu g;rw[cE]at c;have m:=k _ _ (show am xs j<=am xs j+i by lia) (by rw[<-mw];exact c)
 lia
def J4.fresh(finger moves:Nat)(led:Bool):J4 [] (fY finger moves led) where
 pow:=⟨3,by lia,by lia,rfl⟩
 dum:=rfl
 len:=rfl
 room:=by show 5*0<3*7;lia
 ris:=.nil
 bd:=λj h=>by simp[fY]at h
 road:=λi h j h1=>by simp at h1
def J4.put(ok:J4 f t)(y:(pr t.mask h n).j∉t.place.toList)(w:∀m,m<n->(pr t.mask h m).j∈t.place.toList)(E:5*(A1 f+1)<3*t.mask)(A:j=(pr t.mask h n).j)(B:p=am t.place j):
  J4 (f.take p++h::f.drop p) (t.put j).1/\(t.put j).2=p:=by
 subst A;subst B
 have u:(t.put (pr t.mask h n).j).1={t with place:=aA t.place (am t.place (pr t.mask h n).j) (pr t.mask h n).j,dummies:= #[]}:=by unfold g8;dsimp only;rw[ok.dum,C8];rfl
 obtain⟨h1,_,_⟩:=oJ ok.ris (pr t.mask h n).j;have T:=ok.len
 have c:∀x,x∈t.place.toList->x∈(aA t.place (am t.place (pr t.mask h n).j) (pr t.mask h n).j).toList:=λx a=>by
  rw[lI];rw[<-rE (am t.place (pr t.mask h n).j) t.place.toList]at a;rcases nQ.mp a with a|a
  .exact nQ.mpr (.inl a)
  exact nQ.mpr (.inr<|iY _ a)
 refine⟨?_,rfl⟩;rw[u];generalize v:am t.place (pr t.mask h n).j=P at*;refine⟨ok.pow,rfl,?_,?_,?_,λx a=>?_,λi h' g g1 g2=>?_⟩
 .show(aA t.place P (pr t.mask h n).j).size=_;rw[<-kU,lI];simp;lia
 .show 5*_<3*t.mask;simp;lia
 .have:=acs ok.ris y;rw[v]at this;exact this
 .have r:x∈(aA t.place P (pr t.mask h n).j).toList:=a;rw[lI]at r;show x<=t.mask;rcases nQ.mp r with a|a
  .exact ok.bd x (uB a)
  rcases mP.mp a with rfl|a
  .exact Mx _ _ _
  exact ok.bd x (Cb a)
 have b:(aA t.place P (pr t.mask h n).j).toList[i]?=J g:=by rw[mw];exact g2
 rw[lI]at b;show ∃s,(pr t.mask h' s).j=g/\∀m,m<s->(pr t.mask h' m).j∈(aA t.place P (pr t.mask h n).j).toList;have GX:(t.place.toList.take P).length=P:=by rw[rM,kU];lia
 have k:(f.take P).length=P:=by rw[rM];lia
 by_cases z:i<P
 .rw[oQ<|by lia,F9 z]at g1 b;rw[mw]at b;obtain⟨q,l,o⟩:=ok.road i h' g g1 b;exact⟨q,l,λm e=>c _ (o m e)⟩
 rw[oh<|by lia,GX]at b;rw[oh<|by lia,k]at g1
 cases hd:i-P with
 |zero=>rw[hd]at g1 b;simp at g1 b;subst g1;subst b;exact⟨n,rfl,λm e=>c _ (w m e)⟩
 |succ d=>rw[hd]at g1 b;simp only[wC,cE]at g1 b;rw[mw]at b;obtain⟨q,l,o⟩:=ok.road _ h' g g1 b;exact⟨q,l,λm e=>c _ (o m e)⟩
def Gp(ow:vo)(j:Nat):Prop:= ∃i,ow.getD j U=J i
def C9{ow:vo}{j:Nat}{d:Option Nat}(h:j<ow.size):ow.getD j d=ow.getD j U:=by simp[h]
def ac4{mask:Nat}{ow:vo}(T:ow.size=mask+1)(h:Int):∀(a k:Nat),(∃r,k<=r/\r<k+a/\¬Gp ow (ls mask h r).1)->(∀m,m<tm mask h k->Gp ow (pr mask h m).j)->
  ∃n,bw mask ow a (ls mask h k).1 (ls mask h k).2=J (pr mask h n).j/\¬Gp ow (pr mask h n).j/\∀m,m<n->Gp ow (pr mask h m).j:=by
 intro A
 induction A with
 |zero=>
  rintro k ⟨r,h1,v,_⟩ _
  lia
 |succ a z=>
  rintro k ⟨r,h1,v,g⟩ l;unfold bw;have x:=Ik mask h k;have y:=GA mask _ x
  cases c:(ap<|aw mask (ls mask h k).1+1-(ls mask h k).1).find? λt=>(ow.getD ((ls mask h k).1+t)<|J 0).isNone with
  |some t=>
   rw[List.find?_range_eq_some]at c;obtain⟨a1,q,s⟩:=c;rw[rn]at q;have p:t<=aw mask (ls mask h k).1-(ls mask h k).1:=by lia
   have e:=uR mask h k t p;refine⟨tm mask h k+t,by rw[e];rfl,?_,λm o=>?_⟩
   .rw[e];rintro⟨i,w⟩;rw[C9 (by show(ls mask h k).1+t<_;lia)]at a1;have u:ow.getD ((ls mask h k).1+t) U=J i:=w;rw[u]at a1;simp at a1
   by_cases d:m<tm mask h k
   .exact l m d
   have b:=uR mask h k (m-tm mask h k) (by lia);rw[show tm mask h k+(m-tm mask h k)=m by lia]at b;rw[b];have:=s (m-tm mask h k) (by lia);rw[C9 (by show(ls mask h k).1+(m-tm mask h k)<_;lia)]at this;show Gp ow ((ls mask h k).1+(m-tm mask h k));unfold Gp
   cases f:ow.getD ((ls mask h k).1+(m-tm mask h k)) U with
   |none=>rw[f]at this;simp at this
   |some i=>exact⟨i,rfl⟩
  |none=>
   rw[List.find?_range_eq_none]at c
   have all:∀t,t<=aw mask (ls mask h k).1-(ls mask h k).1->Gp ow ((ls mask h k).1+t):=λt p=>by
    have:=c t (by lia);rw[C9<|by lia]at this;unfold Gp
    cases f:ow.getD ((ls mask h k).1+t) U with
    |none=>rw[f]at this;simp at this
    |some i=>exact⟨i,rfl⟩
   have B:r≠k:=λe=>g (by subst e;have:=all 0<|lq _;simpa using this)
   have:=z (k+1) ⟨r,by lia,by lia,g⟩ (λm o=>by
    by_cases d:m<tm mask h k
    .exact l m d
    unfold tm at o;have b:=uR mask h k (m-tm mask h k) (by lia);rw[show tm mask h k+(m-tm mask h k)=m by lia]at b;rw[b];exact all _ (by lia))
   exact this
def EM{a e:Type}{f g:a->Option e}:∀{l:List a},(∀x∈l,f x=g x)->l.filterMap f=l.filterMap g:=by
 intro d
 induction d with
 |nil=>intro _;exact I
 |cons x l c=>intro h;rw[vA,vA,h x jF,c λy b=>h y<|iY _ b]
noncomputable def oq(mask:Nat)(ow:vo):List (Nat×Nat):=(ap<|mask+1).filterMap λj=>(ow.getD j U).map (j,·)
def OT:(j,i)∈oq mask ow↔j<=mask/\ow.getD j U=J i:=by
 unfold oq;simp only[dO,rn,eU,Prod.mk.injEq];constructor
 .rintro⟨a,h1,b,c,rfl,rfl⟩;exact⟨by lia,c⟩
 rintro⟨h1,c⟩;exact⟨j,by lia,i,c,rfl,rfl⟩
def Ng(mask:Nat)(ow:vo):((oq mask ow).map (·.1)).Pairwise (· < ·):=by unfold oq;rw[List.map_filterMap,List.pairwise_filterMap];refine OX.imp λ{a b} e x c y d=>?_;simp at c d;obtain⟨_,_,rfl⟩:=c;obtain⟨_,_,rfl⟩:=d;exact e
def Nf{mask:Nat}{ow:vo}(f:ow.size=mask+1){j k:Nat}(d:j<=mask)(c:ow.getD j U=U):(oq mask<|ow.setIfInBounds j<|J k).Perm ((j,k)::oq mask ow):=by
 have g:∀i,(ow.setIfInBounds j<|J k).getD i U=if i=j then J k else ow.getD i U:=λi=>by
  simp only[ur,B6];by_cases e:i=j
  .subst e;simp[show i<ow.size by lia]
  rw[iC λz=>e z.symm,iC e]
 have split:ap (mask+1)=ap j++j::(ap<|mask-j).map (λx=>j+1+x):=by rw[show mask+1=j+(mask-j+1) by lia,List.range_add,dc];simp[qZ,wK,Nat.add_comm 1]
 unfold oq;rw[split,K7,K7,vA,vA];simp only[g,c,Option.map_none,Option.map_some]
 have a1:(ap j).filterMap (λi=>(if i=j then J k else ow.getD i U).map (i,·))=(ap j).filterMap (λi=>(ow.getD i U).map (i,·)):=
  EM λi a=>by rw[rn]at a;rw[iC<|by lia]
 have b:((ap<|mask-j).map λx=>j+1+x).filterMap (λi=>(if i=j then J k else ow.getD i U).map (i,·))=((ap<|mask-j).map λx=>j+1+x).filterMap (λi=>(ow.getD i U).map (i,·)):=
  EM λi a=>by obtain⟨x,_,rfl⟩:=rp.mp a;rw[iC<|by lia]
 rw[a1,b];exact OQ
structure CF(mask:Nat)(hs:gQ)(ow:vo):Prop where
 size:ow.size=mask+1
 perm:((oq mask ow).map (·.2)).Perm (ap<|A1 hs)
 road:∀j i h,ow.getD j z9=z8 i->hs[i]?=z8 h->∃n,(pr mask h n).j=j/\∀m,m<n->Gp ow (pr mask h m).j
def Ie(h:Gp ow x):Gp (ow.setIfInBounds j<|J k) x:=by
 obtain⟨i,a⟩:=h;unfold Gp;simp only[ur,B6]at a ⊢;by_cases e:j=x
 .subst e;rw[hV I];split
  .exact⟨k,rfl⟩
  rename_i b;rw[Fq<|by lia]at a;simp at a
 rw[iC e];exact⟨i,a⟩
def CF.step{mask k:Nat}(hk:mask+1=2^k){a:gQ}{ow:vo}(ok:CF mask a ow)(h:Int)(T:(A1 a)<=mask):
  ∃j,bw mask ow (bM mask) (aK h%(mask+1)) (aK h)=J j/\CF mask (a++[h]) (ow.setIfInBounds j<|J<|A1 a):=by
 have p:(oq mask ow).length=(A1 a):=by have:=ok.perm.length_eq;simpa using this
 obtain⟨e,o,x⟩:=EB mask ((oq mask ow).map (·.1)) (by rw[jf];lia)
 have E: ¬Gp ow e:=by rintro⟨i,f⟩;exact x<|rp.mpr ⟨(e,i),OT.mpr ⟨o,f⟩,rfl⟩
 obtain⟨r,A,l⟩:=Eu hk h o;obtain⟨n,f1,t,u⟩:=ac4 ok.size h (bM mask) 0 ⟨r,lq _,by unfold bM;lia,by rw[l];exact E⟩ (λm c=>by simp[tm]at c);have w:=Mx mask h n
 have s:ow.getD (pr mask h n).j U=U:=by
  cases y:ow.getD (pr mask h n).j U with
  |none=>rfl
  |some i=>exact absurd ⟨i,y⟩ t
 refine⟨_,f1,⟨by rw[Array.size_setIfInBounds];exact ok.size,?_,λj i v g1 g2=>?_⟩⟩
 .refine((Nf ok.size w s).map _).trans ?_;rw[jK,nN,yZ,List.range_succ];exact(fI _ ok.perm).trans (K6 _ _).symm
 by_cases b:j=(pr mask h n).j
 .subst b
  have:i=(A1 a):=by simp only[ur,B6]at g1;rw[hV br,hV<|by rw[ok.size];lia]at g1;exact(jZ g1).symm
  subst this;rw[oh<|jh _]at g2;simp at g2;subst g2;exact⟨n,rfl,λm c=>Ie<|u m c⟩
 have d:ow.getD j U=J i:=by simp only[ur,B6]at g1 ⊢;rw[iC λz=>b z.symm]at g1;exact g1
 have f:i<(A1 a):=by
  have g:j<=mask:=by
   by_cases q:j<ow.size
   .have:=ok.size;lia
   rw[ur,Fq<|by lia]at d;simp at d
  have:=ok.perm.mem_iff.mp<|rp.mpr ⟨(j,i),OT.mpr ⟨g,d⟩,rfl⟩;exact rn.mp this
 rw[oQ f]at g2;obtain⟨q,B,Q⟩:=ok.road j i v d g2;exact⟨q,B,λm c=>Ie<|Q m c⟩
def CF.start(mask:Nat):CF mask [] (et (mask+1) U) where
 size:=by simp
 perm:=by
  have:oq mask (et (mask+1) U)=[]:=by unfold oq;refine List.filterMap_eq_nil_iff.mpr λj a=>?_;rw[ur,K5];split<;>rfl
  rw[this];exact rC _
 road:=λj i h h1=>by rw[ur,K5]at h1;split at h1<;>cases h1
noncomputable def vS(mask:Nat)(a:Option (Array (Option Nat)×Nat))(h:Int):Option (Array (Option Nat)×Nat):=do
 let(owner,k) <-a
 let j <-bw mask owner (bM mask) (aK h%(mask+1)) (aK h)
 pure (owner.setIfInBounds j<|J k,k+1)
def Nm{mask k:Nat}(hk:mask+1=2^k):∀(l a:gQ)(ow:vo),CF mask a ow->A1 a+A1 l<=mask+1->
  ∃c,l.foldl (vS mask) (J (ow,A1 a))=J (c,A1 a+A1 l)/\CF mask (a++l) c:=by
 intro m
 induction m with
 |nil=>intro a ow ok _;exact⟨ow,rfl,by rw[rN];exact ok⟩
 |cons h l i=>
  intro a ow ok g;rw[mQ]at g;obtain⟨j,e,d⟩:=ok.step hk h (by lia);obtain⟨c,f,b⟩:=i (a++[h]) _ d (by rw[nN,yZ];lia);refine⟨c,?_,by rw[oO]at b;exact b⟩;rw[uA]
  have:vS mask (J (ow,A1 a)) h=J (ow.setIfInBounds j<|J<|A1 a,A1 a+1):=by unfold vS;show(bw mask ow (bM mask) (aK h%(mask+1)) (aK h)>>=_)=_;rw[e];rfl
  rw[this];rw[nN,yZ]at f;rw[f,mQ]
  congr 2;lia
def ace(hk:mask+1=2^k)(a:gQ)(c:(A1 a)<=mask):∃ow,fm mask a.toArray=J ow/\CF mask a ow:=by
 obtain⟨ow,e,ok⟩:=Nm hk a [] _ (CF.start mask) (by simp;lia);refine⟨ow,?_,by simpa using ok⟩;unfold fm;rw[<-Array.foldl_toList];show n3 _ (te (vS mask) _ a)=_;have b:te (vS mask) (J (et (mask+1) U,0)) a=J (ow,A1 a):=by simpa using e
 rw[b];rfl
def Rf(hk:mask+1=2^k)(w:3<=k)(o:k<=11)(finger moves:Nat)(led plain:Bool)(d:gQ)(E:5*(A1 d)<3*mask):
  ∃t c,gw mask finger moves led plain d.toArray=J (t,c)/\c.toList.Perm (ap<|A1 d)/\J4 (c.toList.map λi=>d.getD i 0) t/\t.plain=plain/\t.led=led:=by
 obtain⟨ow,e,ok⟩:=ace hk d (by lia);refine⟨{mask,place:=((oq mask ow).map (·.1)).toArray,dummies:= #[],finger,led,moves,plain},((oq mask ow).map (·.2)).toArray,?_,by simpa using ok.perm,?_,rfl,rfl⟩
 .unfold gw;rw[e];rfl
 have g:(oq mask ow).length=(A1 d):=by have:=ok.perm.length_eq;simpa using this
 refine⟨⟨k,w,o,hk⟩,rfl,by simp,by simp[g];lia,by simpa using Ng mask ow,λj z=>?_,λi h j g1 g2=>?_⟩
 .have v:j∈(oq mask ow).map (·.1):=by simpa using z
  obtain⟨⟨a,b⟩,q,rfl⟩:=rp.mp v;exact(OT.mp q).1
 have r:((oq mask ow).map (·.2)).map (λi=>d.getD i 0)=(((oq mask ow).map (·.2)).toArray).toList.map λi=>d.getD i 0:=by simp
 rw[<-r,kg,kg]at g1;have f:((oq mask ow).map (·.1))[i]?=J j:=by simpa using g2
 rw[kg]at f
 cases l:(oq mask ow)[i]? with
 |none=>rw[l]at f;cases f
 |some p=>
  obtain⟨a,b⟩:=p;rw[l]at g1 f;simp at g1 f;subst f;have q:=OT.mp<|lS l
  have x:b<(A1 d):=by have:=ok.perm.mem_iff.mp<|rp.mpr ⟨(a,b),lS l,rfl⟩;exact rn.mp this
  have y:d[b]?=J h:=by rw[jk x]at g1 ⊢;simpa using g1
  obtain⟨n,B,T⟩:=ok.road a b h q.2 y;refine⟨n,B,λm u=>?_⟩;obtain⟨A,s⟩:=T m u;show(pr mask h m).j∈(((oq mask ow).map (·.1)).toArray).toList;have:(pr mask h m).j∈(oq mask ow).map (·.1):=rp.mpr ⟨(_,A),OT.mpr ⟨Mx mask h m,s⟩,rfl⟩;simpa using this
def abP:∀n,n<2048->∃k,3<=k/\k<=11/\dr n=2^k/\n<2^k:=by
 intro n h
 have step:∀(f k:Nat),3<=k->k<=11->11<k+f->∃b,3<=b/\b<=11/\SetTable.sizeAbove.go n f (2^k)=2^b/\n<2^b:=by
  intro f
  induction f with
  |zero=>intro k h1 c d;lia
  |succ f g=>
   intro k h1 c d;unfold SetTable.sizeAbove.go;by_cases a:2^k<=n
   .rw[hV a,<-tX];have:k≠11:=λe=>by subst e;lia
    exact g (k+1) (by lia) (by lia) (by lia)
   rw[iC a];exact⟨k,h1,c,rfl,by lia⟩
 exact step 64 3 (by lia) (by lia) (by lia)
open PyProof.Rows PySem.SeqAt
def adV{k:gQ}{t:lR}(ok:J4 k t){hashAt:Nat->Int}{h:Int}{p:cj}{n:Nat}(g:p=pr t.mask h n)(f:∀m,m<n->(pr t.mask h m).j∈t.place.toList):
    ∃m,n<=m/\m<10*(t.mask+14)/\(∀q,n<=q->q<m->∃i,t.place[i]?=J (pr t.mask h q).j/\hashAt i≠h)/\
      (((pr t.mask h m).j∉t.place.toList/\t.probe hashAt h p=J (.empty (pr t.mask h m).j U))\/
       (∃i,t.place[i]?=J (pr t.mask h m).j/\hashAt i=h/\t.probe hashAt h p=J (.candidate (pr t.mask h m).j i<|pr t.mask h<|m+1))):=by
  subst g;obtain⟨M,h1,a⟩:=ok.free h
  have c:n<=M:=by
    by_cases b:M<n
    · exact absurd (f M b) a
    · lia
  obtain⟨m,g1,g2,e⟩:=Mv ok hashAt h (10*bM t.mask) n ⟨M,c,by unfold bM;lia,a⟩
  have l:m<=M:=by
    by_cases b:M<m
    · obtain⟨i,d,_⟩:=g2 M c b
      rw[<-mw]at d;exact absurd (lS d) a
    · lia
  exact⟨m,g1,by lia,g2,e⟩
section
variable {prog:iw}{w:ik}{A:ig}{E:iK}{s:gM}
structure Hl(A:ig)(s:gM)(a:gJ)(es:qO)(n:Nat)(t:lR)(x:gU)(h:Int)(eqs:Nat->Bool):Prop where
 at_:∃o,s.heap.get? a=z8 o/\o.data=.set es n t
 tab:J4 (es.toList.map (·.1)) t
 refs:∀(i:Nat)(e:Int×gU),es[i]?=z8 e->∃b,e.2=.ref b
 eq:∀(i:Nat)(e:Int×gU),es[i]?=z8 e->EqAt A s e.2 x (eqs i)
 hash:∀(i:Nat)(e:Int×gU),es[i]?=z8 e->eqs i=At->e.1=h
 quiet:∀(l:je)(prog:iw)(w:ik)(E:iK)(Q:qV),(∀v∈l,∃e∈es.toList,e.2=v)->Q AC s->aa (ag prog w) A (na x l) Q E s
def aev(ok:J4 c t):t.gaveWay=C:=by
 obtain⟨k,h1,_,b⟩:=ok.pow;obtain⟨a,rfl⟩:∃a,k=a+1:=⟨k-1,by lia⟩
 rw[tX]at b;unfold y7;rw[Ay];lia
def IG(ok:J4 a t)(h:(A1 a)=n):t.fits n=Y:=by have:=ok.len;have:=ok.room;unfold gy gA;rw[ok.dum];simp only[kX,beq_iff_eq,oM];exact⟨by lia,by show _+0<=_;lia⟩
def Hl.fits{a b n t x h eqs}(S:Hl A s a b n t x h eqs):t.fits b.size=Y:=IG S.tab (by simp)
def xX{a:gJ}{k:qO}{nn:Nat}{t:lR}{x:gU}{h:Int}{c:Nat->Bool}{adding:Bool}(S:Hl A s a k nn t x h c){Q:SetFound->gM->Prop}
  (H:∀i r,c i=At->i<k.size->(r=z9\/r=z8 i)->(adding=AC->r=z8 i)->Q (.there r) s)
  (i9:(∀i,i<k.size->c i=AC)->∀n,(pr t.mask h n).j∉t.place.toList->(∀m,m<n->(pr t.mask h m).j∈t.place.toList)->Q (.free (pr t.mask h n).j AC) s):
  ∀(l n:Nat)(u:Option cj),u.getD (t.probeStart h)=pr t.mask h n->(∀q,q<n->∃i,t.place[i]?=z8 (pr t.mask h q).j/\c i=AC)->10*(t.mask+14)<n+l->n<=10*(t.mask+14)->
   aa (ag prog w) A (vu a x h adding l u) Q E s:=by
 intro iV
 induction iV with
 |zero=>
  intro n u _ _ V X
  lia
 |succ l iH=>
  intro n u k6 U V X;obtain⟨o,G,hd⟩:=S.at_
  have Gp:∀m,m<n->(pr t.mask h m).j∈t.place.toList:=λm W=>by obtain⟨i,g,_⟩:=U m W;rw[<-mw]at g;exact lS g
  unfold vu;refine gL<|qX G hd S.fits ?_;dsimp only;rw[aev S.tab];simp only[jX,↓reduceIte];generalize R:t.probe _ h _=P;obtain⟨m,m1,m2,m3,F⟩:=adV S.tab k6 Gp (hashAt:=λi=>(k[i]?.map (·.1)).getD 0);have T:t.probe (λi=>(k[i]?.map (·.1)).getD 0) h (u.getD<|t.probeStart h)=P:=R;rw[T]at F
  have N:∀(i:Nat)(j:Nat),t.place[i]?=z8 j->∃e,k[i]?=z8 e/\(k[i]?.map (·.1)).getD 0=e.1:=λi j g=>by have h1:=(OR.mp g).1;have O:=S.tab.len;rw[jf,kU]at O;exact⟨k[i],pk<|by lia,by rw[pk<|by lia];rfl⟩
  have ne:∀(i:Nat)(j:Nat),t.place[i]?=z8 j->(k[i]?.map (·.1)).getD 0≠h->c i=AC:=λi j g L=>by
   obtain⟨e,f,Y⟩:=N i j g
   cases d:c i
   .rfl
   exact absurd (Y.trans<|S.hash i e f d) L
  have seen:∀q,q<m->∃i,t.place[i]?=z8 (pr t.mask h q).j/\c i=AC:=λq d=>by
   by_cases p:q<n
   .exact U q p
   obtain⟨i,g,L⟩:=m3 q (by lia) d;exact⟨i,g,ne i _ g L⟩
  rcases F with⟨a1,a2⟩|⟨i,a1,a2,a3⟩
  .subst a2;dsimp only;refine hJ<|i9 (λi g=>?_) m a1 λq d=>?_
   .cases d:c i
    .rfl
    exfalso;have f:k[i]?=z8 k[i]:=pk g;have h1:=S.hash i _ f d;have O:=S.tab.len;rw[jf,kU]at O;have B:t.place[i]?=z8 t.place[i]:=pk (by lia);obtain⟨M,K,r2⟩:=S.tab.road i h t.place[i] (by rw[kg,mw,f];exact lY z8 h1) B
    have:M<m:=by
     by_cases p:M<m
     .exact p
     exfalso;rcases gV (OS.mp p)with p|heq
     .exact a1 (r2 m p)
     subst heq;rw[<-mw]at B;rw[K]at a1;exact a1<|lS B
    obtain⟨Z,g1,g2⟩:=seen M this;rw[K]at g1;have:Z=i:=by rw[<-An S.tab.ris g1,An S.tab.ris B]
    rw[this,d]at g2;cases g2
   obtain⟨i,g,_⟩:=seen q d;rw[<-mw]at g;exact lS g
  subst a3;dsimp only;obtain⟨e,f,Y⟩:=N i _ a1;obtain⟨h',y⟩:=e;obtain⟨b,D⟩:=S.refs i _ f;dsimp only at D;subst D;have I:t.sameMemory t.moves t.mask=z8 At:=by simp[x9]
  have C:i<k.size:=(OR.mp f).1;cases hl:t.led
  .simp only[lT];refine gL<|S.quiet _ _ _ _ _ (λv hv=>?_) ?_
   .obtain⟨e,w5,rfl⟩:=rp.mp hv;exact⟨e,(Wo.mp (by simpa using(Array.mem_filter.mp<|Wo.mp w5).1) |> λz=>by simpa using z),rfl⟩
   simp only[jX];rw[f];dsimp only;refine gL<|lU<|S.eq i _ f _ _ _ _ ?_;refine gL<|qX G hd S.fits ?_;dsimp only
   cases d:c i with
   |true=>
    cases adding with
    |true=>simp;exact hJ<|H i z9 d C (.inl AT) (λz=>by cases z)
    |false=>simp only[dw,jX,↓reduceIte,I,pH S.tab.ris a1,f];refine gL<|BZ ?_;simp;exact gL<|hJ<|hJ<|H i _ d C (.inr AT) λ_=>rfl
   |false=>
    simp only[l3,jX,↓reduceIte,I,pH S.tab.ris a1,f];refine gL<|BZ ?_;simp;refine gL<|hJ ?_
    exact iH (m+1) _ rfl (λq J=>by
     by_cases e:q=m
     .subst e;exact⟨i,a1,d⟩
     exact seen q (by lia)) (by lia) (by lia)
  simp only[qW,jX];rw[f];dsimp only;refine gL<|lU<|S.eq i _ f _ _ _ _ ?_;refine gL<|qX G hd S.fits ?_;dsimp only
  cases d:c i with
  |true=>
   cases adding with
   |true=>simp;exact hJ<|H i z9 d C (.inl AT) (λz=>by cases z)
   |false=>simp only[dw,jX,↓reduceIte,I,pH S.tab.ris a1,f];refine gL<|BZ ?_;simp;exact gL<|hJ<|hJ<|H i _ d C (.inr AT) λ_=>rfl
  |false=>
   simp only[l3,jX,↓reduceIte,I,pH S.tab.ris a1,f];refine gL<|BZ ?_;simp;refine gL<|hJ ?_
   exact iH (m+1) _ rfl (λq J=>by
    by_cases e:q=m
    .subst e;exact⟨i,a1,d⟩
    exact seen q (by lia)) (by lia) (by lia)
end
noncomputable abbrev ju(a:qO)(n:Nat)(t:lR):Obj:={cls:=.type "set",data:=.set a n t}
section
variable {c:iw}{w:ik}{A:ig}{E:iK}{s:gM}
def DY{h:ip}{a:gJ}{b es':qO}{n:Nat}{t t':lR}(d:h.get? a=J (ju b n t)):(h.update a<|gD es' t').get? a=J (ju es' (n+1) t'):=by have:=rL (gD es' t') d (by rw[putSet_of es' t' I];rfl);rw[putSet_of es' t' I]at this;exact this
def Mh{b:Type}(a:Array b):(ap a.size).filterMap (λi=>a[i]?)=a.toList:=by
 have:∀(l:List b),(ap<|A1 l).filterMap (λi=>l[i]?)=l:=by
  intro l
  induction l with
  |nil=>rfl
  |cons x l d=>rw[mQ,dc,vA];simp only[yN,gb,qZ,wC,d]
 have h:=this a.toList;simpa using h
def Rr{a:qO}:∀(l:jc),(∀i∈l,i<a.size)->(l.filterMap λi=>a[i]?).map (·.1)=l.map λi=>(a.toList.map (·.1)).getD i 0:=by
 intro f
 induction f with
 |nil=>intro _;exact I
 |cons i l e=>
  intro h;have b:=h i jF;rw[vA,pk b];simp;rw[e λj d=>h j<|iY _ d]
  congr 1
  simp[b]
def Mc{a:gJ}{d:qO}{n:Nat}{t:lR}(j:s.heap.get? a=J (ju d n t))(x:t.fits d.size=Y)(N:5<=d.size)(O:d.size<=500){Q:Unit->gM->Prop}
  (h:∀g es' T t',aG a s.heap g->g.get? a=J (ju es' T t')->es'.toList.Perm d.toList->J4 (es'.toList.map (·.1)) t'->t'.plain=t.plain->t'.led=t.led->Q () {s with heap:=g}):
  aa (ag c w) A (setRelay a<|d6 d.size) Q E s:=by
 have y:d6 d.size=d.size*4:=by unfold d6;rw[iC<|by lia]
 obtain⟨k,M,l,v,lk⟩:=abP (d.size*4) (by lia);have B:dr (d.size*4)-1+1=2^k:=by have:=lb k;lia
 obtain⟨t',b,p,f,q,r,u⟩:=Rf B M l t.finger (t.movedTo<|dr (d.size*4)-1) t.led t.plain (d.toList.map (·.1)) (by rw[jf,kU];lia);rw[jf,kU]at f
 have er:t.relaid (d.map (·.1)) (d.size*4)=J (t',b):=by unfold y3;rw[<-p,<-Array.toList_map]
 have o:∀i∈b.toList,i<d.size:=λi z=>rn.mp<|f.mem_iff.mp z;have m:(b.filterMap (d[·]?)).toList=b.toList.filterMap (λi=>d[i]?):=by simp
 have e:(b.filterMap (d[·]?)).toList.Perm d.toList:=by rw[m];refine(f.filterMap _).trans ?_;rw[Mh]
 have sz:(b.filterMap (d[·]?)).size=d.size:=by rw[<-kU,e.length_eq,kU]
 rw[y];unfold setRelay;refine gL<|qX j I x ?_;dsimp only
 have L:2^k<=sizeLine:=by have:2^k<=2^11:=wD (by decide) l;rw[jQ];lia
 rw[iC<|by rw[v];lia,er];refine gL ?_;change aa _ _ (if((b.filterMap (d[·]?)).size !=d.size)=Y then _ else _) _ _ _;rw[iC<|by rw[sz];simp];refine hJ ?_;dsimp only;refine mu j I ?_ (by rw[sz,jQ];lia);refine h _ (b.filterMap (d[·]?)) (n+1) t' (qr s.heap a _) (DY j) e ?_ r u;rw[m,Rr _ o];exact q
def rZ{b:Type}(a:Array b)(p:Nat)(x:b):(aA a p x).toList.Perm (x::a.toList):=by rw[lI];refine OQ.trans ?_;rw[rE]
def UG{a:qO}{t:lR}{h:Int}{m:Nat}(x:gU)(f:J4 (a.toList.map (·.1)) t)(v:t.plain=Y)(h1:(pr t.mask h m).j∉t.place.toList)(y:∀i,i<m->(pr t.mask h i).j∈t.place.toList):
  ∃p o,aA a (t.put (pr t.mask h m).j).2 (h,x)=p/\(t.put (pr t.mask h m).j).1=o/\p.size=a.size+1/\o.plain=Y/\o.led=t.led/\p.toList.Perm ((h,x)::a.toList)/\o.fits p.size=Y/\(o.tooFull=Y->5<=p.size)/\(o.tooFull=C->J4 (p.toList.map (·.1)) o):=by
 have q:(t.put (pr t.mask h m).j).1={t with place:=aA t.place (am t.place (pr t.mask h m).j) (pr t.mask h m).j,dummies:= #[]}:=by unfold g8;dsimp only;rw[f.dum,C8];rfl
 have r:(aA a (t.put (pr t.mask h m).j).2 (h,x)).size=a.size+1:=by rw[<-kU,(rZ a _ _).length_eq,mQ,kU]
 have d:a.toList.length=a.size:=kU;have l:=f.len;rw[jf,d]at l
 have g:(t.put (pr t.mask h m).j).1.place.size=a.size+1:=by rw[q];show(aA t.place _ _).size=_;rw[<-kU,(rZ t.place _ _).length_eq,mQ,kU,l]
 have b:(t.put (pr t.mask h m).j).1.fill=a.size+1:=by unfold gA;rw[g,q];rfl
 have e:(t.put (pr t.mask h m).j).1.mask=t.mask:=by rw[q]
 have n:=f.room;rw[jf,d]at n
 have Q:7<=t.mask:=by
  obtain⟨k,B,_,T⟩:=f.pow;have:2^3<=2^k:=wD (by decide) B
  lia
 have u:(t.put (pr t.mask h m).j).1.tooFull=decide ((a.size+1)*5>=t.mask*3):=by unfold x8;rw[b,e]
 refine⟨_,_,rfl,rfl,r,by rw[q];exact v,by rw[q],rZ a _ _,?_,λz=>?_,λz=>?_⟩
 .unfold gy;rw[g,r,b,e];simp;lia
 .rw[u]at z;have:=rB z;rw[r];lia
 rw[u]at z;have:=of_decide_eq_false z;obtain⟨O,L⟩:=f.put h1 y (by rw[jf,d];lia) I I;rw[lI,nL,jK,mo,List.map_drop];exact O
def Zv{a b:gJ}{f:qO}{n:Nat}{t:lR}{h:Int}{e:Nat->Bool}(S:Hl A s a f n t (.ref b) h e)(p:s.heap.get? a=z8 (ju f n t))(M:t.plain=At)(hz:f.size+1<=500)
  (y:∀(H:qV),H At s->aa (ag c w) A (eR 8<|.ref b) H E s){Q:qV}
  (hold:(∃i,i<f.size/\e i=At)->Q AC s)
  (T:(∀i,i<f.size->e i=AC)->∀h' es' B t',aG a s.heap h'->h'.get? a=z8 (ju es' B t')->es'.toList.Perm ((h,.ref b)::f.toList)->J4 (es'.toList.map (·.1)) t'->t'.plain=At->t'.led=t.led->Q At {s with heap:=h'}):
  aa (ag c w) A (wE a (.ref b) h) Q E s:=by
 unfold wE setAddHashedIn;refine lU<|gL<|qX p AT S.fits ?_;dsimp only;have N:byScan (.ref b) f=AC:=rfl;rw[N];simp only[jX]
 have V:t.mask+1<=2048:=by
  obtain⟨k,_,J,R⟩:=S.tab.pow;have:2^k<=2^11:=wD (by decide) J
  lia
 refine gL<|xX S (adding:=At) (λi r h1 x _ _=>?_) (λG m h1 x=>?_) 100000 0 z9 AT (λq W=>by lia) (by lia) (by lia)
 .dsimp only;exact hJ<|hold ⟨i,x,h1⟩
 dsimp only;refine gL<|qX p AT S.fits ?_;dsimp only;obtain⟨I,C,K,P,v,u,d,O,g,z,j⟩:=UG (.ref b) S.tab M h1 x;rw[K,P,hV u];refine gL<|y _ ?_;simp;refine gL<|mu p AT ?_ (by rw[v,jQ];lia);have L:=DY (es':=I) (t':=C) p;have o:=qr s.heap a (gD I C)
 cases l:C.tooFull with
 |true=>simp;rw[<-v];refine gL<|Mc L g (z l) (by rw[v];lia) λh' es' B t' g1 g2 U Y D F=>?_;exact hJ<|T G h' es' B t' (o.trans g1) g2 (U.trans O) Y (by rw[D];exact u) (by rw[F];exact d)
 |false=>simp;exact hJ<|T G _ _ _ _ o L O (j l) u d
def YT(S:Hl A s a d n t (.ref b) h eqs)(l:s.heap.get? a=J (ju d n t))
  (h1:∀i,i<d.size->eqs i=Y->Q (J i) s)(j:(∀i,i<d.size->eqs i=C)->Q U s):aa (ag c w) A (setFind a (.ref b) h) Q E s:=by
 unfold setFind setFindIn;refine gL<|qX l I S.fits ?_;dsimp only;have f:byScan (.ref b) d=C:=rfl;rw[f];simp
 have u:t.mask+1<=2048:=by
  obtain⟨k,_,e,p⟩:=S.tab.pow;have:2^k<=2^11:=wD (by decide) e
  lia
 refine gL<|xX S (adding:=C) (λi r g1 g2 _ g=>?_) (λo m _ _=>?_) 100000 0 U I (λq v=>by lia) (by lia) (by lia)
 .rw[g I];exact hJ<|h1 i g2 g1
 exact hJ (j o)
end
end TT
namespace PX
open L2 PySem.SeqAt TS
def D.Hk:∀l:List D,D.CB l=l.map D.hash:=by
 intro b
 induction b with
 |nil=>rw[D.CB];rfl
 |cons d l a=>rw[D.CB,a];rfl
def Mw:∀{l:List D}{d:D},D.GS l=Y->d∈l->D.pr d=Y:=by
 intro c
 induction c with
 |nil=>intro d _ h;simp at h
 |cons e l b=>
  intro d a h;rw[D.GS,kX]at a;rcases mP.mp h with rfl|h
  .exact a.1
  exact b a.2 h
def Ag:∀{l:List D}{d:D},d∈l->d.dep<=D.Ms l:=λ{l d} h=>by obtain⟨j,a⟩:=qu h;exact D.AV a
section
variable {X:Cx}{f:iN}{g:L2.St}{H:Hp}{s:gM}
def GW(X:Cx)(H:Hp)(O:SI)(c:List D)(a:je):Prop:= ∃b,YP X.K H O c b/\Vals b a
def GW.cons(h:GW X H O (d::ds) (v::c)):(∃x,Rep X.K H O d x/\RelV x v)/\GW X H O ds c:=by
 obtain⟨k,r,vs⟩:=h;rw[YP]at r;obtain⟨x,j,rfl,e,i⟩:=r
 cases vs with
 |cons a b=>exact⟨⟨x,e,a⟩,j,i,b⟩
def GW.nil_of{O:SI}{a:List D}(h:GW X H O a []):a=[]:=by
 obtain⟨c,r,b⟩:=h;cases b
 cases a with
 |nil=>rfl
 |cons d a=>rw[YP]at r;obtain⟨_,_,e,_⟩:=r;cases e
def GW.cons_of(h:GW X H O a (v::c)):∃d b,a=d::b:=by
 cases a with
 |nil=>obtain⟨i,r,e⟩:=h;rw[YP]at r;subst r;cases e
 |cons d a=>exact⟨d,a,rfl⟩
def NM:∀(n:Nat){s:gM}(I:Inv X f g H s)(d:D)(v:V)(u:gU)(O:SI)(A:ig)(E:iK)(Q:Int->gM->Prop),Rep X.K H O d v->RelV v u->D.pr d=At->d.dep<=n->A.units+n<aL->(∀j,s.toks<=j->Q d.hash {s with toks:=j})->
  aa (ag X.prog X.w) A (pyHash u) Q E s:=by
 intro n
 induction n with
 |zero=>
  intro s I d v u O A E Q c T p hd R B
  cases d with
  |int i=>have:=c.int;subst this;obtain⟨t,rfl⟩:=T;have:=B (s.toks+1)<|rK _;rw[D.hash]at this;exact Gj this
  |tup l=>rw[D.dep]at hd;lia
  |_=>simp[D.pr]at p
 |succ n ih=>
  intro s I d v u O A E Q c T p hd R B
  cases d with
  |int i=>have:=c.int;subst this;obtain⟨t,rfl⟩:=T;have:=B (s.toks+1)<|rK _;rw[D.hash]at this;exact Gj this
  |tup l=>
   rw[D.pr]at p;rw[D.dep]at hd;obtain⟨a,xs,rfl,q,r⟩:=c.tup;cases T;obtain⟨Z,vs,⟨o,Y,S,nn,r8⟩,_⟩:=I.tuple q.sq;have C:s.TypeIs (.ref a) "tuple":=⟨o,Y,S⟩
   have W:A.units<cLine:=by lia
   unfold pyHash;unfold pyHashByItsType;refine gL<|wpAny_cRoomFor_or (.inr W) ?_;refine gL<|uq C Hy.lookup ?_;show aa _ _ (if(J (k8 "tuple.__hash__")==J ao)=At then _ else _) Q E s;rw[iC<|by rw[o4];exact ky];refine gL<|uq C Hy.lookup ?_;show aa _ _ (callSpecialIfBoundUnlessNone? (.ref a) "__hash__" _>>=_) Q E s;refine gL<|wpAny_callSpecialIfBoundUnlessNone?_slot C Hy<|og Hy C PySem.F.entry_tuple_hash ?_<|PySem.F.args_tuple_hash_1 _;show aa _ _ (cf (.ref a)>>=_) _ _ s;refine gL<|wpAny_tupleItemsOf Y r8 ?_;refine gL ?_;rw[<-BY]
   refine wJ _
    (λm (b:Array Int) J'=>∃done left,l=done++left/\GW X H (λa=>O a) left m/\b.toList=done.map D.hash/\∃j,s.toks<=j/\J'={s with toks:=j})
    _ ?_ ?_ _ _ ⟨[],l,rfl,⟨xs,r,by simpa using vs⟩,rfl,s.toks,jh _,rfl⟩
   .rintro x m b J' ⟨done,left,rfl,L,G,j,z,rfl⟩;obtain⟨d,left,rfl⟩:=L.cons_of;obtain⟨⟨y,h1,P⟩,N⟩:=L.cons;have U:d∈done++d::left:=by simp
    have ef:=Ag U;refine gL<|ih (I.kept (h':=s.heap) (t':=j) λ_ _ e=>e) d y x O A.in1 E _ h1 P (Mw p U) (by lia) (by show A.units+1+n<aL;lia) λM k=>?_
    first
     |exact hJ ⟨done++[d],left,by simp,N,by simp[G],M,jW z k,rfl⟩
     |exact gL<|hJ<|hJ ⟨done++[d],left,by simp,N,by simp,M,jW z k,rfl⟩
   rintro b J' ⟨done,left,rfl,L,G,j,z,rfl⟩;have:=L.nil_of;subst this;have h:=B (j+1)<|g9 z;rw[D.hash,D.Hk,rN]at h;show aa _ _ (retInt<|bg b.toList) _ _ _;rw[G];refine wpAny_ret_mkInt ?_;show aa _ _ (if(decide (-(2:Int)^63<=bg (done.map D.hash))&&decide (bg (done.map D.hash)<2^63))=At then _ else _) Q E _;unfold reduceHash at h;by_cases c:(decide (-(2:Int)^63<=bg (done.map D.hash))&&decide (bg (done.map D.hash)<2^63))=At
   .rw[hV c];rw[hV c]at h;exact hJ h
   rw[iC c];rw[iC c]at h;exact gL<|vw<|hJ h
  |_=>simp[D.pr]at p
def NH{P:iw}{W:ik}{F:Nat->gU->c4 Bool}{c:Bool}(I:Inv X f g H s)(p:∀n i t,F n (.int i t)=pure c)
  (N:∀(n:Nat)(a:gJ)(o:el)(b:je)(m:Nat)(A:ig)(E:iK)(Q:qV),s.heap.get? a=z8 o->s.TypeIs (.ref a) "tuple"->o.data=.seq b.toArray m->
   (∀u∈b,∀Q:Bool->gM->Prop,Q c s->aa (ag P W) A (F n u) Q E s)->Q c s->aa (ag P W) A (F (n+1)<|.ref a) Q E s):∀(n:Nat)(d:D)(v:V)(u:gU)(O:SI)(A:ig)(E:iK)(Q:qV),Rep X.K H O d v->RelV v u->D.pr d=Y->d.dep<=n->Q c s->aa (ag P W) A (F n u) Q E s:=by
 intro n
 induction n with
 |zero=>
  intro d v u O A E Q j k e hd h
  cases d with
  |int i=>have:=j.int;subst this;obtain⟨t,rfl⟩:=k;exact uc (p _ _ _) h
  |tup l=>rw[D.dep]at hd;omega
  |_=>simp[D.pr]at e
 |succ n Y'=>
  intro d v u O A E Q j k e hd h
  cases d with
  |int i=>have:=j.int;subst this;obtain⟨t,rfl⟩:=k;exact uc (p _ _ _) h
  |tup l=>rw[D.pr]at e;rw[D.dep]at hd;obtain⟨a,T,rfl,q,r⟩:=j.tup;cases k;obtain⟨b,C,⟨o,z,G,m,R⟩,_⟩:=I.tuple q.sq;refine N n a o b m A E Q z ⟨o,z,G⟩ R (λu U Q M=>?_) h;obtain⟨i,x⟩:=qu U;have l1:=C.length;have l2:=r.length;have Z:=(ue.mp x).1;have B:T[i]?=z8 T[i]:=jk (by omega);have J:l[i]?=z8 l[i]:=jk (by omega);obtain⟨w,L,S⟩:=C.get B;rw[x]at L;cases L;have y:l[i]∈l:=wB _;have ef:=Ag y;exact Y' _ _ _ O A E Q (r.views J B) S (Mw e y) (by omega) M
  |_=>simp[D.pr]at e
def YM(T:Inv X f g H s):=NH (P:=X.prog) (W:=X.w) (F:=eR) (c:=Y) T (λn i t=>by simp[eR]) λn a o d v A E Q p m r q l=>by
 unfold eR;refine gL<|uq m Hy.lookup ?_;dsimp only;refine gL<|Cj p r ?_;refine gL ?_;show aa _ _ (eJ d.toArray _ _) _ _ s;rw[<-BY];refine wJ _ (λb k j=>k.1=U/\j=s/\∀u∈b,u∈d) _ ?_ ?_ _ _ ⟨rfl,rfl,by simp⟩
 .rintro x b k j ⟨e,rfl,hm⟩;refine gL<|q x (hm x jF) _ ?_;simp -iota only[qW,jX,kY];exact hJ ⟨rfl,rfl,λu h=>hm u<|iY _ h⟩
 rintro⟨y,z⟩ j ⟨e,rfl,_⟩;simp only at e;subst e;exact hJ l
def P0{P:iw}{W:ik}(T:Inv X f g H s):=NH (P:=P) (W:=W) (F:=n9) (c:=Y) T (λn i t=>eqIsQuiet_byValue n I) λn a o d v A E Q p k r q m=>by
 unfold n9;refine gL<|uq k PySem.F.slot_tuple_eq.lookup ?_;show aa _ _ (isInstance (.ref a) (.type "tuple")>>=_) _ _ s;refine gL<|yT k isSubtype_tuple_tuple ?_;simp -iota only[qW,jX,kY];refine gL<|Cj p r ?_;refine gL ?_;show aa _ _ (eJ d.toArray _ _) _ _ s;rw[<-BY];refine wJ _ (λb l j=>l.1=U/\j=s/\∀u∈b,u∈d) _ ?_ ?_ _ _ ⟨rfl,rfl,by simp⟩
 .rintro x b l j ⟨e,rfl,hm⟩;refine gL<|q x (hm x jF) _ ?_;simp -iota only[qW,jX,kY];exact hJ ⟨rfl,rfl,λu h=>hm u<|iY _ h⟩
 rintro⟨w,y⟩ j ⟨e,rfl,_⟩;simp only at e;subst e;exact hJ m
def adm{P:iw}{W:ik}(T:Inv X f g H s):=NH (P:=P) (W:=W) (F:=c7) (c:=C) T (λn i t=>by simp[c7]) λn a o d v A E Q p m r q l=>by
 unfold c7;refine gL<|uH m ?_;dsimp only;rw[hV<|by decide];refine gL<|hJ ?_;simp -iota only[qW,jX,kY];refine gL<|Cj p r ?_;dsimp only;refine gL ?_;show aa _ _ (eJ d.toArray _ _) _ _ s;rw[<-BY];refine wJ _ (λb k j=>k.1=U/\j=s/\∀u∈b,u∈d) _ ?_ ?_ _ _ ⟨rfl,rfl,by simp⟩
 .rintro x b k j ⟨e,rfl,hm⟩;refine gL<|q x (hm x jF) _ ?_;simp -iota only[jX,kY];exact hJ ⟨rfl,rfl,λu h=>hm u<|iY _ h⟩
 rintro⟨w,y⟩ j ⟨e,rfl,_⟩;simp only at e;subst e;exact hJ l
end
end PX
namespace TT
open PySem.SeqAt
def abF:i3 t0 "set.__iter__"=J bc.«frozenset.__iter__»:=t9 (id':="frozenset.__iter__") (by kernel_rfl) I (by decide+kernel) (by kernel_rfl)
def uN:Slot "set_iterator" "__next__" "set_iterator.__next__":=.of (owner:="set_iterator") (n:="__next__") (by rw[re,K0];kernel_rfl) (by decide+kernel) (by decide+kernel) (by decide+kernel) (by first|exact .inl (by decide+kernel)|exact .inr<|by decide+kernel) (by rw[Fp];kernel_rfl)
def vH:Slot "set_iterator" "__iter__" "set_iterator.__iter__":=.of (owner:="set_iterator") (n:="__iter__") (by rw[re,K0];kernel_rfl) (by decide+kernel) (by decide+kernel) (by decide+kernel) (by first|exact .inl (by decide+kernel)|exact .inr<|by decide+kernel) (by rw[Fp];kernel_rfl)
def abB:i3 t0 "set_iterator.__next__"=J bc.«set_iterator.__next__»:=entryFor_of_fast (by kernel_rfl)
def abC:i3 t0 "set_iterator.__iter__"=J bc.«dict_keyiterator.__iter__»:=t9 (id':="dict_keyiterator.__iter__") (by kernel_rfl) I (by decide+kernel) (by kernel_rfl)
def aca(a:gU):e9 "set_iterator.__next__" ⟨[a],[]⟩:=by unfold e9;kernel_rfl
def acb(a:gU):e9 "set_iterator.__iter__" ⟨[a],[]⟩:=by unfold e9;kernel_rfl
theorem qy{a:Type}:∀(l:List a){i:Nat}(h:i<A1 l),(l[i]::l.eraseIdx i).Perm l
 |x::l,0,_=>by simp
 |x::l,i+1,h=>by have:=qy l (i:=i) (by simpa using h);simp;exact(fH x _ _).trans (fI x this)
def abQ{c:Type}(next:Nat->Nat):∀(a k:Nat)(left:List c)(out:Array c),A1 left<=a->(pickOrder.go next a k left out).toList.Perm (out.toList++left):=by
 intro e
 induction e with
 |zero=>intro k left out h;have:left=[]:=Ku.mp (by lia);subst this;unfold pickOrder.go;simp
 |succ a d=>
  intro k left out h;unfold pickOrder.go
  cases left with
  |nil=>simp
  |cons y l=>have b:next k%(y::l).length<(y::l).length:=wF _ (by simp);rw[jk b];dsimp only;refine(d (k+1) _ _ (by rw[yM,hV b];simp at h ⊢;lia)).trans ?_;rw[dQ,oO];refine KZ _ ?_;exact qy _ b
def zt{b:Type}(next:Nat->Nat)(a:Array b):(eP next a).toList.Perm a.toList:=by unfold eP;have:=abQ next a.size 0 a.toList #[] (by simp);simpa using this
noncomputable def pV(w:ik)(a:gJ)(n:Nat)(b:qO):Array (Int×gU):=if w.params.followText "set-order"=Y then eP (w.params.setOrder a n) b else b
def E9(w:ik)(a:gJ)(n:Nat)(b:qO):(pV w a n b).toList.Perm b.toList:=by
 unfold pV;split
 .exact zt _ _
 exact rC _
def uL(w:ik)(a:gJ)(n:Nat)(b:qO):(pV w a n b).size=b.size:=by rw[<-kU,(E9 w a n b).length_eq,kU]
noncomputable def HP(t:lR):Nat->Nat
 |0=>0
 |i+1=>t.place.getD i 0+1
def mD(w:ik)(t:lR)(i:Nat):Nat:=if w.params.followText "set-order"=Y then 0 else HP t i
structure B2(w:ik)(h:ip)(a:gJ)(es:qO)(n:Nat)(t:lR):Prop where
 at_:h.get? a=z8 (ju es n t)
 tab:J4 (es.toList.map (·.1)) t
 plain:t.plain=At
 led:t.led=!w.params.followText "set-order"
def AL(w:ik)(h:ip)(it a:gJ)(t:lR)(size n i:Nat):Prop:= ∃o,h.get? it=J o/\o.cls=.type "set_iterator"/\o.data=.fields #[.int (mD w t i) 0,.int i 0,.ref a,.int size 0,.int n 0]
section
variable {c:iw}{w:ik}{A:ig}{E:iK}{s:gM}
def B2.fits{h a b n t}(S:B2 w h a b n t):t.fits b.size=Y:=IG S.tab (by simp)
def acZ(d:t.place.toList.Pairwise (· < ·))(m:i<=t.place.size):am t.place (HP t i)=i:=by
 cases i with
 |zero=>
  obtain⟨h1,a,_⟩:=oJ d 0
  cases h:am t.place 0 with
  |zero=>exact h
  |succ k=>
   have j:0<t.place.size:=by lia
   have:=a 0 _ (by lia) (pk j)
   lia
 |succ i=>
  have hd:t.place.getD i 0=t.place[i]:=by simp[show i<t.place.size by lia]
  show am t.place (t.place.getD i 0+1)=i+1;rw[hd];have f:t.place[i]?=J t.place[i]:=pk (by lia);obtain⟨h1,a,g⟩:=oJ d<|t.place[i]+1;by_cases l:am t.place (t.place[i]+1)<i+1
  .have:=g i _ (by lia) f;lia
  by_cases b:i+1<am t.place (t.place[i]+1)
  .have e:t.place[i+1]?=J t.place[i+1]:=pk (by lia);have:=a (i+1) _ b e;have:=CH d (yV i) f e
   lia
  lia
def acO{a:gJ}{b:qO}{n:Nat}{t:lR}(S:B2 w s.heap a b n t){i:Nat}(r:i<=b.size){Q:Option (gU×Nat)->gM->Prop}
  (h1:∀e,(pV w a n b)[i]?=J e->Q (J (e.2,mD w t<|i+1)) s)(j:i=b.size->Q U s):aa (ag c w) A (setNext a (mD w t i) i n) Q E s:=by
 have q:=S.tab.len;rw[jf,kU]at q;unfold setNext;refine gL<|qX S.at_ I S.fits ?_;dsimp only;unfold eW;refine gL<|gL<|rH<|hJ ?_;by_cases d:w.params.followText "set-order"=Y
 .have g:(ag c w).w.params.followText "set-order"=Y:=d;rw[hV g,iC<|by simp];unfold setWalk eW;refine gL<|gL<|qX S.at_ I S.fits ?_;dsimp only;refine gL<|gL<|rH<|hJ ?_;rw[hV g];refine gL<|rH<|hJ<|hJ ?_;have h:pV w a n b=eP (w.params.setOrder a n) b:=by unfold pV;rw[hV d]
  have f:∀k,mD w t k=0:=λk=>by unfold mD;rw[hV d]
  show Q (((eP (w.params.setOrder a n) b)[i]?).map λe=>(e.2,mD w t i)) s;rw[<-h];rw[f]at h1;rw[f]
  cases l:(pV w a n b)[i]? with
  |some e=>exact h1 e l
  |none=>have:=Wn.mp l;rw[uL]at this;exact j (by lia)
 have g: ¬(ag c w).w.params.followText "set-order"=Y:=d;rw[iC g];change aa _ _ (if(!t.plain&&decide (b.size>1))=Y then _ else _) _ _ _;rw[iC<|by rw[S.plain];simp];have p:t.led=Y:=by rw[S.led];simpa using d
 refine gL ?_;change aa _ _ (if(!t.led&&!b.isEmpty)=Y then _ else _) _ _ _;rw[iC<|by rw[p];simp];refine hJ ?_;have h:pV w a n b=b:=by unfold pV;rw[iC d]
 have f:∀k,mD w t k=HP t k:=λk=>by unfold mD;rw[iC d]
 have m:am t.place (mD w t i)=i:=by rw[f];exact acZ S.tab.ris (by lia)
 rw[m];rw[h]at h1;by_cases o:i<b.size
 .have g1:b[i]?=J b[i]:=pk o;have g2:t.place[i]?=J t.place[i]:=pk (by lia);rw[g1,g2];have:=h1 b[i] g1;rw[f]at this;rw[show HP t (i+1)=t.place.getD i 0+1 from I]at this;have hd:t.place.getD i 0=t.place[i]:=by simp[show i<t.place.size by lia]
  rw[hd]at this;exact hJ this
 rw[Fq<|by lia];exact hJ<|j (by lia)
def B2.typeIs{a b n t}(S:B2 w s.heap a b n t):s.TypeIs (.ref a) "set":=⟨_,S.at_,rfl⟩
def AL.typeIs{it a t z n i}(S:AL w s.heap it a t z n i):s.TypeIs (.ref it) "set_iterator":=let⟨o,d,b,_⟩:=S;⟨o,d,b⟩
def Nz(S:B2 w s.heap a f n t)
  (g:∀d,AL w d s.heap.objs.size a t f.size n 0->(∀b o,s.heap.get? b=J o->d.get? b=J o)->d.objs.size=s.heap.objs.size+1->Q (.ref s.heap.objs.size) {s with heap:=d}):
  aa (ag c w) A (cG<|.ref a) Q E s:=by
 refine Fo S.typeIs KY<|og KY S.typeIs abF ?_<|PySem.F.args_set_iter_1 _;unfold bc.«frozenset.__iter__» j2 t5;simp -iota only[yL,qW,jX,rJ,yK,wR];unfold bK j3;refine gL<|hJ ?_;dsimp only;refine gL<|hJ ?_;refine gL<|gL<|KW S.at_ I S.fits<|hJ ?_;unfold setDrawn eW;refine gL<|gL<|qX S.at_ I S.fits ?_;dsimp only;refine gL<|gL<|rH<|hJ ?_;refine hJ ?_;change aa _ _ (if(!w.params.followText "set-order"&&(!t.plain&&decide (f.size>1)))=Y then _ else _) _ _ _;rw[iC<|by rw[S.plain];simp];refine gL<|hJ ?_;unfold setEpoch;refine gL<|gL<|qX S.at_ I S.fits<|hJ ?_;refine gL<|nu<|hJ ⟨_,rfl,"set_iterator",_,⟨_,jT _ rfl,rfl⟩,uN.lookup,?_⟩;refine g _ ⟨_,jT _ rfl,rfl,?_⟩ (λb o e=>jz _ e) (oN _ _);have:mD w t 0=0:=by unfold mD;split<;>rfl
 rw[this];rfl
def En(u:A.handled=U){it a:gJ}{d:qO}{n:Nat}{t:lR}(S:B2 w s.heap a d n t){i:Nat}(h:AL w s.heap it a t d.size n i)(v:i<=d.size){Q:Hw}
  (q:∀e,(pV w a n d)[i]?=J e->∀f,AL w f it a t d.size n (i+1)->aG it s.heap f->Q (J e.2) {s with heap:=f})
  (p:i=d.size->∀f,dt it s.heap f->Q U {s with heap:=f}):aa (ag c w) A (cU<|.ref it) Q E s:=by
 obtain⟨o,g,r,hd⟩:=id h;unfold cU;refine gL<|wM<|uI (name:=bC "__next__") h.typeIs uN<|og uN h.typeIs abB ?_<|aca _;unfold bc.«set_iterator.__next__» t5;simp -iota only[yL,qW,jX,rJ,yK,wR];refine gL<|hJ ?_;unfold fieldsOf;dsimp only;simp -iota only[rJ];refine gL<|Cv g ?_;rw[hd];refine gL<|hJ ?_;dsimp only;refine gL<|KW S.at_ I S.fits ?_;rw[iC<|by simp];have h1:((mD w t i:Nat):Int).toNat=mD w t i:=wV _;have k:((i:Nat):Int).toNat=i:=wV _;have l:((n:Nat):Int).toNat=n:=wV _;rw[h1,k,l];refine gL<|acO S v (λB y=>?_) λz=>?_
 .dsimp only;refine gL<|uC g hd (by simp) ?_;have j:=rL (eV λx=>x.setIfInBounds 0<|de<|mD w t<|i+1) g<|Ci<|tY hd _;refine gL<|uC j (tY hd _) (by simp)<|hJ ⟨_,rfl,hJ<|q _ y _ ?_ ((qr ..).trans (qr ..))⟩;refine⟨_,rL _ j (Ci<|tY (tY hd _) _),?_,?_⟩
  .rw[Cg,Cg];exact r
  rw[tY<|tY hd _];simp[de]
 dsimp only;refine gL<|uC g hd (by simp) ?_;show aa _ _ (gl (.type "StopIteration") []>>=_) _ _ _;refine gL ?_;simp -iota only[gl];refine gL<|nu ?_ (by size_fits);refine gL (m:=eX _ _)<|uc (a:=ao) (by first|rfl|(simp -iota;rfl)) ?_;refine nu ?_ (by size_fits);simp -iota only[t6];refine gL<|FQ ?_;rw[show A.in1.handled=U from u];refine gL<|hJ<|FP ?_;refine gL<|yT (T:="StopIteration") (b:=Y) ⟨_,jT _ rfl,rfl⟩ FL ?_;exact hJ<|p z _ (((qr ..).extBut.push _).push _)
def adw(b:AL w s.heap it a t z n i)(d:Q (.ref it) s):aa (ag c w) A (cG<|.ref it) Q E s:=by refine Fo b.typeIs vH<|og vH b.typeIs abC ?_<|acb _;unfold bc.«dict_keyiterator.__iter__» t5;simp -iota only[yL,qW,jX,rJ,yK,wR];exact gL<|hJ<|hJ ⟨_,rfl,"set_iterator",_,b.typeIs,uN.lookup,d⟩
def B2.D0{a b n t}(S:B2 w h a b n t)(k:∀o,h.get? a=J o->d.get? a=J o):B2 w d a b n t:=⟨k _ S.at_,S.tab,S.plain,S.led⟩
def adM(k:A.handled=U)(T a:gJ)(p:T≠a)(g:qO)(n:Nat)(t:lR):
  x6 c w A T [T,a] [T] g.size (λi v=>∃e,(pV w a n g)[i]?=J e/\v=e.2) (λi h=>AL w h T a t g.size n i/\B2 w h a g n t) where
 sub:=λb d=>by simp at d;simp[d]
 frame:=λ_ _ _ st hk=>⟨(by obtain⟨o,h1,q⟩:=st.1;exact⟨o,hk T (by simp) o h1,q⟩),st.2.D0 λo e=>hk a (by simp) o e⟩
 item:=λi s Q E l st f=>by refine En k st.2 st.1 (vB l) (λe u j x m=>?_) λz=>absurd z<|jB l;exact f _ j s.toks ⟨_,u,rfl⟩ ⟨x,st.2.D0 λo e=>m.extBut a o (λh=>p h.symm) e⟩ λb o d e=>m.extBut b o (λh=>d<|by simp[h]) e
 done:=λs Q E st f=>En k st.2 st.1 (jh _) (λe r=>absurd (OR.mp r).1<|by rw[uL];exact oS _) λ_ j y=>f j s.toks λb o d e=>y b o (λh=>d<|by simp[h]) e
 self:=λ_ _ _ _ st f=>adw st.1 f
def yf{T id:String}{N:Nat}{B:je}{M:Nat->gU->Prop}{ST:Nat->ip->Prop}(n:T="set"/\id="set.__len__"\/T="dict"/\id="dict.__len__")(Y:a<s.heap.objs.size)(ty:∀k:gM,(∀o,s.heap.get? a=z8 o->k.heap.get? a=z8 o)->k.TypeIs (.ref a) T)
  (W:x6 c w A.in1 (s.heap.objs.size+1) [s.heap.objs.size+1,a] [s.heap.objs.size+1] N M ST)(hn:N<=sizeLine)(hv:∀i v,M i v->B[i]?=z8 v)(hl:(A1 B)=N)
  (L:∀(l:el)(J:iK),(∀q,ST 0 q->(∀b o,(s.heap.push l).get? b=z8 o->q.get? b=z8 o)->J (.ref<|s.heap.objs.size+1) {s with heap:=q})->aa (ag c w) A.in1 (cG<|.ref a) J E {s with heap:=s.heap.push l})
  (hQ:∀x tk,(∀b o,s.heap.get? b=z8 o->x.get? b=z8 o)->Q B {s with heap:=x,toks:=tk}):aa (ag c w) A (ey<|.ref a) Q E s:=by
 have C':a≠s.heap.objs.size:=jB Y;have u:s.heap.objs.size≠s.heap.objs.size+1:=jB<|yV _;unfold ey;refine gL<|FR<|qt PySem.F.entry_proto_collect ?_;rw[vp PySem.F.plain_proto_collect _];show aa _ A.in1 (nb []>>=λl=>again<|.builtin "list.__iadd__" ⟨[l,.ref a],[]⟩) _ _ s;refine gL<|nu ?_;refine hJ ⟨uD KU _,qt PySem.F.entry_list_iadd ?_⟩;rw[vp KU _];show aa _ A.in1 (dM (.ref s.heap.objs.size) (.ref a)<|.ref s.heap.objs.size) _ _ _;generalize t:({cls:=.type "list",data:=.seq ([]:List gU).toArray}:el)=G;unfold dM;refine gL<|uH (T:=T) (s:={s with heap:=s.heap.push G}) (ty _ λo e=>jz _ e) ?_;have h1:dZ (.ref s.heap.objs.size) (.ref a)=C:=by simp only[dZ,Ay];exact C'.symm
 have q:(cA T==cA "list")=C:=by rcases n with⟨rfl,_⟩|⟨rfl,_⟩<;>decide
 have h3:(cA T==cA "tuple")=C:=by rcases n with⟨rfl,_⟩|⟨rfl,_⟩<;>decide
 simp -iota only[h1,q,h3,jX,kY];refine gL<|L G _ λh R O=>?_;have I:Shared.TypeIs {s with heap:=h} (.ref a) T:=ty _ λo e=>O _ _ (jz _ e);refine gL<|lU<|mz (Q:=λr k=>r=C/\k={s with heap:=h}) ?_ (λr k ⟨e1,e2⟩=>?_) λ_ _ z=>z
 .unfold r6;refine gL<|uq (s:={s with heap:=h}) I (r:=z8<|.builtin id) (by rcases n with⟨rfl,rfl⟩|⟨rfl,rfl⟩<;>first|exact PySem.F.slot_set_len.lookup|exact PySem.F.slot_dict_len.lookup) ?_;dsimp only;rw[show splitId id=z8 (T,"__len__")from by rcases n with⟨rfl,rfl⟩|⟨rfl,rfl⟩<;>decide+kernel];dsimp only;refine gL<|yT (s:={s with heap:=h}) (b:=At) I (by rw[Fp];rcases n with⟨rfl,_⟩|⟨rfl,_⟩<;>kernel_rfl) ?_;simp -iota only[qW,jX];change aa _ _ (if _=At then _ else _) _ _ _;rw[hV (by rcases n with⟨_,rfl⟩|⟨_,rfl⟩<;>decide+kernel)];refine gL<|uH (s:={s with heap:=h}) I ?_;dsimp only;exact hJ ⟨rfl,rfl⟩
 subst e1 e2;change aa _ _ (if _=At then _ else _) _ _ _;rw[hV (by rcases n with⟨rfl,_⟩|⟨rfl,_⟩<;>decide+kernel)];refine gL<|vw ?_;have d:h.get? s.heap.objs.size=z8 G:=O _ _ (jT _ (by subst t;rfl));subst t;refine gL ?_;show aa _ A.in1 (updateSeq s.heap.objs.size (·.push .none)>>=λ_=>updateSeq s.heap.objs.size (·.pop)) _ _ _;refine gL<|q7 (s:={s with heap:=h}) d AT ?_;have f:=rL (aM (·.push ao)) d AT;refine q7 f AT ?_;have m:=rL (aM (·.pop)) f AT
 have Sr:∀b o,b≠s.heap.objs.size->h.get? b=z8 o->((h.update s.heap.objs.size (aM (·.push ao))).update s.heap.objs.size (aM (·.pop))).get? b=z8 o:=
  λb o g e=>(Co _ _ (pA g)).trans<|(Co _ _ (pA g)).trans e
 refine hJ ⟨uD PySem.F.plain_extend_loop _,?_⟩;refine codeAny_extend_loopS W.toS hn s.heap.objs.size (by simp -iota only[mP,rg,or_false,not_or];exact⟨u,C'.symm⟩) _ N 0 _ _ _ rfl (lq _) (W.frame _ _ _ R λb g o e=>Sr b o (by simp at g;rcases g with rfl|rfl<;>first|exact u.symm|exact C') e) m (ItemsOf.nil _) λk H' c' y y6 l4=>?_;show aa _ A (load s.heap.objs.size>>=_) _ _ k;refine gL<|Cv y6 ?_;obtain⟨x,Z,P,D,K⟩:=k;have V:Z=s.gens:=y.gens;have S:P=s.drawn:=y.drawn;have X:K=s.os:=y.os;subst V;subst S;subst X
 have p:H'.toList=B:=by
  obtain⟨a1,U⟩:=l4;refine uE λj=>?_;rw[mw]
  cases e:H'[j]? with
  |some v=>exact(hv j v<|U j v e).symm
  |none=>rw[List.getElem?_eq_none_iff.mpr];rw[hl,<-a1];exact Wn.mp e
 refine hJ ?_;show Q H'.toList _;rw[p];refine hQ x D λb o e=>?_;have g:=jN e;exact y.heap b o (by simp -iota;exact⟨jB g,jB<|tZ g⟩)<|Sr b o (jB g)<|O _ _ (jz _ e)
def RE(u:A.handled=U)(S:B2 w s.heap a d n t)(x:d.size<=sizeLine)
  (q:∀j y,(∀b o,s.heap.get? b=J o->j.get? b=J o)->Q ((pV w a n d).toList.map (·.2)) {s with heap:=j,toks:=y}):aa (ag c w) A (ey<|.ref a) Q E s:=by
 have g:a<s.heap.objs.size:=jN S.at_;refine yf (.inl ⟨rfl,rfl⟩) g (λB k=>(S.D0 k).typeIs) (adM (by show A.handled=U;exact u) (s.heap.objs.size+1) a (rm<|tZ g) d n t) x (λi v ⟨e,r,hv⟩=>?_) (by rw[jf,kU,uL]) (λl z k=>?_) q
 .rw[kg,mw,r,hv];rfl
 have f:B2 w (s.heap.push l) a d n t:=S.D0 λo e=>jz _ e;refine Nz (s:={s with heap:=s.heap.push l}) f λp h m _=>?_;rw[show(s.heap.push l).objs.size=s.heap.objs.size+1 from oN _ _]at h ⊢;exact k p ⟨h,f.D0 λo e=>m _ _ e⟩ m
end
section
variable {a:iw}{w:ik}{A:ig}{R:gC->gM->Prop}{I:gJ}{d c:km}{G:Array eC->Array eC->Prop}{n:Nat}{P:Nat->gU->Prop}{St:Nat->gM->Prop}
def ael(W:WalksS a w A.in1 I d c G n P St)(S:gJ)(O:S∉d)(s0:gM)(j:Nat->ip->Prop)(D0:∀i h g,j i h->(∀o,h.get? S=z8 o->g.get? S=z8 o)->j i g)
  (step:∀i v (f:gM) (Q:qV) (E:iK),i<n->P i v->j i f.heap->zn (S::c) G s0 f->(∀r g H',f.toks<=H'->aG S f.heap g->j (i+1) g->Q r {f with heap:=g,toks:=H'})->aa (ag a w) A.in1 (gi S v) Q E f):
  ∀(k i:Nat)(s:gM),n-i=k->i<=n->St i s->j i s.heap->zn (S::c) G s0 s->(∀f,zn (S::c) G s0 f->j n f.heap->R (.ok<|.ret .none) f)->
   bO (ag a w) A (.builtin "set.update.loop" ⟨[.ref S,.ref I],[]⟩) R s:=by
 have l:S∉c:=λh=>O<|W.sub _ h;have J:∀b∈c,b∈S::c:=λb m=>iY _ m;intro k
 induction k with
 |zero=>
  intro i s hk U C y t x;have B:i=n:=by lia
  subst B;refine qt KS ?_;rw[vp Fn _];show aa _ A.in1 (cU (.ref I)>>=_) _ _ s;refine gL<|W.done s _ _ C λf p=>?_;show aa _ A.in1 (ret ao) _ _ f;exact hJ<|x f (Moved.trans W.gtrans t<|p.mono J)<|D0 _ _ _ y λo e=>p.heap S o l e
 |succ k Y'=>
  intro i s hk U C y t x;have u:i<n:=by lia
  refine qt KS ?_;rw[vp Fn _];show aa _ A.in1 (cU (.ref I)>>=_) _ _ s;refine gL<|W.item i s _ _ u C λv f N q p=>?_;have T:=Moved.trans W.gtrans t<|p.mono J;show aa _ A.in1 (b3 [v] (gi S v)>>=_) _ _ f;refine gL<|lU<|step i v f _ _ u N (D0 _ _ _ y λo e=>p.heap S o l e) T λr g H' L M z=>?_;refine hJ ⟨uD Fn _,Y' (i+1) _ (by lia) u (W.frame _ f _ _ q L λb m o e=>?_) z (T.then_heap L λb o m e=>?_) x⟩
  .rw[M.2 b λh:b=S=>O<|by rw[<-h];exact m];exact e
  rw[M.2 b λh:b=S=>m<|by rw[h];exact jF];exact e
end
section
variable {f:iw}{w:ik}{A:ig}{E:iK}{s:gM}
def Q3(a:gU)(h:Q₁ (.ref s.heap.objs.size) {s with heap:=s.heap.push (ju #[] 0 (.fresh 0 0 (!w.params.followText "set-order")))}):
  bO (ag f w) A (.call (.builtin "set.__new__") ⟨[.type "set",a],[]⟩) (ia Q₁ E) s:=by
 refine rG ?_;show aa _ A.in1 (do cn "set.__new__" ⟨[.type "set",a],[]⟩;again (.builtin "set.__new__" ⟨[.type "set",a],[]⟩)) _ _ s;refine gL<|uc (PySem.F.newCall_set_1 a)<|hJ ⟨uD BX _,qt KR ?_⟩;rw[vp BX _];unfold bc.«set.__new__» dq;have c:=ww;obtain⟨b,g,d,e,os⟩:=s;dsimp only
 wp_walk
 refine rH<|hJ ?_;dsimp only;simp only[newObj];refine gL<|wU<|hJ ?_;exact hJ h
noncomputable abbrev kj(w:ik):SetTable:=.fresh 0 0 (!w.params.followText "set-order")
def Wk{h:ip}{a:gJ}(e:h.get? a=J (ju #[] 0 (kj w))):B2 w h a #[] 0 (kj w):=⟨e,J4.fresh _ _ _,rfl,rfl⟩
set_option maxHeartbeats 8000000 in
def Wl{l:gJ}{items:mS}{Q:iK}(hh:A.handled=z9)(m:s.heap.IsList l items\/s.heap.IsTuple l items)(k:Nat->ip->Prop)
  (D0:∀i h a,k i h->(∀o,h.get? s.heap.objs.size=z8 o->a.get? s.heap.objs.size=z8 o)->k i a)
  (oU:∀a,a.get? s.heap.objs.size=z8 (ju #[] 0 (kj w))->k 0 a)
  (step:∀i v (d:gM) (B:ig) (Q:qV) (E:iK),B.units<=A.units+20->items[i]?=z8 v->k i d.heap->(∀b o,s.heap.get? b=z8 o->d.heap.get? b=z8 o)->d.gens=s.gens->d.drawn=s.drawn->d.os=s.os->
   (∀r a x,d.toks<=x->aG s.heap.objs.size d.heap a->k (i+1) a->Q r {d with heap:=a,toks:=x})->aa (ag f w) B (gi s.heap.objs.size v) Q E d)
  (h:∀(a:ip)(x:Nat),k items.size a->(∀b o,s.heap.get? b=z8 o->a.get? b=z8 o)->Q (.ref s.heap.objs.size) {s with heap:=a,toks:=x}):
  aa (ag f w) A (call (.type "set") [.ref l]) Q E s:=by
 obtain⟨c,tl,K⟩:=DI.mro;have G:=DI.made;have m5:=DI.sub;refine wX<|rG ?_;show aa _ _ (w4 (.type "set") _) _ _ _;refine hJ ⟨FK _ (by decide+kernel),qt KQ ?_⟩;rw[FH (FG "set" [.ref l] []) AT];have h1:=DI.notType;have h2:=DI.canCreate;have cq:=PySem.F.typeCall_set_1<|.ref l
 repeat (any_goals (first|assumption|wp_step))
 refine oR (Q3 (.ref l) (E:=E) (Q₁:=λobj q=>obj=.ref s.heap.objs.size/\q={s with heap:=s.heap.push (ju #[] 0 (kj w))}) ⟨rfl,rfl⟩) λr q J=>?_
 cases r with
 |error e=>exact J
 |ok fl=>
  cases fl with
  |ret obj=>
   obtain⟨rfl,rfl⟩:=J;have D:(s.heap.push<|ju #[] 0 (kj w)).get? s.heap.objs.size=z8 (ju #[] 0 (kj w)):=jT _ rfl;have hT:Shared.TypeIs {s with heap:=s.heap.push (ju #[] 0 (kj w))} (.ref s.heap.objs.size) "set":=⟨_,D,rfl⟩
   have hli:=DI.init.lookup;have eh:=DI.init.bind<|.ref s.heap.objs.size
   repeat (any_goals (first|assumption|wp_step))
   refine oR (Ce (R:=ia (λr t=>r=.none/\∃a x,t={s with heap:=a,toks:=x}/\k items.size a/\(∀b o,s.heap.get? b=z8 o->a.get? b=z8 o)) E) DI.init.plain KP<|check_set_init_1 hT ?_) λH t I=>?_
   .obtain⟨c,hc,ol,Y,X,nl,U⟩:∃c,(c="list"\/c="tuple")/\∃o,s.heap.get? l=z8 o/\o.cls=.type c/\∃n,o.data=.seq items n:=m.elim (λh=>⟨_,.inl AT,h⟩) (λh=>⟨_,.inr AT,h⟩)
    obtain⟨V,S,f6⟩:isSubtype (.type c) (.type "set")=pure AC/\isSubtype (.type c) (.type "frozenset")=pure AC/\(cA c==cA "dict")=AC:=by
     rcases hc with rfl|rfl
     .exact⟨PySem.F.sub_list_set,PySem.F.sub_list_frozenset,by decide⟩
     exact⟨PySem.F.sub_tuple_set,PySem.F.sub_tuple_frozenset,by decide⟩
    obtain⟨Z,u,M,j⟩:=ol;simp only at X U;subst X;subst U;have P:(s.heap.push<|ju #[] 0 (kj w)).get? l=z8 {cls:=.type c,dict:=u,data:=.seq items nl,slots:=j}:=jz _ Y;have C:l<s.heap.objs.size:=jN Y;have z:A.in1.in1.in1.handled=z9:=by simp[hh]
    have sz:(s.heap.push<|ju #[] 0 (kj w)).objs.size=s.heap.objs.size+1:=oN _ _;have p:l≠(s.heap.push<|ju #[] 0 (kj w)).objs.size:=by rw[sz];exact jB<|tZ C
    have en:s.heap.objs.size∉[(s.heap.push<|ju #[] 0 (kj w)).objs.size,l]:=by rw[sz];simp only[mP,rg,or_false,not_or];exact⟨jB<|yV _,rm C⟩
    obtain⟨St,W,o0,h0,L⟩:∃St,x6 f w A.in1.in1.in1 (s.heap.push<|ju #[] 0 (kj w)).objs.size [(s.heap.push<|ju #[] 0 (kj w)).objs.size,l] [(s.heap.push<|ju #[] 0 (kj w)).objs.size] items.size (λi v=>items[i]?=z8 v) St/\∃o0,St 0 ((s.heap.push<|ju #[] 0 (kj w)).push o0)/\
      ∀{A':ig}{Q:iK}{E},Q (.ref (s.heap.push<|ju #[] 0 (kj w)).objs.size) {s with heap:=(s.heap.push<|ju #[] 0 (kj w)).push o0}->aa (ag f w) A' (cG<|.ref l) Q E {s with heap:=s.heap.push (ju #[] 0 (kj w))}:=by
     rcases m with m|m
     .exact⟨_,Walks.list z _ l p items,_,⟨⟨_,jT _ rfl,rfl,rfl⟩,(m.push _).push _⟩,λh=>za (m.push _) h⟩
     exact⟨_,Walks.tuple z _ l p items,_,⟨⟨_,jT _ rfl,rfl,rfl⟩,(m.push _).push _⟩,λh=>Gf (m.push _) h⟩
    unfold bc.«set.__init__» noKeywords j1;generalize O:cG=PI
    wp_walk
    subst O;refine L ?_;refine gL<|FR ?_;refine ael W.toS s.heap.objs.size en _ k D0 (λi v d Q' E' hi hP T g hk=>?_) (items.size-0) 0 _ (by lia) (lq _) h0 (oU _ (jz _ D)) (zn.refl λ_=>rfl) ?hR
    .refine step i v d _ Q' E' ?_ hP T (λb o e=>?_) g.gens g.drawn g.os hk
     .show A.units+1+1+1<=A.units+20;lia
     have y:=jN e;exact g.heap b o (by rw[sz];simp only[mP,rg,or_false,not_or];exact⟨jB y,jB<|tZ y⟩)<|jz _ (jz _ e)
    case hR=>intro d g N;obtain⟨a,g',d',bV,cC⟩:=d;have eg:g'=s.gens:=g.gens;have ed:d'=s.drawn:=g.drawn;have eo:cC=s.os:=g.os;subst eg;subst ed;subst eo;show aa _ _ _ _ _ _;refine hJ ?_;show aa _ _ (ret ao) _ _ _;refine hJ ⟨rfl,a,bV,rfl,N,λb o e=>?_⟩;have y:=jN e;exact g.heap b o (by rw[sz];simp only[mP,rg,or_false,not_or];exact⟨jB y,jB<|tZ y⟩)<|jz _ (jz _ e)
   cases H with
   |error e=>exact I
   |ok cY=>
    cases cY with
    |ret r=>
     obtain⟨rfl,a,x,rfl,N,cR⟩:=I
     repeat (any_goals (first|assumption|wp_step))
     exact h _ _ N cR
    |_=>exact I.elim
  |_=>exact J.elim
end
end TT
namespace PX
open L2 PySem.SeqAt TS
def AK:D->Bool
 |.tup l=>D.GS l&&decide (D.Ms l<=6)
 |_=>C
def oW(h:AK d=Y):∃l,d=.tup l:=by cases d<;>first|exact⟨_,rfl⟩|(simp[AK]at h)
def rV(h:AK d=Y):D.pr d=Y:=by obtain⟨l,rfl⟩:=oW h;simp only[AK,kX]at h;rw[D.pr];exact h.1
def pY(h:AK d=Y):d.dep<=7:=by obtain⟨l,rfl⟩:=oW h;simp -iota only[AK,oM]at h;rw[D.dep];lia
def acP(h1:D.pr x=Y)(a:D.pr y=Y):D.R1 x y=Y↔x=y:=by
 rw[Hc x y h1 a];constructor
 .intro h;exact sJ x y h1 a (by simpa using h)
 rintro rfl;rw[IY];rfl
def nC(a:List D)(d:D):List D:=if a.any (D.R1 · d)=Y then a else a++[d]
def mO(l:List D):List D:=l.foldl nC []
def RZ{p:D->Bool}(h1:b.all p=Y)(a:p d=Y):(nC b d).all p=Y:=by
 unfold nC;split
 .exact h1
 rw[kv,h1];simp[a]
def OE(a:List D)(d:D):(nC a d).length<=A1 a+1:=by unfold nC;split<;>simp
def lZ{d i:Type}(f:d->i){g m:List i}(h:g.Perm m):∀l:List d,m=l.map f->∃c:List d,c.Perm l/\g=c.map f:=by
 induction h with
 |nil=>
  intro l e;have:l=[]:=by simpa using e.symm
  subst this;exact⟨[],.refl _,rfl⟩
 |cons x _ n=>
  intro l e
  cases l with
  |nil=>simp at e
  |cons y l=>simp -iota at e;obtain⟨c,p,q⟩:=n l e.2;exact⟨y::c,p.cons y,by rw[q,e.1];rfl⟩
 |swap x y w=>
  intro l e
  cases l with
  |nil=>simp at e
  |cons a l=>
   cases l with
   |nil=>simp at e
   |cons b l=>simp -iota at e;exact⟨b::a::l,.swap a b l,by rw[e.1,e.2.1,e.2.2];rfl⟩
 |trans _ _ k j=>intro l e;obtain⟨o,s,u⟩:=j l e;obtain⟨r,t,v⟩:=k o u;exact⟨r,t.trans s,v⟩
def xY{b d:Type}{F:b->d->Prop}{c m:List d}(h:c.Perm m):∀{z:List b},Paired F z m->∃a:List b,Paired F a c/\a.Perm z:=by
 induction h with
 |nil=>intro z p;exact⟨z,p,.refl _⟩
 |cons x _ i=>
  intro z p
  cases p with
  |cons r t=>obtain⟨a,h1,g⟩:=i t;exact⟨_::a,.cons r h1,g.cons _⟩
 |swap x y s=>
  intro z p
  cases p with
  |cons r t=>
   cases t with
   |cons o t=>exact⟨_,.cons o<|.cons r t,.swap _ _ _⟩
 |trans _ _ f e=>intro z p;obtain⟨u,j,l⟩:=e p;obtain⟨q,k,n⟩:=f j;exact⟨q,k,n.trans l⟩
def YP.zip{K T}{O:SI}:∀{l:List D}{b:List V},YP K T O l b->∀p∈l.zip b,Rep K T O p.1 p.2:=by
 intro f
 induction f with
 |nil=>intro b h p a;simp at a
 |cons d l e=>
  intro b h p a;rw[YP]at h;obtain⟨v,r,rfl,h1,c⟩:=h;rw[uy]at a;rcases mP.mp a with rfl|a
  .exact h1
  exact e c p a
def YP.JT{K T}{O:SI}:∀{l:List (D×V)},(∀p∈l,Rep K T O p.1 p.2)->YP K T O (l.map (·.1)) (l.map (·.2)):=by
 intro c
 induction c with
 |nil=>intro _;exact YP.nil
 |cons p l b=>intro h;exact YP.cons (h p jF)<|b λq a=>h q<|iY _ a
abbrev hv(p:D×V):Int×V:=(D.hash p.1,p.2)
theorem zd:∀(b:List D)(a:List V),(D.CB b).zip a=(b.zip a).map hv
 |[],a=>by simp[D.CB]
 |d::b,[]=>by simp
 |d::b,u::a=>by rw[D.CB,uy,uy,jK,zd b a]
section
variable {X:Cx}{pins:iN}{σ:L2.St}{H:Hp}{s:gM}
structure F0(X:Cx)(H:Hp)(O:SI)(h:ip)(a:gJ)(vs:List D)(es:qO)(n:Nat)(t:lR)(l:List (D×V)):Prop where
 is:TT.B2 X.w h a es n t
 perm:(l.map (·.1)).Perm vs
 rep:∀p∈l,Rep X.K H O p.1 p.2
 par:Paired (λ(z:Int×V) (e:Int×gU)=>z.1=e.1/\RelV z.2 e.2) (l.map hv) es.toList
def F0.D0{a c b n t l}(S:F0 X H O h a c b n t l)(k:∀o,h.get? a=J o->d.get? a=J o):F0 X H O d a c b n t l:=⟨S.is.D0 k,S.perm,S.rep,S.par⟩
def acx{d c:Type}{F:d->c->Prop}{l:List d}{m:List c}(h:Paired F l m):∀{i:Nat}{b:c},m[i]?=J b->∃a,l[i]?=J a/\F a b:=by
 induction h with
 |nil=>intro i b h;simp at h
 |cons r t f=>
  intro i b h
  cases i with
  |zero=>simp at h;subst h;exact⟨_,rfl,r⟩
  |succ i=>obtain⟨a,h1,e⟩:=f (i:=i) (b:=b) (by simpa using h);exact⟨a,by simpa using h1,e⟩
def acw{a b:Type}{F:a->b->Prop}:∀{l:List a}{m:List b},Paired F l m->A1 l=(A1 m):=zc
def zv{l:List (Int×V)}{m:List (Int×gU)}(h:Paired (λ(z:Int×V) (e:Int×gU)=>z.1=e.1/\RelV z.2 e.2) l m):l.map (·.1)=m.map (·.1):=by
 induction h with
 |nil=>rfl
 |cons r t a=>rw[jK,jK,r.1,a]
def F0.Kj(I:Inv X pins σ H s){O Y:SI}{a:gJ}{vs:List D}{J' n t l}(S:F0 X H O s.heap a vs J' n t l)(hok:vs.all AK=At){d:D}{v:V}{u:gU}(hd:jv X.K H Y d v)(ru:RelV v u)(U:AK d=At){A:ig}(hA:A.units+60<aL):
  ∃b,u=.ref b/\TT.Hl A s a J' n t u d.hash (λi=>match l[i]? with|some p=>D.R1 p.1 d|none=>AC):=by
 obtain⟨ld,rfl⟩:=oW U;obtain⟨b,xs,rfl,q,r⟩:=lE hd;cases ru;have hdp:=pY U;have fg:=rV U;have h:∀p∈l,AK p.1=At:=λp M=>kf.mp hok _ (S.perm.mem_iff.mp<|qo M)
 have at_:∀(i:Nat)(e:Int×gU),J'[i]?=J e->∃p,l[i]?=J p/\p∈l/\D.hash p.1=e.1/\RelV p.2 e.2:=λi e o=>by
  obtain⟨z,h1,f,L⟩:=acx S.par (i:=i) (b:=e) (by rw[mw];exact o);rw[kg]at h1
  cases hl:l[i]? with
  |none=>rw[hl]at h1;cases h1
  |some p=>rw[hl]at h1;cases h1;exact⟨p,rfl,lS hl,f,L⟩
 have N:∀(e:D)(y:V)(G:gU)(C:SI)(B:ig)(P:iw)(W:ik)(Q:qV)(E:iK),AK e=At->jv X.K H C e y->RelV y G->Q At s->aa (ag P W) B (n9 8 G) Q E s:=λe y G C B P W Q E T hv hr x=>by
  obtain⟨le,rfl⟩:=oW T;rcases hv with hv|⟨_,_,hv⟩
  .exact P0 I 8 _ _ _ C B E Q hv hr (rV T) (by have:=pY T;lia) x
  exact hv.elim
 have k9:∀(e:D)(y:V)(G:gU)(C:SI)(B:ig)(P:iw)(W:ik)(Q:qV)(E:iK),AK e=At->jv X.K H C e y->RelV y G->Q AC s->aa (ag P W) B (c7 8 G) Q E s:=λe y G C B P W Q E T hv hr x=>by
  obtain⟨le,rfl⟩:=oW T;rcases hv with hv|⟨_,_,hv⟩
  .exact adm I 8 _ _ _ C B E Q hv hr (rV T) (by have:=pY T;lia) x
  exact hv.elim
 refine⟨b,rfl,⟨_,S.is.at_,rfl⟩,S.is.tab,λi e o=>?_,λi e o=>?_,λi e o x=>?_,λls g w E Q hls x=>?_⟩
 .obtain⟨p,h1,f,L,j⟩:=at_ i e o;obtain⟨lp,M⟩:=oW<|h p f;have:=S.rep p f;rw[M]at this;obtain⟨c,xs,R,_⟩:=this.tup;rw[R]at j;exact⟨c,j⟩
 .obtain⟨p,h1,f,L,j⟩:=at_ i e o;rw[h1];have:=pY<|h p f;exact Ad I 50 p.1 (.tup ld) p.2 (.ref b) _ _ O Y A (.inl<|S.rep p f) hd j rfl (by lia) (by lia) (by lia)
 .obtain⟨p,h1,f,L,j⟩:=at_ i e o;rw[h1]at x;rw[(acP (rV<|h p f) fg).mp x]at L;exact L.symm
 unfold na;refine gL ?_;refine wJ _ (λm rr s'=>rr.1=z9/\s'=s/\∀v∈m,∃e∈J'.toList,e.2=v) _ ?_ ?_ _ _ ⟨rfl,rfl,hls⟩
 .rintro y m rr s' ⟨Z,rfl,hm⟩;have k:∀v∈m,∃e∈J'.toList,e.2=v:=λv hv=>hm v<|iY _ hv;obtain⟨e,o,rfl⟩:=hm y jF;obtain⟨i,hi⟩:=qu o;rw[mw]at hi;obtain⟨p,h1,f,L,j⟩:=at_ i e hi;obtain⟨lp,M⟩:=oW<|h p f;have F:=S.rep p f
  obtain⟨c,ec⟩:∃c,e.2=.ref c:=by rw[M]at F;obtain⟨c,xs,R,_⟩:=F.tup;rw[R]at j;exact⟨c,j⟩
  rw[ec]at j ⊢;dsimp only;split
  .exact hJ ⟨rfl,rfl,k⟩
  refine gL (N _ _ _ Y A g w _ _ U hd rfl ?_);simp -iota only[qW,jX];refine gL<|N _ _ _ O A g w _ _ (h p f) (.inl F) j ?_;simp -iota only[qW,jX];refine gL<|k9 _ _ _ Y A g w _ _ U hd rfl ?_;simp -iota only[jX];refine gL<|k9 _ _ _ O A g w _ _ (h p f) (.inl F) j ?_;simp -iota only[jX];exact hJ ⟨rfl,rfl,k⟩
 rintro⟨r1,r2⟩ s' ⟨Z,rfl,_⟩;simp only at Z;subst Z;exact hJ x
def AB.JM(T:Inv X pins σ H s)(h:AB X.K (H a) .set o f us)(r:YP X.K H O f us):∃b n t l,F0 X H O s.heap a f b n t l:=by
 obtain⟨_,m,e,p⟩:=h;obtain⟨b,n,t,h1,c,g,i,j⟩:=(show VP X.prog X.w H s.heap a (.W2 m)from T.hok a _ e)
 rw[zd]at p;obtain⟨l,d,rfl⟩:=lZ hv p _ rfl;refine⟨b,n,t,l,⟨h1,by rw[<-zv c];exact g,i,j⟩,?_,λq k=>r.zip q<|d.mem_iff.mp k,c⟩;have:=d.map (·.1);rw[hC<|by rw[r.length];exact jh _]at this;exact this
def F0.J8{b n t l}(S:F0 X H O h a c b n t l):VP X.prog X.w H' h a (.W2<|l.map hv):=
 ⟨b,n,t,S.is.at_,S.par,by rw[zv S.par];exact S.is.tab,S.is.plain,S.is.led⟩
def F0.Jq{b n t l}(S:F0 X H O h a c b n t l):b.size=A1 c/\(A1 l)=(A1 c):=by
 have h1:=acw S.par;have d:=S.perm.length_eq;simp at h1 d
 lia
def F0.Sr{O:SI}{h:ip}{a:gJ}{e:List D}{g n t l}(S:F0 X H O h a e g n t l){K H'}{O':SI}(k:∀p∈l,Rep K H' O' p.1 p.2)(i:H' a=J (.W2<|l.map hv)):∃f,AB K (H' a) .set [] e f/\YP K H' O' e f:=by
 obtain⟨b,c,d⟩:=lZ (·.1) S.perm.symm l I;refine⟨b.map (·.2),⟨rfl,l.map hv,i,?_⟩,?_⟩
 .rw[d,zd]
  have:(b.map (·.1)).zip (b.map (·.2))=b:=by
   clear c d
   induction b with
   |nil=>rfl
   |cons x l m=>rw[jK,jK,uy,m]
  rw[this];exact(c.map hv).symm
 rw[d];exact YP.JT λp j=>k p<|c.mem_iff.mp j
def F0.put{q h':ip}{f n t l b j t'}(S:F0 X H O q a c f n t l)(x:c.any (D.R1 · d)=C)(m:Rep X.K H O d v)(B:RelV v u)(r:TT.B2 X.w h' a b j t')(o:b.toList.Perm ((d.hash,u)::f.toList)):∃h,F0 X H O h' a (nC c d) b j t' h:=by
 have i:Paired (λ(z:Int×V) (e:Int×gU)=>z.1=e.1/\RelV z.2 e.2) (((d,v)::l).map hv) ((d.hash,u)::f.toList):=.cons ⟨rfl,B⟩ S.par;obtain⟨T,y,A⟩:=xY o i;obtain⟨h,k,rfl⟩:=lZ hv A _ rfl;refine⟨h,r,?_,λp g=>?_,y⟩
 .rw[show nC c d=c++[d] by unfold nC;rw[x,iC ky]];refine(k.map (·.1)).trans ?_;rw[jK];exact(S.perm.cons d).trans (K6 d c).symm
 rcases mP.mp (k.mem_iff.mp g)with rfl|g
 .exact m
 exact S.rep p g
def F0.add(I:Inv X pins σ H s){N n t l}(S:F0 X H O s.heap a g N n t l)(B:g.all AK=At)(hd:jv X.K H O' d v)(o:Rep X.K H O d v)(m:RelV v u)(k:AK d=At)(hz:(A1 g)<500)
  (hA:A.units+60<aL)
  (h:∀r h' c f G t' L,s.toks<=c->aG a s.heap h'->F0 X H O h' a (nC g d) f G t' L->Q r {s with heap:=h',toks:=c}):aa (ag X.prog X.w) A (gi a u) Q E s:=by
 obtain⟨dX,dW⟩:=S.Jq;unfold gi;refine lU<|gL<|NM 50 I d v u O A E _ o m (rV k) (by have:=pY k;lia) (by lia) λc M=>?_;have J:Inv X pins σ H {s with toks:=c}:=I.kept (h':=s.heap) (t':=c) λ_ _ e=>e;obtain⟨b,rfl,Y⟩:=F0.Kj (s:={s with toks:=c}) J S B hd m k hA;have T:∀p∈l,p.1∈g:=λp C=>S.perm.mem_iff.mp<|qo C;refine TT.Zv Y S.is.at_ S.is.plain (by lia) (λU j=>YM J 8 d v _ O A E U o m (rV k) (by have:=pY k;lia) j) (λ⟨i,y,j⟩=>?_) λv9 h' f G t' g1 g2 R V W Z=>?_
 .have:nC g d=g:=by
   unfold nC
   cases z:l[i]? with
   |none=>rw[z]at j;cases j
   |some p=>rw[z]at j;rw[hV<|Hx.mpr ⟨p.1,T p<|lS z,j⟩]
  exact h AC s.heap c N n t l M (Ck a s.heap) (by rw[this];exact S)
 have P:g.any (D.R1 · d)=AC:=by rw[Fm];intro x hx;have F:=S.perm.mem_iff.mpr hx;obtain⟨p,C,rfl⟩:=ie F;obtain⟨i,y⟩:=qu C;have:=v9 i (by have:=(ue.mp y).1;lia);rw[y]at this;simpa using this
 obtain⟨L,q⟩:=S.put P o m ⟨g2,V,W,Z.trans S.is.led⟩ R;exact h At h' c f G t' L M g1 q
def Vv:D->Option (D×Bool)
 |.lst l|.tup l=>if l.all AK=Y/\(A1 l)<500 then J (.Sr .set []<|mO l,Y)else U
 |_=>U
def acR{l:List D}{i:Nat}{d:D}(h:l[i]?=J d):mO (l.take<|i+1)=nC (mO<|l.take i) d:=by unfold mO;rw[FC,h,FU];rfl
def Ob{p:D->Bool}:∀(l a:List D),l.all p=Y->a.all p=Y->(l.foldl nC a).all p=Y:=by
 intro e
 induction e with
 |nil=>intro a _ h;exact h
 |cons d l c=>intro a h1 b;rw[uG,kX]at h1;exact c _ h1.2 (RZ b h1.1)
def BE:∀(l a:List D),(l.foldl nC a).length<=A1 a+(A1 l):=by
 intro c
 induction c with
 |nil=>intro a;simp
 |cons d l b=>intro a;have:=b<|nC a d;have:=OE a d;simp;lia
def OA{p:D->Bool}{l:List D}(h:l.all p=Y)(i:Nat):(l.take i).all p=Y:=by rw[kf]at h ⊢;exact λx a=>h x<|uB a
def Oa:∀(l a:List D),A1 a<=(l.foldl nC a).length:=by
 intro l
 induction l with
 |nil=>intro a;exact jh _
 |cons d l b=>intro a;refine jW ?_<|b<|nC a d;unfold nC;split<;>simp
def L3{ok:D->Bool}{pins:iN}{s:gM}{σ:L2.St}{H:Hp}{x:V}{u:gU}{Q:VK}{O:SI}{d:D}{l:List D}(hc:X.calm=At)(I:Inv X pins σ H s)(ru:RelV x u)(hd:jv X.K H O d x)(hl:d=.lst l\/d=.tup l)(T:l.all ok=At)(hz:(mO l).length<500)(G:Gen X.K H O (.Sr .set []<|mO l,At) Q)
  (add:∀{j:gM}{B:ig}{E':iK}{Q':qV}{Y:List D}{d:D}{x:V}{w:gU}{a:gJ}{m n t g},Inv X pins σ H j->F0 X H O j.heap a Y m n t g->Y.all ok=At->Rep X.K H O d x->RelV x w->ok d=At->Y.length<500->(X.A.units+90<aL->B.units+60<aL)->
   (∀r C' tk y n' t' eS,j.toks<=tk->aG a j.heap C'->F0 X H O C' a (nC Y d) y n' t' eS->Q' r {j with heap:=C',toks:=tk})->aa (ag X.prog X.w) B (gi a w) Q' E' j):
  aa (ag X.prog X.w) X.A (call (.type "set") [u]) (EP X pins σ Q) X.xe s:=by
 obtain⟨p,f,c,rfl,r,v,N⟩:∃p f c,x=.ref p/\YP X.K H O l f/\Vals f c/\(s.heap.IsList p c.toArray\/s.heap.IsTuple p c.toArray):=by
  rcases hl with rfl|rfl
  .obtain⟨p,f,rfl,q,r⟩:=kO hd;obtain⟨c,v,N,_⟩:=I.list q;exact⟨p,f,c,rfl,r,v,.inl N.isList⟩
  obtain⟨p,f,rfl,q,r⟩:=lE hd;obtain⟨c,v,N,_⟩:=I.tuple q;exact⟨p,f,c,rfl,r,v,.inr N⟩
 cases ru;have e1:=r.length;have e2:=v.length;have hh:X.A.handled=z9:=I.ok.hd hc;have U:=I.fresh
 refine TT.Wl hh N (λi h=>∃m n t g,F0 X H O h s.heap.objs.size (mO<|l.take i) m n t g) (λi h C' ⟨m,n,t,g,S⟩ k=>⟨m,n,t,g,S.D0 k⟩)
  (λC' e=>⟨#[],0,_,[],⟨TT.Wk e,by simp[mO],λp P=>by simp at P,.nil⟩⟩) (λi w j B Q' E' hB hi F hk hg L aJ E=>?_) (λC' tk F hk=>?_)
 .obtain⟨m,n,t,g,S⟩:=F
  have aW:i<c.length:=by have:=(OR.mp hi).1;simpa using this
  have hw:c[i]?=z8 w:=by simpa using hi
  have M:f[i]?=z8 f[i]:=jk (by omega);have fQ:l[i]?=z8 l[i]:=jk (by omega);obtain⟨w',w1,w2⟩:=v.get M;rw[hw]at w1;cases w1;have J:Rep X.K H O l[i] f[i]:=r.views fQ M;have l7:ok l[i]=At:=kf.mp T _ (wB _);obtain⟨h1,g1,dr1,W,os1⟩:=j;dsimp only at hk hg L aJ E S;subst hg;subst L;subst aJ;have I':Inv X pins σ H {s with heap:=h1,toks:=W}:=I.kept hk;refine add I' S (Ob _ _ (OA T i) rfl) J w2 l7 ?_ (λ_=>by omega) λrr h2 eI y n' t' eS a1 a2 Z=>?_
  .have:=Oa (l.drop i)<|mO<|l.take i;unfold mO at this hz ⊢;rw[<-FU,rE]at this;omega
  rw[<-acR fQ]at Z;exact E rr h2 eI a1 a2 ⟨y,n',t',eS,Z⟩
 obtain⟨m,n,t,g,S⟩:=F;have R:c.toArray.size=l.length:=by simp;omega
 rw[R,List.take_length]at S;refine⟨.ref s.heap.objs.size,upd H s.heap.objs.size<|.W2<|g.map hv,I.laid hk (jh _) S.J8,rfl,?_⟩;refine G s.heap.objs.size _ U (lr U) ?_;exact S.Sr (λp P=>Rep.mono (λb o e _=>lr U b o e) (λb hb z=>z.elim id λz=>absurd (z▸U) hb)<|S.rep p P) iF
def ad3(j:X.calm=Y)(m:X.A.units+90<aL):ki X (.type "set") (EU X.K<|g1 Vv):=ph λpins s σ H x u Q O d z T n np hd f G=>by
 cases d with
 |lst l=>obtain⟨⟨a,b⟩,rfl⟩:=iM f;exact L3 j T n hd (.inl I) a (yJ (by have:=BE l [];simpa[mO]using this) b) G λT S g c rw i h e k=>F0.add T S g (.inl c) c rw i h (e m) k
 |tup l=>obtain⟨⟨a,b⟩,rfl⟩:=iM f;exact L3 j T n hd (.inr I) a (yJ (by have:=BE l [];simpa[mO]using this) b) G λT S g c rw i h e k=>F0.add T S g (.inl c) c rw i h (e m) k
 |_=>cases f
def VZ:ax "set"=J (.type "set"):=by decide+kernel
def VC(I:Inv X pins σ H s){G n t l}(S:F0 X H O s.heap a g G n t l)(q:g.all AK=At)(hd:jv X.K H O d v)(z:RelV v u)(k:AK d=At)(J:A.units+60<aL)
  (h:∀c,Q (g.any (D.R1 · d)) {s with toks:=c}):aa (ag X.prog X.w) A (x4 a u) Q E s:=by
 obtain⟨F,Y⟩:=S.Jq
 have T:Rep X.K H O d v:=by
  obtain⟨ld,rfl⟩:=oW k;rcases hd with hd|⟨_,_,hd⟩
  .exact hd
  exact hd.elim
 unfold x4;refine lU<|gL<|NM 50 I d v u O A E _ T z (rV k) (by have:=pY k;lia) (by lia) λc U=>?_;have B:Inv X pins σ H {s with toks:=c}:=I.kept (h':=s.heap) (t':=c) λ_ _ e=>e;obtain⟨b,rfl,C⟩:=F0.Kj (s:={s with toks:=c}) B S q hd z k J;have y:∀p∈l,p.1∈g:=λp r=>S.perm.mem_iff.mp<|qo r;refine gL<|TT.YT C S.is.at_ (λi m j=>?_) λN=>?_
 .have:g.any (D.R1 · d)=At:=by
   cases o:l[i]? with
   |none=>rw[o]at j;cases j
   |some p=>rw[o]at j;exact Hx.mpr ⟨p.1,y p<|lS o,j⟩
  have f:=h c;rw[this]at f;exact hJ f
 have:g.any (D.R1 · d)=AC:=by rw[Fm];intro x M;have L:=S.perm.mem_iff.mpr M;obtain⟨p,r,rfl⟩:=ie L;obtain⟨i,m⟩:=qu r;have:=N i (by have:=(ue.mp m).1;lia);rw[m]at this;simpa using this
 have f:=h c;rw[this]at f;exact hJ f
def acS(T:Inv X pins σ H s){g n t l}(S:F0 X H O s.heap a f g n t l)(c:f.all AK=Y)(hd:jv X.K H O d v)(j:RelV v u)(i:AK d=Y)(k:A.units+61<aL)
  (h:∀e,Q (f.any (D.R1 · d)) {s with toks:=e}):aa (ag X.prog X.w) A (ul (.ref a) u) Q E s:=by
 have b:=S.is.typeIs;unfold ul;refine lU<|gL<|uq b Kt.lookup ?_;change aa _ _ (if(J (k8 "set.__contains__")==J ao)=Y then _ else _) _ E s;rw[iC<|by rw[o4];exact ky];refine gL<|wpAny_callSpecialUnlessNone?_slot (name:=bC "__contains__") b Kt<|og Kt b entry_set_contains ?_<|PySem.F.args_set_contains_2 _ _;unfold bc.«frozenset.__contains__» bZ;simp only[yL,rJ];unfold bK j0;refine gL<|hJ ?_;dsimp only;refine gL<|hJ ?_;dsimp only;refine gL<|wpAny_tryCatch ?_;refine VC T S c hd j i (by show A.units+1+60<aL;omega) λe=>?_;exact hJ ⟨_,rfl,rP<|h e⟩
def M8(d e:D):Option Bool:=match e with
 |.Sr .set [] a=>if a.all AK=Y/\AK d=Y then J (a.any (D.R1 · d))else U
 |_=>inD d e
def Dc(d e:D):Option (D×Bool):=(M8 d e).map λb=>(.bl (!b),C)
def acz(B:X.A.units+62<aL):B0 X (au .NotIn) (rD X.K Dc):=by
 intro pins s σ H x y v u Q N j k h;obtain⟨O,d,e,z,np,h1,g,m,G⟩:=h;obtain⟨b,c,rfl⟩:=iT m;by_cases i:∃f,e=.Sr .set [] f
 .obtain⟨f,rfl⟩:=i;obtain⟨⟨o,hd⟩,rfl⟩:=iM (show(if f.all AK=Y/\AK d=Y then J (f.any (D.R1 · d))else U)=J b from c);obtain⟨a,T,rfl,q,r⟩:=pB g;cases k;obtain⟨w,n,t,l,S⟩:=q.JM N r;change aa _ _ (ul (.ref a) v>>=λb=>pure<|dI (!b)) _ _ s;refine gL<|acS N S o h1 j hd (by lia) λp=>?_;exact hJ ⟨.bl _,H,N.kept (h':=s.heap) (t':=p) λ_ _ e=>e,rfl,G.bl⟩
 have:inD d e=J b:=by
  unfold M8 at c;split at c
  .exact absurd ⟨_,rfl⟩ i
  exact c
 exact CQ Y (by lia) pins s σ H x y v u Q N j k ⟨O,d,e,b,h1,g,this,G.bl⟩
end
def aer(a:l.Perm m)(b:∀x∈l,D.pr x=Y):mx CL l=mx CL m:=Kv (λx c=>b x<|a.mem_iff.mpr c) ((jL CL l).trans a)<|mT l
def adL{k:Nat}{l:List D}(h:Dq k l):lF l=Y:=by
 unfold lF;rw[uw];right
 cases l with
 |nil=>rfl
 |cons x m=>simp only[kX,kf,oM];refine⟨⟨by rw[h.hd x jF];rfl,λy a=>⟨⟨?_,h.pr y a⟩,h.dp y a⟩⟩,λy a z b=>h.cm y a z b⟩;rw[h.hd x jF,h.hd y a];simp
def abX(b:l.Perm m)(h:lF m=Y):lF l=Y:=by
 rcases Bc h with c|⟨k,B⟩
 .unfold lF;rw[uw];left;rw[b.length_eq];simpa using c
 exact adL (k:=k) ⟨λx a=>B.hd x<|b.mem_iff.mp a,λx a=>B.pr x<|b.mem_iff.mp a,λx a=>B.dp x<|b.mem_iff.mp a,λx a y d=>B.cm x (b.mem_iff.mp a) y<|b.mem_iff.mp d⟩
def sd(d:D):Option (D×Bool):=match d with
 |.Sr .set [] a=>if a.all AK=Y then jw a else U
 |_=>nV d
section
variable {X:Cx}
def xw{d:Type}{c:Prop}[Decidable c]{a:Option d}{b:d}(h:(if c then a else U)=J b):c/\a=J b:=by
 split at h
 .exact⟨‹_›,h⟩
 cases h
def adJ{c:iN}{s:gM}{B:L2.St}{H:Hp}{x:V}{u:gU}{Q:VK}{O:SI}{i:List D}{z:D×Bool}(N:X.calm=At)(Y:X.A.units+62<aL)(I:Inv X c B H s)(ru:RelV x u)(np:∀p,¬Ow (H p)->¬O p)(hd:jv X.K H O (.Sr .set [] i) x)(j:∀x∈i,D.pr x=At)(f:jw i=z8 z)(G:Gen X.K H O z Q):
  aa (ag X.prog X.w) X.A (call (.builtin "sorted") [u]) (EP X c B Q) X.xe s:=by
 obtain⟨a,us,rfl,q,r⟩:=pB hd;cases ru;obtain⟨e,n,t,l,S⟩:=q.JM I r;obtain⟨E,dW⟩:=S.Jq;have wp:=TT.E9 X.w a n e;obtain⟨z',g,v⟩:=xY wp S.par;obtain⟨b,o,rfl⟩:=lZ hv v _ rfl;have y:YP X.K H O (b.map (·.1)) (b.map (·.2)):=YP.JT λp j=>S.rep p<|o.mem_iff.mp j
 have R:Vals (b.map (·.2)) ((TT.pV X.w a n e).toList.map (·.2)):=by
  clear v o y wp;generalize (TT.pV X.w a n e).toList=m at g;revert g;generalize d:b.map hv=zz;intro g
  induction g generalizing b with
  |nil=>
    have:b=[]:=by simpa using d
    subst this;exact .nil
  |cons r t ih=>
   cases b with
   |nil=>simp at d
   |cons p b=>simp at d;rw[jK,jK];refine .cons ?_<|ih b d.2;have:=r.2;rw[<-d.1]at this;exact this
 have h:(b.map (·.1)).Perm i:=(o.map (·.1)).trans S.perm
 have C:jw (b.map (·.1))=z8 z:=by unfold jw at f ⊢;obtain⟨⟨h1,J⟩,rfl⟩:=iM f;rw[hV ⟨abX h h1,by rw[h.length_eq];exact J⟩,aer h λx F=>j x<|h.mem_iff.mp F]
 have U:X.A.handled=z9:=I.ok.hd N
 have d:e.size<=sizeLine:=by unfold jw at f;rw[E];exact(iM f).1.2
 exact sU Y I y R C G λQ' Z W L M=>TT.RE (by rw[L];exact U) S.is d λT P k=>M T P k
def ab7(m:X.calm=Y)(k:X.A.units+62<aL):ki X (.builtin "sorted") (EU X.K<|g1 sd):=ph λc s o T x u Q O d z N l np hd h G=>by
 by_cases i:∃e,d=.Sr .set [] e
 .obtain⟨e,rfl⟩:=i;obtain⟨f,g⟩:=xw (show(if e.all AK=Y then jw e else U)=J z from h);exact adJ m k N l np hd (λx n=>rV<|kf.mp f x n) g G
 have g:g1 nV [d]=J z:=by
  have:sd d=nV d:=by
   unfold sd;split
   .exact absurd ⟨_,rfl⟩ i
   rfl
  show nV d=J z;rw[<-this];exact h
 exact we k c s o T [x] [u] Q N (.cons l .nil) ⟨O,[d],z,np,rfl,(λj p q a b=>by
  cases j with
  |zero=>simp at a b;subst a;subst b;exact hd
  |succ j=>simp at a),g,G⟩
end
end PX
namespace L2
section
variable {κ:Type}[DecidableEq κ]
def tU(a:List (κ×V))(k:κ):Option V:=(a.find? λb=>decide<|b.1=k).map (·.2)
def uQ(a:List (κ×V))(k:κ)(v:V):List (κ×V):=
 if(a.any λb=>decide<|b.1=k)=Y then a.map (λb=>if b.1=k then(b.1,v)else b)else a++[(k,v)]
theorem vD{p:κ×V}{r:List (κ×V)}{k:κ}(e:p.1=k):tU (p::r) k=J p.2:=by simp[tU,wA,e]
theorem rQ{p:κ×V}{r:List (κ×V)}{k:κ}(e: ¬p.1=k):tU (p::r) k=tU r k:=by simp[tU,wA,e]
theorem DR(k:κ):∀a:List (κ×V),(a.any λb=>decide<|b.1=k)=(tU a k).isSome
 |[]=>rfl
 |p::r=>by
  rw[rA];by_cases e:p.1=k
  .simp only[vD e,kM e,Bool.true_or,fv]
  rw[rQ e,kN e,Bool.false_or];exact DR k r
theorem xZ(a:List (κ×V))(k:κ)(v:V):(uQ a k v).length<=A1 a+1:=by
 unfold uQ;split
 .rw[jf];lia
 rw[nN,mQ,yK];lia
theorem Et.AH{o:Option V}{u:Option gU}(r:Et o u):o.isSome=u.isSome:=by
 cases o with
 |none=>cases u with
  |none=>rfl
  |some _=>exact(show False from r).elim
 |some _=>cases u with
  |none=>exact(show False from r).elim
  |some _=>rfl
theorem KV.val{kvs:List (κ×V)}{d:List (κ×gU)}(r:KV kvs d)(k:κ):Et (tU kvs k) (ew d k):=by
 unfold KV at r
 induction r with
 |nil=>exact br
 | @cons p q i c h t g=>
  obtain⟨h1,f⟩:=h;by_cases e:p.1=k
  .have a:q.1=k:=h1.symm.trans e;have b:ew (q::c) k=J q.2:=by simp[ew,wA,a]
   rw[vD e,b];exact f
  have a: ¬q.1=k:=λz=>e<|h1.trans z;have b:ew (q::c) k=ew c k:=by simp[ew,wA,a]
  rw[rQ e,b];exact g
theorem KV.any{a:List (κ×V)}{vs:List (κ×gU)}(r:KV a vs)(k:κ):(a.any λb=>decide<|b.1=k)=vs.any λb=>decide (b.1=k):=by
 unfold KV at r
 induction r with
 |nil=>rfl
 |cons h t c=>rw[rA,rA,c,h.1]
theorem KV.Jm{b:List (κ×V)}{c:List (κ×gU)}(r:KV b c)(k:κ){y:V}{u:gU}(g:RelV y u):
  KV (b.map λa=>if a.1=k then(a.1,y)else a) (c.map λa=>if a.1=k then(a.1,u)else a):=by
 unfold KV at r ⊢
 induction r with
 |nil=>exact .nil
 | @cons p q i j h t f=>
  rw[jK,jK];refine .cons ?_ f;obtain⟨h1,d⟩:=h;by_cases e:p.1=k
  .rw[hV e,hV<|h1.symm.trans e];exact⟨h1,g⟩
  rw[iC e,iC λz=>e<|h1.trans z];exact⟨h1,d⟩
theorem KV.put{a:List (κ×V)}{b:List (κ×gU)}(r:KV a b)(k:κ){y:V}{u:gU}(c:RelV y u):KV (uQ a k y) (stored b k u):=by
 unfold uQ stored;rw[r.any k];by_cases e:(b.any λd=>decide<|d.1=k)=Y
 .rw[hV e,hV e];exact r.Jm k c
 rw[iC e,iC e];exact Paired.snoc r ⟨rfl,c⟩
theorem KV.length{a:List (κ×V)}{vs:List (κ×gU)}(r:KV a vs):(A1 a)=(A1 vs):=zc r
end
def zM{P:iw}{w:ik}{k:Key}{u:gU}(r:RelV (kV k) u):(kW P w).is k u=Y:=by
 cases k with
 |inl i=>obtain⟨t,e⟩:=(show ∃t,u=gq i t from r);subst e;exact acm P w i t
 |inr x=>obtain⟨t,e⟩:=(show ∃t,u=gn x t from r);subst e;exact ack P w x t
theorem Bs{P:iw}{w:ik}:∀{a:List Key}{b:je},Vals (a.map kV) b->ItemsAre (kW P w) a b
 |[],_,r=>by rw[oP]at r;cases r;exact .nil
 |k::a,_,r=>by
  rw[jK]at r
  cases r with
  |cons h t=>exact .cons (zM h)<|Bs t
abbrev KT(T:Hp):List (List Key×V)->List (List Key×gJ×gU)->Prop:=Paired λp q=>p.1=q.1/\T q.2.1=J (.tup<|p.1.map kV)/\RelV p.2 q.2.2
def KT.val{T:Hp}{kvs:List (List Key×V)}{d:List (List Key×gJ×gU)}(r:KT T kvs d)(k:List Key):Et (tU kvs k) ((eZ d k).map (·.2)):=by
 induction r with
 |nil=>exact br
 | @cons p q i c h t g=>
  obtain⟨h1,_,f⟩:=h;by_cases e:p.1=k
  .have a:q.1=k:=h1.symm.trans e;have b:eZ (q::c) k=J q.2:=by simp[eZ,wA,a]
   rw[vD e,b];exact f
  have a: ¬q.1=k:=λz=>e<|h1.trans z;have b:eZ (q::c) k=eZ c k:=by simp[eZ,wA,a]
  rw[rQ e,b];exact g
def KT.Jm{T:Hp}{a:List (List Key×V)}{d:List (List Key×gJ×gU)}(r:KT T a d)(k:List Key){y:V}{u:gU}(i:RelV y u):
  KT T (a.map λb=>if b.1=k then(b.1,y)else b) (d.map<|putAt k u):=by
 induction r with
 |nil=>exact .nil
 | @cons p q j l h t g=>
  rw[jK,jK];refine .cons ?_ g;obtain⟨h1,c,f⟩:=h;unfold putAt;by_cases e:p.1=k
  .rw[hV e,hV<|h1.symm.trans e];exact⟨h1,c,i⟩
  rw[iC e,iC λz=>e<|h1.trans z];exact⟨h1,c,f⟩
def KT.put{T:Hp}{a:List (List Key×V)}{c:List (List Key×gJ×gU)}(r:KT T a c)(k:List Key){b:gJ}{y:V}{u:gU}(f:T b=J (.tup<|k.map kV))(d:RelV y u):
  KT T (uQ a k y) (storedH c k b u):=by
 have e:(a.any λg=>decide<|g.1=k)=(eZ c k).isSome:=by rw[DR,(r.val k).AH,Fl]
 unfold uQ storedH;rw[e];by_cases q:(eZ c k).isSome=Y
 .rw[hV q,hV q];exact r.Jm k d
 rw[iC q,iC q];exact Paired.snoc r ⟨rfl,f,d⟩
def KT.keeps{T c:Hp}{a:List (List Key×V)}{d:List (List Key×gJ×gU)}(r:KT T a d)(f:∀b e,T b=J (.tup e)->c b=J (.tup e)):KT c a d:=
 Paired.Ko r λ_ _ z=>⟨z.1,f _ _ z.2.1,z.2.2⟩
section
variable {P:iw}{w:ik}{H:Hp}{h:ip}{a:gJ}
def Sn{u:HO}(ok:Az P w H h)(e:Rd H a u):VP P w H h a u:=e.ok ok
def IM{b:List (Key×V)}(ok:Az P w H h)(e:Rd H a (.dK b)):(A1 b)<=sizeLine/\(a==bN)=C/\∃c,KV b c/\h.DictOf (kW P w) a c:=
 show VP P w H h a (.dK b)from Sn ok e
def Tf{b:List (Key×V)}(ok:Az P w H h)(e:H a=J (.dK b)):(A1 b)<=sizeLine/\(a==bN)=C/\∃c,KV b c/\h.DictOf (kW P w) a c:=IM ok<|.inl e
def uV{c:List Key}(ok:Az P w H h)(e:H a=J (.tup<|c.map kV)):(dS<|kW P w).is h c a:=by
 obtain⟨_,b,r,o,h1,d,⟨n,f⟩,_⟩:=(show VP P w H h a (.tup<|c.map kV)from ok a _ e)
 exact⟨o,b.toArray,n,h1,d,f,by simpa using Bs r⟩
def IL{b:List (List Key×V)}(ok:Az P w H h)(e:Rd H a (.dT b)):(A1 b)<=sizeLine/\(a==bN)=C/\
  ∃d,KT H b d/\h.DictOfH (dS<|kW P w) a d:=by
 obtain⟨z,y,d,r,o,i,g,h1,j,k,n,s⟩:=(show VP P w H h a (.dT b)from Sn ok e)
 refine⟨z,y,d,r,o,i,g,h1,j,k,n,λx c=>?_,s⟩
 have all:∀{l:List (List Key×V)}{m:List (List Key×gJ×gU)},KT H l m->∀x∈m,(dS<|kW P w).is h x.1 x.2.1:=by
  intro l m q
  induction q with
  |nil=>intro x c;exact nomatch c
  | @cons p q v A f t u=>
   intro x c;rcases mP.mp c with e|c
   .subst e;exact uV ok (by rw[<-f.1];exact f.2.1)
   exact u x c
 exact all r x c
def Y2{b:List (List Key×V)}(ok:Az P w H h)(e:H a=J (.dT b)):(A1 b)<=sizeLine/\(a==bN)=C/\
  ∃c,KT H b c/\h.DictOfH (dS<|kW P w) a c:=IL ok<|.inl e
end
def CY(T:Hp)(a:gJ)(y:V)(r:Option V):Prop:=
 (∃c k,Rd T a (.dK c)/\y=kV k/\r=tU c k)\/∃c k b,Rd T a (.dT c)/\y=.ref b/\T b=J (.tup<|k.map kV)/\r=tU c k
def G6(T:Hp)(a:gJ)(y v:V)(c:Hp):Prop:=
 (∃kvs k,T a=J (.dK kvs)/\y=kV k/\(A1 kvs)<sizeLine/\c=upd T a (.dK<|uQ kvs k v))\/
 ∃kvs k b,T a=J (.dT kvs)/\y=.ref b/\T b=J (.tup<|k.map kV)/\(A1 kvs)<sizeLine/\c=upd T a (.dT<|uQ kvs k v)
def CY.k{T:Hp}{a:gJ}{kvs:List (Key×V)}{k:Key}(e:T a=J (.dK kvs)):CY T a (kV k) (tU kvs k):=.inl ⟨kvs,k,.inl e,rfl,rfl⟩
def CY.t{T:Hp}{a b:gJ}{kvs:List (List Key×V)}{k:List Key}(e:T a=J (.dT kvs))(c:T b=J (.tup<|k.map kV)):CY T a (.ref b) (tU kvs k):=.inr ⟨kvs,k,b,.inl e,rfl,c,rfl⟩
def G6.k{T:Hp}{a:gJ}{kvs:List (Key×V)}{k:Key}{v:V}(e:T a=J (.dK kvs))(b:(A1 kvs)<sizeLine):G6 T a (kV k) v (upd T a<|.dK<|uQ kvs k v):=.inl ⟨kvs,k,e,rfl,b,rfl⟩
def G6.t{T:Hp}{a b:gJ}{kvs:List (List Key×V)}{k:List Key}{v:V}(e:T a=J (.dT kvs))(c:T b=J (.tup<|k.map kV))(d:(A1 kvs)<sizeLine):
  G6 T a (.ref b) v (upd T a<|.dT<|uQ kvs k v):=.inr ⟨kvs,k,b,e,rfl,c,d,rfl⟩
section
variable {X:Cx}{d:iN}{f:St}{H:Hp}{s:gM}{a:gJ}{y v:V}{u r:gU}{o:Option V}{A:ig}{E:iK}
def Inv.big(T:Inv X d f H s):bN<s.heap.objs.size:=by have h:aj<s.heap.objs.size:=(T.mod.glob.keeps T.bk).lt;exact yY (by decide) h
def BF{Q:iK}(O:A.units+1<aL)(M:Inv X d f H s)(g:CY H a y (J v))(t:RelV y u)(h:∀i x,Inv X d f H x->RelV v i->Q i x):
  aa (ag X.prog X.w) A (c9 (.ref a) u) Q E s:=by
 rcases g with⟨n,k,e,j,l⟩|⟨n,k,b,e,j,N,l⟩
 .subst j;obtain⟨z,hd,T,c,dd⟩:=IM M.hok e;obtain⟨i,m,q⟩:=Et.some_of (v:=v) (o:=ew T k) (by rw[l];exact c.val k);exact wpAny_getItem_of (zM t) dd.mapOf m<|h i _ (M.tok _) q
 subst j;cases(show u=bW b from t);obtain⟨z,hd,G,c,dd⟩:=IL M.hok e;obtain⟨i,m,q⟩:=Et.some_of (v:=v) (o:=(eZ G k).map (·.2)) (by rw[l];exact c.val k);obtain⟨p,L,B⟩:=eU.mp m;refine wpAny_getItem_heap (wz O) (uV M.hok N) dd L ?_;rw[B];exact h i _ (M.tok _) q
def Y4{Q:iK}(t:A.units+1<aL)(T:Inv X d f H s)(g:CY H a y o)(m:RelV y u)(h:∀n,Inv X d f H n->Q (.bool o.isSome) n):
  aa (ag X.prog X.w) A (au .In u<|.ref a) Q E s:=by
 rcases g with⟨j,k,e,i,l⟩|⟨j,k,b,e,i,p,l⟩
 .subst i;obtain⟨z,hd,x,c,dd⟩:=IM T.hok e;refine x0 (zM m) hd dd.mapOf ?_;rw[<-(c.val k).AH,<-l];exact h _ (T.tok _)
 subst i;cases(show u=bW b from m);obtain⟨z,hd,B,c,dd⟩:=IL T.hok e;refine vr (wz t) (uV T.hok p) hd dd ?_;have q:=(c.val k).AH;rw[Fl]at q;rw[<-q,<-l];exact h _ (T.tok _)
def IS{Q:iK}(t:A.units+1<aL)(T:Inv X d f H s)(g:CY H a y o)(m:RelV y u)(h:∀n,Inv X d f H n->Q (.bool (!o.isSome)) n):
  aa (ag X.prog X.w) A (au .NotIn u<|.ref a) Q E s:=by
 rcases g with⟨j,k,e,i,l⟩|⟨j,k,b,e,i,p,l⟩
 .subst i;obtain⟨z,hd,x,c,dd⟩:=IM T.hok e;refine tv (zM m) hd dd.mapOf ?_;rw[<-(c.val k).AH,<-l];exact h _ (T.tok _)
 subst i;cases(show u=bW b from m);obtain⟨z,hd,B,c,dd⟩:=IL T.hok e;refine pw (wz t) (uV T.hok p) hd dd ?_;have q:=(c.val k).AH;rw[Fl]at q;rw[<-q,<-l];exact h _ (T.tok _)
def tP{h':ip}{t':Nat}{c:HO}(T:Inv X d f H s)(j:LH (H a))(i:aG a s.heap h')(h:∃q,h'.get? a=J q)(new:VP X.prog X.w (upd H a c) h' a c):
  Inv X d f (upd H a c) {s with heap:=h',toks:=t'}:=
 T.write (x:=a) (e:=a) j (.inl I) (λb q g z=>(i.2 b g).trans z) h new
def VU{P:iw}{w:ik}{h:Hp}{g:ip}{b:List (Key×V)}{e:List (Key×gU)}(z:(A1 b)<=sizeLine)(hd:(a==bN)=C)(c:KV b e)(dd:g.DictOf (kW P w) a e):
  VP P w h g a (.dK b):=⟨z,hd,e,c,dd⟩
def xJ{L:Hp}{Q:Unit->gM->Prop}(hu:A.units+1<aL)(I:Inv X d f H s)(g:G6 H a y v L)(M:RelV y u)(J:RelV v r)(h:∀N,Inv X d f L N->Q () N):
  aa (ag X.prog X.w) A (gg (.ref a) u r) Q E s:=by
 rcases g with⟨i,k,e,t,l,p⟩|⟨i,k,b,e,t,O,l,p⟩
 .subst t p;obtain⟨z,hd,S,j,dd⟩:=Tf I.hok e;have C:S.length<=sizeLine:=by rw[<-j.length];exact z
  have x:(uQ i k v).length<=sizeLine:=by have:=xZ i k v;lia
  refine wpAny_setItem_pairs (hsz:=C) (zM M) dd λG m B=>h _ ?_;have R:∃q,G.get? a=z8 q:=let⟨q,_,_,n,_⟩:=m;⟨q,n⟩
  exact tP I (by rw[e];exact br) B R<|VU x hd (j.put k J) m
 subst t p;cases(show u=bW b from M);obtain⟨z,hd,V,j,dd⟩:=Y2 I.hok e;have C:V.length<=sizeLine:=by rw[<-zc j];exact z
 have x:(uQ i k v).length<=sizeLine:=by have:=xZ i k v;lia
 refine wpAny_setItem_heap (hsz:=C) (wz hu) (uV I.hok O) dd λG m B=>h _ ?_;obtain⟨q,Y,U,n,D,F,K,_,P⟩:=m;refine tP I (by rw[e];exact br) B ⟨q,n⟩ ⟨x,hd,_,(j.put k O J).keeps λc W T=>?_,q,Y,U,n,D,F,K,P⟩;rw[iL<|SD T e (λz=>nomatch z)];exact T
end
def N6{P:iw}{w:ik}{T:Hp}(h:ip)(a:bN<h.objs.size):VP P w T (h.push {cls:=.type "dict",data:=.dict #[]}) h.objs.size (.dK []):=
 ⟨lq _,Ay.mpr<|pA<|jB a,[],.nil,Heap.DictOf.new h⟩
def T6:TE:=λ_ T Q=>∀p,T p=U->Q (.ref p) (upd T p<|.dK [])
section
variable {X:Cx}{b:bq}
def ML:PE X (.Dict [] [] b) T6:=λc s d T Q O h=>wpAny_Dict_empty ⟨.ref s.heap.objs.size,_,O.laid (a:=s.heap.objs.size) (o:=.dK []) (t':=s.toks) (λ_ _ q=>jz _ q) (jh _)<|N6 s.heap O.big,rfl,h _ (O.hok.fresh<|jh _)⟩
end
end L2
namespace PX
open L2 PySem.SeqAt TS
noncomputable def uW:D->Option Key
 |.int i=>J<|.inl i
 |.str x=>J<|.inr x
 |_=>U
def Nw:List D->Option (List Key)
 |[]=>J []
 |d::l=>(uW d).bind λk=>(Nw l).map (k:: ·)
def G1:D->Option (List Key)
 |.tup l=>Nw l
 |_=>U
def nY(h:uW d=J k):d=kT k:=by
 cases d<;>simp[uW]at h<;>subst h<;>rfl
def Nv:∀{l:List D}{a:List Key},Nw l=J a->l=a.map kT:=by
 intro e
 induction e with
 |nil=>intro a h;cases h;rfl
 |cons d l c=>intro a h;rw[Nw]at h;obtain⟨k,h1,h⟩:=gR h;obtain⟨m,b,rfl⟩:=iT h;rw[nY h1,c b];rfl
def rX(h:G1 d=J a):d=.tup (a.map kT):=by
 cases d with
 |tup l=>rw[Nv (show Nw l=J a from h)]
 |_=>cases h
def sG(a b:Key):D.R1 (kT a) (kT b)=decide (a=b):=by
 cases a with
 |inl i=>cases b with
  |inl j=>simp only[kT,D.R1,Nu]
  |inr y=>simp only[kT,D.R1,Nt]
 |inr x=>cases b with
  |inl j=>simp only[kT,D.R1,Nr]
  |inr y=>simp;rfl
theorem tL:∀a b:List Key,D.B4 (a.map kT) (b.map kT)=decide (a=b)
 |[],[]=>by simp[D.B4]
 |[],_::_=>by simp[D.B4]
 |_::_,[]=>by simp[D.B4]
 |x::a,y::b=>by simp only[jK];rw[D.B4,sG,tL a b];simp
def lV:List D->List D->D->Option D
 |a::b,v::c,k=>if D.R1 a k=Y then J v else lV b c k
 |_,_,_=>U
def zp:List D->List D->D->D->List D
 |b::c,v::a,k,w=>(if D.R1 b k=Y then w else v)::zp c a k w
 |_,a,_,_=>a
def xj(a b:List D)(k w:D):List D×List D:=if a.any (D.R1 · k)=Y then(a,zp a b k w)else(a++[k],b++[w])
def rY(a:List D)(k:D):Bool:=((uW k).isSome&&a.all λx=>(uW x).isSome)||((G1 k).isSome&&a.all λx=>(G1 x).isSome)
section
variable {K:iz}{H:Hp}{O:SI}
def Ea(h:Rep K H O (kT k) v):v=kV k:=by
 cases k with
 |inl i=>exact Rep.int h
 |inr x=>exact Rep.str h
def adR:∀{b:List Key}{a:List V},YP K H O (b.map kT) a->a=b.map kV:=by
 intro e
 induction e with
 |nil=>intro a h;rw[oP,YP]at h;exact h
 |cons k b d=>intro a h;rw[jK,YP]at h;obtain⟨v,r,rfl,h1,c⟩:=h;rw[Ea h1,d c];rfl
def pE(hk:uW d=J k)(h:jv K H O d v):v=kV k:=by
 rw[nY hk]at h;rcases h with h|⟨a,rfl,h⟩
 .exact Ea h
 cases k<;>exact h.elim
def pD(hk:G1 d=J c)(h:jv K H O d v):∃b,v=.ref b/\H b=J (.tup<|c.map kV):=by
 rw[rX hk]at h;rcases h with h|⟨a,rfl,h⟩
 .obtain⟨b,e,rfl,q,r⟩:=h.tup;rw[adR r]at q;exact⟨b,rfl,q.1⟩
 exact h.elim
def XA(a b:List Key):D.R1 (.tup<|a.map kT) (.tup<|b.map kT)=decide (a=b):=by rw[D.R1,tL]
theorem zI{j:Type}[DecidableEq j]{f:j->D}{k:j}(l:∀a b,D.R1 (f a) (f b)=decide (a=b)):∀{c:List (j×V)}{g:List D},YP K H O g (c.map (·.2))->(∀d,lV (c.map λp=>f p.1) g (f k)=J d->∃v,tU c k=J v/\Rep K H O d v)/\(lV (c.map λp=>f p.1) g (f k)=U->tU c k=U)
 |[],g,_=>⟨λd h=>by cases g<;>simp[lV]at h,λ_=>rfl⟩
 |(i,v)::c,[],h=>by rw[jK,YP]at h;cases h
 |(i,v)::c,t::g,h=>by
  rw[jK,YP]at h;obtain⟨w,r,e,h1,m⟩:=h;obtain⟨rfl,rfl⟩:=uz e;obtain⟨q,s⟩:=zI l m;simp only[jK,lV,l];by_cases hk:i=k
  .simp only[hk,mR];exact⟨λd h=>by cases h;exact⟨v,vD (p:=(k,v)) I,h1⟩,λh=>by cases h⟩
  simp only[hk,jX,kY];refine⟨λd h=>?_,λh=>?_⟩
  .obtain⟨u,n,o⟩:=q d h;exact⟨u,by rw[rQ (p:=(i,v)) hk];exact n,o⟩
  rw[rQ (p:=(i,v)) hk];exact s h
end
section
variable {P:iw}{w:ik}{H H':Hp}{h:ip}{a:gJ}
def Th(x:VP P w H h a (.dT [])):VP P w H' h a (.dK []):=by
 obtain⟨z,y,k,r,o,b,c,h1,d,f,g,j⟩:=x;cases r
 have:b= #[]:=by
  have:b.toList=[]:=by simpa using g
  exact Wm.mp this
 subst this;refine⟨z,y,[],.nil,o,#[],c,h1,d,f,?_,?_,mv⟩
 .first|exact λe i=>by simp at i|(intro;simp)
 first|exact .nil|trivial|simp
def Ti(x:VP P w H h a (.dK [])):VP P w H' h a (.dT []):=by
 obtain⟨z,y,n,r,o,c,d,h1,f,g,k,b,m⟩:=x;cases r
 have:c= #[]:=by
  have j:(A1 c.toList)=0:=by
   first
    |simpa using (A1 b)
    |simpa using(zc b)
    |(
      cases i:c.toList with
      |nil=>rfl
      |cons e l=>rw[i]at b;cases b)
  exact Wm.mp<|Ku.mp j
 subst this;exact⟨z,y,[],.nil,o,#[],d,h1,f,g,rfl,mv⟩
end
section
variable {X:Cx}{g:iN}{i:L2.St}{H:Hp}{s:gM}
def adC{A:ig}{E:iK}(T:Inv X g i H s){H':Hp}{a:gJ}{k:Key}{u:gU}{Q:iK}(x:VP X.prog X.w H' s.heap a (.dK []))(d:RelV (kV k) u)(b:Bool)(h:∀e,Inv X g i H e->Q (.bool b) e):
  aa (ag X.prog X.w) A (au (if b=Y then .NotIn else .In) u<|.ref a) Q E s:=by
 obtain⟨z,hd,f,c,dd⟩:=x;cases c
 cases b
 .exact x0 (zM d) hd dd.mapOf<|h _ (T.tok _)
 exact tv (zM d) hd dd.mapOf<|h _ (T.tok _)
def adB{A:ig}{E:iK}(e:A.units+1<aL)(T:Inv X g i H s){H':Hp}{a b:gJ}{k:List Key}{Q:iK}(x:VP X.prog X.w H' s.heap a (.dT []))(d:H b=J (.tup<|k.map kV))(c:Bool)(h:∀f,Inv X g i H f->Q (.bool c) f):
  aa (ag X.prog X.w) A (au (if c=Y then .NotIn else .In) (.ref b)<|.ref a) Q E s:=by
 obtain⟨z,hd,u,r,o,l,j,h1,m,n,p,q⟩:=x;cases r;have dd:s.heap.DictOfH (dS<|kW X.prog X.w) a []:=⟨o,l,j,h1,m,n,p,(λx (t:x∈[])=>by simp at t),q⟩
 cases c
 .exact vr (wz e) (uV T.hok d) hd dd<|h _ (T.tok _)
 exact pw (wz e) (uV T.hok d) hd dd<|h _ (T.tok _)
def pM(h:rY d k=Y):(∃e,uW k=J e/\∀x∈d,∃c,uW x=J c)\/(∃f,G1 k=J f/\∀x∈d,∃c,G1 x=J c):=by
 unfold rY at h;rw[uw,kX,kX,kf,kf]at h;rcases h with⟨h1,a⟩|⟨h1,a⟩
 .exact .inl ⟨_,(Kx.mp h1).choose_spec,λx b=>Kx.mp<|a x b⟩
 exact .inr ⟨_,(Kx.mp h1).choose_spec,λx b=>Kx.mp<|a x b⟩
def CC{a:List Key}{c:Key}(h:uW (.tup<|a.map kT)=J c):False:=by cases h
def zK(h:G1 (kT k)=J c):False:=by cases k<;>cases h
def Y3(B:A.units+1<aL)(I:Inv X g i H s)(q:AB X.K (H a) .dct ks o us)(r:YP X.K H O o us)(hk:rY ks k=At)(G:jv X.K H O k y)(x:RelV y u)(m:Bool)
  (h:∀l,Inv X g i H l->Q (.bool<|xor m (lV ks o k).isSome) l):aa (ag X.prog X.w) A (au (if m=At then .NotIn else .In) u<|.ref a) Q E s:=by
 have nil:∀o:List D,lV [] o k=z9:=λo=>by cases o<;>rfl
 rcases q with⟨j,e,rfl,rfl⟩|⟨j,e,rfl,rfl⟩
 .rcases pM hk with⟨C',h1,_⟩|⟨L,h1,M⟩
  .have:=pE h1 G;subst this;have R:=nY h1;subst R;obtain⟨F,P⟩:=zI (f:=kT) (k:=C') sG r
   have Y:(tU j C').isSome=(lV (j.map λp=>kT p.1) o<|kT C').isSome:=by
    cases z:lV (j.map λp=>kT p.1) o (kT C')with
    |none=>rw[P z];rfl
    |some d=>obtain⟨v,N,_⟩:=F d z;rw[N];rfl
   rw[<-Y]at h
   cases m
   .exact Y4 B I (CY.k e) x λl n=>by simpa using h l n
   exact IS B I (CY.k e) x λl n=>by simpa using h l n
  have J:j=[]:=by
   cases j with
   |nil=>rfl
   |cons p j=>obtain⟨c,U⟩:=M (kT p.1) (by simp);exact(zK U).elim
  subst J;obtain⟨b,rfl,T⟩:=pD h1 G;cases x;rw[oP,nil]at h;exact adB B I (Ti (H':=H)<|I.hok a _ e) T m λl n=>by simpa using h l n
 rcases pM hk with⟨C',h1,M⟩|⟨L,h1,_⟩
 .have J:j=[]:=by
   cases j with
   |nil=>rfl
   |cons p j=>obtain⟨c,U⟩:=M (.tup<|p.1.map kT) (by simp);exact(CC U).elim
  subst J;have:=pE h1 G;subst this;rw[oP,nil]at h;exact adC I (Th (H':=H)<|I.hok a _ e) x m λl n=>by simpa using h l n
 obtain⟨b,rfl,T⟩:=pD h1 G;have R:=rX h1;subst R;obtain⟨F,P⟩:=zI (f:=λk:List Key=>D.tup<|k.map kT) (k:=L) XA r
 have Y:(tU j L).isSome=(lV (j.map λp=>.tup (p.1.map kT)) o<|.tup<|L.map kT).isSome:=by
  cases z:lV (j.map λp=>.tup (p.1.map kT)) o (.tup<|L.map kT)with
  |none=>rw[P z];rfl
  |some d=>obtain⟨v,N,_⟩:=F d z;rw[N];rfl
 rw[<-Y]at h
 cases m
 .exact Y4 B I (CY.t e T) x λl n=>by simpa using h l n
 exact IS B I (CY.t e T) x λl n=>by simpa using h l n
def VV(J:A.units+1<aL)(I:Inv X g i H s)(q:AB X.K (H a) .dct M n us)(r:YP X.K H O n us)(hk:rY M k=Y)(l:lV M n k=z8 d)(U:jv X.K H O k y)(N:RelV y u)
  (h:∀v w m,Inv X g i H m->Rep X.K H O d v->RelV v w->Q w m):aa (ag X.prog X.w) A (c9 (.ref a) u) Q E s:=by
 have nil:∀n:List D,lV [] n k=z9:=λn=>by cases n<;>rfl
 rcases q with⟨j,e,rfl,rfl⟩|⟨j,e,rfl,rfl⟩
 .rcases pM hk with⟨G,h1,_⟩|⟨Y',h1,x⟩
  .have:=pE h1 U;subst this;have T:=nY h1;subst T;obtain⟨v,z,B⟩:=(zI (f:=kT) (k:=G) sG r).1 d l;refine BF J I (v:=v) (y:=kV G) ?_ N λw m o L=>h v w m o B L;rw[<-z];exact CY.k e
  cases j with
  |nil=>rw[oP,nil]at l;cases l
  |cons p j=>obtain⟨c,C⟩:=x (kT p.1) (by simp);exact(zK C).elim
 rcases pM hk with⟨G,h1,x⟩|⟨Y',h1,_⟩
 .cases j with
  |nil=>rw[oP,nil]at l;cases l
  |cons p j=>obtain⟨c,C⟩:=x (.tup<|p.1.map kT) (by simp);exact(CC C).elim
 obtain⟨b,rfl,F⟩:=pD h1 U;have T:=rX h1;subst T;obtain⟨v,z,B⟩:=(zI (f:=λk:List Key=>D.tup<|k.map kT) (k:=Y') XA r).1 d l;refine BF J I (v:=v) (y:=.ref b) ?_ N λw m o L=>h v w m o B L;rw[<-z];exact CY.t e F
end
def G4(d k:D):Option (D×Bool):=match d with
 |.Sr .dct a b=>if rY a k=Y then(lV a b k).map λv=>(v,C)else U
 |_=>A2 d k
def Vu(d e:D):Option Bool:=match e with
 |.Sr .dct a b=>if rY a d=Y then J (lV a b d).isSome else U
 |_=>M8 d e
def tE(d e:D):Option (D×Bool):=(Vu d e).map λb=>(.bl (!b),C)
section
variable {X:Cx}
def acA(p:X.A.units+62<aL):B0 X (au .NotIn) (rD X.K tE):=by
 intro c s t T x y v u Q N l m h;obtain⟨O,d,e,z,np,h1,j,g,G⟩:=h;by_cases k:∃f i,e=.Sr .dct f i
 .obtain⟨f,i,rfl⟩:=k;obtain⟨b,o,rfl⟩:=iT g;obtain⟨hk,rfl⟩:=iM (show(if rY f d=Y then J (lV f i d).isSome else U)=J b from o);obtain⟨a,B,rfl,q,r⟩:=pB j;cases m;exact Y3 (by lia) N q r hk h1 l Y λw n=>⟨.bl _,T,n,by simp[L2.RelV],G.bl⟩
 have:tE d e=Dc d e:=by
  unfold tE Vu Dc;split
  .exact absurd ⟨_,_,rfl⟩ k
  rfl
 rw[this]at g;exact acz p c s t T x y v u Q N l m ⟨O,d,e,z,np,h1,j,g,G⟩
def YE(T:X.A.units+1<aL):LI X (rD X.K G4):=by
 intro c b f s C H x y v u Q I p t h o;obtain⟨O,d,e,z,np,h1,m,j,G⟩:=h;by_cases hd:∃i l,d=.Sr .dct i l
 .obtain⟨i,l,rfl⟩:=hd;have k:(if rY i e=At then(lV i l e).map λv=>(v,AC)else z9)=z8 z:=j;split at k
  case isFalse=>cases k
  rename_i hk;obtain⟨w,J,rfl⟩:=iT k;obtain⟨a,U,rfl,q,r⟩:=pB h1;cases p;have n:s.TypeIs (.ref a) "dict":=GL I q;unfold fB;refine gL ?_;rw[getitemInPython_of_ne n.not_modules];refine gL<|uq n PySem.F.slot_dict_getitem.lookup ?_
  have fin:aa (ag X.prog X.w) X.A (ij b AC (.ref a) u) (λr g=>aa (ag X.prog X.w) X.A (letTemporaryGo c (.ref a) r>>=λ_=>pure r) (EP X f C Q) X.xe g) X.xe s:=by rw[o];exact wpAny_operating<|VV T I q r hk J m t λB Y N E L M=>gL<|wpAny_letTemporaryGo<|hJ ⟨B,H,E,M,G B H (λ_ _ e=>e) L⟩
  first
   |exact hJ<|gL fin
   |exact gL<|hJ<|gL fin
   |exact gL fin
 have:G4 d e=A2 d e:=by
  unfold G4;split
  .exact absurd ⟨_,_,rfl⟩ hd
  rfl
 rw[this]at j;exact SR c b f s C H x y v u Q I p t ⟨O,d,e,z,np,h1,m,j,G⟩ o
noncomputable def Te:F:=λa=>J ((.Sr .dct [] [],Y),a)
end
section
variable {K:iz}{T:SI}{b:L2.St}{c:Dn}{H:Hp}{i:Nat}{d e:D}{a:gJ}{o:HO}
end
section
variable {X:Cx}{c:iN}{d:L2.St}{H:Hp}{s:gM}{a:gJ}
def Um(T:Inv X c d H s)(e:H a=J (.dT [])):Inv X c d (upd H a<|.dK []) s:=by have:=tP (t':=s.toks) (h':=s.heap) T (by rw[e];exact br) (Ck a s.heap) (by obtain⟨z,y,g,r,o,f,b,h1,_⟩:=(show VP X.prog X.w H s.heap a (.dT [])from T.hok a _ e);exact⟨o,h1⟩)<|Th (H':=upd H a<|.dK [])<|T.hok a _ e;exact this
def Ul(T:Inv X c d H s)(e:H a=J (.dK [])):Inv X c d (upd H a<|.dT []) s:=by have:=tP (t':=s.toks) (h':=s.heap) T (by rw[e];exact br) (Ck a s.heap) (by obtain⟨z,y,g,r,o,f,b,h1,_⟩:=(show VP X.prog X.w H s.heap a (.dK [])from T.hok a _ e);exact⟨o,h1⟩)<|Ti (H':=upd H a<|.dT [])<|T.hok a _ e;exact this
def X6:R6:=λo i v H Q=>∃a,o=.ref a/\((∃e,G6 H a i v e/\Q e)\/(∃f,H a=J (.dT [])/\i=kV f/\Q (upd H a<|.dK [(f,v)]))\/
 (∃g b,H a=J (.dK [])/\i=.ref b/\H b=J (.tup<|g.map kV)/\Q (upd H a<|.dT [(g,v)])))
def aeh(j:X.A.units+1<aL):Wd X X6:=by
 intro c s d H o i v E T u Q O x l m h;obtain⟨a,rfl,h⟩:=h;cases x;rcases h with⟨r,g,q⟩|⟨y,e,rfl,q⟩|⟨B,b,e,rfl,n,q⟩
 .exact xJ j O g l m λp f=>⟨r,f,q⟩
 .refine xJ j (Um O e) (G6.k (k:=y) (v:=v) iF<|by rw[jQ];decide) l m λp f=>⟨_,f,?_⟩
  rw[HH];exact q
 have w:b≠a:=SD n e (λz=>nomatch z);refine xJ j (Ul O e) (G6.t (k:=B) (v:=v) (b:=b) iF (by rw[iL w];exact n)<|by rw[jQ];decide) l m λp f=>⟨_,f,?_⟩
 rw[HH];exact q
end
section
variable {K:iz}{H:Hp}{O:SI}
theorem Mb{g:Type}[DecidableEq g]{f:g->D}(hd:∀a b,D.R1 (f a) (f b)=decide (a=b)){k:g}{w:D}{v:V}(j:Rep K H O w v):∀{c:List (g×V)}{d:List D},YP K H O d (c.map (·.2))->YP K H O (zp (c.map λp=>f p.1) d (f k) w) ((c.map λi=>if i.1=k then(i.1,v)else i).map (·.2))
 |[],d,h=>by cases d<;>simpa[zp]using h
 |(l,u)::c,[],h=>by rw[jK,YP]at h;cases h
 |(l,u)::c,n::d,h=>by
  rw[jK,YP]at h;obtain⟨x,r,e,h1,m⟩:=h;obtain⟨rfl,rfl⟩:=uz e;simp only[jK,zp,hd];refine YP.cons ?_<|Mb hd j m;by_cases hk:l=k
  .simp only[hk,mR];exact j
  simp only[hk,jX,kY];exact h1
def HW{c:Type}[DecidableEq c]{kd:c->D}(hd:∀a b,D.R1 (kd a) (kd b)=decide (a=b)){k:c}{w:D}{v:V}(e:Rep K H O w v){kvs:List (c×V)}{d:List D}(h:YP K H O d (kvs.map (·.2))):
  (xj (kvs.map λp=>kd p.1) d (kd k) w).1=(uQ kvs k v).map (λp=>kd p.1)/\YP K H O (xj (kvs.map λp=>kd p.1) d (kd k) w).2 ((uQ kvs k v).map (·.2)):=by
 have f:(kvs.map λp=>kd p.1).any (D.R1 · (kd k))=kvs.any λg=>decide (g.1=k):=by rw[wO];congr 1;funext p;exact hd _ _
 unfold xj uQ;rw[f];split
 .refine⟨?_,Mb hd e h⟩;rw[jA];apply lX;intro p _;simp;split<;>rfl
 exact⟨by simp,by rw[nL];exact h.append<|YP.one e⟩
end
def L7(i:Nat)(f:F)(g:FO):FS:=λc=>(f c).bind λp=>match p.2[i]? with
 |some (J _)=>(g p.2).bind λq=>match res q.2 q.1,q.2[i]? with
  |some k,J (J (.Sr .dct a b,Y))=>if rY a k=Y/\(A1 a)<10000 then J (.nx<|q.2.set i<|J (.Sr .dct (xj a b k p.1.1).1 (xj a b k p.1.1).2,Y))else U
  |_,_=>U
 |_=>U
section
variable {X:Cx}{e c:gX}{f:F}{g:FO}{b h a d:bq}{i:Nat}{x:av}{A:jo}{L:LL}{j:Hp}
end
end PX
namespace TT
open PySem.SeqAt
structure G3(h:ip)(d:gJ)(es:Array f3)(ep:Nat):Prop where
 at_:∃o,h.get? d=z8 o/\o.ExactDict/\o.data=.dict es ep
def G3.D0{d b a}(x:G3 h d b a)(k:∀o,h.get? d=J o->c.get? d=J o):G3 c d b a:=let⟨o,h1,r⟩:=x.at_;⟨o,k _ h1,r⟩
section
variable {c:iw}{w:ik}{A:ig}{E:iK}{s:gM}
def G3.typeIs{d b a}(x:G3 s.heap d b a):s.TypeIs (.ref d) "dict":=let⟨o,h1,r,_⟩:=x.at_;⟨o,h1,r.1⟩
def adx(hd:(d==bN)=C)(e:G3 s.heap d h g)
  (i:Q (.ref s.heap.objs.size) {s with heap:=s.heap.push {cls:=.type "dict_keyiterator",data:=.fields #[.ref d,.int 0 0,.int h.size 0,.int g 0]}}):aa (ag c w) A (cG<|.ref d) Q E s:=by
 have b:=e.typeIs;obtain⟨o,f,j,a⟩:=e.at_;refine Fo b KO<|og KO b PySem.F.entry_dict_iter ?_<|PySem.F.args_dict_iter_1 _;unfold bc.«dict.__iter__»;refine gL ?_;unfold Builtin.Dict.dictSlotNone;refine gL<|wpAny_notOrdered_dict b ?_;change aa _ _ (pure<|bW d) _ _ s;refine hJ ?_;change aa _ _ (Builtin.Dict.showsAll d>>=_) _ _ s;unfold Builtin.Dict.showsAll;rw[iC<|by rw[hd];exact ky];refine gL<|hJ ?_;refine gL<|m4 f a ?_;refine gL<|rd f a ?_;refine gL<|nu<|hJ ⟨_,rfl,"dict_keyiterator",_,⟨_,jT _ rfl,rfl⟩,Ks.lookup,?_⟩;simpa[de]using i
def Bo(x:A.handled=U){it d:gJ}{i k:Nat}{g:Array f3}{Q:Hw}(f:s.heap.IsKeyIter it d i g.size k)(z:G3 s.heap d g k)(B:i<=g.size)
  (u:∀e,g[i]?=J e->∀h,h.IsKeyIter it d (i+1) g.size k->aG it s.heap h->Q (J e.key) {s with heap:=h})
  (t:i=g.size->∀h,dt it s.heap h->Q U {s with heap:=h}):aa (ag c w) A (cU<|.ref it) Q E s:=by
 obtain⟨o,l,v,hd⟩:=id f;obtain⟨O,j,N,n⟩:=z.at_;unfold cU;refine gL<|wM<|uI (name:=bC "__next__") f.typeIs Ks<|og Ks f.typeIs PySem.F.entry_dict_keyiterator_next ?_<|PySem.F.args_dict_keyiterator_next_1 _;refine gL<|hJ ?_;refine gL ?_;refine gL ?_;refine gL<|Fj f.typeIs<|hJ ?_;refine gL<|wpAny_fieldsOf l hd ?_;have p:Builtin.Dict_items.ownsTuple "dict_keyiterator"=C:=by decide
 simp -iota only[jX,kY];change aa _ _ (if(bW d==ao)=Y then _ else _) _ _ s;rw[iC (show ¬((bW d==ao)=Y)from ky)];refine gL<|hJ ?_;refine gL<|m4 j n ?_;rw[iC<|by simp];refine gL<|hJ ?_;refine gL<|rd j n ?_;rw[iC<|by simp];refine hJ ?_;dsimp only;simp -iota;by_cases y:i<g.size
 .have q:g[i]?=J g[i]:=pk y;simp -iota only[q];refine gL ?_;refine gL<|Fj f.typeIs<|hJ ?_;refine gL<|KN f.typeIs ?_;change aa _ _ (io (.ref it) 1 (de<|(i:Int)+1)>>=_) _ _ s;refine gL (uC l hd (by simp) ?_)
  have r:(s.heap.update it (eV (·.setIfInBounds 1 (de<|(i:Int)+1)))).IsKeyIter it d (i+1) g.size k:=
   ⟨_,rL _ l (Ci<|tY hd _),(Cg ..).trans v,by rw[tY hd];simp[de]⟩
  refine gL<|lU ?_;refine gL (KN (s:={s with heap:=s.heap.update it (eV (·.setIfInBounds 1 (de<|(i:Int)+1)))}) r.typeIs ?_);change aa _ _ (pure g[i].key) _ _ _;exact hJ<|hJ ⟨_,rfl,hJ<|u _ q _ r (qr ..)⟩
 obtain rfl:i=g.size:=by lia
 simp -iota;refine gL ?_;refine gL<|Fj f.typeIs<|hJ ?_;change aa _ _ (io (.ref it) 0 .none>>=_) _ _ s;refine gL<|uC l hd (by simp) ?_;change aa _ _ (gl (.type "StopIteration") []>>=_) _ _ _;refine gL ?_;simp -iota only[gl];refine gL<|nu ?_ (by size_fits);refine gL (m:=eX _ _)<|uc (a:=ao) (by first|rfl|(simp -iota;rfl)) ?_;refine nu ?_ (by size_fits);simp -iota only[t6];refine gL<|FQ ?_;rw[show A.in1.handled=U from x];refine gL<|hJ<|FP ?_;refine gL<|yT (T:="StopIteration") (b:=Y) ⟨_,jT _ rfl,rfl⟩ FL ?_;exact hJ<|t I _ (((qr ..).extBut.push _).push _)
def acQ(l:A.handled=U)(T d:gJ)(p:T≠d)(g:Array f3)(k:Nat):x6 c w A T [T,d] [T] g.size (λi v=>∃e,g[i]?=J e/\v=e.key) (λi h=>h.IsKeyIter T d i g.size k/\G3 h d g k) where
 sub:=λb a=>by simp at a;simp[a]
 frame:=λ_ _ _ st hk=>⟨st.1.at λo e=>hk T (by simp) o e,st.2.D0 λo e=>hk d (by simp) o e⟩
 item:=λi s Q E m st f=>by refine Bo l st.1 st.2 (vB m) (λe r j t n=>?_) λz=>absurd z<|jB m;exact f _ j s.toks ⟨_,r,rfl⟩ ⟨t,st.2.D0 λo e=>n.extBut d o (λh=>p h.symm) e⟩ λb o a e=>n.extBut b o (λh=>a<|by simp[h]) e
 done:=λs Q E st f=>Bo l st.1 st.2 (jh _) (λe q=>absurd (OR.mp q).1<|oS _) λ_ j u=>f j s.toks λb o a e=>u b o (λh=>a<|by simp[h]) e
 self:=λ_ _ _ _ st f=>wpAny_pyIter_keyiter st.1 f
def OW(hd:(a==bN)=C)(p:A.handled=U)(S:G3 s.heap a d n)(q:d.size<=sizeLine)
  (j:∀h r,(∀b o,s.heap.get? b=J o->h.get? b=J o)->Q (d.toList.map (·.key)) {s with heap:=h,toks:=r}):aa (ag c w) A (ey<|.ref a) Q E s:=by
 have g:a<s.heap.objs.size:=let⟨_,h1,_⟩:=S.at_;jN h1;refine yf (.inr ⟨rfl,rfl⟩) g (λx k=>(S.D0 k).typeIs) (acQ (by show A.handled=U;exact p) (s.heap.objs.size+1) a (rm<|tZ g) d n) q (λi v ⟨e,m,hv⟩=>?_) (by rw[jf,kU]) (λl t k=>?_) j
 .rw[kg,mw,m,hv];rfl
 have f:G3 (s.heap.push l) a d n:=S.D0 λo e=>jz _ e;have ext:∀(u:el) b o,(s.heap.push l).get? b=J o->((s.heap.push l).push u).get? b=J o:=λu b o e=>jz _ e;refine adx (s:={s with heap:=s.heap.push l}) hd f ?_;have z:(s.heap.push l).objs.size=s.heap.objs.size+1:=oN _ _;have:=k _ ⟨show((s.heap.push l).push {cls:=.type "dict_keyiterator",data:=.fields #[.ref a,.int 0 0,.int d.size 0,.int n 0]}).IsKeyIter (s.heap.objs.size+1) a 0 d.size n from⟨_,by rw[<-z];exact jT _ rfl,rfl,rfl⟩,f.D0 λo e=>ext _ _ _ e⟩ (ext _);rw[<-z]at this;exact this
end
end TT
namespace PX
open L2 PySem.SeqAt TS
def kG(d:D):Option (D×Bool):=match d with
 |.Sr .dct a b=>if(a.all λk=>(uW k).isSome)=Y/\a≠[]then jw a else U
 |_=>sd d
section
variable {X:Cx}
def adD{P:iw}{w:ik}{e:List f3}{f:List (Key×gU)}{a:List (Key×V)}(h:Pairs (kW P w) e f)(q:KV a f):Vals (a.map λp=>kV p.1) (e.map (·.key)):=by
 induction h generalizing a with
 |nil=>cases q;exact .nil
 |cons h1 j t g=>
  obtain _|⟨r,q⟩:=q;refine .cons ?_<|g q;dsimp only;rw[r.1];rcases kz (show zJ _ _=Y from h1)with⟨i,d,b,c⟩|⟨x,d,b,c⟩
  .rw[b,c];exact⟨d,rfl⟩
  rw[b,c];exact⟨d,rfl⟩
theorem Bh{K:iz}{T:Hp}{O:SI}:∀(a:List (Key×V)),YP K T O (a.map λp=>kT p.1)<|a.map λp=>kV p.1
 |[]=>YP.nil
 |(k,v)::a=>by
  refine YP.cons ?_<|Bh a
  cases k with
  |inl i=>exact Rep.mkInt
  |inr x=>exact Rep.mkStr
def Yg{X:Cx}{id:String}{g f:D->Option (D×Bool)}(i:ki X (.builtin id) (EU X.K<|g1 f)){c:iN}{s:gM}{e:L2.St}{T:Hp}{x:V}{u:gU}{Q:VK}{O:SI}{d:D}{z:D×Bool}(N:Inv X c e T s)(k:L2.RelV x u)(np:∀p,¬Ow (T p)->¬O p)(hd:jv X.K T O d x)(h:f d=J z)(G:Gen X.K T O z Q):
  aa (ag X.prog X.w) X.A (call (.builtin id) [u]) (EP X c e Q) X.xe s:=
 i c s e T [x] [u] Q N (.cons k .nil) ⟨O,[d],z,np,rfl,(λj l m a b=>by
   cases j with
   |zero=>simp at a b;subst a;subst b;exact hd
   |succ j=>simp at a),h,G⟩
def ab8(j:X.calm=At)(n:X.A.units+62<aL):ki X (.builtin "sorted") (EU X.K<|g1 kG):=ph λt s σ H x u Q O d z I v np hd l G=>by
 by_cases m:∃f w,d=.Sr .dct f w
 .obtain⟨f,w,rfl⟩:=m;have h:(if(f.all λk=>(uW k).isSome)=At/\f≠[]then jw f else z9)=z8 z:=l;split at h
  .rename_i c;obtain⟨a,us,rfl,q,r⟩:=pB hd;cases v;rcases q with⟨b,e,rfl,rfl⟩|⟨b,e,rfl,rfl⟩
   .obtain⟨zl,B,D,i,o,V,S,h1,L,T,W,J,Z⟩:=Tf I.hok e;have y:=adD J i;have U:=y.length;simp at U;have N:X.A.handled=z9:=I.ok.hd j;exact sU n I (Bh (O:=O) b) y h G λR P F C M=>TT.OW B (by rw[C];exact N) ⟨o,h1,L,T⟩ (by lia) λE Y k=>M E Y k
   exfalso
   cases b with
   |nil=>exact c.2 AT
   |cons p b=>have:=kf.mp c.1 (.tup<|p.1.map kT) (by simp);simp[uW]at this
  cases h
 have:kG d=sd d:=by
  unfold kG;split
  .exact absurd ⟨_,_,rfl⟩ m
  rfl
 exact Yg (g:=kG) (ab7 j n) I v np hd (by rw[<-this];exact l) G
noncomputable def Gz:FS:=λ_=>U
end
section
variable {X:Cx}{e:gX}{f:F}{b d a c:bq}{i:Nat}{x:av}
end
structure PXs(X:Cx)(es:jP)(fs:List F):Prop where
 pa:PA X es (tA X.K<|fs.map hG)
section
variable {X:Cx}{e:gX}{b:jP}{f:F}{fs:List F}{a:bq}
end
structure QX(X:Cx)(e:gX)(f:F):Prop where
 h:PX X e f
structure QO(X:Cx)(e:gX)(f:FO):Prop where
 h:PX.PO X e f
structure QA(X:Cx)(es:jP)(fs:List FO):Prop where
 h:PA X es (tA X.K fs)
structure QL(X:Cx)(es:jP)(fs:List F):Prop where
 h:PXs X es fs
structure QT(X:Cx)(e:gX)(f:FT):Prop where
 h:PTX X e f
structure QW(X:Cx)(e:gX)(f:FT):Prop where
 h:PWX X e f
structure QG(X:Cx)(A:jo)(e:gX)(t:Tg):Prop where
 h:JR X A e t
structure QI(X:Cx)(B:SB)(tg e:gX)(f:AE):Prop where
 h:JQ X B tg e f
structure QF(X:Cx)(es:jP)(f:FT):Prop where
 h:Hm X es (tT X.K f)
structure QB(X:Cx)(A:jo)(d:gJ)(e:gX)(n:Nat)(f:FB):Prop where
 h:PB X (iX e n (.ref d) X.env) (GD AC X.K A d f)
structure QS(X:Cx)(A:jo)(L:LL)(H0:Hp)(st:aU)(f:FS):Prop where
 h:Ke X A L H0 st f
structure QQ(X:Cx)(A:jo)(L:LL)(H0:Hp)(st:List aU)(f:FS):Prop where
 h:DG X A L H0 st f
structure QC(X:Cx)(v:gU)(g:List D->Option (D×Bool)):Prop where
 h:ki X v (EU X.K g)
structure QP(X:Cx)(o:xQ)(g:D->D->Option (D×Bool)):Prop where
 h:B0 X o (rD X.K g)
abbrev SE(X:Cx)(e:gX)(a:jP):Prop:=af (e::a) X.env=(C,ba e X.env)::af a X.env
abbrev BA(X:Cx)(p:bq)(a:jP):Prop:=(aB p<|af a X.env).any (·.1)=C
abbrev DB(x:av):Prop:=(x==("__debug__":av))=C
abbrev un(A:ig)(n:Nat):Prop:=A.units+n<aL
structure ZZ where
 P:iw
 w:ik
 K:iz
 mg:av->Option gU
 base:ip
def Oz(Z:ZZ)(k:Nat)(x:av)(b:iA)(c:NL):Prop:= ∃f a,AP Z.P Z.w Z.K Z.mg Z.base Au k f a b (G8 Z.K c)/\Z.mg x=J (.ref f)/\bY Z.K (.ref f)=Y/\Binds Z.K a b []
def Oz.up{Z:ZZ}{k j:Nat}{x:av}{d:iA}{c:NL}(o:Oz Z k x d c)(h:k<=j:=by decide):Oz Z j x d c:=let⟨f,e,a,b⟩:=o;⟨f,e,a.mono h,b⟩
noncomputable abbrev zX(X:Cx):ZZ:=⟨X.prog,X.w,X.K,X.mg,X.base⟩
def tgN:Expr->List av
 |.Name x _=>[x]
 |.Tuple [.Name x _,.Name y _] _ _=>[x,y]
 |_=>[]
def cN(N:iA)(a:jc)(b:nJ):List Str:=a.filterMap (N[·]?)++b.flatMap λg=>tgN g.target
noncomputable def JF:List (av×gU):=[("len",.builtin "len"),("abs",.builtin "abs"),("int",.type "int"),("tuple",.type "tuple"),("list",.type "list"),("bool",.type "bool"),("max",.builtin "max"),("min",.builtin "min"),("all",.builtin "all"),("any",.builtin "any"),("sorted",.builtin "sorted"),("set",.type "set")]
def btA{c:lz}(T:Tx c):∀p∈JF,c p.1=U/\ax p.1=J p.2:=by
 have h:∀p∈JF,ax p.1=J p.2:=by decide+kernel
 intro p b;refine⟨?_,h p b⟩;have a:p∈JF:=b;unfold JF at a;simp only[mP,rg,or_false]at a;rcases a with rfl|rfl|rfl|rfl|rfl|rfl|rfl|rfl|rfl|rfl|rfl|rfl
 .exact T.n_len
 .exact T.n_abs
 .exact T.n_int
 .exact T.n_tuple
 .exact T.n_list
 .exact T.n_bool
 .exact T.n_max
 .exact T.n_min
 .exact T.n_all
 .exact T.n_any
 .exact T.n_sorted
 exact T.n_set
theorem GY{z:av}{v:gU}:∀{l:List (av×gU)},l.lookup z=J v->(z,v)∈l
 |[],h=>by cases h
 |(y,u)::l,h=>by
  rw[nM]at h;split at h
  .rename_i q;cases h;rw[oe q];exact .head _
  exact .tail _ (GY h)
def Kb{a:lz}{z:av}{v:gU}(T:Tx a)(h:JF.lookup z=J v):a z=U:=(btA T _ (GY h)).1
def MD{z:av}{v:gU}(h:JF.lookup z=J v):ax z=J v:=(show ∀p∈JF,ax p.1=J p.2 from by decide+kernel) _ (GY h)
section
variable {X:Cx}{x z:av}{e a b c st lo G:gX}{J:jP}{M U fc fo fl fh:FO}{f g:F}{ft fu:FT}{p p2 p3 m c8 apos:bq}{A:jo}{L:LL}{B:SB}{H0:Hp}{fs:List FO}{cx:List F}{i j k:Nat}{tg:gX}{S:aU}{Ss Ts:List aU}{u v:FS}
def xV(h1:X.N[i]?=z8 x:=by rfl)(l:GN X.env.scope x:=by first|exact aT rfl|exact bp (aT I)|exact bp<|bp I)(n:DB x:=by decide)(r:(x==("__classdict__":av))=C:=by decide):QO X (.Name x m) (gK i):=⟨PE.imp' (uS h1 l n r) λy O Q h=>by
 obtain⟨s,T,o,t,E,e,k⟩:=h;unfold gK at e
 cases G:s[i]? with
 |none=>rw[G]at e;cases e
 |some q=>
  cases q with
  |none=>rw[G]at e;cases e
  |some p=>obtain⟨d,b⟩:=p;rw[G]at e;obtain⟨rfl,rfl⟩:=iD e;obtain⟨w,v,h1,l⟩:=E.freeze G;exact⟨v,h1,k v O ⟨.refl,E,h1⟩⟩⟩
def xW(h1:X.N[i]?=z8 x:=by rfl)(l:GN X.env.scope x:=by first|exact aT rfl|exact bp (aT I)|exact bp<|bp I)(q:DB x:=by decide)(s:(x==("__classdict__":av))=C:=by decide):QX X (.Name x m) (jI i):=⟨PX.imp (uS h1 l q s) λy O Q h=>by
 obtain⟨t,T,r,w,E,e,k⟩:=h;unfold jI at e
 cases G:t[i]? with
 |none=>rw[G]at e;cases e
 |some o=>
  cases o with
  |none=>rw[G]at e;cases e
  |some p=>obtain⟨d,b⟩:=p;rw[G]at e;cases e;obtain⟨n,v,h1,l⟩:=E.freeze G;exact⟨v,h1,k v O<|Ls.val .set n l⟩⟩
def xO(h:QX X e f):QO X e (hG f):=⟨PX.po h.h⟩
def x1{j}:QX X (.Constant .none j m) (fC .T2):=⟨PX.imp UT λn O Q h=>by obtain⟨l,T,r,d,E,e,k⟩:=h;cases e;exact k _ _ (Ls.val .refl E (by first|exact Rep.mkInt|exact Rep.Hh|exact Rep.GC|exact Rep.mkStr))⟩
def x2{i j}:QX X (.Constant (.bool i) j m) (fC<|.bl i):=⟨Ya⟩
def x3{i j}:QX X (.Constant (.int i) j m) (fC<|.int i):=⟨PX.imp MJ λl O Q h=>by obtain⟨δ,T,r,d,E,e,k⟩:=h;cases e;exact k _ _ (Ls.val .refl E (by first|exact Rep.mkInt|exact Rep.Hh|exact Rep.GC|exact Rep.mkStr))⟩
def x7:QX X (.Dict [] [] m) Te:=⟨PX.imp ML λo O Q h=>by obtain⟨δ,T,n,l,E,e,k⟩:=h;cases e;intro p d;have B:=Ops.nil E;exact(B.done k) p _ d (lr d) ⟨[],.inl ⟨[],iF,rfl,rfl⟩,YP.nil⟩⟩
def ZL{d:Operator}{g:D->D->Option (D×Bool)}(o:QP X (bz d) g)(l:QO X a M)(n:QO X b U):QX X (.BinOp a d b m) (il g M U):=⟨M4<|Ye o.h l.h n.h⟩
def ZI(d:QO X a M):QX X (.UnaryOp .USub a m) (qh yt M):=⟨px1<|Yd Pl d.h⟩
def ZH(s:QX X a f):QX X (.UnaryOp .Not a m) (VQ f):=⟨PX.imp (US s.h) λO N Q t=>by obtain⟨y,T,r,C,E,e,k⟩:=t;obtain⟨p,h1,e⟩:=gR e;obtain⟨c,I,q,n⟩:=gZ e;obtain⟨o,rfl⟩:=Aq q;obtain⟨rfl,rfl⟩:=iD n;refine⟨y,T,_,_,E,h1,λv l P=>?_⟩;obtain⟨d,w⟩:=P.rep E;exact⟨c,w.bl,k _ l (Ls.val P.1 d Rep.Hh)⟩⟩
def ZK{d:ce}{g:D->D->Option (D×Bool)}(o:QP X (au d) g)(l:QO X a M)(n:QO X b U)(q:cw d b=C:=by first|exact M1 _|with_unfolding_all rfl):QX X (.Compare a [d] [b] m) (il g M U):=⟨M4<|Qo o.h l.h n.h q⟩
def XM{d:ce}{g:D->D->Option (D×Bool)}(o:QP X (au d) g)(l:QO X a M)(n:QO X b U)(q:cw d b=C:=by first|exact M1 _|with_unfolding_all rfl):QT X (.Compare a [d] [b] m) (fT<|il g M U):=⟨
 PT.imp' (Qe o.h l.h n.h q) λs T Q r=>QR X7<|Se r⟩
def xCh{d l:ce}(n:QO X a M)(o:QO X b U)(q:QO X c fc)(t:Bt d:=by first|exact .inl rfl|exact .inr (.inl I)|exact .inr (.inr<|.inl I)|exact .inr<|.inr<|.inr I)(w:Bt l:=by first|exact .inl rfl|exact .inr (.inl I)|exact .inr (.inr<|.inl I)|exact .inr<|.inr<|.inr I)(r:lastMarks [d,l] [b,c]=C:=by with_unfolding_all rfl):QX X (.Compare a [d,l] [b,c] m) (Aa d l M U fc):=⟨
 PX.imp (MM (Ib t) (Ib w) n.h o.h q.h r) λy T Q s=>ad2 s⟩
def xBo{op}(d:QX X a f):QX X (.BoolOp op [a] m) f:=⟨UR d.h⟩
def ZM(I:QX X a f)(O:QX X (.BoolOp .And (b::J) m) g):QX X (.BoolOp .And (a::b::J) m) (Ab f g):=⟨PX.imp (UX I.h O.h) λF H Q N=>by
 obtain⟨D,T,r,l,E,e,k⟩:=N;obtain⟨p,h1,e⟩:=gR e;obtain⟨c,n,C,d⟩:=gZ e;obtain⟨o,rfl⟩:=Aq C;refine⟨D,T,_,_,E,h1,λv s P=>?_⟩;obtain⟨q,Y⟩:=P.rep E;refine⟨c,Y.bl,?_⟩
 cases c with
 |true=>rw[hV AT]at d;rw[hV AT];exact⟨n,T,r,l,q,d,λw t y=>k w t<|y.pre P.1⟩
 |false=>rw[iC ky]at d;rw[iC ky];obtain⟨rfl,rfl⟩:=iD d;exact k _ s (Ls.val P.1 q Rep.Hh)⟩
def ZO(y:QT X a ft)(C:QW X (.BoolOp .And (b::J) m) fu):QW X (.BoolOp .And (a::b::J) m) (sy ft fu):=⟨PW.imp' (UD y.h C.h) λN H Q I=>by
 obtain⟨O,T,c,l,E,e,k⟩:=I;obtain⟨q,d,h1,e⟩:=gZ e;refine⟨O,T,q,d,E,h1,λs o n=>?_⟩
 cases q with
 |true=>rw[hV AT]at e;rw[hV AT];exact⟨d,T,c,l,n,e,λt w r=>k t (o.trans w) r⟩
 |false=>rw[iC ky]at e;rw[iC ky];obtain⟨rfl,rfl⟩:=iD e;exact k s o n⟩
def wOr(y:QT X a ft)(C:QW X (.BoolOp .Or (b::J) m) fu):QW X (.BoolOp .Or (a::b::J) m) (Dk ft fu):=⟨PW.imp' (Yb y.h C.h) λN H Q I=>by
 obtain⟨O,T,c,l,E,e,k⟩:=I;obtain⟨q,d,h1,e⟩:=gZ e;refine⟨O,T,q,d,E,h1,λs o n=>?_⟩
 cases q with
 |true=>rw[hV AT]at e;rw[hV AT];obtain⟨rfl,rfl⟩:=iD e;exact k s o n
 |false=>rw[iC ky]at e;rw[iC ky];exact⟨d,T,c,l,n,e,λt w r=>k t (o.trans w) r⟩⟩
def Xz(d:QT X a ft):QW X (.BoolOp .And [a] m) ft:=⟨Qb d.h⟩
def ZN(d:QT X a ft):QW X (.BoolOp .Or [a] m) ft:=⟨UC d.h⟩
def tW{op}(h:QW X (.BoolOp op J m) ft):QT X (.BoolOp op J m) ft:=⟨PW.pt h.h⟩
def Ji(n:QT X a ft):QT X (.UnaryOp .Not a m) (sv ft):=⟨PT.imp' (UJ n.h) λs O Q o=>by obtain⟨q,T,c,r,E,e,k⟩:=o;obtain⟨l,d,h1,e⟩:=gZ e;obtain⟨rfl,rfl⟩:=iD e;exact⟨q,T,l,d,E,h1,k⟩⟩
def ZQ(h:QX X e f)(l:∀d,isTrue e X.env d=(do let v <-d;cg e.pos;b3 [v] (truthy v)):=by intro _;rfl):QT X e (fT f):=⟨PT.imp' (UI h.h l) λo T Q n=>Se n⟩
def xIf(C:QT X c ft)(t:QX X a f)(y:QX X b g):QX X (.IfExp c a b m) (JK ft f g):=⟨PX.imp (aeI C.h t.h y.h) λY H Q I=>by
 obtain⟨O,T,r,l,E,e,k⟩:=I;obtain⟨c,d,h1,e⟩:=gZ e;refine⟨O,T,c,d,E,h1,λN s q=>?_⟩
 cases c with
 |true=>rw[hV AT]at e;rw[hV AT];exact⟨d,T,r,l,q,e,λw n o=>k w n<|o.pre s⟩
 |false=>rw[iC ky]at e;rw[iC ky];exact⟨d,T,r,l,q,e,λw n o=>k w n<|o.pre s⟩⟩
def xIx(d:QO X a M)(l:QO X b U)(n:DF b:=by exact λ_ _=>rfl):QX X (.Subscript a b m) (il A2 M U):=⟨M4<|Sw SR d.h l.h n⟩
def ZJ(o:un X.A 1)(d:QO X a M)(l:QO X b U)(n:DF b:=by exact λ_ _=>rfl):QX X (.Subscript a b m) (il G4 M U):=⟨M4<|Sw (YE o) d.h l.h n⟩
def ZC(s:QO X a M)(t:QO X lo fl):QX X (.Subscript a (.Slice (z8 lo) z9 z9 p2) m) (By M fl):=⟨
 PX.imp (Eh XZ s.h (HX t.h) HY) λP H Q y=>by
  obtain⟨N,T,K,Y,E,e,k⟩:=y;unfold By at e;obtain⟨q,d,h1,e⟩:=gZ e;obtain⟨O,n,r,e⟩:=gZ e;dsimp only at e;split at e
  .rename_i i G;obtain⟨x,C,e⟩:=gR e;obtain⟨z,I,e⟩:=gR e;obtain⟨rfl,rfl⟩:=iD e;refine⟨N,T,q,d,E,h1,λv D l=>⟨d,A6 T q v,O,n,l.er E,r,λu F o=>?_⟩⟩;have B:=Ops.cons E l<|Ops.cons (l.er E) o<|Ops.nil<|o.er<|l.er E;exact⟨i,iP<|B.view (j:=1) AT AT G,_,x,z,λp w=>B.np w,B.view (j:=0) AT AT C,I,B.done k⟩
  cases e⟩
def ZD(s:QO X a M)(t:QO X G fh):QX X (.Subscript a (.Slice z9 (z8 G) z9 p2) m) (uj M fh):=⟨
 PX.imp (Eh XZ s.h HY<|HX t.h) λP H Q y=>by
  obtain⟨N,T,K,Y,E,e,k⟩:=y;unfold uj at e;obtain⟨q,d,h1,e⟩:=gZ e;obtain⟨O,n,r,e⟩:=gZ e;dsimp only at e;split at e
  .rename_i i G;obtain⟨x,C,e⟩:=gR e;obtain⟨z,I,e⟩:=gR e;obtain⟨rfl,rfl⟩:=iD e;refine⟨N,T,q,d,E,h1,λv D l=>⟨d,A6 T q v,O,n,l.er E,r,λu F o=>?_⟩⟩;have B:=Ops.cons E l<|Ops.cons (l.er E) o<|Ops.nil<|o.er<|l.er E;exact⟨i,iP<|B.view (j:=1) AT AT G,_,x,z,λp w=>B.np w,B.view (j:=0) AT AT C,I,B.done k⟩
  cases e⟩
def xL0:QL X [] []:=⟨⟨CP⟩⟩
def xL(d:QX X e f)(l:QL X J cx)(n:SE X e J:=by rfl):QL X (e::J) (f::cx):=⟨⟨zw (PX.po d.h) l.h.pa n⟩⟩
def LZ:QA X [] []:=⟨CP⟩
def xA(d:QO X e M)(l:QA X J fs)(n:SE X e J:=by rfl):QA X (e::J) (M::fs):=⟨zw d.h l.h n⟩
def ZA{k}(h:QL X J cx):QX X (.Tuple J k m) (vb cx):=⟨Uv h.h.pa⟩
def Xu(h:QL X J cx):QX X (.List J m) (nW cx):=⟨UA h.h.pa⟩
def xB{id:String}{g:List D->Option (D×Bool)}(T:Tx X.mg)(hv:JF.lookup z=z8 (.builtin id))(n:QC X (.builtin id) g)(l:QA X (e::J) fs)(q:Gl X z:=by rfl)(r:z≠"__name__":=by decide)(s:DB z:=by decide)(o:SE X e J:=by rfl)(d:BA X m J:=by rfl):QX X (.Call (.Name z p) (e::J) [] m) (iB g fs):=⟨Qa n.h q (Kb T hv) (MD hv) l.h r s o d⟩
def xT{id:String}{g:List D->Option (D×Bool)}(T:Tx X.mg)(hv:JF.lookup z=z8 (.type id))(n:QC X (.type id) g)(l:QA X (e::J) fs)(q:Gl X z:=by rfl)(r:z≠"__name__":=by decide)(s:DB z:=by decide)(o:SE X e J:=by rfl)(d:BA X m J:=by rfl):QX X (.Call (.Name z p) (e::J) [] m) (iB g fs):=⟨P5 n.h q (Kb T hv) (MD hv) l.h r s o d⟩
def xI{t:Ty}(T:Tx X.mg)(d:JF.lookup z=z8 (.type t.n))(q:QO X e M)(r:Gl X "isinstance":=by rfl)(o:Gl X z:=by rfl)(s:z≠"__name__":=by decide)(w:DB z:=by decide)
  (s1:SE X e [.Name z p2]:=by rfl)(y:SE X (.Name z p2) []:=by rfl)(l:BA X m [.Name z p2]:=by rfl):
  QX X (.Call (.Name "isinstance" p) [e,.Name z p2] [] m) (qh (G5 [t]) M):=⟨UB q.h r T.n_isinstance o (Kb T d) (MD d) s w abh s1 y l⟩
def xU{k:Nat}{y:iA}{d:NL}(t:P1 k X.A)(O:Oz (zX X) k x y d)(o:QA X (e::J) fs)(r:Gl X x:=by rfl)(w:DB x:=by decide)
  (q:SE X e J:=by rfl)(n:BA X m J:=by rfl):QX X (.Call (.Name x p) (e::J) [] m) (hU d fs):=
 let⟨_,_,ok,s,kp,l⟩:=O;⟨P4 ok t r s kp l o.h w q n⟩
def ZF{T:String}{mk:List D->D}{o:Bool}(d:Tx X.mg)(hv:JF.lookup z=z8 (.type T))(s:QA X [a,b] [M,U])(r:(T="list"/\mk=.lst/\o=Y)\/(T="tuple"/\mk=.tup/\o=C):=by first|exact .inl ⟨rfl,rfl,rfl⟩|exact .inr ⟨rfl,rfl,rfl⟩)(t:X.calm=Y:=by rfl)(w:Gl X z:=by rfl)(y:z≠"__name__":=by decide)(Q:DB z:=by decide)(n:Gl X "range":=by rfl)
  (s1:SE X (.Call (.Name "range" p2) [a,b] [] p3) []:=by rfl)(E:SE X a [b]:=by rfl)
  (q:BA X m []:=by rfl)(l:BA X p3 [b]:=by rfl):
  QX X (.Call (.Name z p) [.Call (.Name "range" p2) [a,b] [] p3] [] m) (iB (KL mk o) [M,U]):=⟨Ux r t w (Kb d hv) (MD hv) y Q n d.n_range s.h s1 E q l⟩
def Xv(hv:QO X (.Name x c8) (gK i))(he:QX X e f)(j7:LY X (.Name x c8) "append":=by rfl)
  (m8:LW X m [e]:=by rfl)
  (j6:(apos.endLine==m.line)=At:=by rfl)(I:SE X e []:=by rfl)(b9:BA X m []:=by rfl):QX X (.Call (.Attribute (.Name x c8) "append" apos) [e] [] m) (ml i f):=⟨
 PX.imp (Sx KJ PySem.F.slot_list_append PySem.F.type_list_append adn hv.h (nS he.h rT I) j7 m8 j6 I b9) λσ H Q V=>by
 obtain⟨o,T,rr,δ',E,e,k⟩:=V;unfold ml at e;split at e
 .rename_i l0 w;obtain⟨r,q,h1,e⟩:=gZ e;dsimp only at e;split at e
  .rename_i l C;obtain⟨W,e⟩:=iM e;obtain⟨rfl,rfl⟩:=rh e;refine⟨o,T,.slot i,o,E,by unfold gK;rw[w],λv H1 P=>?_⟩;obtain⟨D,n,d⟩:=P;obtain⟨a,g1,R,g2,g3⟩:=n.own i _ w;rw[d]at g1;cases g1;refine⟨.inl ⟨rfl,R,CU.of g2⟩,o,T,r,q,n,h1,λy H2 t=>?_⟩;obtain⟨s,ry⟩:=t.rep n;obtain⟨a',O,xs,Z,N⟩:=s.own i _ C;rw[d]at O;cases O;refine⟨_,xs,y,rfl,rfl,Z,by rw[N.length];exact W,?_⟩;obtain⟨Y,K⟩:=s.write C d<|N.append<|YP.one ry;exact k _ _ (Ls.val ((D.trans t.1).trans K) Y Rep.GC)
  cases e
 cases e⟩
def ZG(hv:QO X (.Name x c8) (gK i))(he:QO X e fo)(j7:LY X (.Name x c8) "pop":=by rfl)
  (m8:LW X m [e]:=by rfl)
  (j6:(apos.endLine==m.line)=At:=by rfl)(hs:SE X e []:=by rfl)(b9:BA X m []:=by rfl):QX X (.Call (.Attribute (.Name x c8) "pop" apos) [e] [] m) (zZ i fo):=⟨
 PX.imp (Sx KJ PySem.F.slot_list_pop PySem.F.type_list_pop aez hv.h (nS he.h rT hs) j7 m8 j6 hs b9) λσ H Q hw=>by
 obtain⟨I,T,rr,δ',E,e,k⟩:=hw;unfold zZ at e;split at e
 .rename_i l0 Y;obtain⟨o,r,h1,e⟩:=gZ e;dsimp only at e;split at e
  .rename_i V l hk D;split at e
   case isFalse=>cases e
   rename_i R;obtain⟨j,hj,e⟩:=gR e;obtain⟨d,hd,e⟩:=gR e;obtain⟨rfl,rfl⟩:=iD e;refine⟨I,T,.slot i,I,E,by unfold gK;rw[Y],λv H1 P=>?_⟩;obtain⟨K1,s,q⟩:=P;obtain⟨a,g1,eD,g2,g3⟩:=s.own i _ Y;rw[q]at g1;cases g1;refine⟨.inl ⟨rfl,eD,CU.of g2⟩,I,T,o,r,s,h1,λy H2 N=>?_⟩;have B:=Ops.cons s N<|Ops.nil<|N.er s;have vy:=iP<|B.view (j:=0) AT AT hk;have O:ER X.K H2 T σ r:=B.er.mono (λ_ _ e _=>e) (λb _ z=>B.tt b z) λa z=>B.er.dom a<|B.tt a z;obtain⟨a',W,Z,q2,C⟩:=O.own i _ D;rw[q]at W;cases W;obtain⟨w,w1,w2⟩:=C.get hd;have hl:=C.length;have fw:Dv Z.length V=z8 j:=by rw[hl];exact hj
   obtain⟨s1,s2,s3,s4⟩:=C5 fw;obtain⟨E3,t⟩:=O.write D q<|YP.erase j C;refine⟨_,Z,V,j,w,rfl,by rw[vy],q2,R.1,R.2,s1,w1,?_⟩;exact k _ _ (Ls.val ((K1.trans B.keep).trans t) E3<|Rep.mono (λb o e n=>t.kp b o e λz=>n<|.inl z) (λb _ z=>z.imp (t.ow b) id) w2)
  cases e
 cases e⟩
def iR1(T:Tx X.mg)(w:QA X [a] [M])(y:Gl X "range":=by rfl)(I:af [a] X.env=[(AC,ba a X.env)]:=by rfl):QI X B tg (.Call (.Name "range" p) [a] [] m) (yp M):=⟨PI.imp' (ada y T.n_range w.h I) λF H R O=>by
 obtain⟨Q,T,D,N,E,e,k⟩:=O;obtain⟨os,l,h1,e⟩:=gZ e;refine⟨Q,T,os,l,E,h1,λo q Y B=>?_⟩;dsimp only at e;split at e
 .rename_i j n;obtain⟨⟨s,t⟩,e⟩:=iM e;obtain⟨rfl,rfl⟩:=rh e;have hv:=sN B n (j:=0) AT;obtain⟨C,_⟩:=om n
  have:o=[.int j]:=by
   have d:=B.len
   cases o with
   |nil=>simp at hv
   |cons v r=>
    cases r with
    |nil=>simp at hv;rw[hv]
    |cons _ _=>simp at C d;lia
  exact⟨j,this,s,t,k _ q B.keep (B.er.mono (λ_ _ e _=>e) (λb _ z=>B.tt b z) λa z=>B.er.dom a<|B.tt a z) (zO 0 j.toNat)⟩
 cases e⟩
def iR2(T:Tx X.mg)(C:QA X [a,b] [M,U])(I:Gl X "range":=by rfl)(Q:af [a,b] X.env=[(AC,ba a X.env),(AC,ba b X.env)]:=by rfl)(w:af [b] X.env=[(AC,ba b X.env)]:=by rfl):QI X B tg (.Call (.Name "range" p) [a,b] [] m) (zN M U):=⟨PI.imp' (ac9 I T.n_range C.h Q w) λP H R N=>by
 obtain⟨Y,T,K,D,E,e,k⟩:=N;obtain⟨os,o,h1,e⟩:=gZ e;refine⟨Y,T,os,o,E,h1,λq s F B=>?_⟩;dsimp only at e;split at e
 .rename_i i j n;obtain⟨t,e⟩:=iM e;obtain⟨rfl,rfl⟩:=rh e;have hv:=sN B n (j:=0) AT;have l:=sN B n (j:=1) AT;obtain⟨O,_⟩:=om n
  have:q=[.int i,.int j]:=by
   have d:=B.len
   match q,hv,l with
   |[x,y],hv,l=>simp at hv l;rw[hv,l]
   |x::y::z::r,_,_=>simp at O d;lia
  exact⟨i,j,this,t,k _ s B.keep (B.er.mono (λ_ _ e _=>e) (λb _ z=>B.tt b z) λa z=>B.er.dom a<|B.tt a z) (zO i (j-i).toNat)⟩
 cases e⟩
def iS(h:QX X e f):QI X B tg e (jd f):=⟨PI.imp' (Eg (B:=B) (PX.po h.h) PD) λr T R l=>by
 have:jd f=xy (hG f):=funext λn=>by
  unfold jd xy hG
  cases f n with
  |none=>rfl
  |some p=>obtain⟨⟨d,o⟩,q⟩:=p;cases d<;>rfl
 rwa [this]at l⟩
def iSV(h:QO X e (gK i))(d:B i:=by decide):QI X B tg e (xy<|gK i):=⟨Eg h.h<|PC d⟩
def gN(l:X.N.Nodup)(G:X.N[i]?=z8 x:=by rfl)(s:Loc X.env.scope x:=by first|exact aT rfl|exact bp I)(o:X.fn x=Y\/X.env.scope.names.lookup x=z8 .local:=by first|exact aT rfl|exact bp I)(n:A i:=by decide):QG X A (.Name x m) (gP i):=⟨PG.imp' (HZ l G s o) λv y O Q q=>by obtain⟨w,T,d,t,E,r,e,k⟩:=q;obtain⟨G,rfl⟩:=iM e;obtain⟨h1,h⟩:=vG (A:=A) (r:=(d,C)) (v:=v) E (Ls.val .refl E r) G n;exact k _ h1 h⟩
def gT{d l:Tg}{k:Nat}(h1:QG X A a d)(n:QG X A b l)(o:X.calm=Y:=by rfl)(s:(aQ [a,b] X.env).map (·.2)=b5 a X.env::(aQ [b] X.env).map (·.2):=by rfl)(t:(aQ [b] X.env).map (·.2)=b5 b X.env::(aQ [] X.env).map (·.2):=by rfl)
  (q:(aQ [a,b] X.env).length=2:=by rfl)(r:(aQ [a,b] X.env).findIdx? (·.1)=z9:=by rfl):QG X A (.Tuple [a,b] k m) (LK [d,l]):=⟨Qm o (Bi h1.h (Bi n.h aeE t) s) q I r⟩
def f0:QF X [] iZ:=⟨λd s n O Q N h=>by obtain⟨o,T,b,l,E,e,k⟩:=h;cases e;exact Qk d s n O Q N<|k O .refl E⟩
def f1(h:QT X e ft):QF X [e] ft:=⟨Qj h.h⟩
def bE{q:nJ}{sc:iJ}{d:gJ}{n:Nat}(he:QX X e f)(hn:q[n+1]?=z9:=by rfl):QB X A d (.ListComp e q sc p) n (ja f):=⟨PB.imp' (Qs hn he.h) λy H N D=>by
 obtain⟨O,T,Y,Z,W,B,e,k⟩:=D;obtain⟨r,l,h1,e⟩:=gZ e;obtain⟨K,e⟩:=iM e;obtain⟨rfl,rfl⟩:=rh e;refine⟨O,T,r,l,B.er,h1,λv s P=>?_⟩;obtain⟨C,V⟩:=P.rep B.er;have E:SK A y O H y l s:=P.1.sk;have Q:=B.step E C;obtain⟨w,F,I⟩:=Q.at';refine⟨w,F,by rw[I.length];exact K,k y _ ?_ ?_⟩
 .have:Hg A d y l s y l (upd s d<|.lst<|w++[v]):=⟨λa o e n R=>by rw[iL R];exact e,λi a z=>.inl z,λa z=>by
   by_cases t:a=d
   .subst t;rw[iF];simp
   rw[iL t];exact z,λ_ _=>rfl⟩
  exact E.JS.trans this
 have hk:∀b o,s b=z8 o->¬T b->upd s d (.lst<|w++[v]) b=z8 o:=λb o e n=>by rw[iL<|by intro z;subst z;exact n B.td];exact e
 have hd:∀a,T a->Ow (upd s d (.lst<|w++[v]) a):=λa z=>by
  by_cases t:a=d
  .subst t;rw[iF];trivial
  rw[iL t];exact C.dom a z
 refine⟨C.mono hk (λ_ _ z=>z) hd,B.td,w++[v],iF,?_⟩;exact YP.mono (λb o e n=>hk b o e λz=>n<|.inr z) (λ_ _ z=>z)<|I.append<|YP.one V⟩
def bF{l:nJ}{r:iJ}{d:gJ}{n:Nat}{c:nI}{q:AE}{tt:Tg}{U:FB}(C:l[n+1]?=z8 c)(Q:QI X (λ_=>False) c.target c.iter q)(O:QG X A c.target tt)(s:QF X c.ifs ft)(N:QB X A d (.ListComp e l r p) (n+1) U)(t:X.xe=λ_ _=>False:=by rfl)(y:X.calm=Y:=by rfl)
  (w:c.is_async=0:=by rfl)(T:∀o,l[n+1+1]?=z8 o->o.is_async=0:=by intro o h;cases h;try rfl)(E:∀x,aq c.iter X.env x=pure x:=by intro _;rfl):QB X A d (.ListComp e l r p) n (Dw q tt ft U):=⟨Qr t y (aT ⟨_,_,_,_,rfl⟩) C w T E Q.h O.h s.h N.h⟩
def cOk{N P:iA}{l scope:iJ}{N':iA}{d:jc}(S:SS N P l)(h:qj N l scope N' d k=Y:=by decide+kernel)(n:X.N=N:=by rfl)(o:X.env.scope=l:=by rfl):AF X N' scope d k:=Aj n o h
abbrev MK(X:Cx)(d:jc)(o:nJ)(r:iJ)(P:Cx->Prop):Prop:= ∀(cl:jq)(T:gJ)(q:gM)(l:Hp)(n:km)(h:iN),
 (X.comp (cN X.N d o) r cl T q l n h).N.Nodup->P (X.comp (cN X.N d o) r cl T q l n h)
def xC{c:nI}{n:nJ}{o:gX}{scope:iJ}{s:AE}{tt:Tg}{t:FT}{U:FB}{l:jc}(pi:QI X (λi=>i∉l) c.target c.iter s)
  (Q:MK X l (c::n) scope λY'=>QG Y' (λi=>A1 l<=i) c.target tt/\QF Y' c.ifs t/\∀d,QB Y' (λi=>A1 l<=i) d (.ListComp o (c::n) scope m) 0 U)
  (C:qj X.N X.env.scope scope (cN X.N l (c::n)) l k=Y:=by kernel_rfl)(T:decide (cN X.N l (c::n)).Nodup=Y:=by kernel_rfl)
  (H:X.calm=Y:=by rfl)(E:c.is_async=0:=by rfl)(O:∀r,n[0]?=z8 r->r.is_async=0:=by intro r h;cases h;try rfl)(I:∀x,aq c.iter X.env x=pure x:=by intro _;rfl):QX X (.ListComp o (c::n) scope m) (iR l k s tt t U):=⟨P8 (Aj AT AT C) H E O I pi.h λcl C D w y q=>let⟨a,b,c⟩:=Q cl C D w y q<|rB T;⟨a.h,b.h,λd=>(c d).h⟩⟩
def sC{c:nI}{n:nJ}{o:gX}{scope:iJ}{t:AE}{tt:Tg}{y:FT}{U:FB}{l:jc}{w s:bq}(Q:X.N.Nodup)(pi:QI X (λi=>i∉l) c.target c.iter t)
  (l5:MK X l (c::n) scope λY'=>QG Y' (λi=>A1 l<=i) c.target tt/\QF Y' c.ifs y/\∀d,QB Y' (λi=>A1 l<=i) d (.ListComp o (c::n) scope m) 0 U)
  (C:qj X.N X.env.scope scope (cN X.N l (c::n)) l k=Y:=by kernel_rfl)(nd:decide (cN X.N l (c::n)).Nodup=Y:=by kernel_rfl)
  (H:ck (.ListComp o (c::n) scope m) (z8<|.Name x w) s.line X.env=pure Y:=by rfl)(G:X.N[i]?=z8 x:=by rfl)(hx:X.env.scope.names.lookup x=z8 .local:=by rfl)(hf:X.fn x=Y:=by rfl)(O:A i:=by decide)
  (hc:X.calm=Y:=by rfl)(T:c.is_async=0:=by rfl)(i7:∀r,n[0]?=z8 r->r.is_async=0:=by intro r h;cases h;try rfl)(hs:∀x,aq c.iter X.env x=pure x:=by intro _;rfl):QS X A L H0 (.Assign [.Name x w] (.ListComp o (c::n) scope m) s) (jy i<|iR l k t tt y U):=⟨Mm H (Aj AT AT C) hc T i7 hs pi.h (HZ Q G (aT hx)<|aT hf) O λcl C D E I q=>let⟨a,b,c⟩:=l5 cl C D E I q<|rB nd;⟨a.h,b.h,λd=>(c d).h⟩⟩
def s0:QQ X A L H0 [] ir:=⟨Dg.imp' Qh λD h Q d=>by obtain⟨δ,T,out,E,fi,e,k⟩:=d;cases e;exact k h Q .refl E⟩
def s1(h:QS X A L H0 S u)(C:QQ X A L H0 Ss v):QQ X A L H0 (S::Ss) (gW u v):=⟨Dg.imp' (Mp h.h C.h) λD N H I=>by
 obtain⟨δ,T,out,E,t,e,k⟩:=I;obtain⟨o,y,e⟩:=gR e;refine⟨δ,T,o,E,t,y,?_⟩
 cases o with
 |nx δ1=>
  intro O Q s w;refine⟨δ1,T,out,w,t.step s,e,?_⟩
  cases out with
  |nx δ2=>exact λd l n q=>k d l (s.trans n) q
  |bk δ2=>exact λd l n q=>k d l (s.trans n) q
  |ct δ2=>exact λd l n q=>k d l (s.trans n) q
  |rt r δ2=>exact λv d l n R2=>k v d l (s.trans n) R2
 |rt r δ1=>cases e;exact k
 |bk δ1=>cases e;exact k
 |ct δ1=>cases e;exact k⟩
def sX:QS X A L H0 S Gz:=⟨λd s o Q D O h=>by obtain⟨n,T,out,E,l,e,k⟩:=h;cases e⟩
def sR(h:QX X e f):QS X A L H0 (.Return (z8 e) m) (kn f):=⟨PS.imp' (Mt h.h) λD O Q t=>by
 obtain⟨w,T,out,E,r,e,k⟩:=t;obtain⟨p,l,e⟩:=gR e;cases e;refine⟨w,T,p.1,p.2,E,l,λv n P=>k v O n P.1.sk ?_⟩;obtain⟨⟨d,o⟩,y⟩:=p
 cases o
 .exact P.2
 obtain⟨q,h1,s,l⟩:=P.2;exact⟨q,h1,r.fresh s,l⟩⟩
def sRV{n:Nat}(q:∀i,L.p i->i<n)(hq:n<=i:=by decide)(h1:X.N[i]?=z8 x:=by rfl)(C:GN X.env.scope x:=by first|exact aT rfl|exact bp (aT AT)|exact bp<|bp AT)(h3:DB x:=by decide)(h4:(x==("__classdict__":av))=AC:=by decide):QS X A L H0 (.Return (z8<|.Name x p) m) (pX i):=⟨PS.imp' (Mt<|uS h1 C h3 h4) λD y H hw=>by
 have Z: ¬L.p i:=λh=>absurd (q _ h)<|OS.2 hq;obtain⟨s,T,out,E,W,e,k⟩:=hw;unfold pX at e
 cases G:s[i]? with
 |none=>rw[G]at e;cases e
 |some q=>
  cases q with
  |none=>rw[G]at e;cases e
  |some p=>
   obtain⟨d,b⟩:=p;have aW:i<(A1 s):=(ue.mp G).1
   cases b with
   |false=>rw[G]at e;cases e;obtain⟨v,h1,C⟩:=E.val i d G;exact⟨v,h1,k v y H .refl ⟨E,C⟩⟩
   |true=>
    rw[G]at e;cases e;obtain⟨a,h1,C⟩:=E.own i d G
    have l:∀j b,OO y (s.set i z9) j b->i≠j/\OO y s j b:=λj b a'=>by
     obtain⟨r,g1,g2⟩:=a'
     rcases mG g1 with⟨_,_,q⟩|⟨ne,q⟩
     .cases q
     exact⟨ne,r,q,g2⟩
    have o:∀b,X0 y (s.set i z9) b->X0 y s b/\b≠a:=λb a'=>by
     obtain⟨j,r,g1,g2⟩:=a'
     obtain⟨ne,O,F,K⟩:=l j b ⟨r,g1,g2⟩;exact⟨⟨j,O,F,K⟩,λz=>ne<|by subst z;exact E.inj i j d O _ G F h1 K⟩
    have P:X0 y s a:=⟨i,d,G,h1⟩
    have sub:∀b,H b≠z9->(X0 y (s.set i z9) b\/(T b\/b=a))->(X0 y s b\/T b):=λb _ z=>by
     rcases z with z|z|z
     .exact .inl (o b z).1
     .exact .inr z
     subst z;exact .inl P
    refine⟨.ref a,h1,k (.ref a) y H ⟨λ_ _ e _=>e,λj b z=>.inl (l j b z).2,λ_ z=>z,λ_ _=>rfl⟩ ⟨a,rfl,?_,?_,C.mono (λ_ _ e _=>e) sub λ_ e=>e⟩⟩
    .rcases W.ow i a ⟨d,G,h1⟩with z|z
     .exact absurd z Z
     exact z
    refine⟨by rw[ud];exact E.len,λj r I=>?_,λj r I=>?_,λj k r V b I hk g1 g2=>?_,λb z t=>?_,λb z=>?_⟩
    .rcases mG I with⟨_,_,q⟩|⟨ne,q⟩
     .cases q
     obtain⟨w,Q,Y⟩:=E.val j r q;exact⟨w,Q,Rep.mono (λ_ _ e _=>e) sub Y⟩
    .rcases mG I with⟨_,_,q⟩|⟨ne,q⟩
     .cases q
     obtain⟨w,Q,Y⟩:=E.own j r q;exact⟨w,Q,Y.mono (λ_ _ e _=>e) sub λ_ e=>e⟩
    .obtain⟨_,O,q1,q2⟩:=l j b ⟨r,I,g1⟩;obtain⟨_,R,q3,q4⟩:=l k b ⟨V,hk,g2⟩;exact E.inj j k O R b q1 q3 q2 q4
    .obtain⟨z1,z2⟩:=o b z;rcases t with t|t
     .exact E.nT b z1 t
     exact z2 t
    rcases z with z|z
    .exact E.dom b z
    subst z;exact E.Hb P⟩
def sE(h:QX X e f)(n:ck e z9 m.line X.env=pure C:=by rfl):QS X A L H0 (.Expr e m) (nA f):=⟨PS.imp' (Qi h.h n) λD r Q o=>by obtain⟨q,T,out,E,s,e,k⟩:=o;obtain⟨p,l,e⟩:=gR e;cases e;exact⟨q,T,p.1,p.2,E,l,λv d P=>k r d P.1.sk (P.rep E).1⟩⟩
def sI(n:QT X c ft)(d:QQ X A L H0 Ss u)(l:QQ X A L H0 Ts v):QS X A L H0 (.If c Ss Ts m) (AD ft u v):=⟨UK n.h d.h l.h⟩
def sW{n:Nat}(l:QT X c ft)(d:QQ X A L H0 Ss u)(o:dU (ag X.prog X.w) X.A X.env X.xe:=by exact PassesOwn.never):QS X A L H0 (.While c Ss [] m) (ou ft u n):=⟨adU o l.h d.h⟩
def sF{d:AE}{t:Tg}(G:QI X (λ_=>False) tg e d)(o:QG X A tg t)(l:QQ X A L H0 Ss u)(q:dU (ag X.prog X.w) X.A X.env X.xe:=by exact PassesOwn.never)(n:X.calm=Y:=by rfl)(r:∀x,aq e X.env x=pure x:=by intro _;rfl):QS X A L H0 (.For tg e Ss [] m) (nE d t u):=⟨Qf q n G.h o.h l.h r⟩
def sS(q:X.N.Nodup)(t:QX X e f)(G:X.N[i]?=z8 x:=by rfl)(I:Loc X.env.scope x:=by first|exact aT rfl|exact bp AT)(w:X.fn x=At\/X.env.scope.names.lookup x=z8 .local:=by first|exact aT rfl|exact bp AT)(s:A i:=by decide)(y:ck e (z8<|.Name x p) m.line X.env=pure AC:=by rfl):QS X A L H0 (.Assign [.Name x p] e m) (jy i f):=⟨PS.imp' (Mr q G I t.h y w) λD Y H C=>by obtain⟨O,T,out,E,Q,e,k⟩:=C;obtain⟨r,d,o,e⟩:=gZ e;obtain⟨G,rfl⟩:=iM e;refine⟨O,T,r,d,E,o,λv l P=>?_⟩;obtain⟨h1,n⟩:=vG (A:=A) E P G s;exact k _ l h1 n⟩
def sT{t:Tg}{pt:bq}(C:QX X e f)(I:QG X A (.Tuple J k pt) t)(O:d4 [.Tuple J k pt] e m.line X.env=pure AC:=by rfl)(d:d5 [.Tuple J k pt] e X.env=pure z9:=by rfl)(h1:(aQ [.Tuple J k pt] X.env).map (·.2)=[b5 (.Tuple J k pt) X.env]:=by rfl):QS X A L H0 (.Assign [.Tuple J k pt] e m) (Ug t f):=⟨PS.imp' (GF C.h I.h O d h1) λD Y H d=>by obtain⟨δ,T,out,E,N,e,k⟩:=d;obtain⟨r,δ1,h1,e⟩:=gZ e;obtain⟨l,y,e⟩:=gR e;cases e;refine⟨δ,T,r,δ1,E,h1,λv s P=>?_⟩;obtain⟨q,Q⟩:=P.rep E;exact⟨δ1,T,r.1,l,q,Q,y,λn w o=>k n s (P.1.sk.trans w) o⟩⟩
def IX{n:bq}(hv:QO X (.Name x c8) (gK i))(he:QX X e f)(G:QO X a fo)
  (ha:∀v,b5 (.Subscript (.Name x c8) a n) X.env v=(do
   let y <-b3 [v] (ba (.Name x c8) X.env)
   let I' <-b3 [v,y] (ba a X.env)
   cg n
   b3 [v,y,I'] (gg y I' v)
   wL [v,y,I'] []):=by intro _;rfl)
  (hs:d4 [.Subscript (.Name x c8) a n] e m.line X.env=pure AC:=by rfl)(C:d5 [.Subscript (.Name x c8) a n] e X.env=pure z9:=by rfl)
  (h1:(aQ [.Subscript (.Name x c8) a n] X.env).map (·.2)=[b5 (.Subscript (.Name x c8) a n) X.env]:=by rfl):QS X A L H0 (.Assign [.Subscript (.Name x c8) a n] e m) (uO i f fo):=⟨PS.imp' (GF he.h (MF hv.h G.h aeg ha) hs C h1) λD O H C=>by
 obtain⟨P,T,out,E,fi,e,k⟩:=C;obtain⟨r,d,h1,e⟩:=gZ e;dsimp only at e;split at e
 case h_2=>cases e
 rename_i y0 h0;obtain⟨o,w,h2,e⟩:=gZ e;dsimp only at e;split at e
 .rename_i kk l hk N;obtain⟨j,hj,e⟩:=gR e;cases e;refine⟨P,T,r,d,E,h1,λv V q=>⟨d,JY T r v,.slot i,d,q.er E,by unfold gK;rw[h0],λv2 H2 s=>⟨d,JY T r v,o,w,s.er<|q.er E,h2,λv3 W P3=>?_⟩⟩⟩;have gB:Af X.K T O P H (.val r) d v V:=q;have B:=Ops.cons E gB<|Ops.cons (q.er E) s<|Ops.cons (s.er<|q.er E) P3<|Ops.nil<|P3.er<|s.er<|q.er E;have Q:ER X.K W T O w:=B.er.mono (λ_ _ e _=>e) (λb _ z=>B.tt b z) λa z=>B.er.dom a<|B.tt a z;have t:O[i]?=z8 (z8 v2):=s.2.2;obtain⟨a,Y,xs,q2,F⟩:=Q.own i _ N;rw[t]at Y;cases Y;have vk:=iP<|B.view (j:=2) I I hk;have rv:=B.rep E (j:=0) (r:=r) I I;refine⟨a,xs,kk,j,rfl,vk,q2,by rw[F.length];exact hj,?_⟩;obtain⟨R,Z⟩:=Q.write N t<|YP.set rv j F;exact k _ _ (B.keep.trans Z).sk R
 cases e⟩
def sDP{w:bq}(hu:un X.A 1)(hv:QO X (.Name x c8) (gK i))(he:QX X e f)(G:QO X a fo)
  (ha:∀v,b5 (.Subscript (.Name x c8) a w) X.env v=(do
   let ov <-b3 [v] (ba (.Name x c8) X.env)
   let iv <-b3 [v,ov] (ba a X.env)
   cg w
   b3 [v,ov,iv] (gg ov iv v)
   wL [v,ov,iv] []):=by intro _;rfl)
  (hs:d4 [.Subscript (.Name x c8) a w] e m.line X.env=pure AC:=by rfl)(hw:d5 [.Subscript (.Name x c8) a w] e X.env=pure z9:=by rfl)
  (h1:(aQ [.Subscript (.Name x c8) a w] X.env).map (·.2)=[b5 (.Subscript (.Name x c8) a w) X.env]:=by rfl):QS X A L H0 (.Assign [.Subscript (.Name x c8) a w] e m) (L7 i f fo):=⟨PS.imp' (GF he.h (MF hv.h G.h (aeh hu) ha) hs hw h1) λD Q H hw=>by
 obtain⟨δ,T,out,E,fi,e,k⟩:=hw;obtain⟨r,d,h1,e⟩:=gZ e;dsimp only at e;split at e
 case h_2=>cases e
 rename_i y0 h0;obtain⟨o,l,h2,e⟩:=gZ e;dsimp only at e;split at e
 .rename_i R V W hk h3;obtain⟨⟨P,q⟩,e⟩:=iM e;cases e;refine⟨δ,T,r,d,E,h1,λv H1 N=>⟨d,JY T r v,.slot i,d,N.er E,by unfold gK;rw[h0],λv2 H2 F=>⟨d,JY T r v,o,l,F.er<|N.er E,h2,λv3 Y P3=>?_⟩⟩⟩;have gB:Af X.K T Q δ H (.val r) d v H1:=N;have B:=Ops.cons E gB<|Ops.cons (N.er E) F<|Ops.cons (F.er<|N.er E) P3<|Ops.nil<|P3.er<|F.er<|N.er E;have E3:ER X.K Y T Q l:=B.er.mono (λ_ _ e _=>e) (λb _ z=>B.tt b z) λa z=>B.er.dom a<|B.tt a z;have C:Q[i]?=z8 (z8 v2):=F.2.2;obtain⟨a,q1,us,q2,q3⟩:=E3.own i _ h3;rw[C]at q1;cases q1;have vk:=B.view (j:=2) AT AT hk;have rv:=B.rep E (j:=0) (r:=r) AT AT;have oa:X0 Q l a:=⟨i,_,h3,C⟩
  have kp:∀(s:HO) b u,Y b=z8 u->¬(X0 Q l b\/T b)->upd Y a s b=z8 u:=λs b u e n=>by rw[iL<|by intro z;subst z;exact n<|.inl oa];exact e
  have ks10:10000<sizeLine:=by rw[jQ];decide
  have fin:∀s Z,AB X.K (z8 s) .dct (xj V W R r.1).1 (xj V W R r.1).2 Z->YP X.K Y (λa=>X0 Q l a\/T a) (xj V W R r.1).2 Z->D.nx Q (upd Y a s):=λs Z g1 g2=>by obtain⟨E4,K4⟩:=E3.AR (o:=s) (d':=.Sr .dct (xj V W R r.1).1 (xj V W R r.1).2) h3 C ⟨Z,by rw[iF];exact g1,YP.mono (kp s) (λ_ _ z=>z) g2⟩;exact k _ _ (B.keep.trans K4).sk E4
  refine⟨a,rfl,?_⟩;rcases q2 with⟨kvs,eH,rfl,rfl⟩|⟨kvs,eH,rfl,rfl⟩
  .rw[jf]at q;rcases pM P with⟨κ,g1,_⟩|⟨τ,g1,g2⟩
   .have y:=pE g1 vk;have O:=nY g1;subst O;obtain⟨I,p2⟩:=HW sG (k:=κ) rv q3;refine .inl ⟨_,by rw[y];exact G6.k eH<|by lia,fin _ _ (.inl ⟨_,rfl,I,rfl⟩) p2⟩
   have bP:kvs=[]:=by
    cases kvs with
    |nil=>rfl
    |cons p kvs=>obtain⟨c,hc⟩:=g2 (kT p.1) (by simp);exact(zK hc).elim
   subst bP;obtain⟨b,y,eb⟩:=pD g1 vk;have O:=rX g1;subst O;obtain⟨I,p2⟩:=HW (kd:=λk=>.tup (k.map kT)) tL (k:=τ) (kvs:=[]) rv q3;exact .inr<|.inr ⟨τ,b,eH,y,eb,fin _ _ (.inr ⟨[(τ,v)],rfl,I,rfl⟩) p2⟩
  rw[jf]at q;rcases pM P with⟨κ,g1,g2⟩|⟨τ,g1,_⟩
  .have bP:kvs=[]:=by
    cases kvs with
    |nil=>rfl
    |cons p kvs=>obtain⟨c,hc⟩:=g2 (.tup<|p.1.map kT) (by simp);exact(CC hc).elim
   subst bP;have y:=pE g1 vk;have O:=nY g1;subst O;obtain⟨I,p2⟩:=HW sG (k:=κ) (kvs:=[]) rv q3;exact .inr<|.inl ⟨κ,eH,y,fin _ _ (.inl ⟨[(κ,v)],rfl,I,rfl⟩) p2⟩
  obtain⟨b,y,eb⟩:=pD g1 vk;have O:=rX g1;subst O;obtain⟨I,p2⟩:=HW (kd:=λk=>.tup (k.map kT)) tL (k:=τ) rv q3;refine .inl ⟨_,by rw[y];exact G6.t eH eb<|by lia,fin _ _ (.inr ⟨_,rfl,I,rfl⟩) p2⟩
 cases e⟩
end
def Fz(K:iz)(b:lz)(x:av)(st:aU):Prop:= ∃f a,b x=J (.ref f)/\Gv K x x st f a
def fz{K:iz}{h:ip}{e:lz}{x:av}{st:aU}{f:gJ}{i:gU}{j an:Option gJ}{g:yF}{kV b m d ct:gU}(X:K.In h)(G:h.Ns aj e)(a:aO K aj x=J (J<|.ref f))
  (l:K.lookup f=J ⟨i,j,.func<|bv x x (oY st) (kL st) (gS st) .none kV b m an d ct,g⟩)(c:cu K d x=Y)(k:bY K (.ref f)=Y):Fz K e x st:=⟨f,_,PySem.W.mg_of X G a,NU l c k⟩
def Gw(x:av)(st:aU)(c:iA):Prop:= ∀(kV a e:gU)(an:Option gJ)(d ct:gU)(b:je),A1 b=A1 c->c1 (bv x x (oY st) (kL st) (gS st) .none kV a e an d ct) ⟨b,[]⟩=pure (c.zip b)
def J7{N P:iA}{a:iJ}(h1:a.kind=.function:=by rfl)(b:a.isCoroutine=C:=by rfl)(c:a.isGenerator=C:=by rfl)(d:N.Nodup:=by decide+kernel)(e:N.take P.length=P:=by rfl)(f:∀x∈P,a.names.lookup x=J .local\/a.names.lookup x=J .cell:=by decide+kernel)(g:∀y∈a.names,y.2≠ .free:=by decide+kernel):SS N P a:=⟨h1,b,c,d,e,f,g⟩
abbrev Bd(Z:ZZ)(k:Nat)(x:av)(st:aU)(N d:iA)(c:jc)(fs:FS):Prop:= ∀(f:gJ)(b:gU)(A:ig)(a:List c3)(s:gM)(T:Hp)(E:XK)(L:LL),(∀i,L.p i->i<A1 d)->P1 k (A.deeper<|aP x (gS st) s.heap.objs.size f b)->
 un (A.deeper<|aP x (gS st) s.heap.objs.size f b) 60->un (A.deeper<|aP x (gS st) s.heap.objs.size f b) 1->un (A.deeper<|aP x (gS st) s.heap.objs.size f b) 62->un (A.deeper<|aP x (gS st) s.heap.objs.size f b) 90->N.Nodup->
 QQ (pR Au Z.P Z.w Z.K Z.mg Z.base N x (gS st) f b A a s T E).GI (λi=>i∈c) L T (kL st) fs
def fnB{Z:ZZ}{k:Nat}{x:av}{st:aU}{N c:iA}{b:jc}{fs:FS}{f:gJ}{d:mr}(F:Gv Z.K x x st f d)(S:SS N c (gS st))(j:Bd Z k x st N c b fs):AP Z.P Z.w Z.K Z.mg Z.base Au (k+1) f d c (G8 Z.K<|Q1 (A1 N) (A1 c) b fs):=
 Vz F S λg A a s T E L i e=>by have:=e.un;exact(j f g A a s T E L i e (by unfold un;omega) (by unfold un;omega) (by unfold un;omega) (by unfold un;omega) S.nd).h
def ozB{Z:ZZ}{k:Nat}{x:av}{st:aU}{N d:iA}{c:jc}{fs:FS}(a:Fz Z.K Z.mg x st)(S:SS N d (gS st))(b:Gw x st d)(g:Bd Z k x st N d c fs):Oz Z (k+1) x d (Q1 (A1 N) (A1 d) c fs):=
 let⟨f,e,m,F⟩:=a;⟨f,e,fnB F S g,m,F.kp,F.binds b⟩
def J6{P:List gU->Prop}(h:P []):∀b:List gU,A1 b=0->P b:=λb e=>by cases b with|nil=>exact h|cons a l=>cases e
def GO{P:List gU->Prop}{n:Nat}(h:∀a,∀b:List gU,A1 b=n->P (a::b)):∀b:List gU,A1 b=n+1->P b:=λb e=>by cases b with|nil=>cases e|cons a l=>exact h a l<|Nat.succ.inj e
def fzL{K:iz}{h:lz}{x y:av}{st:aU}{g:gJ}(a:Fz K h x st)(k:h x=J (.ref g))(b:Gw x st [y]):∃c,Gv K x x st g c/\∀(s:gM)(v:gU),eF s c ⟨[v],[]⟩ [(y,v)]:=by obtain⟨f,c,m,F⟩:=a;have e:=k.symm.trans m;cases e;obtain⟨n,o,kV,d,j,an,i,ct,l,e,_⟩:=F.ex;exact⟨c,F,λs v=>by subst e;exact .of_eq<|b kV d j an i ct [v] I⟩
def txK{K:iz}{h:ip}{g:lz}(X:K.In h)(G:h.Ns aj g)(i:aO K aj "len"=J U)(j:aO K aj "abs"=J U)(k:aO K aj "int"=J U)(l:aO K aj "tuple"=J U)(m:aO K aj "list"=J U)(n:aO K aj "range"=J U)(o:aO K aj "isinstance"=J U)(p:aO K aj "bool"=J U)(q:aO K aj "max"=J U)(r:aO K aj "min"=J U)(a:aO K aj "all"=J U)(b:aO K aj "any"=J U)(c:aO K aj "sorted"=J U)(d:aO K aj "enumerate"=J U)(e:aO K aj "zip"=J U)(f:aO K aj "set"=J U):Tx g:=⟨nK X G i,nK X G j,nK X G k,nK X G l,nK X G m,nK X G n,nK X G o,nK X G p,nK X G q,nK X G r,nK X G a,nK X G b,nK X G c,nK X G d,nK X G e,nK X G f⟩
noncomputable abbrev Jv(i:Int):Int:=if i<0 then -i else i
section
variable {d:iw}{w:ik}{A:ig}{E:iK}{s:gM}
def aeq{a:gJ}{f:je}{r:gQ}{n:Nat}{P:r0->gM->Prop}(M:s.heap.get? a=z8 (bi "list" f.toArray n))(hi:dA f r)(h64:f.length<64)
  (h:∀g y out c,(∀b o,b≠a->s.heap.get? b=z8 o->g.get? b=z8 o)->g.get? a=z8 (bi "list" out c)->KskOut AC (r.map Jv) f out.toList->P (.done<|.ret .none) {s with heap:=g,toks:=y}):
  aa (ag d w) A (ksk_tree a (.builtin "abs") AC) P E s:=by
 have ha:a<s.heap.objs.size:=jN M;have V:=hi.length;have T:∀k,k<=f.length->k<=sizeLine:=λk hk=>by rw[jQ];omega
 unfold ksk_tree;refine gL<|FA M AT<|gL<|ux M AT ?_ (T _ (by simp))<|lq _;obtain⟨C,Z⟩:∃C,(s.heap.update a<|aM λ_=>(#[]:Array gU)).get? a=z8 (bi "list" #[] C):=⟨_,wI M λ_=> #[]⟩
 refine gL<|yO Z AT<|gL<|FN ?_<|T _ (by simp);refine gL<|B9 ?_<|lq _;refine lU ?_
 let h1:=oV s.heap a f
 let m:Addr:=((s.heap.update a<|aM λ_=>(#[]:Array gU)).push<|bi "tuple" f.toArray 0).objs.size
 have hk:m=s.heap.objs.size+1:=by show _=_;simp -iota only[m];rw[size_push',Heap.size_update]
 have L:a≠m:=by rw[hk];exact jB<|tZ ha
 have old:∀b o,b≠a->s.heap.get? b=z8 o->h1.get? b=z8 o:=λb o z e=>jz _ (jz _ (by rw[Fy _ _ _ _ z];exact e));have F:h1.get? a=z8 (bi "list" #[] C):=jz _ (jz _ Z);have cb:h1.get? m=z8 (bi "list" #[] 0):=jT _ rfl;show aa (ag d w) A (ksk_rest a (.builtin "abs") AC f.toArray C<|.ref m) P E {s with heap:=h1};unfold ksk_rest;refine gL<|vw ?_;rw[List.forIn_toArray];refine gL<|ksk_fold (λi U=>∃g y l e,U={s with heap:=g,toks:=y}/\(∀b o,b≠m->h1.get? b=z8 o->g.get? b=z8 o)/\g.get? m=z8 (bi "list" l e)/\dA l.toList ((r.map Jv).take i)) f 0 _ ⟨h1,s.toks,#[],0,rfl,λ_ _ _ e=>e,cb,.nil⟩ (λj x U X D=>?_) λU D=>?_
 .obtain⟨g,y,l,e,rfl,N,G,p⟩:=D;have S:j<f.length:=(ue.mp X).1;obtain⟨t,W⟩:=hi.get j r[j]<|jk (by omega);rw[X]at W;cases W
  have q:l.size<=f.length:=by have:=p.length;rw[kU,rM]at this;omega
  refine gL<|wM<|xn λu eI=>?_;dsimp only;have s1:=qr g m (aM (·.push (.int (Jv r[j]) u)));refine gL<|ux (s:={s with heap:=g,toks:=eI}) G AT ?_ (T _ q)<|jW (p4 (Array.size_push ..)) (by rw[jQ];omega);refine hJ ⟨rfl,_,_,l.push<|.int (Jv r[j]) u,_,rfl,λb o z e=>(s1.2 b z).trans<|N b o z e,wI G _,?_⟩;rw[Ca,List.take_add_one,kg,jk (show j<r.length by omega),dQ];rw[Ca]at p;exact p.append<|.cons _ _ .nil
 obtain⟨g,y,l,e,rfl,N,G,p⟩:=D;have p:dA l.toList (r.map Jv):=by rwa [Ca,db<|by simp;omega]at p
 have q:l.size=f.length:=by have:=p.length;rw[kU,jf]at this;omega
 have J:(l.zip f.toArray).size=f.length:=by rw[kA,q,jY,Nat.min_self]
 refine gL<|FA (s:={s with heap:=g,toks:=y}) G AT ?_
 have v:∀st:qR,(ee st).Perm (l.zip f.toArray)->SortedTo (ee st) (ee st).size->eG st=z9->aa (ag d w) A (ksk_tail a AC C (.ref m) st) P E {s with heap:=g,toks:=y}:=λst O R K=>by
  have s1:=qr g m<|aM λ_=>(#[]:Array gU);have Y:(g.update m<|aM λ_=>(#[]:Array gU)).get? a=z8 (bi "list" #[] C):=(s1.2 a L).trans<|N a _ L F;have s2:=qr (g.update m<|aM λ_=>(#[]:Array gU)) a (aM λ_=>(ee st).map (·.2));unfold ksk_tail;simp -iota;refine gL<|ux (s:={s with heap:=g,toks:=y}) G AT ?_ (T _ (by omega))<|lq _;refine gL (xz (gL (yO Y AT (gL (ux Y AT ?_ (lq _) (g9 (show((ee st).map (·.2)).size<=sizeLine from T _ (by rw[kS,O.size_eq,J];exact jh _))))))));rw[K];simp -iota;refine hJ<|h _ _ _ _ (λb o z e=>?_) (wI Y _) (ksk_out (b:=AC) p O R);have I:b≠m:=by rw[hk];exact jB<|tZ<|jN e
  exact(s2.2 b z).trans ((s1.2 b I).trans<|N b o I<|old b o z e)
 unfold ksk_end;simp -iota only[kY];by_cases H:f.toArray.size<2
 .rw[hV H,hV H];refine gL<|hJ ?_;rw[FF];refine gL<|hJ<|v _ (Array.Perm.refl _) (λi j l6 S=>?_) rfl;have cc:j<(l.zip f.toArray).size:=S;rw[J]at cc;rw[jY]at H;have:i=j:=by omega
  subst this;exact Int.le_refl _
 rw[iC H,iC H];rw[jY]at H;rw[ksk_kind p<|by rw[q];omega];refine gL (hJ ?_)
 refine gL (mz (wpS_sortRuns (a₀:=l.zip f.toArray) (st:=SortSt.mk' u6 (l.zip f.toArray) #[] 7 z9) (Q:=λ_ B=>(ee B).Perm (l.zip f.toArray)/\eG B=z9/\SortedTo (ee B) (l.zip f.toArray).size)
  (ksk_intKeys p) ⟨Array.Perm.refl _,rfl,rfl,rfl⟩ (by rw[J];omega) (by rw[J];exact h64) λB a1 a2 a3=>⟨a1,a2,a3⟩) ?_ λ_ _ e=>e)
 rintro⟨⟨⟩,B⟩ U ⟨rfl,O,K,R⟩;exact v B O (by rw[O.size_eq];exact R) K
end
def aD:D->Int
 |.int i=>Jv i
 |_=>0
noncomputable def Jr:D->Bool
 |.int _=>Y
 |_=>C
def GP(x y:D):Bool:=decide<|aD x<aD y
def uX:D->Option (D×Bool)
 |.lst l=>if l.all Jr=Y/\(l.map aD).Nodup/\(A1 l)<64 then J (.lst<|mx GP l,Y)else U
 |_=>U
def NG{x:D}:∀{l:List D},l.Pairwise (λa b=>aD a<=aD b)->(C7 GP x l).Pairwise λa b=>aD a<=aD b:=by
 intro g
 induction g with
 |nil=>intro _;simp[C7]
 |cons y l f=>
  intro h;obtain⟨h1,e⟩:=A8.mp h;unfold C7;by_cases d:aD y<aD x
  .rw[hV<|by simpa[GP]using d];refine A8.mpr ⟨λz c=>?_,f e⟩;rcases mP.mp ((tx GP x l).mem_iff.mp c)with rfl|c
   .omega
   exact h1 z c
  rw[iC<|by simpa[GP]using d];refine A8.mpr ⟨λz c=>?_,h⟩;rcases mP.mp c with rfl|c
  .omega
  have:=h1 z c;omega
def Be:∀l:List D,(mx GP l).Pairwise λa b=>aD a<=aD b:=by
 intro d
 induction d with
 |nil=>exact .nil
 |cons _ l c=>exact NG<|c
theorem Bm:∀{l:List D},(l.map aD).Nodup->∀a∈l,∀b∈l,aD a=aD b->a=b
 |x::l,h,a,d,b,f,e=>by
  rw[jK,yj]at h;rcases mP.mp d with h1|h1<;>rcases mP.mp f with c|c
  .rw[h1,c]
  .exact absurd (h1▸e▸qo c) h.1
  .exact absurd (c▸e▸qo h1) h.1
  exact Bm h.2 a h1 b c e
def aet{l m:List D}(c:m.Perm l)(g:m.Pairwise λa b=>aD a<=aD b)(f:(l.map aD).Nodup):m=mx GP l:=by refine(c.trans (jL GP l).symm).eq_of_pairwise (le:=λa b=>aD a<=aD b) (λa b d e x y=>Bm f a (c.mem_iff.mp d) b ((jL GP l).mem_iff.mp e)<|by omega) g (Be l)
section
variable {X:Cx}{f:iN}{g:L2.St}{H:Hp}{s:gM}
def Z4{O:SI}:∀{l:List D}{j:List V}{c:je},l.all Jr=Y->YP X.K H O l j->Vals j c->∃e:List Int,l=e.map .int/\dA c e:=by
 intro n
 induction n with
 |nil=>intro j c _ r v;rw[YP]at r;subst r;cases v;exact⟨[],rfl,.nil⟩
 |cons d l m=>
  intro j c h r v;rw[YP]at r;obtain⟨x,q,rfl,o,p⟩:=r;rw[uG,kX]at h
  cases d with
  |int i=>
   cases v with
   |cons a b=>obtain⟨e,rfl,k⟩:=m h.2 p b;rw[iP<|.inl o]at a;obtain⟨t,rfl⟩:=a;exact⟨i::e,rfl,.cons _ _ k⟩
  |_=>exact absurd h.1 (by simp[Jr])
theorem Wr:∀{l:List D}{a:gQ}{xs:List V}{its:je},l=a.map .int->A1 xs=A1 l->A1 its=A1 l->(a.map Jv).zip its=(l.zip<|xs.zip its).map λt=>(aD t.1,t.2.2)
 |[],[],_,_,_,_,_=>by simp
 |d::l,i::a,x::xs,u::its,h,h1,b=>by obtain⟨rfl,c⟩:=uz h;have:=Wr (xs:=xs) (its:=its) c (by simpa using h1) (by simpa using b);simp -iota only[jK,uy,this];rfl
def acL{u:gU}{Q:VK}{O:SI}{d:D}{z:D×Bool}{x:V}(I:Inv X f g H s)(ru:RelV x u)(np:∀p,¬Ow (H p)->¬O p)(hd:jv X.K H O d x)(M:uX d=z8 z)(G:Gen X.K H O z Q):
  aa (ag X.prog X.w) X.A (call (.builtin "sorted") [u] [(bC "key",.builtin "abs")]) (EP X f g Q) X.xe s:=by
 cases d with
 |lst l=>
  obtain⟨⟨Z,hn,hz⟩,rfl⟩:=iM M;obtain⟨p,xs,rfl,q,E⟩:=kO hd;cases ru;obtain⟨j,v,pl,_⟩:=I.list q;have e1:=E.length;have e2:=v.length;obtain⟨ns,n8,r⟩:=Z4 Z E v;have hl:j.length<=sizeLine:=by rw[jQ];omega
  obtain⟨o,ho,hc,n,r8⟩:=pl.isList;refine call_function_entry_kw z7 xf xl (ksk_s1 _ _) ?_;unfold bc.«sorted»;refine gL (m:=checkCount "sorted" 1 1 _)<|hJ ?_;refine gL<|Fx p (.inl AT) ho hc r8 (λh1 k1=>?_) (by rw[jY];omega);rw[List.toList_toArray];refine gL<|B9 ?_ hl;have T:(h1.push<|bi "list" j.toArray 0).get? h1.objs.size=z8 (bi "list" j.toArray 0):=jT _ rfl;have L:Inv X f g H {s with heap:=h1}:=I.kept k1;refine gL<|lU<|wpAny_call_entry_kw (s:={s with heap:=h1.push (bi "list" j.toArray 0)}) uu ⟨_,T,rfl⟩ sx ?body<|ksk_l1 _ _
  case body=>
   show aa _ _ (bc.«list.sort» ⟨[.ref h1.objs.size],[(bC "key",.builtin "abs")]⟩) _ _ _;rw[ksk_t4];refine aeq (s:={s with heap:=h1.push (bi "list" j.toArray 0)}) T r (by omega) λW tk out c k2 k3 ko=>⟨_,rfl,hJ ⟨_,rfl,?_⟩⟩
   obtain⟨ps,U,k,Y⟩:=ko;rw[Wr n8 (by omega)<|by omega]at U;obtain⟨a,F,rfl⟩:=lZ _ U _ rfl;rw[jA]at k
   have R:∀t∈a,Rep X.K H O t.1 t.2.1/\RelV t.2.1 t.2.2:=λt hm=>by obtain⟨i,hi⟩:=qu<|F.mem_iff.mp hm;obtain⟨B,S⟩:=DK.mp hi;obtain⟨y,C⟩:=DK.mp S;obtain⟨w,P,w2⟩:=v.get y;rw[C]at P;cases P;exact⟨E.views B y,w2⟩
   have J:a.map (·.1)=mx GP l:=by
    refine aet ?_ (by rw[nD]at Y ⊢;exact Y.imp λh=>by simpa using h) hn;have:=F.map (·.1)
    rwa [hC<|by simp;omega]at this
   have hR:∀a:List (D×V×gU),(∀t∈a,Rep X.K H O t.1 t.2.1/\RelV t.2.1 t.2.2)->YP X.K H O (a.map (·.1)) (a.map (·.2.1))/\Vals (a.map (·.2.1)) (a.map (·.2.2)):=λa=>by
    induction a with
    |nil=>exact λ_=>⟨.nil,.nil⟩
    |cons t a ih=>intro h;obtain⟨i1,i2⟩:=ih λx hx=>h x<|iY _ hx;exact⟨.cons (h t jF).1 i1,.cons (h t jF).2 i2⟩
   obtain⟨r1,r2⟩:=hR a R;have keep:∀b o,h1.get? b=z8 o->W.get? b=z8 o:=λb o e=>k2 b o (jB<|jN e)<|jz _ e;have N:a.length=l.length:=by have:=lY dv J;rw[(jL GP l).length_eq,jf]at this;exact this
   refine⟨.ref h1.objs.size,_,L.laid (t':=tk) keep (jh _) (show VP X.prog X.w _ _ _ (.lst (a.map (·.2.1)))from⟨by rw[jf,jQ];omega,out.toList,c,?_,?_⟩),rfl,?_⟩
   .rw[k];exact r2
   .rw[Array.toArray_toList];exact k3
   refine G.lst L.fresh ?_;rw[<-J];exact r1
 |_=>cases M
def aeH{a:gX}{i:TA}{p b v kp:bq}(c:Gl X "sorted")(r:X.mg "sorted"=U)(k:Gl X "abs")(m:X.mg "abs"=U)(n:PA X [a] i)
  (o:aB b (af [a] X.env)=(C,ba a X.env)::aB b (af [] X.env))(j:(aB b<|af [a] X.env).any (·.1)=C):
  PE X (.Call (.Name "sorted" p) [a] [⟨J "key",.Name "abs" v,kp⟩] b) (Kh (EU X.K<|g1 uX) i):=by
 intro f s g H Q N h;refine vz<|qd N c r aec<|callWith_kw (NR (n b f s g H _ N h) λB s1 ⟨T,A,e,w,t⟩=>kws_cons<|qd e k m V2<|kws_nil ?_) o j I I;obtain⟨O,l,z,np,q,hv,c,G⟩:=t
 match l,c with
 |[d],c=>obtain⟨x,rfl⟩:=Ic q I;obtain⟨u,rfl,y⟩:=pF w;exact acL e y np (hv 0 d x I I) c G
def Ml{a:gX}{c:FO}{p b m kp:bq}(k:Gl X "sorted")(l:X.mg "sorted"=U)(e:Gl X "abs")(h:X.mg "abs"=U)(i:PA X [a] (tA X.K [c]))
  (j:aB b (af [a] X.env)=(C,ba a X.env)::aB b (af [] X.env))(d:(aB b<|af [a] X.env).any (·.1)=C):
  PX X (.Call (.Name "sorted" p) [a] [⟨J "key",.Name "abs" m,kp⟩] b) (iB (g1 uX) [c]):=pxn<|aeH k l e h i j d
end
section
variable {X:Cx}{x:av}{i:Nat}{c a b:bq}
end
section
variable {X:Cx}
variable {a:gX}{c:FO}{p b e kp f d:bq}{x:av}{i:Nat}
def xSA(T:Tx X.mg)(k:QA X [a] [c])(m:Gl X "sorted":=by rfl)(g:Gl X "abs":=by rfl)(l:aB b (af [a] X.env)=(C,ba a X.env)::aB b (af [] X.env):=by rfl)(j:BA X b [a]:=by rfl):
  QX X (.Call (.Name "sorted" p) [a] [⟨J "key",.Name "abs" e,kp⟩] b) (iB (g1 uX) [c]):=⟨Ml m (Kb T (z:="sorted") I) g (Kb T (z:="abs") I) k.h l j⟩
end
section
variable {X:Cx}{a:iN}{b:L2.St}{H:Hp}{s:gM}
end
section
variable {X:Cx}
end
section
variable {a:iw}{w:ik}{A:ig}{E:iK}{I:gJ}{c b:km}{n:Nat}{P:Nat->gU->Prop}{St:Nat->ip->Prop}
end
section
variable {X:Cx}{A:jo}{a:bq}{c:jP}{b:List Tg}
end
section
variable {X:Cx}{A:jo}{a b:gX}{g:bq}
variable {e j:gX}{f:F}{x z:av}{p m l kp:bq}{i k:Nat}{L:LL}{o:Hp}
def xLS{c:nI}{scope:iJ}{s:AE}{tt:Tg}{t:FT}{n:jc}{q:bq}(T:Tx X.mg)(Q:QI X (λi=>i∉n) c.target c.iter s)
  (I:MK X n [c] scope λY'=>QG Y' (λi=>A1 n<=i) c.target tt/\QF Y' c.ifs t/\QX Y' j f)
  (C:qj X.N X.env.scope scope (cN X.N n [c]) n k=Y:=by kernel_rfl)(O:decide (cN X.N n [c]).Nodup=Y:=by kernel_rfl)
  (B:X.calm=Y:=by rfl)(y:c.is_async=0:=by rfl)(M:∀x,aq c.iter X.env x=pure x:=by intro _;rfl)(E:Gl X "len":=by rfl)
  (h1:af [.SetComp j [c] scope g] X.env=(AC,ba (.SetComp j [c] scope g) X.env)::af [] X.env:=by rfl)(v:(aB q<|af [] X.env).any (·.1)=AC:=by rfl):
  QX X (.Call (.Name "len" p) [.SetComp j [c] scope g] [] q) (tH n k s tt t<|Dx f):=
 ⟨adT (Aj AT AT C) B y (by intro J h;cases h) M Q.h (λcl C G u w r=>let⟨a,b,c⟩:=I cl C G u w r<|rB O;⟨a.h,b.h,λd=>ade AT c.h⟩) E T.n_len V1 (by decide) (by decide) h1 v⟩
def iE1{B:SB}{d:jP}{v:Nat}{w:bq}{c:Int}{n:Nat}(T:Tx X.mg)(r:QX X a f)(s:bn c=Y:=by decide)(u:Gl X "enumerate":=by rfl)(s0:SE X a []:=by rfl)
  (t:aB g (af [a] X.env)=(C,ba a X.env)::aB g (af [] X.env):=by rfl)(q:(aB g<|af [a] X.env).any (·.1)=C:=by rfl):
  QI X B (.Tuple d v w) (.Call (.Name "enumerate" p) [a] [⟨J "start",.Constant (.int c) n l,kp⟩] g) (C6 c f):=⟨adX u T.n_enumerate r.h s s0 t q⟩
end
section
variable {X:Cx}{a:iN}{b:L2.St}{H:Hp}{s:gM}
end
end PX
namespace TT
open PySem.SeqAt
section
variable {a:iw}{w:ik}{A:ig}{R:gC->gM->Prop}{I:gJ}{c b:km}{G:Array eC->Array eC->Prop}{n:Nat}{P:Nat->gU->Prop}{St:Nat->gM->Prop}
end
end TT
namespace PX
open L2 PySem.SeqAt TS
section
variable {a:iw}{w:ik}{A:ig}{E:iK}{s:gM}
end
end PX
namespace TT
open PySem.SeqAt
section
variable {a:iw}{w:ik}{A:ig}{E:iK}{s:gM}
end
end TT
namespace PX
open L2 PySem.SeqAt
section
variable {X:Cx}
variable {a:gX}{c:FO}{p b:bq}
end
end PX
namespace L2
open PySem.W
section
variable {P:iw}{w:ik}{a:List c3}{H f:Hp}{s b:gM}{C e:gJ}{c B d:ip}{F:km}
end
section
variable {X:Cx}{b:iN}{c:St}{H:Hp}{s d:gM}{C e:gJ}
variable {P:iw}{w:ik}{a:List c3}{f:Hp}{s0:gM}{E:XK}
end
section
variable {X:Cx}{P:iw}{w:ik}{b:List c3}{f:Hp}{s0:gM}{E:XK}{x:av}{C:gJ}{a:gX}{d:TE}{np e c:bq}
end
def xv(q:av):HO:=.tbl #[.str q 0]
structure Jf(TB:List (gJ×av))(H:Hp):Prop where
 one:∀b,H b=z9\/(∃o xs,H b=z8 (.AJ o<|.lst xs))\/∃q,(b,q)∈TB/\H b=z8 (xv q)
 all:∀p∈TB,H p.1=z8 (xv p.2)
def adq{P:iw}{w:ik}{K:iz}{C mb:lz}{CX:Gn}{k:Nat}{fa a:gJ}{fd:mr}{x:av}{sp:Sp}{c:gM}{O:je}{Q:gQ}{TB:List (gJ×av)}
  (KX:K.In c.heap)(n8:c.heap.Ns aj C)(g:c.heap.Ns eY mb)(hbb:∀x:av,x≠"__name__"->mb x=ax x)(Y:c.heap.NoLimit)(hg:c.gens= #[])
  (M:∀p∈TB,c.heap.get? p.1=z8 (tabObj #[]))(ej:∀p∈TB,K.lookup p.1=z9)(ei:∀p∈TB,isCodeTable c.heap p.1)(cW:(TB.map (·.1)).Nodup)(U:∀p∈TB,c.heap.BuiltinsAt C p.1)
  (N:c.heap.get? a=z8 {cls:=.type "list",data:=.seq O.toArray})(hi:dA O Q)(hl:Q.length<=sizeLine)(hr:P1 k ez)
  (F:∀base:ip,K.In base->base.Ns aj C->(∀p∈TB,base.BuiltinsAt C p.1)->AP P w K C base CX k fa fd [x] sp)(i4:∀(s:gM)(u:gU),eF s fd ⟨[u],[]⟩ [(x,u)])
  (aI:∀H8:Hp,Jf TB H8->CU K H8 a (Q.map V.int)->sp [.ref a] H8 (λv H'=>v=.bl At/\∀p∈TB,H' p.1=z8 (xv p.2)) λ_ _ _=>False)
  (hCX:∀H8 e j,CX [] H8 c (λ_ _ _=>False) e j->False):
  bO (ag P w) ez (.call (.ref fa) ⟨[.ref a],[]⟩) (λr j=>r=.ok (.ret<|.bool At)/\OldK c.heap j.heap/\j.os=c.os/\dB j.gens) c:=by
 have rv:=adE hi;have R:=hi.length
 have Z:∀p∈TB,p.1≠a:=λp f e=>by have:=M p f;rw[e,N]at this;cases this
 have t:∀H8:Hp,Jf TB H8->CU K H8 a (Q.map V.int)->Az P w H8 c.heap->(∀b,H8 b≠z9->b=a\/∃p∈TB,b=p.1)->(H8 a≠z9->K.lookup a=z9)->
   bO (ag P w) ez (.call (.ref fa) ⟨[.ref a],[]⟩) (λr j=>r=.ok (.ret<|.bool At)/\OldK c.heap j.heap/\j.os=c.os/\dB j.gens) c:=by
  intro H8 hO hS D hA hK;have m9:∀{b:gJ}{o:el},c.heap.get? b=z8 o->H8 b=z9->(AM c.heap H8).get? b=z8 o:=λe n=>NK e n
  have t8:∀{b:gJ}{o:el},c.heap.get? b=z8 o->(∀its n,o.data≠ .seq its n)->(∀I,o.data≠ .fields I)->H8 b=z9:=λ{b o} e d d2=>by
   cases q:H8 b with
   |none=>rfl
   |some u=>
    rcases hA b (by rw[q];simp)with rfl|⟨p,f,rfl⟩
    .rw[N]at e;cases e;exact absurd AT<|d _ _
    rw[M p f]at e;cases e;exact absurd AT<|d2 _
  have X:∀{b:gJ}{m:lz},c.heap.Ns b m->(AM c.heap H8).Ns b m:=λ{b m} ⟨o,es,ep,e,d,r⟩=>⟨o,es,ep,m9 e (t8 e (λ_ _ z=>by rw[d]at z;cases z) λ_ z=>by rw[d]at z;cases z),d,r⟩
  have J:K.In (AM c.heap H8):=λb o e=>m9 (KX b o e) (by
   cases q:H8 b with
   |none=>rfl
   |some u=>
    rcases hA b (by rw[q];simp)with rfl|⟨p,f,rfl⟩
    .rw[hK<|by rw[q];simp]at e;cases e
    rw[ej p f]at e;cases e)
  have hBA:∀p∈TB,(AM c.heap H8).BuiltinsAt C p.1:=λp f=>by obtain⟨bm,o,h1,h2,h3,h4,h5,h6,h7,h8⟩:=U p f;exact⟨bm,o,h1,h2,h3,h4,m9 h5 (t8 h5 (λ_ _ z=>by rw[h8]at z;cases z) λ_ z=>by rw[h8]at z;cases z),h6,h7,h8⟩
  have hM:Mod K C (AM c.heap H8):=⟨J,X n8,⟨mb,X g,hbb⟩,let⟨mc,h1,h2⟩:=Y;⟨mc,X h1,h2⟩⟩
  have e0:G2 P w K C (AM c.heap H8) ez [] c H8:=⟨rfl,hM,λb o e=>Q0 e,p4<|ac1 _ _,trivial,λb g=>absurd (show b∈([]:List gJ)from g)<|by simp,D,.of_eq hg⟩
  refine oR ((F _ J (X n8) hBA).run ez [] c H8 ⟨[.ref a],[]⟩ [.ref a] [.ref a] _ _ hr e0 (i4 c<|.ref a) (.cons AT .nil) (aI H8 hO hS)) λr j h=>?_
  cases r with
  |error e=>exact(hCX H8 e j h).elim
  |ok fl=>
   cases fl with
   |next=>exact aH h
   |brk=>exact aH h
   |cont=>exact aH h
   |ret u=>
    obtain⟨v,H',os,T,un,B,r',q,L⟩:=h;subst q;obtain rfl:u=dI At:=r'
    have W:∀p∈TB,∃I,j.heap.get? p.1=z8 (tabObj I):=λp f=>by
     obtain⟨_,_,I,_,e,_⟩:=(show VP P w H' j.heap p.1 (.tbl #[.str p.2 0])from B _ _ (L p f))
     exact⟨I,e⟩
    have keep:∀b o,c.heap.get? b=z8 o->(∀p∈TB,b≠p.1)->j.heap.get? b=z8 o:=λb o e n=>by
     cases q:H8 b with
     |none=>exact un.keep b o e q (by intro z;exact absurd (show b∈([]:List gJ)from z)<|by simp) (by simp)
     |some u=>
      rcases hO.one b with z|⟨ob,xs,z⟩|⟨qq,hm,z⟩
      .rw[q]at z;cases z
      .have z2:=un.frzs b ob _ z;obtain⟨e1,_⟩:=D b _ z;obtain⟨G,_⟩:=B b _ z2;rw[e]at e1;cases e1;exact G
      exact absurd AT (n _ hm)
    refine⟨rfl,⟨λb o e=>?_,λb o e=>?_⟩,os,T⟩
    .by_cases g:∃p∈TB,b=p.1
     .obtain⟨p,f,rfl⟩:=g;obtain⟨I,G⟩:=W p f;rw[M p f]at e;cases e;refine .inr<|.inl ⟨ei p f,rfl,#[],I,rfl,?_⟩;rw[G];simp
     exact .inl (keep b o e λp f z=>g ⟨p,f,z⟩)
    by_cases g:∃p∈TB,b=p.1
    .obtain⟨p,f,rfl⟩:=g;obtain⟨I,G⟩:=W p f;exact⟨_,G⟩
    exact⟨o,keep b o e λp f z=>g ⟨p,f,z⟩⟩
 have A:∀{b q},TB.lookup b=z8 q->(b,q)∈TB:=λh=>by
  revert h;generalize TB=l
  induction l with
  |nil=>intro h;simp at h
  |cons x l ih=>
   intro h;rw[nM]at h;split at h
   .rename_i g;cases h;rw[beq_iff_eq.mp g];exact jF
   exact iY _ (ih h)
 have S:∀p∈TB,TB.lookup p.1=z8 p.2:=by
  clear A t Z aI ej ei U F M
  induction TB with
  |nil=>intro p f;simp at f
  |cons x l ih=>
   intro p f;rw[jK,yj]at cW;rw[nM];rcases mP.mp f with rfl|f
   .simp
   have:(p.1==x.1)=AC:=by rw[Ay];exact λe=>cW.1 (e▸qo f)
   rw[this];exact ih cW.2 p f
 have E:∀(H8:Hp)(b:gJ)(q:av),(b,q)∈TB->VP P w H8 c.heap b (xv q):=λH8 b q hm=>⟨q,0,#[],rfl,M _ hm,trivial,λpos cv z=>by simp[dn]at z⟩
 cases hk:K.lookup a with
 |some o=>
  have e:=KX a o hk;rw[N]at e;cases e;refine t (λb=>(TB.lookup b).map xv) ⟨λb=>?_,λp f=>by rw[S p f];rfl⟩ (.inr ⟨_,O.toArray,_,hk,rfl,rfl,rfl,by rw[jY,R];exact hl,by simpa using rv⟩) (λb u z=>?_) (λb z=>?_) λz=>?_
  .cases q:TB.lookup b with
   |none=>exact .inl AT
   |some y=>exact .inr<|.inr ⟨y,A q,rfl⟩
  .have i:(TB.lookup b).map xv=z8 u:=z
   cases q:TB.lookup b with
   |none=>rw[q]at i;cases i
   |some y=>rw[q]at i;cases i;exact E _ b y (A q)
  .have i:(TB.lookup b).map xv≠z9:=z
   cases q:TB.lookup b with
   |none=>rw[q]at i;exact absurd AT i
   |some y=>exact .inr ⟨_,A q,rfl⟩
  have i:(TB.lookup a).map xv≠z9:=z
  cases q:TB.lookup a with
  |none=>rw[q]at i;exact absurd AT i
  |some y=>exact absurd AT<|Z _ (A q)
 |none=>
  have hat:∀p∈TB,(if p.1=a then z8 (HO.AJ {cls:=.type "list",data:=.seq O.toArray}<|.lst<|Q.map V.int)else(TB.lookup p.1).map xv)=z8 (xv p.2):=λp f=>by rw[iC<|Z p f,S p f];rfl
  refine t (λb=>if b=a then z8 (.AJ {cls:=.type "list",data:=.seq O.toArray}<|.lst<|Q.map V.int)else(TB.lookup b).map xv) ⟨λb=>?_,hat⟩ (.inl<|.inr ⟨{cls:=.type "list",data:=.seq O.toArray},hV AT⟩) (λb u z=>?_) (λb z=>?_) λ_=>hk
  .by_cases g:b=a
   .exact .inr (.inl ⟨_,_,hV g⟩)
   cases q:TB.lookup b with
   |none=>exact .inl (by simp[g])
   |some y=>exact .inr<|.inr ⟨y,A q,by simp[g]⟩
  .by_cases g:b=a
   .have i:=(hV g).symm.trans z;cases i;subst g;exact⟨N,by rw[jf];exact hl,O,_,rv,N⟩
   have i:=(iC g).symm.trans z
   cases q:TB.lookup b with
   |none=>rw[q]at i;cases i
   |some y=>rw[q]at i;cases i;exact E _ b y (A q)
  by_cases g:b=a
  .exact .inl g
  cases q:TB.lookup b with
  |none=>exact absurd (by simp[g,q]) z
  |some y=>exact .inr ⟨_,A q,rfl⟩
end L2
namespace PX
open L2
def Rb{TB:List (gJ×av)}{K:iz}{k:NL}{T:Hp}{a:gJ}{f:gQ}(m:∀p∈TB,T p.1=J (xv p.2))(l:CU K T a (f.map V.int)){o:Bool}{c:Dn}(h:k [(.lst<|f.map .int,C)]=J ((.bl Y,o),c)):G8 K k [.ref a] T (λv g=>v=.bl Y/\∀p∈TB,g p.1=J (xv p.2)) λ_ _ _=>False:=by
 have no:∀b,¬X0 [J<|V.ref a] [J (D.lst<|f.map .int,C)] b:=λb Q=>by
  obtain⟨i,d,h1,q⟩:=Q
  cases i with
  |zero=>simp at h1
  |succ i=>simp at h1
 refine⟨λ_=>False,[(.lst<|f.map .int,C)],_,c,⟨rfl,λi d hd=>?_,λi d hd=>?_,λi j d e b h1=>?_,λb z=>absurd z<|no b,λb z=>z.elim⟩,h,λv g P=>?_⟩
 .cases i with
  |zero=>simp at hd;subst hd;refine⟨_,rfl,Rep.Kn (a:=a) (xs:=f.map V.int) ?_<|adQ f⟩;exact l.imp (λz=>⟨z,λz=>z.elim (no a) id⟩) id
  |succ i=>simp at hd
 .cases i with
  |zero=>simp at hd
  |succ i=>simp at hd
 .cases i with
  |zero=>simp at h1
  |succ i=>simp at h1
 refine⟨?_,λp n=>P.1.kp _ _ (m p n) (no _)⟩
 cases o
 .exact P.2.2.bl
 obtain⟨p,_,_,_,ok⟩:=P.2;exact ok.elim
end PX
namespace L2
open PySem.W
theorem vE{a b:Int}{t u:Nat}{c:gU}:∀l:List gU,fV l->fV (l++[.int a t,.int b u,c])
 |[],_=>trivial
 |.int _ _:: .int _ _::_::rest,h=>vE rest h
theorem As{a b:Int}{t u:Nat}{e:bq}{c f:gU}:∀l:List gU,fV l->dn e (l++[.int a t,.int b u,c])=J f->dn e l=J f\/f=c
 |[],_,h=>by
  simp only[rq,dn]at h;split at h
  .exact .inr (jZ h).symm
  cases h
 |.int i _:: .int j _::d::rest,h0,h=>by
  simp only[hW,dn]at h ⊢;split at h
  .rename_i q;rw[hV q];exact .inl h
  rename_i q;rw[iC q];exact As rest h0 h
section
variable {X:Cx}{d:iN}{i:St}{H:Hp}{s:gM}{P c:gJ}{b:bb}{f:gX}{scope:iJ}{j:jq}{g:bq}
def SA{h:ip}{a:gJ}(e:h.objs.size<=a):h.get? a=U:=by
 cases q:h.get? a with
 |none=>rfl
 |some o=>exact absurd (jN q)<|OS.mpr e
end
def Ae(q:av)(scope:iJ)(L fl:gJ)(cd:gU)(a:jq):Env:=
 newEnv scope L aj a (q++".<locals>.") (J fl) cd U eY
def oZ(CX:Gn)(P:iw)(w:ik)(K:Frag)(d:lz)(base:ip)(N:iA)(q:av)(scope:iJ)(fl:gJ)(cd:gU)(b:jq)(A:ig)(a:List c3)(s:gM)(T:Hp)(E:XK):Cx where
 prog:=P
 w:=w
 K:=K
 mg:=d
 base:=base
 A:=A.deeper<|Ae q scope s.heap.objs.size fl cd b
 N:=N
 s₀:=s
 H₀:=T
 env:=Ae q scope s.heap.objs.size fl cd b
 outer:=a
 stack:=Ae q scope s.heap.objs.size fl cd b::a
 ex:=[]
 calm:=Y
 fn:=λ_=>C
 pn:=[]
 xe:=λe h=>aa (ag P w) (A.deeper<|Ae q scope s.heap.objs.size fl cd b) (leaving (Ae q scope s.heap.objs.size fl cd b) e) (λ_ c=>CX a T s E e c) (λg c=>CX a T s E g c) h
structure CM(scope:iJ):Prop where
 kind:scope.kind=.function
 co:scope.isCoroutine=AC
 gen:scope.isGenerator=AC
 cell:∀y∈scope.names,y.2≠ .cell
structure K3(N:iA)(scope:iJ)(b6:jq)(σ:St)(H:Hp)(h:ip):Prop where
 inj:∀x y c,b6.lookup x=z8 c->b6.lookup y=z8 c->x=y
 has:∀x,scope.names.lookup x=z8 .free->∃c,b6.lookup x=z8 c
 cell:∀x c,b6.lookup x=z8 c->(∃v,h.IsCell c v)/\H c=z9
 val:∀(i:Nat)(x:av)(v:V),N[i]?=z8 x->σ[i]?=z8 (z8 v)->scope.names.lookup x=z8 .free/\∃c u,b6.lookup x=z8 c/\h.IsCell c (z8 u)/\RelV v u
 len:(A1 σ)=(A1 N)
section
variable {f:Gn}{P:iw}{w:ik}{K:Frag}{c:lz}{base:ip}{N:iA}{q:av}{scope:iJ}{d:gJ}{cd:gU}{e:jq}{A:ig}{a:List c3}{s:gM}{H:Hp}{E:XK}{b:St}
end
open PySem.Calls Builtin Builtin.ObjectAttr Builtin.Getset_descriptor
section
variable {K:Frag}{C x:gJ}{o:el}
end
section
variable {X:Cx}{b:iN}{d c:St}{H:Hp}{s:gM}{a:gJ}{o:el}{e:ip}
end
section
variable {X:Cx}{a:iN}{b:St}{H h:Hp}{s c:gM}{C f:gJ}{d B e:ip}{F:km}{g:gU}
end
end L2
namespace PX
open L2 PySem.SeqAt PySem.W
def IF{b:List (D×Bool)}(h:(b.all λa=>!a.2)=Y):∀a∈b,a=(a.1,C):=λa c=>by
 have:=kf.mp h a c;obtain⟨d,f⟩:=a
 cases f
 .rfl
 cases this
theorem sj:∀(os:List F2)(as:List (D×Bool)),(∀a∈as,a=(a.1,C))->iu os as=[]
 |[],as,_=>by cases as<;>simp[iu]
 |o::os,[],_=>by simp[iu]
 |o::os,a::as,h=>by have b:=h a jF;obtain⟨d,f⟩:=a;cases b;cases o<;>simp[iu,sj os as λa c=>h a<|iY _ c]
section
variable {X:Cx}{P:iw}{w:ik}{c:List c3}{m:Hp}{s0:gM}{E:XK}{A:jo}{st:aU}{l a b:List aU}{x y:XS}{e:gX}{d:bq}
variable {k:Nat}{f:gJ}{i:mr}{h:iA}{g:List D->Option av}{j:jP}{fs:List FO}{z:av}{p:bq}
end
end PX
namespace L2
open PySem.W
section
variable {fs:km}{N:iA}{scope:iJ}{b:jq}{d:St}{H g:Hp}{h h':ip}{q:av}{a:bb}{f:gX}{j:gJ}
def K3.keep(T:K3 N scope b d H h)(u:Un fs [] H g h h')(n:∀x c,b.lookup x=J c->c∉fs):K3 N scope b d g h':=by
 have kp:∀{x c v},b.lookup x=J c->h.IsCell c v->h'.IsCell c v:=λ{x c v} e z=>by obtain⟨o,k,l⟩:=z;exact⟨o,u.keep c o k (T.cell x c e).2 (n x c e)<|by simp,l⟩
 refine⟨T.inj,T.has,λx c e=>?_,λi x v h1 s=>?_,T.len⟩
 .obtain⟨⟨v,o,k,l⟩,y⟩:=T.cell x c e;exact⟨⟨v,kp e ⟨o,k,l⟩⟩,u.free c o k y<|by simp⟩
 obtain⟨t,c,w,m,p,r⟩:=T.val i x v h1 s;exact⟨t,c,w,m,kp m p,r⟩
end
section
variable {X:Cx}{N:iA}{scope:iJ}{e:jq}{c:St}{q:av}{a:bb}{b:gX}{d:gJ}{k:Nat}{t:XK->TE}
end
end L2
namespace PX
open L2 PySem.SeqAt PySem.W
def VB{b:List (D×Bool)}(h:∀a∈b,a=(a.1,C))(f:L2.St)(a:gJ): ¬X0 f (b.map J) a:=λT=>by
 obtain⟨i,d,h1,_⟩:=T
 rw[kg]at h1;obtain⟨p,c,e⟩:=iT h1;cases e;have:=h _ (lS c);simp at this
section
variable {X:Cx}
def EZ{T:SI}{g:L2.St}{l:Dn}{Q:Hp}{d:jc}{f:List (D×Bool)}{K:Frag}(m:ER K Q T g l)(r:jb l (d.map .slot)=J f):
  ∃vs:List V,qC d 0 g=vs.map J/\Ops K T g l Q (d.map F2.slot) vs l Q T:=by
 obtain⟨u,s⟩:=oK r
 have there:∀(i j:Nat),d[i]?=J j->∃v,g[j]?=J (J v):=λi j e=>by
  have t:i<(A1 f):=by have:=(ue.mp e).1;simp at u;lia
  obtain⟨o,q,k⟩:=s i _ (jk t);rw[kg,e]at q;cases q;have n:=mW k;generalize f[i]=y at n;obtain⟨x,b⟩:=y
  cases b
  .obtain⟨v,h,_⟩:=m.val j x n;exact⟨v,h⟩
  obtain⟨a,h,_⟩:=m.own j x n;exact⟨_,h⟩
 refine⟨d.map λj=>((g[j]?).join).getD .T2,?_,by simp,.refl,m,λ_ z=>z,λj x v e=>?_,λj x v e=>?_,λj i v e hv=>?_⟩
 .unfold qC;rw[yI,rN];apply uE;intro i;rw[kg,kg,kg]
  cases e:d[i]? with
  |none=>rfl
  |some j=>obtain⟨v,hv⟩:=there i j e;simp[hv]
 .rw[kg]at e;obtain⟨_,_,z⟩:=iT e;cases z
 .rw[kg]at e;obtain⟨_,_,z⟩:=iT e;cases z
 rw[kg]at e;obtain⟨c,p,z⟩:=iT e;cases z;obtain⟨w,k⟩:=there j i p;rw[kg,p]at hv;simp[k]at hv;rw[k,hv]
end
section
variable {X:Cx}{u c:gJ}{a:bb}{e:gX}{scope:iJ}{f b p:bq}{d:jc}{w v:iA}{r:F}{xB:XS}{t:FS}{x:av->Option Nat}{g:jc}{st:aU}{q:gJ}{s:mr}{n o l h m:av}{CR:gJ}{i j k:Nat}
end
section
variable {X:Cx}
variable {b f a e c:bq}{i:Nat}{x:av}{d:Nat}
end
section
variable {X:Cx}{e:gX}{h:FO}{c p d:bq}{z:av}{l:jc}{k:Nat}
variable {x:av}{i g:Nat}{j b:bq}{a:gX}{f:F}
end
section
variable {X:Cx}{P:iw}{w:ik}{d:List c3}{q:Hp}{s0:gM}{E:XK}{A:jo}{st:aU}{o b:List aU}{x y:XS}{e:gX}{g p j:bq}{f:FS}{z:av}{a:gX}{m:F}{k:Nat}{i:iA}{h:List D->Option av}{n:jP}{fs:List FO}{l:FT}{c:gX}
end
def Wb(q:av)(a:gJ)(T:Hp):Prop:= ∃more,T a=J (.tbl (#[.str q 0]++more))
def spT(TB:List (gJ×av))(a:Sp):Sp:=λb T Q E=>(∀p∈TB,Wb p.2 p.1 T)/\a b T Q E
def G0(scope:iJ):Bool:=decide (scope.kind=.function)&&!scope.isCoroutine&&!scope.isGenerator&&(scope.names.all λy=>y.2 != .cell)
def Yz{scope:iJ}(h:G0 scope=Y):CM scope:=by unfold G0 at h;simp only[kX,kf,oM,d0,bne_iff_ne]at h;exact⟨h.1.1.1,h.1.1.2,h.1.2,h.2⟩
def walkT{l:OpenLaw}{q:iw}{m:iA}{XP:(av->Option gU)->ip->Prop}{E:ik->ip->Prop}{d:DefRec}{K:Params->Frag}{LV:Nat}{x:av}{Q:NL}{TB:List (gJ×av)}(hk:P1 LV ez)(hn:l.most=z8 63)(bQ:d.params.defaults=[])(hY:∀(w:ik)(h:ip),E w h->(K w.params).In h)
  (L:∀(w:ik)(h:ip),E w h->∀p∈TB,h.get? p.1=z8 (tabObj #[]))(ej:∀(w:ik),∀p∈TB,(K w.params).lookup p.1=z9)(cW:(TB.map (·.1)).Nodup)
  (F:∀(w:ik)(n:lz)(v:gJ)(h:ip),(K w.params).In h->h.Ns aj n->n d.name=z8 (.ref v)->∃I':mr,(∀(s:gM)(u:gU),eF s I' ⟨[u],[]⟩ [(x,u)])/\(∀p∈TB,∃c,codeHdIn (K w.params) c p.1=At)/\∀base:ip,(K w.params).In base->base.Ns aj n->(∀p∈TB,base.BuiltinsAt n p.1)->AP l.prog w (K w.params) n base Au LV v I' [x] (spT TB<|G8 (K w.params) Q))
  (M:∀A:List Int,A1 A<=63->∃o j,Q [(.lst<|A.map .int,AC)]=z8 ((.bl At,o),j)):WalkO q m XP E l.row.toRowW d [] (λf B=>oC f B):=by
 refine Att.RS hn bQ λw U D n mb v o pm cd S a B A G Y ho hd j8 O P k i hg=>?_;have C:=hY w _ Y;obtain⟨I',hb,ei,hF⟩:=F w n v _ C G.T.g O;have N:=L w _ Y;refine adq (TB:=TB) C G.T.g G.T.b G.T.builtins G.T.nolimit hg N (ej w) (λp t=>?_) cW (λp t=>?_) P k (jW i<|by decide) hk hF hb (λH J hS=>?_) λH e s' z=>z
 .obtain⟨c,hc⟩:=ei p t;obtain⟨o,B,_,_,_,_,_,_,_,V,W,X,Z,_⟩:=codeHd_of_K C hc;exact⟨c,o,B,V,W,X,Z⟩
 .obtain⟨R,ob,h1,h2,r,h4,h5,y⟩:=G.T.bmain;refine⟨R,ob,h1,h2,λz=>?_,λz=>?_,r,h4,h5,y⟩
  .obtain⟨o',es,ep,e,dd,_⟩:=G.T.g;rw[z,e]at r;cases r;rw[dd]at y;cases y
  rw[z,N p t]at r;cases r;cases y
 obtain⟨o,j,e⟩:=M A i;exact⟨λp t=>⟨#[],by rw[J.all p t];rfl⟩,Rb J.all hS e⟩
def R5(TB:List (gJ×av))(T:Hp):Prop:= ∀p∈TB,Wb p.2 p.1 T
def fnU{Z:ZZ}{k:Nat}{x:av}{st:aU}{N c:iA}{asg:jc}{fs:FS}{f:gJ}{d:mr}{TB:List (gJ×av)}(F:Gv Z.K x x st f d)(S:SS N c (gS st))
  (l:∀(b:gU)(A:ig)(a:List c3)(s:gM)(T:Hp)(E:XK)(L:LL),(∀i,L.p i->i<A1 c)->P1 k (A.deeper<|aP x (gS st) s.heap.objs.size f b)->
   un (A.deeper<|aP x (gS st) s.heap.objs.size f b) 60->un (A.deeper<|aP x (gS st) s.heap.objs.size f b) 1->un (A.deeper<|aP x (gS st) s.heap.objs.size f b) 62->un (A.deeper<|aP x (gS st) s.heap.objs.size f b) 90->N.Nodup->
   b=d.code->R5 TB T->QQ (pR Au Z.P Z.w Z.K Z.mg Z.base N x (gS st) f b A a s T E).GI (λi=>i∈asg) L T (kL st) fs):
  AP Z.P Z.w Z.K Z.mg Z.base Au (k+1) f d c (spT TB<|G8 Z.K<|Q1 (A1 N) (A1 c) asg fs):=by
 obtain⟨q,r,kV,g,t,an,b,ct,o,rfl,lk,m⟩:=F.ex;refine S9 lk m S (λn T Q E h=>HM h.2) λA a s T n Q E e h=>?_;obtain⟨L,h1,j⟩:=Gs h.2;have:=e.un;exact⟨_,((l b A a s T E L h1 e (by unfold un;omega) (by unfold un;omega) (by unfold un;omega) (by unfold un;omega) S.nd I h.1).h).GI,j⟩
def Ho(Z:ZZ)(TB:List (gJ×av))(k:Nat)(x:av)(b:iA)(c:NL):Prop:= ∃f a,AP Z.P Z.w Z.K Z.mg Z.base Au k f a b (spT TB<|G8 Z.K c)/\Z.mg x=J (.ref f)/\keepIn Z.K (.ref f)=Y/\Binds Z.K a b []
def Ho.up{Z:ZZ}{TB:List (gJ×av)}{k j:Nat}{x:av}{d:iA}{c:NL}(o:Ho Z TB k x d c)(h:k<=j:=by decide):Ho Z TB j x d c:=let⟨f,e,a,b⟩:=o;⟨f,e,a.mono h,b⟩
def TbK(Z:ZZ)(TB:List (gJ×av))(x:av)(st:aU)(q:av)(a:gJ):Prop:= ∃f b c,Z.mg x=J (.ref f)/\Gv Z.K x x st f b/\b.code=.ref c/\CodeHd Z.base c a/\Z.base.BuiltinsAt Z.mg a/\aj≠a/\(a,q)∈TB
def Kf(K:Frag)(d:lz)(x:av)(st:aU)(b:gJ):Prop:= ∃f a c,d x=J (.ref f)/\Gv K x x st f a/\a.code=.ref c/\codeHdIn K c b=Y
def fzT{K:Frag}{h:ip}{g:lz}{x:av}{st:aU}{f c d:gJ}{m:gU}{n an:Option gJ}{j:yF}{kV b o ct:gU}(X:K.In h)(G:h.Ns aj g)(a:nsIn K aj x=J (J<|.ref f))
  (l:K.lookup f=J ⟨m,n,.func<|fnOf x x (oY st) (kL st) (gS st) .none kV b o an (.ref c) ct,j⟩)(e:codeIn K (.ref c) x=Y)(k:keepIn K (.ref f)=Y)(i:codeHdIn K c d=Y):Kf K g x st d:=⟨f,_,c,mg_of X G a,NU l e k,rfl,i⟩
def Kf.tb{Z:ZZ}{x q:av}{st:aU}{b:gJ}{TB:List (gJ×av)}(a:Kf Z.K Z.mg x st b)(X:Z.K.In Z.base)(B:∀p∈TB,Z.base.BuiltinsAt Z.mg p.1)(m:(b,q)∈TB)(i:aj≠b:=by decide):TbK Z TB x st q b:=
 let⟨f,d,c,h1,e,g,h⟩:=a
 ⟨f,d,c,h1,e,g,codeHd_of_K X h,B _ m,i,m⟩
def Kf.cd{K:Frag}{d:lz}{x:av}{st:aU}{b:gJ}(a:Kf K d x st b):∃c,codeHdIn K c b=Y:=let⟨_,_,c,_,_,_,h⟩:=a;⟨c,h⟩
section
variable {X:Cx}{k:Nat}{f:gJ}{i:mr}{d:iA}{x:av}{p b:bq}{e a:gX}{c:jP}{g:NL}{fs:List FO}{j:FO}{TB:List (gJ×av)}
def MN{o:Sp}{t:TA}(F:AP X.prog X.w X.K X.mg X.base Au k f i d (spT TB o))(T:R5 TB X.H₀)(O:P1 k X.A)(C:Gl X x)(E:X.mg x=J (.ref f))(hk:keepIn X.K (.ref f)=Y)(z:Binds X.K i d [])
  (y:PA X (e::c) t)(G:(x==("__debug__":av))=AC)(B:af (e::c) X.env=(AC,ba e X.env)::af c X.env)(u:(aB b<|af c X.env).any (·.1)=AC):
  PE X (.Call (.Name x p) (e::c) [] b) (Sg o [] L2.E0 t):=by
 intro l s M H Q I h;refine vz<|C2 I C E ?_ G;refine fe (h₀:=X.base) I.ok.mod.kin hk (NR (y b l s M H _ I h) λU' s1 ⟨Y',N,n,r,q⟩=>⟨n.Ej,?_⟩) B u;exact L9 F O z .nil Sy n r ⟨λp L=>let⟨m,e⟩:=T p L;let⟨J',v⟩:=n.base.tbls _ _ e;⟨m++J',by rw[v,Gi]⟩,q⟩
def xUT(J:P1 k X.A)(O:Ho (zX X) TB k x d g)(M:R5 TB X.H₀)(C:QA X (e::c) fs)(L:Gl X x:=by rfl)(U:DB x:=by decide)
  (I:SE X e c:=by rfl)(y:BA X b c:=by rfl):QX X (.Call (.Name x p) (e::c) [] b) (hU g fs):=
 let⟨_,_,ok,G,kp,w⟩:=O;⟨PX.imp (MN ok M J L G kp w C.h U I y) λF H Q N=>by
 obtain⟨Y,T,S,D,E,e,k⟩:=N;obtain⟨os,n,h1,e⟩:=gZ e;obtain⟨l,o,e⟩:=gR e;dsimp only at e;split at e
 .rename_i q;obtain⟨r,m,z,e⟩:=gZ e;obtain⟨rfl,rfl⟩:=iD e;refine⟨Y,T,os,n,E,h1,λs u R B=>?_⟩;show G8 X.K g (s++[]) u Q L2.E0;rw[rN];exact⟨Tc T F n s l,l,r,m,wk E B o q,z,λv t P=>k v t<|oH E B o q P⟩
 cases e⟩
end
def aN{a:Type}{P:a->Prop}:∀p∈([]:List a),P p:=λ_ h=>nomatch h
def aC{b:Type}{P:b->Prop}{a:b}{l:List b}(h:P a)(r:∀p∈l,P p):∀p∈a::l,P p:=List.forall_mem_cons.mpr ⟨h,r⟩
section
variable {Z:ZZ}{ct a:List (av×Nat)}{CR:Nat}
end
section
variable {X:Cx}{x y a b c d:gX}{u v z:av}{t s r q:FO}{f l k j i h:bq}{p o n:Nat}{m g e:ce}
end
end PX
namespace TT
section
variable {a:iw}{w:ik}{A:ig}{E:iK}{s:gM}
def aex(h:Q₁ (.ref s.heap.objs.size) {s with heap:=s.heap.push (ju #[] 0 (kj w))}):
  bO (ag a w) A (.call (.builtin "set.__new__") ⟨[.type "set"],[]⟩) (ia Q₁ E) s:=by
 refine rG ?_;change aa _ A.in1 (cn "set.__new__" ⟨[.type "set"],[]⟩>>=λ_=>again<|.builtin "set.__new__" ⟨[.type "set"],[]⟩) _ _ s;refine gL<|uc PySem.F.newCall_set_0<|hJ ⟨uD BX _,qt KR ?_⟩;rw[vp BX _];unfold bc.«set.__new__» dq;have c:=ww;obtain⟨b,g,d,e,os⟩:=s;dsimp only
 wp_walk
 refine rH<|hJ ?_;dsimp only;simp only[newObj];refine gL<|wU<|hJ ?_;exact hJ h
set_option maxHeartbeats 8000000 in
def VX{Q:iK}(h:Q (.ref s.heap.objs.size) {s with heap:=s.heap.push (ju #[] 0 (kj w))}):aa (ag a w) A (call (.type "set") []) Q E s:=by
 obtain⟨c,y,j⟩:=DI.mro;have g:=DI.made;have x:=DI.sub;refine wX<|rG ?_;change aa _ _ (w4 (.type "set") ⟨[],[]⟩) _ _ s;refine hJ ⟨FK _ (by decide+kernel),qt KQ ?_⟩;rw[FH (FG "set" ([]:List gU) []) I];have h1:=DI.notType;have u:=DI.canCreate;have q:=PySem.F.typeCall_set_0
 repeat (any_goals (first|assumption|wp_step))
 refine oR (aex (E:=E) (Q₁:=λobj b=>obj=.ref s.heap.objs.size/\b={s with heap:=s.heap.push (ju #[] 0 (kj w))}) ⟨rfl,rfl⟩) λr b i=>?_
 cases r with
 |error e=>exact i
 |ok m=>
  cases m with
  |ret obj=>
   obtain⟨rfl,rfl⟩:=i;have n:(s.heap.push<|ju #[] 0 (kj w)).get? s.heap.objs.size=J (ju #[] 0 (kj w)):=jT _ rfl;have o:Shared.TypeIs {s with heap:=s.heap.push (ju #[] 0 (kj w))} (.ref s.heap.objs.size) "set":=⟨_,n,rfl⟩
   have p:=DI.init.lookup;have t:=DI.init.bind<|.ref s.heap.objs.size
   repeat (any_goals (first|assumption|wp_step))
   refine oR (Ce (R:=ia (λr z=>r=.none/\Q (.ref s.heap.objs.size) z) E) DI.init.plain KP<|check_set_init o ?_) λd k f=>?_
   .unfold bc.«set.__init__» noKeywords
    wp_walk
    exact⟨rfl,h⟩
   cases d with
   |error e=>exact f
   |ok l=>
    cases l with
    |ret r=>
     obtain⟨rfl,v⟩:=f
     repeat (any_goals (first|assumption|wp_step))
    |_=>exact f.elim
  |_=>exact i.elim
end
end TT
namespace PX
open L2 PySem.SeqAt
def N0:F:=λa=>J ((.Sr .set [] [],Y),a)
def EO(i:Nat)(f:F):F:=λb=>match b[i]? with
 |some (J (.Sr .set _ _,Y))=>(f b).bind λp=>match p.2[i]? with
  |some (J (.Sr .set _ a,Y))=>if a.all AK=Y/\AK p.1.1=Y/\(A1 a)<500 then J ((.T2,C),p.2.set i<|J (.Sr .set []<|nC a p.1.1,Y))else U
  |_=>U
 |_=>U
section
variable {X:Cx}{e:gX}{f:F}{m:FO}{d j c g p:bq}{i:Nat}{x:av}
def P6(l:Gl X "set")(n:X.mg "set"=U):PX X (.Call (.Name "set" p) [] [] d) N0:=λh s y O Q N r=>by obtain⟨w,T,v,t,E,e,k⟩:=r;cases e;refine vz<|qd N l n VZ ?_ (by decide) (by decide);refine sB<|TT.VX ?_;have a:=N.hok.fresh<|jh s.heap.objs.size;refine⟨.ref s.heap.objs.size,upd O s.heap.objs.size<|.W2 [],N.laid (t':=s.toks) (o:=.W2 []) (λb u q=>jz _ q) (jh _) ?_,rfl,(Ops.nil E).done k _ _ a (lr a) ⟨[],⟨rfl,[],iF,.nil⟩,YP.nil⟩⟩;exact⟨#[],0,_,jT _ rfl,.nil,TT.J4.fresh _ _ _,rfl,rfl⟩
def P7(hu:X.A.units+90<aL)(hn:PO X (.Name x j) (gK i))(he:PX X e f)(j7:LY X (.Name x j) "add")
  (m8:LW X g [e])
  (j6:(c.endLine==g.line)=Y)(hs:af [e] X.env=(AC,ba e X.env)::af [] X.env)(b9:(aB g<|af [] X.env).any (·.1)=AC):
  PX X (.Call (.Attribute (.Name x j) "add" c) [e] [] g) (EO i f):=λC s L H Q I hw=>by
 obtain⟨G,T,rr,δ',E,q,k⟩:=hw;unfold EO at q;split at q
 case h_2=>cases q
 rename_i k0 w0 Z;obtain⟨r,h,h1,q⟩:=gZ q;dsimp only at q;split at q
 case h_2=>cases q
 rename_i k1 V D;obtain⟨⟨o1,o2,o3⟩,q⟩:=iM q;obtain⟨rfl,rfl⟩:=rh q;refine Lm j7 m8 j6 AT<|NR (hn C s L H (λv J'=>Af X.K T L G H (.slot i) G v J') I ⟨G,T,.slot i,G,E,by unfold gK;rw[Z],λ_ _ P=>P⟩) λv s1 b'=>?_;obtain⟨y,J',I1,r1,K1,U',B⟩:=b';obtain⟨a,g1,J6,⟨_,zs,g2,_⟩,g3⟩:=U'.own i _ Z;rw[B]at g1;cases g1;cases r1;obtain⟨es,n,t,M,_⟩:=(show VP X.prog X.w J' s1.heap a (.W2 zs)from I1.hok a _ g2)
 refine⟨"set","set.add",PySem.F.plainAttrs_set,Fi,PySem.F.type_set_add,⟨_,M,rfl⟩,λb eb=>by cases eb;exact⟨_,M,rfl⟩,?_⟩;have hA:=nS he rT hs g C s1 L J' (λV O=>∃y,V=[y]/\Ls X.K T L G J' r h y O) I1 ⟨G,T,r,h,U',h1,λy O P=>⟨y,rfl,P⟩⟩;rw[hs]at hA ⊢;refine Ll (by show(AC||(aB g<|af [] X.env).any (·.1))=AC;rw[b9];rfl)<|Lk<|NR hA λus s2 b'=>?_;obtain⟨ws,O,Y',r2,y,hy,P2⟩:=b';subst hy;obtain⟨u,rfl,ru⟩:=r2.one;obtain⟨W,ry⟩:=P2.rep U';obtain⟨a',q1,us,q2,q3⟩:=W.own i _ D;rw[B]at q1;cases q1;obtain⟨es,n,t,l,S⟩:=AB.JM Y' q2 q3;refine og Fi ⟨_,S.is.at_,rfl⟩ KI ?_<|KH _ _;unfold bc.«set.add» bZ;simp;unfold bK;refine gL<|hJ ?_
 try dsimp only
 refine gL<|F0.add Y' S o1 (.inl ry) ry ru o2 o3 (by show X.A.units+1+60<aL;lia) λb h' tk es' n' t' R ht p9 N=>?_;show aa _ _ (ret ao) _ _ _;have rl:∀p∈R,Rep X.K O (λa=>X0 L h a\/T a) p.1 p.2:=N.rep;have oa:X0 L h a:=⟨i,_,D,B⟩
 have kp:∀(M:HO) b u,O b=J u->¬(X0 L h b\/T b)->upd O a M b=J u:=λM b u e n=>by rw[iL<|by intro z;subst z;exact n<|.inl oa];exact e
 obtain⟨aZ,z1,z2⟩:=N.Sr (K:=X.K) (H':=upd O a<|.W2<|R.map hv) (O':=λa=>X0 L h a\/T a) (λp hp=>Rep.mono (kp _) (λ_ _ z=>z)<|rl p hp) iF;obtain⟨E4,K4⟩:=W.AR (o:=.W2 (R.map hv)) (d':=.Sr .set [] (nC V r.1)) D B ⟨aZ,z1,z2⟩;refine hJ ⟨_,rfl,.T2,_,?_,rfl,k _ _ (Ls.val ((K1.trans P2.1).trans K4) E4 Rep.GC)⟩;obtain⟨eE,zs2,g4,_⟩:=q2;exact tP (t':=tk) Y' (by rw[g4];exact br) p9 ⟨_,N.is.at_⟩ N.J8
def Xt(n:X.A.units+90<aL)(k:QO X (.Name x j) (gK i))(b:QX X e f)(q:LY X (.Name x j) "add":=by rfl)
  (r:LW X d [e]:=by rfl)
  (o:(c.endLine==d.line)=Y:=by rfl)(l:SE X e []:=by rfl)(a:BA X d []:=by rfl):QX X (.Call (.Attribute (.Name x j) "add" c) [e] [] d) (EO i f):=⟨P7 n k.h b.h q r o l a⟩
def Xs{p:bq}(T:Tx X.mg)(a:Gl X "set":=by rfl):QX X (.Call (.Name "set" p) [] [] d) N0:=⟨P6 a T.n_set⟩
end
open PySem.W
section
variable {X:Cx}{E:XK}{A:jo}{c iter:gX}{a:List aU}{d:AE}{t:Tg}{e:FS}{x:XS}{b:bq}
end
section
variable {X:Cx}{k:gX}{c:FO}{a b:bq}{j:Nat}
end
section
variable {X:Cx}{b:iN}{d:L2.St}{H:Hp}{s:gM}
variable {a:gX}{g:FO}{c p:bq}{k:gX}{f:FO}{e:bq}{j:Nat}
end
section
variable {K:iz}{T g:SI}{d:L2.St}{e c:Dn}{H h i:Hp}{os:List F2}{f:List V}{b:List (D×Bool)}{a:Dn}{r:D×Bool}{v:V}
end
section
variable {X:Cx}{e:gX}{d:jP}{fs:List FO}{a p:bq}{k:Nat}{b:iA}{c:NL}{x:av}
end
def MP{c:L2.St}{b:Dn}{i j:Nat}{a:gJ}(h:OO c (b.set j U) i a):OO c b i a/\i≠j:=by
 obtain⟨d,h1,f⟩:=h;by_cases e:j=i
 .subst e;rw[wQ]at h1;split at h1
  .split at h1<;>cases h1
  rename_i z;exact absurd I z
 rw[lC e]at h1;exact⟨⟨d,h1,f⟩,λz=>e z.symm⟩
section
variable {X:Cx}{P:iw}{w:ik}{a:List c3}{g:Hp}{s0:gM}{E:XK}{k:Nat}{d:iA}{c:List D->Option av}{e:gX}{f:jP}{fs:List FO}{z:av}{p b:bq}
end
section
variable {X:Cx}{t c:gJ}{a:bb}{d:gX}{scope:iJ}{e b o:bq}{p:Nat}{v u:iA}{xB:XS}{s:FS}{w:av->Option Nat}{f:jc}{st:aU}{q:gJ}{r:mr}{m n h g l:av}{CR:gJ}{i j k:Nat}
end
end PX
namespace L2
open PySem.W
structure CS(nm q:av)(params:bb)(body:List aU)(scope:iJ)(b6:jq)(H:Hp)(h:ip)(fl:gJ):Prop where
 fn:∃doc pm c' i8,h.get? fl=z8 (fnMade nm q params body scope b6 doc pm c' i8)/\∃ob u vs t,H c'=z8 (.AJ ob u)/\ob.data=.fields vs/\vs[1]?=z8 (.str q t)
 un:H fl=z9
section
variable {X:Cx}{g:iN}{l:St}{H:Hp}{s:gM}{P c:gJ}{a:bb}{f:List aU}{h q:av}{ln:Nat}{scope:iJ}{i:jq}{j:bq}
def N9{M:eT}{A:ig}{E:iK}{Q:iK}(I:Inv X g l H s){more:mS}(Y:H P=J (.tbl (#[.str q 0]++more)))(hc:X.env.code=.ref c)(C:CodeHd X.base c P)(hB:X.base.BuiltinsAt X.mg P)(fD:aj≠P)
  (k9:mi scope X.env=pure i)
  (k:∀s1 J' fl,Inv X g l J' s1->(∀b o,H b=J o->J' b=J o)->CS h q a f scope i J' s1.heap fl->(∀b o,s.heap.get? b=J o->H b=z9->s1.heap.get? b=J o)->(∀b o,s.heap.get? b=J o->H b=z9->J' b=z9)->s.heap.get? fl=z9->Q (.ref fl) s1):
  aa M A (makeFunction h q a (.stmts f) scope X.env [] [] [] j ln) Q E s:=by
 obtain⟨qq,tq,ps,U,L,F,hm⟩:=(show VP X.prog X.w H s.heap P (.tbl (#[.str q 0]++more))from I.hok P _ Y)
 have hqq:q=qq:=by rw[Array.getElem?_append_left<|by simp]at U;simp at U;exact U.1
 subst hqq;have r9:s.heap.BuiltinsAt X.mg P:=let⟨bm,o,h1,R,S,V,h5,h6⟩:=hB;⟨bm,o,h1,R,S,V,I.bk _ _ h5,h6⟩
 have hg:s.heap.Ns aj X.mg:=I.ok.mod.glob.keeps I.bk
 cases W:dn j ps.toList with
 |some cv=>refine makeFunction_hit k9 I.ok.glob hg hc (C.keeps I.bk) L F W r9 λr m x K kp sz=>?_;obtain⟨p,ob,u,vs,t,rfl,R,S,V⟩:=hm j cv W;have cF:∀b o,s.heap.get? b=J o->(x.push<|fnMade h q a f scope i m ((X.mg "__name__").getD .none) p r).get? b=J o:=λb o e=>jz _ (kp b o e);exact k _ H _ (I.kept (t':=K) cF) (λ_ _ e=>e) ⟨⟨m,_,p,r,jT _ rfl,ob,u,vs,t,R,S,V⟩,I.hok.fresh sz⟩ (λb o e _=>cF b o e) (λ_ _ _ n=>n) (SA sz)
 |none=>
  refine makeFunction_K k9 I.ok.glob hg hc (C.keeps I.bk) L F W fD r9 λp r m x K ex N y cr tb=>?_;obtain⟨c0,v,vs,t,ec,cK,T,hq⟩:=cr;cases ec;have nc:H p=z9:=I.hok.fresh N;have kp:∀b o,b≠P->s.heap.get? b=J o->(x.push<|fnMade h q a f scope i m ((X.mg "__name__").getD .none) p r).get? b=J o:=λb o n e=>jz _ (ex b o n e);have up:∀b o,H b=J o->upd H p (.AJ v<|.own 0) b=J o:=λb o e=>by rw[iL<|lH e nc];exact e
  have nP:∀b,H b=z9->b≠P:=λb n z=>by rw[z,Y]at n;cases n
  have B:=jz (fnMade h q a f scope i m ((X.mg "__name__").getD .none) p r) tb
  have un:Un (GZ X.stack) [] H (upd H p<|.AJ v<|.own 0) s.heap (x.push<|fnMade h q a f scope i m ((X.mg "__name__").getD .none) p r):=
   ⟨λb o e n _ _=>kp b o (nP b n) e,λb o e n _ _=>⟨o.slots,kp b o (nP b n) e⟩,λb o e n _=>by rw[iL<|jB<|nv (jN e) N];exact n,λb o e _=>by
    by_cases z:b=P
    .subst z;exact⟨_,B⟩
    exact⟨o,kp b o z e⟩,λb xs e=>up b _ e,λb o xs e=>up b _ e,λb ps e=>⟨#[],by rw[up b _ e];simp⟩⟩
  have Z:Az X.prog X.w (upd H p<|.AJ v<|.own 0) (x.push<|fnMade h q a f scope i m ((X.mg "__name__").getD .none) p r):=λb u e=>by
   by_cases D:b=p
   .subst D;rw[iF]at e;cases e;exact⟨jz _ cK,⟨v,jz _ cK⟩⟩
   rw[iL D]at e;by_cases O:b=P
   .subst O;rw[Y]at e;cases e;refine⟨_,tq,_,U,B,?_,λG cv z=>?_⟩
    .rw[KG];exact vE _ F
    rw[KG]at z;rcases As _ F z with z|z
    .obtain⟨y,ob,u,vs,t,r1,r2,r3,r4⟩:=hm G cv z;exact⟨y,ob,u,vs,t,r1,up _ _ r2,r3,r4⟩
    exact⟨p,v,_,vs,t,z,iF,T,hq⟩
   refine(I.hok b u e).D0 (λd w hd q=>kp d w (λz=>?_) q) (λd q=>up d _ q) (λd xs q=>up d _ q) λd _ _ q=>up d _ q;subst z;rcases hd with z|z
   .exact O z.symm
   rw[Y]at z;cases z
  have I1:Inv X g l (upd H p<|.AJ v<|.own 0) {s with heap:=x.push<|fnMade h q a f scope i m ((X.mg "__name__").getD .none) p r,toks:=K}:=I.call (g':=s.gens) (d':=s.drawn) (t':=K) un Z I.bare λb D=>absurd D (by simp);refine k _ _ _ I1 up ⟨⟨m,_,p,r,jT _ rfl,v,_,vs,t,iF,T,hq⟩,?_⟩ (λb o e n=>kp b o (nP b n) e) (λb o e n=>un.free b o e n<|by simp) (SA<|vB<|yJ N y);rw[iL<|rm y];exact I.hok.fresh<|vB<|yJ N y
end
section
variable {CX:Gn}{P:iw}{w:ik}{K:Frag}{j:lz}{base:ip}{N:iA}{d m q:av}{scope:iJ}{fl:gJ}{cd:gU}{g:jq}{A:ig}{a:List c3}{s:gM}{H:Hp}{E:XK}{l:St}{v:V}{u:gU}
def Rj(S:CM scope)(k:scope.names.lookup d=J .local)(hd:A.handled=U)(e:G2 P w K j base A a s H)(M:K3 N scope g l H s.heap)(O:RelV v u){h1:ip}{t1:Nat}(L:h1.Ns s.heap.objs.size (λy=>[(d,u)].reverse.lookup y))(hk:∀b o,s.heap.get? b=J o->h1.get? b=J o):
  Inv (oZ CX P w K j base (d::N) q scope fl cd g A a s H E) [] (J v::l) H {s with heap:=h1,toks:=t1}:=by
 have n:∀b:gJ,b∉(oZ CX P w K j base (d::N) q scope fl cd g A a s H E).ex:=λb z=>absurd (show b∈([]:List gJ)from z) (by simp)
 refine⟨⟨e.mod,S.kind,rfl,rfl,jh _,M.inj,λy f=>?_,λy c z _=>absurd z<|by simp[oZ],λ_=>hd,Ga e.frames,.inr ⟨rfl,rfl⟩,λb z=>absurd z<|n b,e.bs,e.bsz,λb _ _=>n b,λb z=>absurd z<|n b,e.Ap,e.frf⟩,
  rfl,e.bare,Un.kept hk,⟨_,L,λi y T h1 t _=>?_⟩,λy c h=>?_,e.hok.fresh<|jh _,λy c h=>(M.cell y c h).2,λp k=>absurd (show p∈([]:List (gJ×el))from k)<|by simp,e.hok.kept hk,lY (· +1) M.len⟩
 .have f:scope.names.lookup y=J .cell\/scope.names.lookup y=J .free:=f;rcases f with f|f
  .exact absurd I (S.cell _ (pv f))
  exact M.has y f
 .cases i with
  |zero=>
   cases h1;cases t;exact⟨u,O,.inl ⟨k,by simp⟩⟩
  |succ i=>obtain⟨G,c,Q,B,x,r⟩:=M.val i y T h1 t;exact⟨Q,r,.inr ⟨.inr G,c,B,x.keeps hk⟩⟩
 obtain⟨⟨v,hv⟩,_⟩:=M.cell y c h;exact⟨v,hv.keeps hk⟩
def RF{c:bb}{h:List aU}{k:Nat}{Q:VK}(S:CM scope)(U:scope.names.lookup d=z8 .local)(T:P1 (k+1) A)(O:G2 P w K j base A a s H)(C:K3 N scope g l H s.heap)(L:CS m q c h scope g H s.heap fl)
  (i4:∀x pm i i8,c1 (fnX m q c h scope g .none .none x pm z9 (.ref i) i8) ⟨[u],[]⟩=pure [(d,u)])(B:RelV v u)
  (hb:∀i:gJ,P1 k (A.deeper<|Ae q scope s.heap.objs.size fl (.ref i) g)->∃t,Dg (oZ CX P w K j base (d::N) q scope fl (.ref i) g A a s H E) h t/\t {nx:=λ_ p=>Q .T2 p,rt:=Q} (z8 v::l) H):
  bO (ag P w) A (.call (.ref fl) ⟨[u],[]⟩) (CR CX a P w H s Q E) s:=by
 obtain⟨x,pm,i,i8,Z,ob,u',vs,tk,h1,W,X⟩:=L.fn;have j8:s.heap.CodeRec (.ref i) q:=⟨i,ob,vs,tk,rfl,(O.hok i _ h1).1,W,X⟩
 have G:s.heap.NoLimit:=O.mod.nolimit.keeps λb o e=>(O.bs b o e).1;refine F7 T.depth Z AT S.co S.gen AT j8 ?_;rw[i4];refine hJ<|wpAny_newFunctionEnv S.cell (by intro y Y;simp at Y;subst Y;exact U) (λz n8 D=>⟨G.fresh _ D,F6 ?_⟩) S.kind;have F:∀b o,s.heap.get? b=z8 o->z.get? b=z8 o:=λb o e=>D.extBut b o (jB<|jN e)<|jz _ e;have I:=Rj (CX:=CX) (q:=q) (fl:=fl) (cd:=.ref i) (E:=E) (t1:=s.toks+([(d,u)]:List (av×gU)).length) S U T.hd O C B n8 F;obtain⟨t,R,ht⟩:=hb i<|T.deeper _;refine mz (R [] _ (z8 v::l) H _ I ht) (λf M r=>?_) λe M r=>r
 have fin:∀{n:St}{p:Hp}{v:V}{u:gU},Inv (oZ CX P w K j base (d::N) q scope fl (.ref i) g A a s H E) [] n p M->RelV v u->Q v p->CE a P w H s Q u M:=
  λ{n p v u} J B q=>⟨v,p,J.os,J.bare,J.base,J.hok,B,q⟩
 cases f with
 |ret u=>obtain⟨v,n,p,J,B,q⟩:=r;exact fin J B q
 |next=>obtain⟨n,p,J,q⟩:=r;exact fin (v:=V.T2) (u:=ao) J AT q
 |brk=>obtain⟨_,_,_,q⟩:=r;exact aH q
 |cont=>obtain⟨_,_,_,q⟩:=r;exact aH q
end
structure Bn(scope:iJ)(xp:av):Prop where
 kind:scope.kind=.function
 co:scope.isCoroutine=AC
 gen:scope.isGenerator=AC
 par:scope.names.lookup xp=z8 .cell
 one:(scope.names.filter λy=>y.2==ay)=[(xp,.cell)]
theorem Al:∀(b:List (av×NameKind))(n:Nat)(c:jq),(b.filter λy=>y.2==ay)=[]->aX n b c=c
 |[],_,_,_=>rfl
 |(x,k)::r,n,c,h=>by
  unfold aX;by_cases hk:(k==ay)=Y
  .rw[wy (p:=λy:av×NameKind=>y.2==ay) (a:=(x,k)) hk]at h;cases h
  rw[iC hk];rw[wx (p:=λy:av×NameKind=>y.2==ay) (a:=(x,k)) hk]at h;exact Al r n c h
theorem xN{d:av}:∀(b:List (av×NameKind))(n:Nat)(c:jq),(b.filter λy=>y.2==ay)=[(d,.cell)]->aX n b c=(d,n)::c
 |[],_,_,h=>nomatch h
 |(x,k)::r,n,c,h=>by
  unfold aX;by_cases hk:(k==ay)=Y
  .rw[hV hk];rw[wy (p:=λy:av×NameKind=>y.2==ay) (a:=(x,k)) hk]at h;obtain⟨h1,e⟩:=uz h;cases h1;exact Al r _ _ e
  rw[iC hk];rw[wx (p:=λy:av×NameKind=>y.2==ay) (a:=(x,k)) hk]at h;exact xN r n c h
def Bn.only{scope:iJ}{a y:av}(S:Bn scope a)(h:scope.names.lookup y=J .cell):y=a:=by have:(y,ay)∈scope.names.filter λy=>y.2==NameKind.cell:=mB.mpr ⟨pv h,rfl⟩;rw[S.one]at this;exact(rh<|Aw.mp this).1
def acj{M:eT}{A:ig}{E:iK}{s:gM}{scope:iJ}{globals:gJ}{k:jq}{h:av}{u:gU}{qual:av}{d:Option gJ}{code:gU}{a:gJ}{Q:c3->gM->Prop}(S:Bn scope h)
  (p:∀f,f.Ns s.heap.objs.size (λ_=>U)->(∀b o,s.heap.get? b=J o->f.get? b=J o)->f.IsCell (s.heap.objs.size+1) (J u)->
   Q (newEnv scope s.heap.objs.size globals ((h,s.heap.objs.size+1)::k) qual d code U a) {s with heap:=f}):
  aa M A (cX scope globals k [(h,u)] qual d code U a) Q E s:=by
 simp -iota only[cX,Option.isSome_none,jX,kY];refine gL<|wU ?_;refine gL<|tw _ (λl g i=>by cases j:g==ay<;>simp[j]) _ _ _ _ ?_;have ok:=wS scope.names (s.heap.push {cls:=.type "frame",data:=.dict #[]}) (s.heap.objs.size+1) [] ⟨λ_ _ r=>(nomatch r),bX⟩ (by rw[oN];exact jh _);rw[oN,xN _ _ _ S.one]at ok;rw[show({s with heap:=s.heap.push {cls:=.type "frame",data:=.dict #[]}}:gM).heap.objs.size=s.heap.objs.size+1 from oN ..,xN _ _ _ S.one];have q:=(ok.empty h (s.heap.objs.size+1) jF).1;have t:=(Heap.Ns.new s.heap<|.type "frame").keeps<|Cm scope.names _;refine gL ?_;rw[Cn];refine gL<|gL<|Lr (c:=s.heap.objs.size+1) (v₀:=U) S.kind S.par (by simp[newEnv]) q λf v n=>hJ ?_;show aa M A (eJ (m:=c4) ([]:List (av×gU)) PUnit.unit _) _ _ _;rw[List.forIn_nil];refine hJ<|hJ<|p f (t.sameBut n<|jB<|yV _) (λb o e=>?_) v;refine(n.2 b<|jB<|tZ<|jN e).trans ?_;exact Cm _ _ b o (jz _ e)
section
variable {CX:Gn}{P:iw}{w:ik}{K:Frag}{mg:lz}{base:ip}{N:iA}{xp nm q:av}{scope:iJ}{fl:gJ}{cd:gU}{b6:jq}{A:ig}{outer:List c3}{s:gM}{H:Hp}{E:XK}{σ:St}{v:V}{u:gU}
def ND(S:Bn scope xp)(hd:A.handled=U)(d:G2 P w K mg base A outer s H)(M:K3 N scope b6 σ H s.heap)(O:RelV v u){h1:ip}{t1:Nat}(L:h1.Ns s.heap.objs.size (λ_=>U))(hk:∀b o,s.heap.get? b=J o->h1.get? b=J o)
  (g:h1.IsCell (s.heap.objs.size+1) (J u)):
  Inv (oZ CX P w K mg base (xp::N) q scope fl cd ((xp,s.heap.objs.size+1)::b6) A outer s H E) [] (J v::σ) H {s with heap:=h1,toks:=t1}:=by
 have k:∀b:gJ,b∉(oZ CX P w K mg base (xp::N) q scope fl cd ((xp,s.heap.objs.size+1)::b6) A outer s H E).ex:=λb z=>absurd (show b∈([]:List gJ)from z) (by simp)
 have a:∀y c,((xp,s.heap.objs.size+1)::b6).lookup y=J c->(y=xp/\c=s.heap.objs.size+1)\/b6.lookup y=J c:=λy c h=>by
  rw[nM]at h
  cases f:y==xp with
  |true=>rw[f]at h;cases h;exact .inl ⟨oe f,rfl⟩
  |false=>rw[f]at h;exact .inr h
 have own:((xp,s.heap.objs.size+1)::b6).lookup xp=J (s.heap.objs.size+1):=by simp
 have free:∀y,scope.names.lookup y=J .free->((xp,s.heap.objs.size+1)::b6).lookup y=b6.lookup y:=λy h=>by
  rw[nM]
  cases f:y==xp
  .rfl
  rw[oe f,S.par]at h;cases h
 have lt:∀y c,b6.lookup y=J c->c<s.heap.objs.size:=λy c h=>by obtain⟨⟨v,hv⟩,_⟩:=M.cell y c h;exact hv.lt
 refine⟨⟨d.mod,S.kind,rfl,rfl,jh _,λx y c h1 j=>?_,λy e=>?_,λy c z _=>absurd z<|by simp[oZ],λ_=>hd,Ga d.frames,.inr ⟨rfl,rfl⟩,λb z=>absurd z<|k b,d.bs,d.bsz,λb _ _=>k b,λb z=>absurd z<|k b,d.Ap,d.frf⟩,
  rfl,d.bare,Un.kept hk,⟨_,L,λi y T h1 j _=>?_⟩,λy c h=>?_,d.hok.fresh<|jh _,λy c h=>?_,λp G=>absurd (show p∈([]:List (gJ×el))from G)<|by simp,d.hok.kept hk,lY (· +1) M.len⟩
 .rcases a x c h1 with⟨a1,m⟩|a1<;>rcases a y c j with⟨a2,n⟩|a2
  .rw[a1,a2]
  .exact absurd (lt y c a2) (by rw[m];exact OS.mpr<|rK _)
  .exact absurd (lt x c a1) (by rw[n];exact OS.mpr<|rK _)
  exact M.inj x y c a1 a2
 .have e:scope.names.lookup y=J .cell\/scope.names.lookup y=J .free:=e;show ∃c,((xp,s.heap.objs.size+1)::b6).lookup y=J c;rcases e with e|e
  .rw[S.only e];exact⟨_,own⟩
  rw[free y e];exact M.has y e
 .cases i with
  |zero=>
   cases h1;cases j;exact⟨u,O,.inr ⟨.inl S.par,_,own,g⟩⟩
  |succ i=>obtain⟨l,c,Q,B,t,r⟩:=M.val i y T h1 j;exact⟨Q,r,.inr ⟨.inr l,c,(free y l).trans B,t.keeps hk⟩⟩
 .rcases a y c h with⟨_,rfl⟩|h
  .exact⟨_,g⟩
  obtain⟨⟨v,hv⟩,_⟩:=M.cell y c h;exact⟨v,hv.keeps hk⟩
 rcases a y c h with⟨_,rfl⟩|h
 .exact d.hok.fresh (rK _)
 exact(M.cell y c h).2
def Oh{a:bb}{c:List aU}{k:Nat}{Q:VK}(S:Bn scope xp)(n:P1 (k+1) A)(m:G2 P w K mg base A outer s H)(C:K3 N scope b6 σ H s.heap)(L:CS nm q a c scope b6 H s.heap fl)
  (i4:∀j O d z,c1 (fnX nm q a c scope b6 .none .none j O z9 (.ref d) z) ⟨[u],[]⟩=pure [(xp,u)])(l:RelV v u)
  (U:∀(d:gJ)(B:jq),P1 k (A.deeper<|Ae q scope s.heap.objs.size fl (.ref d) B)->∃t,Dg (oZ CX P w K mg base (xp::N) q scope fl (.ref d) B A outer s H E) c t/\t {nx:=λ_ h=>Q .T2 h,rt:=Q} (z8 v::σ) H):
  bO (ag P w) A (.call (.ref fl) ⟨[u],[]⟩) (CR CX outer P w H s Q E) s:=by
 obtain⟨j,O,d,z,D,X,u',vs,Z,h1,G,M⟩:=L.fn;have R:s.heap.CodeRec (.ref d) q:=⟨d,X,vs,Z,rfl,(m.hok d _ h1).1,G,M⟩
 have p:s.heap.NoLimit:=m.mod.nolimit.keeps λb o e=>(m.bs b o e).1;refine F7 n.depth D AT S.co S.gen AT R ?_;rw[i4];refine hJ<|acj S λy W x Y=>⟨p.keeps x,F6 ?_⟩;have I:=ND (CX:=CX) (q:=q) (fl:=fl) (cd:=.ref d) (E:=E) (t1:=s.toks) S n.hd m C l W x Y;obtain⟨t,T,F⟩:=U d ((xp,s.heap.objs.size+1)::b6)<|n.deeper _;refine mz (T [] _ (z8 v::σ) H _ I F) (λf r i=>?_) λe r i=>i
 have fin:∀{g:St}{h:Hp}{v:V}{u:gU},Inv (oZ CX P w K mg base (xp::N) q scope fl (.ref d) ((xp,s.heap.objs.size+1)::b6) A outer s H E) [] g h r->RelV v u->Q v h->CE outer P w H s Q u r:=
  λ{g h v u} J l q=>⟨v,h,J.os,J.bare,J.base,J.hok,l,q⟩
 cases f with
 |ret u=>obtain⟨v,g,h,J,l,q⟩:=i;exact fin J l q
 |next=>obtain⟨g,h,J,q⟩:=i;exact fin (v:=V.T2) (u:=ao) J AT q
 |brk=>obtain⟨_,_,_,q⟩:=i;exact aH q
 |cont=>obtain⟨_,_,_,q⟩:=i;exact aH q
inductive CT(scope:iJ)(xp:av):Prop
 |loc (S:CM scope) (hp:scope.names.lookup xp=z8 .local)
 |cel (S:Bn scope xp)
def Og{a:bb}{b:List aU}{k:Nat}{Q:VK}(S:CT scope xp)(g:P1 (k+1) A)(e:G2 P w K mg base A outer s H)(T:K3 N scope b6 σ H s.heap)(L:CS nm q a b scope b6 H s.heap fl)
  (h:∀d o c n,c1 (fnX nm q a b scope b6 .none .none d o U (.ref c) n) ⟨[u],[]⟩=pure [(xp,u)])(j:RelV v u)
  (f:∀(c:gJ)(i:jq),P1 k (A.deeper<|Ae q scope s.heap.objs.size fl (.ref c) i)->∃t,Dg (oZ CX P w K mg base (xp::N) q scope fl (.ref c) i A outer s H E) b t/\t {nx:=λ_ l=>Q .T2 l,rt:=Q} (J v::σ) H):
  bO (ag P w) A (.call (.ref fl) ⟨[u],[]⟩) (CR CX outer P w H s Q E) s:=by
 cases S with
 |loc S m=>exact RF S m g e T L h j λc=>f c _
 |cel S=>exact Oh S g e T L h j f
end
end L2
namespace PX
open L2
def Hj(scope:iJ)(a:av):Bool:=(G0 scope&&(scope.names.lookup a==J .local))||(decide (scope.kind=.function)&&!scope.isCoroutine&&!scope.isGenerator&&(scope.names.lookup a==J .cell)&&((scope.names.filter λy=>y.2==ay).map (·.1)==[a]))
def Y6{scope:iJ}{f:av}(h:Hj scope f=Y):CT scope f:=by
 unfold Hj at h;rcases uw .. ▸h with h|h
 .obtain⟨h1,c⟩:=kX .. ▸h;exact .loc (Yz h1)<|oe c
 simp only[kX,oM,d0,beq_iff_eq]at h;refine .cel ⟨h.1.1.1.1,h.1.1.1.2,h.1.1.2,h.1.2,?_⟩;have c:=h.2;generalize i:(scope.names.filter λy=>y.2==ay)=l at c
 have d:∀y∈l,y.2=.cell:=λy e=>by rw[<-i]at e;exact oe (mB.mp e).2
 match l,c,d with
 |[(a,b)],c,d=>have g:=d (a,b) jF;cases g;cases c;rfl
end PX
namespace L2
open PySem.W
section
variable {fs:km}{N:iA}{d q:av}{scope:iJ}{f:jq}{H g:Hp}{h h':ip}{a:bb}{b:List aU}{c:gJ}
def CS.keep(L:CS d q a b scope f H h c)(u:Un fs [] H g h h')(n:c∉fs):CS d q a b scope f g h' c:=by obtain⟨i,o,j,l,e,m,w,p,t,h1,k⟩:=L.fn;exact⟨⟨i,o,j,l,u.keep c _ e L.un n (by simp),m,w,p,t,u.frzs _ _ _ h1,k⟩,u.free c _ e L.un (by simp)⟩
end
structure E7(X:Cx)(N:iA)(xp nm q:av)(scope:iJ)(b6:jq)(vs:List V)(params:bb)(body:List aU)(fl:gJ)(k:Nat)(sp:Sp):Prop where
 sc:CT scope xp
 cel:K3 N scope b6 (vs.map z8) X.H₀ X.s₀.heap
 df:CS nm q params body scope b6 X.H₀ X.s₀.heap fl
 nfl:fl∉X.fs
 ncl:∀x c,b6.lookup x=z8 c->c∉X.fs
 bnd:∀doc pm c' i8 u,c1 (fnX nm q params body scope b6 .none .none doc pm z9 (.ref c') i8) ⟨[u],[]⟩=pure [(xp,u)]
 run:∀(c':gJ)(j9:jq)(s:gM)(H:Hp)(v:V)(Q:VK),P1 k (X.A.deeper<|Ae q scope s.heap.objs.size fl (.ref c') j9)->sp (v::vs) H Q E0->
  ∃t,Dg (oZ Au X.prog X.w X.K X.mg X.base (xp::N) q scope fl (.ref c') j9 X.A X.stack s H E0) body t/\t {nx:=λ_ H'=>Q .T2 H',rt:=Q} (z8 v::vs.map z8) H
def UW{X:Cx}{N:iA}{xp T q n:av}{scope:iJ}{t:jq}{B:List V}{a:bb}{g:List aU}{m:gJ}{k j:Nat}{G:Sp}{e:gX}{M:TE}{p i:bq}(h:E7 X N xp T q scope t B a g m k G)(hex:X.ex=[])(hr:P1 (k+1) X.A)
  (hj:X.N[j]?=z8 n)(vj:GN X.env.scope n)(hd:(n==("__debug__":av))=AC)(j8:(n==("__classdict__":av))=AC)(he:PE X e M)(O:af [e] X.env=(AC,ba e X.env)::af [] X.env)(d8:(aB i<|af [] X.env).any (·.1)=AC):
  PE X (.Call (.Name n p) [e] [] i) λl H' Q=>l[j]?=z8 (z8<|.ref m)/\M l H' λv r=>G (v::B) r Q E0:=by
 intro b s l H' Q I ⟨hl,hte⟩;refine vz ?_;refine mz (uS hj vj hd j8 b s l H' (λv r=>v=.ref m/\r=H') I ⟨.ref m,hl,rfl,rfl⟩) (λf s1 K=>?_) λ_ _ z=>z;obtain⟨v,U,C,W,rfl,rfl⟩:=K;cases W
 have at_:∀{d:Hp}{c:gM},Inv X b l d c->CS T q a g scope t d c.heap m/\K3 N scope t (B.map z8) d c.heap:=λ{d c} J=>by
  have un:Un X.fs [] X.H₀ d X.s₀.heap c.heap:=by have:=J.base;rwa [hex]at this
  exact⟨h.df.keep un h.nfl,h.cel.keep un h.ncl⟩
 have L:∀{d:Hp}{c:gM},Inv X b l d c->FnAt m c.heap:=λJ=>by obtain⟨_,_,_,_,e,_⟩:=(at_ J).1.fn;exact⟨_,_,_,_,e⟩
 refine callWith_F (L C) ?_ O d8;rw[O];show aa _ _ (gc ((AC,ba e X.env)::aB i (af [] X.env))) _ _ s1;refine Ct<|NR (he b s1 l U _ C hte) λu c ⟨v,d,o,r2,q2⟩=>Gd ⟨L o,?_⟩;obtain⟨D,Y⟩:=at_ o;refine wX<|oR (Og (CX:=Au) (E:=E0) (Q:=Q) (v:=v) (u:=u) h.sc hr o.Ju Y D (λx R w P=>h.bnd x R w P u) r2 λw F Z=>h.run w F c d v Q Z q2) λS s3 y=>?_
 cases S with
 |error e=>exact aH y
 |ok f=>
  cases f with
  |ret u=>exact o.after y
  |_=>exact aH y
end L2
namespace PX
open L2 PySem.SeqAt PySem.W
def L8(i:Nat)(os:jc)(d:NL):FS:=λc=>(jb c<|os.map .slot).bind λb=>if(b.all λa=>!a.2)=Y/\i<(A1 c)then(d b).bind λq=>J (.nx<|c.set i<|J q.1)else U
theorem NX:∀(os:List F2)(as:List (D×Bool))(b c:Dn),(∀a∈as,a=(a.1,C))->wb os as b c=c
 |[],as,_,_,_=>by simp[wb]
 |o::os,[],_,_,_=>by cases o<;>simp[wb]
 |o::os,a::as,[],c,h=>by have e:=h a jF;obtain⟨d,f⟩:=a;cases e;cases o<;>simp[wb]
 |o::os,a::as,x::b,c,h=>by have e:=h a jF;obtain⟨d,f⟩:=a;cases e;cases o<;>simp[wb,NX os as b c λa g=>h a<|iY _ g]
section
variable {X:Cx}{A:jo}{L:LL}{O:Hp}{N:iA}{C E q c d b:av}{scope:iJ}{I:jq}{f:List V}{a:bb}{m:List aU}{w:gJ}{k i j s:Nat}{o:jc}{y:NL}{z:L2.St}{p n u t l:bq}
def Qg(CI:E7 X N C E q scope I f a m w k (G8 X.K y))(hL:L.st=J z)(hz:z[j]?=J (J<|.ref w))(hg:o.map (λg=>(z[g]?).join)=f.map J)(nj: ¬A j)(ng:∀g∈o,¬A g)(hex:X.ex=[])(hr:P1 (k+1) X.A)
  (hj:X.N[j]?=J c)(vj:GN X.env.scope c)(hd:(c==("__debug__":av))=AC)(j8:(c==("__classdict__":av))=AC)(ht:X.N[s]?=J b)(vt:GN X.env.scope b)(r8:(b==("__debug__":av))=AC)(cq:(b==("__classdict__":av))=AC)
  (k6:af [d7 b n] X.env=(AC,ba (.Name b n) X.env)::af [] X.env)(d8:(aB t<|af [] X.env).any (·.1)=AC)
  (hN:X.N.Nodup)(hi:X.N[i]?=J d)(hx:Loc X.env.scope d)(hs:ck (.Call (.Name c p) [.Name b n] [] t) (J<|.Name d u) l.line X.env=pure AC)(hf:X.fn d=At\/X.env.scope.names.lookup d=J .local)(ai:A i):
  Ke X A L O (.Assign [.Name d u] (.Call (.Name c p) [.Name b n] [] t) l) (L8 i (s::o) y):=PS.imp' (Mr hN hi hx (UW CI hex hr hj vj hd j8 (uS ht vt r8 cq) k6 d8) hs hf) λD σ H hw=>by
 obtain⟨δ,T,out,M,fi,e,kk⟩:=hw;obtain⟨Q,Y,e⟩:=gR e;obtain⟨⟨fF,aW⟩,e⟩:=xw e;obtain⟨r,G,F,e⟩:=gZ e;cases e;have S:=IF fF;obtain⟨W,cI,B⟩:=EZ M Y;have Ec:=wk M B Y (by rw[sj _ _ S];exact mv);have gh:=fi.gh z hL
 have R:o.map (λg=>(σ[g]?).join)=f.map J:=by rw[<-hg];exact lX λg h=>by rw[gh g<|ng g h]
 have U:(σ[s]?).join::f.map J=W.map J:=by rw[<-cI,<-R];simp[qC]
 obtain⟨v,J',rfl⟩:∃v J',W=v::J':=by
  cases W with
  |nil=>simp at U
  |cons v J'=>exact⟨v,J',rfl⟩
 simp at U
 have e2:f=J':=by have:=lY (b4 λx:Option V=>x.getD .T2) U.2;simpa[jA,qZ]using this
 subst e2;refine⟨(gh j nj).trans hz,v,mW U.1,_,Q,r,G,Ec,F,λv' H' P=>?_⟩;have Z:=oH M B Y (by rw[sj _ _ S];exact mv) P;rw[NX _ _ _ _ S]at Z;obtain⟨h1,h2⟩:=vG (A:=A) M Z aW ai;exact kk _ H' h1 h2
end
end PX
namespace L2
open PySem.W
def Inv.ghost{X:Cx}{a:iN}{c b:St}{T:Hp}{s:gM}(Q:Inv X a c T s)(j:(A1 b)=A1 c)(h:∀(i:Nat) x,X.N[i]?=J x->GN X.env.scope x->b[i]?=c[i]?):Inv X a b T s:=by obtain⟨m,k,f⟩:=Q.loc;exact⟨Q.ok,Q.os,Q.bare,Q.base,⟨m,k,λi x v d g e=>f i x v d (by rw[<-h i x d e];exact g) e⟩,Q.cell,Q.free,Q.freeC,Q.pin,Q.hok,j.trans Q.len⟩
end L2
namespace PX
open L2 PySem.SeqAt PySem.W
def sH(a:D×Bool)(m:Nat)(b:List (D×Bool)):Dn:=J a::U::(ah m U++b.map J)
def D9(i a:Nat)(c:jc)(m:Nat)(d:FS):FS:=λδ=>(jb δ<|(a::c).map .slot).bind λb=>if(b.all λa=>!a.2)=Y/\i∉a::c/\i<(A1 δ)then match b with
 |x::cs=>(match d (sH x m cs)with
  |some (.rt r _)=>J<|.rt r<|δ.set i U
  |_=>U)
 |[]=>U else U
def ER.forget{K:Frag}{Q g:Hp}{T:SI}{f:L2.St}{c:Dn}{i:Nat}{v:V}(E:ER K Q T f c)(k:∀b o,Q b=J o->g b=J o):ER K g T (f.set i<|J v) (c.set i U):=by
 have ne:∀{j:Nat}{p:D×Bool},(c.set i U)[j]?=J (J p)->c[j]?=J (J p)/\i≠j:=λ{j p} h=>by
  by_cases e:i=j
  .subst e;rw[wQ]at h;split at h
   .split at h<;>cases h
   rename_i z;exact absurd I z
  rw[lC e]at h;exact⟨h,e⟩
 have ow:∀{b:gJ},X0 (f.set i<|J v) (c.set i U) b->X0 f c b:=λ{b} ⟨j,d,h1,a⟩=>⟨j,d,(ne h1).1,by rwa [lC (ne h1).2]at a⟩
 have q:∀b,Q b≠U->X0 (f.set i<|J v) (c.set i U) b\/T b->X0 f c b\/T b:=λb _ z=>z.imp ow id;refine⟨by rw[ud,ud];exact E.len,λj x h=>?_,λj x h=>?_,λj l x y b h1 a m n=>?_,λb z=>E.nT b<|ow z,λb z=>(E.dom b z).up<|k b⟩
 .obtain⟨w,h1,a⟩:=E.val j x (ne h).1;exact⟨w,by rw[lC (ne h).2];exact h1,Rep.mono (λb o e _=>k b o e) q a⟩
 .obtain⟨b,h1,a⟩:=E.own j x (ne h).1;exact⟨b,by rw[lC (ne h).2];exact h1,a.mono (λb o e _=>k b o e) q<|k b⟩
 rw[lC (ne h1).2]at m;rw[lC (ne a).2]at n;exact E.inj j l x y b (ne h1).1 (ne a).1 m n
def Dr{x:D×Bool}{m:Nat}{a:List (D×Bool)}{j:Nat}{p:D×Bool}(h:(sH x m a)[j]?=J (J p)):(j=0/\p=x)\/∃l,j=m+2+l/\a[l]?=J p:=by
 unfold sH at h
 match j,h with
 |0,h=>cases h;exact .inl ⟨rfl,rfl⟩
 |1,h=>cases h
 |j+2,h=>
  simp at h;by_cases b:j<m
  .rw[oQ<|by simpa using b,Cq]at h;split at h<;>cases h
  rw[oh<|by simpa using b,F8,kg]at h;obtain⟨q,c,e⟩:=iT h;cases e;exact .inr ⟨j-m,by lia,c⟩
def oi(v:V)(fl:gJ)(m:Nat)(vs:List V):L2.St:=J v::J (.ref fl)::(ah m U++vs.map J)
def II{K:Frag}{Q:Hp}{T:SI}{v:V}{vs:List V}{x:D×Bool}{c:List (D×Bool)}{fl:gJ}{m:Nat}(E:ER K Q T ((v::vs).map J) ((x::c).map J))(f:∀a∈x::c,a=(a.1,C)):ER K Q T (oi v fl m vs) (sH x m c)/\∀b,¬X0 (oi v fl m vs) (sH x m c) b:=by
 have no:∀b,¬X0 (oi v fl m vs) (sH x m c) b:=λb O=>by
  obtain⟨j,d,h1,_⟩:=O
  rcases Dr h1 with⟨_,e⟩|⟨l,_,e⟩
  .have:=f x jF;rw[<-e]at this;cases this
  have:=f _ (iY _ (lS e));cases this
 have len:(A1 vs)=(A1 c):=by have:=E.len;simpa using this
 refine⟨⟨by simp[oi,sH,len],λj d h=>?_,λj d h=>?_,λj l d e b h=>?_,λb z=>absurd z<|no b,E.dom⟩,no⟩
 .have i:∀{w},Rep K Q (λa=>X0 ((v::vs).map J) ((x::c).map J) a\/T a) d w->Rep K Q (λa=>X0 (oi v fl m vs) (sH x m c) a\/T a) d w:=Rep.mono (λ_ _ e _=>e) λb _ z=>z.elim (λz=>absurd z<|no b) .inr;rcases Dr h with⟨rfl,e⟩|⟨l,rfl,e⟩
  .obtain⟨w,h1,g⟩:=E.val 0 d (by rw[<-e];rfl);cases h1;exact⟨v,rfl,i g⟩
  obtain⟨w,h1,g⟩:=E.val (l+1) d (by simp[e]);refine⟨w,?_,i g⟩;unfold oi;rw[show m+2+l=(m+l)+2 by lia,wC,wC,oh<|by simp,F8,Cd];simpa using h1
 .rcases Dr h with⟨_,e⟩|⟨l,_,e⟩
  .have:=f x jF;rw[<-e]at this;cases this
  have:=f _ (iY _ (lS e));cases this
 rcases Dr h with⟨_,e⟩|⟨l,_,e⟩
 .have:=f x jF;rw[<-e]at this;cases this
 have:=f _ (iY _ (lS e));cases this
def PL{K:Frag}{Q j:Hp}{T:SI}{A:jo}{v w:V}{vs:List V}{x:D×Bool}{c:List (D×Bool)}{fl:gJ}{m:Nat}{r:D×Bool}{i:L2.St}{h:Dn}(E:ER K Q T ((v::vs).map J) ((x::c).map J))(k:∀a∈x::c,a=(a.1,C))
  (S:SK A (oi v fl m vs) (sH x m c) Q i h j)(R:RV K T Q r i h w j):Ls K T ((v::vs).map J) ((x::c).map J) Q r ((x::c).map J) w j:=by
 have no:=(II (fl:=fl) (m:=m) E k).2;have g:∀b,¬X0 ((v::vs).map J) ((x::c).map J) b:=VB k _;have up:∀b o,Q b=J o->j b=J o:=λb o e=>S.kp b o e<|no b;obtain⟨d,f⟩:=r
 cases f
 .exact⟨.ext up,E.mono (λb o e _=>up b o e) (λ_ _ z=>z) λb z=>(E.dom b z).up<|up b,Rep.mono (λ_ _ e _=>e) (λb _ z=>z.elim (λz=>absurd z<|g b) .inr) R.2⟩
 obtain⟨p,rfl,l,q,ok⟩:=R;refine⟨.ext up,p,rfl,l,E.mono (λb o e _=>up b o e) (λb n z=>z.elim id λz=>absurd l<|z▸n) λb z=>?_,ok.mono (λ_ _ e _=>e) (λb _ z=>z.elim (λz=>absurd z<|g b) .inr) λ_ e=>e⟩;rcases z with z|z
 .exact(E.dom b z).up (up b)
 subst z;exact ok.ow
theorem BR{b:Dn}{i:Nat}{o:Sl}:∀{a:jc},i∉a->jb (b.set i o) (a.map .slot)=jb b (a.map .slot)
 |[],_=>rfl
 |j::a,h=>by have h1:i≠j:=λe=>h (by rw[e];exact jF);simp only[jK,jb,yi];rw[lC h1,BR λz=>h<|iY _ z]
section
variable {X:Cx}{A:jo}{L:LL}{H0:Hp}{Pt c fr:gJ}{g:bb}{O:List aU}{scope:iJ}{pos bx cp pf p1 p2:bq}{t J aY:jc}{N' U:iA}{bj bo:FS}{st:aU}{cZ:mr}{M Y xp G q y1 y2:av}{i a k m:Nat}
def Mn{more:mS}(F:Gv X.K M M st fr cZ)(fW:Binds X.K cZ [y1,y2] [])(SL:SS U [y1,y2] (gS st))(fA:Gl X M)(fj:X.mg M=z8 (.ref fr))(bQ:(M==("__debug__":av))=AC)
  (bf:∀x,X.fn x=At)(hr:P1 (k+2) X.A)(hTb:X.H₀ Pt=z8 (.tbl (#[.str q 0]++more)))(j8:X.env.code=.ref c)(C:CodeHd X.base c Pt)(hB:X.base.BuiltinsAt X.mg Pt)(fD:aj≠Pt)(hq:qualnameIn X.env G G=q)
  (CO:AF X N' scope t 0)(LS:CT scope xp)(fS:g.defaults=[])(cQ:g.kw_defaults=[])(fX:annTrees g z9 X.env=[])
  (i4:∀b6 doc pm c' i8 u,c1 (fnX G q g O scope b6 .none .none doc pm z9 (.ref c') i8) ⟨[u],[]⟩=pure [(xp,u)])
  (hN:X.N.Nodup)(hi:X.N[i]?=z8 G)(hx:Loc X.env.scope G)(ai:A i)(vi:GN X.env.scope G)(fP:(G==("__debug__":av))=AC)(cV:(G==("__classdict__":av))=AC)
  (ha:X.N[a]?=z8 Y)(va:GN X.env.scope Y)(fR:(Y==("__debug__":av))=AC)(fU:(Y==("__classdict__":av))=AC)
  (he:af [d7 Y p1,.Name G p2] X.env=(AC,ba (.Name Y p1) X.env)::af [.Name G p2] X.env)(fO:aB cp (af [d7 G p2] X.env)=[(AC,ba (.Name G p2) X.env)])(d8:(aB cp<|af [d7 G p2] X.env).any (·.1)=AC)
  (hm:(A1 U)=m+2+A1 t)(fy:∀(j:Nat) x,m+2<=j->U[j]?=z8 x->¬GN (gS st) x)
  (hR:∀(fl:gJ)(b6:jq)(c':gJ)(A:ig)(outer:List c3)(s:gM)(H:Hp)(L:LL),(∀i,L.p i->i<A1 t+1)->P1 k (A.deeper<|Ae q scope s.heap.objs.size fl (.ref c') b6)->
   DG (oZ Au X.prog X.w X.K X.mg X.base (xp::N') q scope fl (.ref c') b6 A outer s H E0) (λi=>i∈J) L H O bj)
  (gj:∀(b7:gU)(A:ig)(outer:List c3)(s:gM)(H:Hp)(fl:gJ)(b6:jq)(v:V)(vs:List V),A1 vs=A1 t->P1 (k+1) (A.deeper<|aP M (gS st) s.heap.objs.size fr b7)->
   E7 (pR Au X.prog X.w X.K X.mg X.base U M (gS st) fr b7 A outer s H E0).GI N' xp G q scope b6 vs g O fl k (G8 X.K<|Q1 (A1 t+1) (A1 t+1) J bj)->
   DG (pR Au X.prog X.w X.K X.mg X.base U M (gS st) fr b7 A outer s H E0).GI (λi=>i∈aY) ⟨λ_=>False,z8<|oi v fl m vs⟩ H (kL st) bo):
  DG X A L H0 [.FunctionDef G g O [] z9 [] scope z9 G pos,.Return (z8<|.Call (.Name M pf) [.Name Y p1,.Name G p2] [] cp) bx] (D9 i a t m bo):=by
 intro Z s σ H D I hw;obtain⟨δ,T,out,E1,fi,e,kk⟩:=hw;obtain⟨args,hargs,e⟩:=gR e;obtain⟨⟨fF,hni,aW⟩,e⟩:=xw e;have u7:=IF fF
 obtain⟨x,cs,rfl⟩:∃x cs,args=x::cs:=by
  cases args with
  |nil=>cases e
  |cons x cs=>exact⟨x,cs,rfl⟩
 simp only at e;split at e
 case h_2=>cases e
 rename_i r δL hfs;cases e;obtain⟨aE,hclo,i5,i6⟩:=vg X.env scope λx hx hf=>I.ok.has x.1<|CO.free x hx hf;obtain⟨more2,hP⟩:=I.base.tbls Pt _ hTb;rw[Gi]at hP;refine Gg<|nestDef_K fS cQ fX ?_;rw[hq];refine N9 I hP j8 C hB fD hclo λs1 H1 fl I1 up L1 kp fr0 new=>?_;refine Bb I1 hN hi hx (v:=.ref fl) AT (λs2 I2 ch=>?_)<|.inl<|bf _
 have dz:fl∉X.fs:=λz=>by obtain⟨_,o,ho,_⟩:=I.Ap.mem z;rw[new]at ho;cases ho
 have nfl:fl∉GZ X.stack:=λz=>by obtain⟨_,o,ho,_⟩:=I.stack.mem z;rw[new]at ho;cases ho
 have nlo:fl≠X.env.locals:=λz=>by obtain⟨m,⟨o',es,ep,v8,_⟩,_⟩:=I.loc;rw[<-z,new]at v8;cases v8
 obtain⟨doc,pm,c',i8,hob,fG⟩:=L1.fn
 have hob2:s2.heap.get? fl=z8 (fnMade G q g O scope aE doc pm c' i8):=by
  obtain⟨b,hs,hb⟩:=ch;refine hs.extBut fl _ (λz=>?_) hob;rcases hb with hb|hb
  .exact nlo (z.trans hb)
  obtain⟨w,o,ho,_⟩:=I.cell G b hb;rw[<-z,new]at ho;cases ho
 have Ip:Inv X (Z++[(fl,fnMade G q g O scope aE doc pm c' i8)]) (σ.set i<|z8<|.ref fl) H1 s2:=I2.Dh λp hp=>(nQ.mp hp).elim (λz=>I2.pin p<|nO _ z) λz=>by
  cases Aw.mp z;exact⟨hob2,L1.un,nlo,dz,λv h=>by cases h⟩
 have E2:=E1.forget (i:=i) (v:=.ref fl) up;have s9:jb (δ.set i z9) ((a::t).map .slot)=z8 (x::cs):=(BR hni).trans hargs;obtain⟨ws,cI,B⟩:=EZ E2 s9
 obtain⟨v,vs,rfl⟩:∃v vs,ws=v::vs:=by
  cases ws with
  |nil=>simp[qC]at cI
  |cons v vs=>exact⟨v,vs,rfl⟩
 have bH:((σ.set i<|z8<|.ref fl)[a]?).join=z8 v/\qC t 0 (σ.set i<|z8<|.ref fl)=vs.map z8:=by simp only[qC,yI,rN,jK,xt]at cI ⊢;exact cI
 have Ec:=wk E2 B s9 (by rw[sj _ _ u7];exact mv);have hil2:i<(A1 σ):=by rw[E1.len];exact aW
 have eQ:(A1 vs)=(A1 t):=by have:=lY dv bH.2;simpa[qC]using this.symm
 refine Gg<|m6<|NR (Q:=EP X Z (σ.set i<|z8<|.ref fl) λw W=>Ls X.K T (σ.set i<|z8<|.ref fl) (δ.set i z9) H1 r (δ.set i z9) w W) ?_ λw s3 ⟨y,H3,I3,r3,P3⟩=>?_
 .refine vz (C2 I2 fA fj ?_ bQ);refine callWith_K (h₀:=X.base) I2.ok.mod.kin F.kp ?_ he d8;rw[he];show aa _ _ (gc ((AC,ba (.Name Y p1) X.env)::aB cp (af [.Name G p2] X.env))) _ _ s2;rw[fO];refine Ct<|NR (uS ha va fR fU _ s2 _ H1 (λw W=>w=v/\W=H1) Ip ⟨v,mW bH.1,rfl,rfl⟩) ?_;rintro u1 s3 ⟨w,H3,I3,r3,e1,e2⟩;subst e1 e2;refine Ct<|NR (uS hi vi fP cV _ s3 _ H3 (λw' W=>w'=.ref fl/\W=H3) I3 ⟨.ref fl,pz hil2,rfl,rfl⟩) λu2 s4 ⟨w2,H4,I4,r4,e3,e4⟩=>Gd ⟨I4.Ej,?_⟩;subst e3 e4;have hob4:=(I4.pin _ (nO _ (nO _ jF))).1;have I5:=I4.AG
  have LC:K3 N' scope aE (vs.map z8) H4 s4.heap:=by
   rw[<-bH.2];refine⟨λx y c h1 h2=>I.ok.inj x y c (i5 x c h1)<|i5 y c h2,λx hx=>i6 x<|pv hx,λx c h=>⟨I5.cell x c<|i5 x c h,I5.freeC x c<|i5 x c h⟩,λl x v h1 h2=>?_,CO.Jl.len _⟩;obtain⟨hf,jj,hj,hv⟩:=CO.Jl.pre _ l v x h2 h1;refine⟨hf,?_⟩;obtain⟨m,hn,hl⟩:=I5.loc;have i9:=CO.free (x,.free) (pv hf) AT;obtain⟨u,r,q⟩:=hl jj x v hj hv (by rcases i9 with z|z;exact .inr<|.inl z;exact .inr<|.inr z);rcases q with⟨cR,_⟩|⟨_,c,hc,g0⟩
   .have aV:X.env.scope.names.lookup x=z8 .local:=cR;rcases i9 with z|z<;>(have z':X.env.scope.names.lookup x=_:=z;rw[aV]at z';cases z')
   obtain⟨c',w6⟩:=i6 x<|pv hf;have:=i5 x c' w6;rw[hc]at this;cases this;exact⟨c,u,w6,g0,r⟩
  have nst:∀x c,aE.lookup x=z8 c->c∉GZ X.stack:=λx c e z=>by
   rcases mP.mp (I.Dt c z)with q|q
   .exact I.JW x c (i5 x c e) q
   obtain⟨_,o,ho,_⟩:=I.ok.Ap.mem q;exact absurd (jN ho)<|OS.mpr<|I.ok.cab x c (bf x)<|i5 x c e
  obtain⟨oc,od,kV,doc2,pm2,an,b7,ct,o8,rfl,lkr,hcdr⟩:=F.ex;have hbt:=fW s4 [u1,u2] I5.Ej AT
  have CI:E7 (pR Au X.prog X.w X.K X.mg X.base U M (gS st) fr b7 X.A X.stack s4 H4 E0).GI N' xp G q scope aE vs g O fl k (G8 X.K<|Q1 (A1 t+1) (A1 t+1) J bj):=
   ⟨LS,LC,⟨⟨doc,pm,c',i8,hob4,fG⟩,L1.un⟩,nfl,nst,i4 aE,λc2 gx s' W w' Q u4 aI=>by
    have gf:(xp::N').length=A1 t+1:=by have:=CO.Jl.len<|σ.set i<|z8<|.ref fl;simp[qC]at this ⊢;exact this.symm
    rw[<-gf]at aI;obtain⟨L',h1,h2⟩:=Gs (N:=xp::N') aI;refine⟨_,hR fl gx c2 _ _ s' W L' (λi h=>by have:=h1 i h;rwa [gf]at this) u4,?_⟩
    have:L2.oU (xp::N') (w'::vs)=z8 w'::vs.map z8:=by unfold L2.oU;rw[gf,mQ,eQ];simp
    rw[<-this];exact h2⟩
  refine wX<|oR (Ta (CX:=Au) (E:=E0) (Q:=λw W=>Ls X.K T (σ.set i<|z8<|.ref fl) (δ.set i z9) H4 r (δ.set i z9) w W) (vs:=[w,.ref fl]) lkr hcdr SL hr I5.Ju hbt (.cons r3<|.cons r4 .nil) AT λu4=>?_) λrr s5 hq=>?_
  .have nd0:(iu ((a::t).map F2.slot) (x::cs)).Nodup:=by rw[sj _ _ u7];exact mv
   refine⟨λD σ' W=>tS X.K (λi=>i∈aY) ⟨λ_=>False,z8<|oi w fl m vs⟩ H4 bo D (σ'.take (m+2)++vs.map z8) W,Dg.GI λZ s' σ' W D I' h=>?_,?_⟩
   .refine gj b7 X.A X.stack s4 H4 fl aE w vs eQ u4 CI Z s' _ W D (I'.ghost ?_ λj y h1 h2=>?_) h
    .have:=I'.len;have e:(A1 σ')=(A1 U):=this;simp[eQ];omega
    by_cases hj:j<m+2
    .have e:(A1 σ')=(A1 U):=I'.len;rw[oQ<|by simp;omega,F9 hj]
    exact absurd h2 (fy j y (by omega) h1)
   have hz:(L2.oU U [w,.ref fl]).take (m+2)++vs.map z8=oi w fl m vs:=by unfold L2.oU oi;rw[show (A1 U)-[w,V.ref fl].length=m+(A1 t) by simp;omega];simp
   show tS _ _ _ _ _ _ _ _;rw[hz];obtain⟨e1,no⟩:=II (fl:=fl) (m:=m) Ec u7;refine⟨_,_,_,e1,⟨λl b ⟨d,h1,h2⟩=>absurd ⟨l,d,h1,h2⟩<|no b,λ_ z=>z,λ_ _ z=>z,λz' e j _=>by cases e;rfl⟩,hfs,λw' σ' W S R=>?_⟩;have P:=oH E2 B s9 nd0<|PL Ec u7 S R
   rwa [NX _ _ _ _ u7]at P
  cases rr with
  |error e=>exact aH hq
  |ok f=>
   cases f with
   |ret u=>exact I5.after hq
   |_=>exact aH hq
 have S1:SK A σ δ H (σ.set i<|z8<|.ref fl) (δ.set i z9) H1:=⟨λb o q _=>up b o q,λl b z=>by
  obtain⟨⟨d,h1,h2⟩,n⟩:=MP z;rw[lC<|pA n]at h2;exact .inl ⟨d,h1,h2⟩,λb q=>by
  cases hh:H b with
  |none=>exact absurd hh q
  |some o=>rw[up b o hh];simp,λl n=>lC λ(z:i=l)=>n<|z▸ai⟩
 refine⟨y,_,H3,I3,r3,kk y _ H3 (S1.trans P3.1.sk) ?_⟩;obtain⟨d,f⟩:=r
 cases f
 .exact P3.2
 obtain⟨p,h1,h2,h3⟩:=P3.2;refine⟨p,h1,fi.fresh ?_,h3⟩
 cases hh:H p with
 |none=>rfl
 |some o=>rw[up p o hh]at h2;cases h2
end
open PySem.Builtin.Str
section
variable {X:Cx}
end
section
variable {X:Cx}{o e a:gX}{k l:FO}{b v:av}{d p c i h g f:bq}{j:Nat}
end
section
variable {K:iz}{T:SI}{b:L2.St}{c:Dn}{H:Hp}{A:jo}{i j:Nat}{d:D}{a:gJ}
end
section
variable {X:Cx}{A:jo}{L:LL}{d:Hp}{b a c:bq}{i j:Nat}{x y:av}
end
end PX
namespace TT
open PySem.SeqAt
section
variable {a:iw}{w:ik}{A:ig}{E:iK}{s:gM}
end
end TT
namespace PX
open L2 PySem.SeqAt TS
section
variable {X:Cx}{a:iN}{b:L2.St}{H:Hp}{s:gM}
end
section
variable {X:Cx}
end
end PX
namespace TT
def Wi{a:iw}{w:ik}{A:ig}{E:iK}{s:gM}{Q:iK}(h:Q (.ref s.heap.objs.size) {s with heap:=s.heap.push (ju #[] 0 (kj w))}):aa (ag a w) A (t7<|.type "set") Q E s:=by
 unfold t7 eW;obtain⟨b,g,d,c,os⟩:=s;dsimp only;refine gL<|gL<|rH<|hJ ?_;dsimp only;simp only[newObj]
 first
  |exact gL<|wU<|hJ h
  |exact gL<|hJ<|gL<|wU<|hJ h
end TT
namespace PX
open L2 PySem.SeqAt
def N1(a:jc)(k:Nat)(c:AE)(d:Tg)(ti:FT)(b:FB):F:=G9 U a k c d ti b
section
variable {X:Cx}{A:jo}{d:gJ}{j:gX}{f:F}
variable {c:nI}{b:nJ}{scope:iJ}{e:bq}{p:iA}{a:jc}{k:Nat}{n:AE}{l:Tg}{ti:FT}{m:FB}
def Uw(N:AF X p scope a k)(v:X.calm=Y)(u:c.is_async=0)(y:∀s,b[0]?=J s->s.is_async=0)
  (w:∀x,aq c.iter X.env x=pure x)(B:JQ X (λi=>i∉a) c.target c.iter n)
  (z:∀(cl:jq)(N:gJ)(E:gM)(t:Hp)(fp:km)(q:iN),let r:=X.comp p scope cl N E t fp q
   JR r (λi=>A1 a<=i) c.target l/\Hm r c.ifs (tT X.K ti)/\∀d,PB r (iX (.SetComp j (c::b) scope e) 0 (.ref d) r.env)<|GD U X.K (λi=>A1 a<=i) d m):
  PX X (.SetComp j (c::b) scope e) (N1 a k n l ti m):=PX.imp (CN (fp:=c.iter.pos) (new:=t7<|.type "set") (o:=.W2 []) (g:=tG X.K (λi=>A1 a<=i) l) (ti:=tT X.K ti) (tb:=λd=>GD U X.K (λi=>A1 a<=i) d m) N.Jl v u y w B z (λ_ _ _ k=>TT.Wi<|k _ λ_=>⟨#[],0,_,jT _ rfl,.nil,TT.J4.fresh _ _ _,rfl,rfl⟩) (.inr ⟨_,_,_,_,rfl⟩) (hev:=by cases c;rfl)) λO T Q h=>xM (S:=U) h
end
def vn(f:F):FB:=λa δ=>(f δ).bind λp=>if a.all AK=Y/\AK p.1.1=Y/\(A1 a)<500 then J (nC a p.1.1,p.2)else U
section
variable {X:Cx}{A:jo}{d:gJ}{c:gX}{f:F}
def adb{h:nJ}{Y:iJ}{p:bq}{depth:Nat}(hu:X.A.units+90<aL)(hn:h[depth+1]?=z9)(he:PX X c f):PB X (iX (.SetComp c h Y p) depth (.ref d) X.env) (GD z9 X.K A d<|vn f):=by
 intro w s m H N I hw;obtain⟨Q,T,R,d9,δ',B,e,k⟩:=hw;obtain⟨r,g,h1,e⟩:=gZ e;obtain⟨⟨o1,o2,o3⟩,e⟩:=iM e;obtain⟨rfl,rfl⟩:=rh e
 have V:iX (.SetComp c h Y p) depth (.ref d) X.env=(do let v <-ba c X.env;cg c.pos;let _ <-call (.builtin "set.add") [.ref d,v]):=by unfold iX;simp -iota only[clausesOf.eq_def];rw[hn]
 rw[V];refine gL<|NR (he w s m H (λy j=>Ls X.K T m Q H r g y j) I ⟨Q,T,r,g,B.er,h1,λv j P=>P⟩) ?_;rintro u s1 ⟨y,j,E,ru,P⟩;obtain⟨C,U⟩:=P.rep B.er;have G:SK A m Q H m g j:=P.1.sk;have D:=B.step G C;obtain⟨us,M,q3⟩:=D.at';obtain⟨es,n,t,l,S⟩:=AB.JM E M q3;refine gL<|rO<|gL ?_;refine og Fi ⟨_,S.is.at_,rfl⟩ KI ?_<|KH _ _;unfold bc.«set.add» bZ;simp only[yL,rJ];unfold bK;refine gL<|hJ ?_
 try dsimp only
 refine gL<|hJ ?_
 try dsimp only
 refine gL<|F0.add E S o1 (.inl U) U ru o2 o3 (by show X.A.units+1+60<aL;lia) λb h' tk W n' t' L ht p9 x=>?_;show aa _ _ (ret ao) _ _ _;have O:T d:=B.td;have kp:∀(J:HO) b u,j b=z8 u->¬(X0 m g b\/T b)->upd j d J b=z8 u:=λJ b u e n=>by rw[iL<|by intro z;subst z;exact n<|.inr O];exact e
 obtain⟨F,z1,z2⟩:=x.Sr (K:=X.K) (H':=upd j d<|.W2<|L.map hv) (O':=λa=>X0 m g a\/T a) (λp hp=>Rep.mono (kp _) (λ_ _ z=>z)<|x.rep p hp) iF;refine hJ ⟨_,rfl,hJ ⟨m,upd j d<|.W2<|L.map hv,?_,k m _ ?_ ?_⟩⟩
 .obtain⟨eE,zs2,Z,_⟩:=M;exact tP (t':=tk) E (by rw[Z];exact br) p9 ⟨_,x.is.at_⟩ x.J8
 .have:Hg A d m g j m g (upd j d<|.W2<|L.map hv):=⟨λa o e n nd=>by rw[iL nd];exact e,λi a z=>.inl z,λa z=>by
   by_cases q:a=d
   .subst q;rw[iF];simp
   rw[iL q];exact z,λ_ _=>rfl⟩
  exact G.JS.trans this
 refine⟨C.mono (λb o e n=>by rw[iL<|by intro z;subst z;exact n O];exact e) (λ_ _ z=>z) λa z=>?_,O,F,?_,?_⟩
 .by_cases q:a=d
  .subst q;rw[iF];trivial
  rw[iL q];exact C.dom a z
 .exact z1
 exact z2
end
def ZE{X:Cx}{g:gX}{f:F}{k:Nat}{l:bq}{c:nI}{scope:iJ}{m:AE}{tt:Tg}{n:FT}{e:jc}(t:X.A.units+90<aL)(w:QI X (λi=>i∉e) c.target c.iter m)
  (u:MK X e [c] scope λQ=>QG Q (λi=>A1 e<=i) c.target tt/\QF Q c.ifs n/\QX Q g f)
  (T:qj X.N X.env.scope scope (cN X.N e [c]) e k=Y:=by kernel_rfl)(v:decide (cN X.N e [c]).Nodup=Y:=by kernel_rfl)
  (r:X.calm=Y:=by rfl)(q:c.is_async=0:=by rfl)(s:∀x,aq c.iter X.env x=pure x:=by intro _;rfl):
  QX X (.SetComp g [c] scope l) (N1 e k m tt n<|vn f):=
 ⟨Uw (Aj I I T) r q (by intro z h;cases h) s w.h λcl T y o p j=>let⟨a,b,c⟩:=u cl T y o p j<|rB v;⟨a.h,b.h,λd=>adb t I c.h⟩⟩
open PySem.W
structure LG(X:Cx)(q:av)(Pt:gJ):Prop where
 t:Wb q Pt X.H₀
 c:∃c,X.env.code=.ref c/\CodeHd X.base c Pt
 b:X.base.BuiltinsAt X.mg Pt
 g:aj≠Pt
def ozQ{Z:ZZ}{k:Nat}{x q:av}{st:aU}{N g:iA}{asg:jc}{fs:FS}{h:gJ}{TB:List (gJ×av)}(a:TbK Z TB x st q h)(S:SS N g (gS st))(b:Gw x st g)
  (G:∀(f:gJ)(e:gU)(A:ig)(d:List c3)(s:gM)(T:Hp)(E:XK)(L:LL),(∀i,L.p i->i<A1 g)->P1 k (A.deeper<|aP x (gS st) s.heap.objs.size f e)->
   un (A.deeper<|aP x (gS st) s.heap.objs.size f e) 60->un (A.deeper<|aP x (gS st) s.heap.objs.size f e) 1->un (A.deeper<|aP x (gS st) s.heap.objs.size f e) 62->un (A.deeper<|aP x (gS st) s.heap.objs.size f e) 90->N.Nodup->
   LG (pR Au Z.P Z.w Z.K Z.mg Z.base N x (gS st) f e A d s T E).GI q h->QQ (pR Au Z.P Z.w Z.K Z.mg Z.base N x (gS st) f e A d s T E).GI (λi=>i∈asg) L T (kL st) fs):Ho Z TB (k+1) x g (Q1 (A1 N) (A1 g) asg fs):=
 let⟨f,n,c,m,F,h1,t,u,v,y⟩:=a
 ⟨f,n,fnU F S λe A d s T E L z O l j r o Q M B=>G f e A d s T E L z O l j r o Q ⟨B _ y,⟨c,M.trans h1,t⟩,u,v⟩,m,F.kp,F.binds b⟩
def Jx{Z:ZZ}{k:Nat}{x:av}{st:aU}{N e:iA}{asg:jc}{fs:FS}{TB:List (gJ×av)}(a:Fz Z.K Z.mg x st)(S:SS N e (gS st))(b:Gw x st e)
  (r:∀(f:gJ)(d:gU)(A:ig)(c:List c3)(s:gM)(T:Hp)(E:XK)(L:LL),(∀i,L.p i->i<A1 e)->P1 k (A.deeper<|aP x (gS st) s.heap.objs.size f d)->
   un (A.deeper<|aP x (gS st) s.heap.objs.size f d) 60->un (A.deeper<|aP x (gS st) s.heap.objs.size f d) 1->un (A.deeper<|aP x (gS st) s.heap.objs.size f d) 62->un (A.deeper<|aP x (gS st) s.heap.objs.size f d) 90->N.Nodup->
   R5 TB T->QQ (pR Au Z.P Z.w Z.K Z.mg Z.base N x (gS st) f d A c s T E).GI (λi=>i∈asg) L T (kL st) fs):Ho Z TB (k+1) x e (Q1 (A1 N) (A1 e) asg fs):=
 let⟨f,j,m,F⟩:=a
 ⟨f,j,fnU F S λd A c s T E L o t h g n l u _ q=>r f d A c s T E L o t h g n l u q,m,F.kp,F.binds b⟩
def LtZ(Z:ZZ)(k:Nat)(x:av)(st:aU)(N t:iA)(d:jc)(m g:Nat)(fs:NL->FS):Prop:= ∃f l,Z.mg x=J (.ref f)/\Gv Z.K x x st f l/\Binds Z.K l t []/\
 ∀(e:gU)(A:ig)(a:List c3)(s:gM)(T:Hp)(n:gJ)(p:jq)(v:V)(h:List V)(o:iA)(u r q:av)(scope:iJ)(b:bb)(c:List aU)(j:NL),A1 h=g->P1 (k+1) (A.deeper<|aP x (gS st) s.heap.objs.size f e)->
  E7 (pR Au Z.P Z.w Z.K Z.mg Z.base N x (gS st) f e A a s T E0).GI o u r q scope p h b c n k (G8 Z.K j)->
  QQ (pR Au Z.P Z.w Z.K Z.mg Z.base N x (gS st) f e A a s T E0).GI (λi=>i∈d) ⟨λ_=>False,J<|oi v n m h⟩ T (kL st) (fs j)
def ltZ{Z:ZZ}{k:Nat}{x:av}{st:aU}{N u:iA}{j:jc}{m g:Nat}{fs:NL->FS}(a:Fz Z.K Z.mg x st)(S:SS N u (gS st))(b:Gw x st u)
  (E:∀(f:gJ)(h:gU)(A:ig)(c:List c3)(s:gM)(T:Hp)(o:gJ)(r:jq)(v:V)(l:List V)(p:iA)(y t q:av)(scope:iJ)(d:bb)(e:List aU)(n:NL),A1 l=g->P1 (k+1) (A.deeper<|aP x (gS st) s.heap.objs.size f h)->
   un (A.deeper<|aP x (gS st) s.heap.objs.size f h) 60->un (A.deeper<|aP x (gS st) s.heap.objs.size f h) 1->un (A.deeper<|aP x (gS st) s.heap.objs.size f h) 62->un (A.deeper<|aP x (gS st) s.heap.objs.size f h) 90->N.Nodup->
   E7 (pR Au Z.P Z.w Z.K Z.mg Z.base N x (gS st) f h A c s T E0).GI p y t q scope r l d e o k (G8 Z.K n)->
   QQ (pR Au Z.P Z.w Z.K Z.mg Z.base N x (gS st) f h A c s T E0).GI (λi=>i∈j) ⟨λ_=>False,J<|oi v o m l⟩ T (kL st) (fs n)):LtZ Z k x st N u j m g fs:=
 let⟨f,Q,h1,F⟩:=a
 ⟨f,Q,h1,F,F.binds b,λh A c s T o r v l p y t q scope d e n hv z B=>by have:=z.un;exact E f h A c s T o r v l p y t q scope d e n hv z (by unfold un;omega) (by unfold un;omega) (by unfold un;omega) (by unfold un;omega) S.nd B⟩
section
variable {X:Cx}{A:jo}{L:LL}{H0:Hp}{N:iA}{xp f q E I y:av}{scope:iJ}{n:jq}{G:List V}{d:bb}{l:List aU}{o:gJ}{k i j jt:Nat}{M:jc}{ev:NL}{z:L2.St}{p r p3 Q B:bq}
def sCl(a:E7 X N xp f q scope n G d l o k (G8 X.K ev))(t:M.map (λg=>(z[g]?).join)=G.map z8)(w:P1 (k+1) X.A)(m:X.N.Nodup)(h:L.st=z8 z:=by rfl)(O:z[j]?=z8 (z8<|.ref o):=by rfl)(Y: ¬A j:=by decide)(U:∀g∈M,¬A g:=by decide)(hex:X.ex=[]:=by rfl)
  (v:X.N[j]?=z8 E:=by rfl)(vj:GN X.env.scope E:=by exact aT AT)(hd:DB E:=by decide)(T:(E==("__classdict__":av))=AC:=by decide)(C:X.N[jt]?=z8 y:=by rfl)(vt:GN X.env.scope y:=by exact aT AT)(r8:DB y:=by decide)(c:(y==("__classdict__":av))=AC:=by decide)
  (J:SE X (.Name y r) []:=by rfl)(e:BA X Q []:=by rfl)(u:X.N[i]?=z8 I:=by rfl)(H:Loc X.env.scope I:=by exact aT AT)(x:ck (.Call (.Name E p) [.Name y r] [] Q) (z8<|.Name I p3) B.line X.env=pure AC:=by rfl)(s:X.fn I=At\/X.env.scope.names.lookup I=z8 .local:=by exact aT AT)(b:A i:=by decide):
  QS X A L H0 (.Assign [.Name I p3] (.Call (.Name E p) [.Name y r] [] Q) B) (L8 i (jt::M) ev):=⟨Qg a h O t Y U hex w v vj hd T C vt r8 c J e m u H x s b⟩
variable {Pt:gJ}{bx pf p1:bq}{e asgR aY:jc}{N' J:iA}{bj:FS}{bo:NL->FS}{st:aU}{T C Y U:av}{a m:Nat}
def sLo(O:LtZ (zX X) k T st J [Y,U] aY m (A1 e) bo)(SL:SS J [Y,U] (gS st))(tb:LG X q Pt)(hr:P1 (k+2) X.A)(hN:X.N.Nodup)(CO:AF X N' scope e 0)(LS:Hj scope xp=At)
  (hR:∀(o:gJ)(n:jq)(c':gJ)(A:ig)(outer:List c3)(s:gM)(H:Hp)(L:LL),(∀i,L.p i->i<A1 e+1)->P1 k (A.deeper<|Ae q scope s.heap.objs.size o (.ref c') n)->
   QQ (oZ Au X.prog X.w X.K X.mg X.base (xp::N') q scope o (.ref c') n A outer s H E0) (λi=>i∈asgR) L H l bj)
  (hm:(A1 J)=m+2+(A1 e):=by rfl)(fy:∀(j:Nat) x,m+2<=j->J[j]?=z8 x->¬GN (gS st) x)
  (fA:Gl X T:=by rfl)(bQ:DB T:=by decide)(bf:∀x,X.fn x=At:=by exact λ_=>rfl)(hq:qualnameIn X.env f f=q:=by rfl)(fS:d.defaults=[]:=by rfl)(cQ:d.kw_defaults=[]:=by rfl)(fX:annTrees d z9 X.env=[]:=by rfl)
  (i4:∀n doc pm c' i8 u,c1 (fnX f q d l scope n .none .none doc pm z9 (.ref c') i8) ⟨[u],[]⟩=pure [(xp,u)]:=by exact λ_ _ _ _ _ _=>rfl)
  (hi:X.N[i]?=z8 f:=by rfl)(hx:Loc X.env.scope f:=by exact aT AT)(ai:A i:=by decide)(vi:GN X.env.scope f:=by exact aT AT)(fP:DB f:=by decide)(cV:(f==("__classdict__":av))=AC:=by decide)
  (ha:X.N[a]?=z8 C:=by rfl)(va:GN X.env.scope C:=by exact aT AT)(fR:DB C:=by decide)(fU:(C==("__classdict__":av))=AC:=by decide)
  (he:SE X (.Name C p1) [.Name f r]:=by rfl)(fO:aB Q (af [d7 f r] X.env)=[(AC,ba (.Name f r) X.env)]:=by rfl)(d8:BA X Q [.Name f r]:=by rfl):
  QQ X A L H0 [.FunctionDef f d l [] z9 [] scope z9 f B,.Return (z8<|.Call (.Name T pf) [.Name C p1,.Name f r] [] Q) bx] (D9 i a e m<|bo<|Q1 (A1 e+1) (A1 e+1) asgR bj):=by
 obtain⟨fr,cZ,V,F,S,W⟩:=O;obtain⟨more,ht⟩:=tb.t;obtain⟨c,hc,Z⟩:=tb.c;exact⟨Mn F S SL fA V bQ bf hr ht hc Z tb.b tb.g hq CO (Y6 LS) fS cQ fX i4 hN hi hx ai vi fP cV ha va fR fU he fO d8 hm fy (λo n c' A outer s H L hL D=>(hR o n c' A outer s H L hL D).h) λR A outer s H o n v G hv D P=>(W R A outer s H o n v G _ _ _ _ _ _ _ _ hv D P).h⟩
end
def Uj(i:Nat)(f:FS):FS:=λa=>match a[i]? with
 |some (J (d,_))=>f<|a.set i<|J (d,C)
 |_=>U
def Z2{X:Cx}{A:jo}{L:LL}{m:Hp}{n:List aU}{f:FS}{i:Nat}(h:QQ X A L m n f):QQ X A L m n (Uj i f):=⟨Dg.imp' h.h λD p Q t=>by
 obtain⟨o,T,out,E,s,e,k⟩:=t;unfold Uj at e;split at e
 case h_2=>cases e
 rename_i d b hd;obtain⟨q,_⟩:=E.freeze hd;have S:SK A p o Q p (o.set i<|J (d,C)) Q:=I8.set.sk;refine⟨_,T,out,q,s.step S,e,?_⟩
 cases out with
 |nx j=>exact λa c g l=>k a c (S.trans g) l
 |bk j=>exact λa c g l=>k a c (S.trans g) l
 |ct j=>exact λa c g l=>k a c (S.trans g) l
 |rt r j=>exact λv a c g R2=>k v a c (S.trans g) R2⟩
def aaL{a:iA}{n:Nat}{b:iJ}(h:((a.drop n).all λx=>(b.names.lookup x).isNone)=Y):∀(j:Nat) x,n<=j->a[j]?=J x->¬GN b x:=λj x d e v=>by have c:x∈a.drop n:=lS (i:=j-n) (by rw[cE,show n+(j-n)=j by lia];exact e);have:=kf.mp h x c;unfold GN at v;rcases v with z|z|z<;>(rw[z]at this;cases this)
section
variable {X:Cx}
end
open AutoSeq1 (wpAny_loadPart')
section
variable {X:Cx}
end
def Jy:aU->av
 |.FunctionDef n .. =>n
 |_=>""
def Jw(s:aU):List Str:=(oY s).args.map (·.arg)
def loS(s:aU):List Str:=(gS s).names.filterMap λp=>match p.2 with|.local|.cell=>J p.1|_=>U
def qN(k:ek)(a:List bS):=Lean.Syntax.node .none k a.toArray
def qA:=Lean.Syntax.atom .none
def qK:=Lean.Name.str `Lean.Parser.Tactic
def qM(s:String):=qN<|.str `Lean.Parser.Term s
def qH(t s:String)(a:List bS):=qN (qK t) (qA s::a)
def qT(s:String):=qH s s
def qQ(a:List bS):=qN (qK "tacticSeq") [qN (qK "tacticSeq1Indented") [qN `null a]]
def qF(l:List bS):=qT "first" [qN `null (l.map λt=>qN `group [qA "|",t])]
def qP(f:ek)(a:List bS):=if a.isEmpty then(n5 f).raw else qM "app" [n5 f,qN `null a]
def qU:=qM "hole" [qA "_"]
def qY(a:List bS):=qM "byTactic" [qA "by",qQ a]
def qB:=qY [qT "assumption" []]
def qE(f:ek)(a:List bS):=qT "refine" [qP f a]
def qG:Nat->bS
 |1=>qM "syntheticHole" [qA "?",qA "_"]
 |2=>qB
 |3=>qP `rfl []
 |4=>qY [qF [qQ [qE `xeOk_cxOf []],qQ [qE `xeOk_lam []]]]
 |5=>qP `ClsK.x [qB,qU]
 |6=>qP `ClsK.t [qB,qU]
 |7=>qP `ClsK.vm [qB]
 |8=>qP `ClsK.v [qB]
 |_=>qP `ClsK.su [qB]
def qD:Nat->Nat->List bS
 |0,_=>[]
 |n+1,k=>if k=0 then[]else qD n (k / 10)++[qG<|k%10]
def X9(l:List (ek×Nat×List (Nat×List ek))):Lean.Syntax:=
 let r:=qP `rfl []
 let w t:=qH "withReducible" "with_reducible" [qQ [t]]
 let g:=l.map λg=>
  let f:=qF<|g.2.2.flatMap λp=>p.2.map λn=>qQ [qE n<|qD 9 p.1]
  if g.2.1=0 then qQ [qE g.1 [qG 1],qA ";",w f]else qQ [qT "show" [qP g.1<|ah g.2.1 qU],qA ";",f]
 qQ [qT "repeat'" [qQ [qF (qQ [w<|qT "intro" [qN `null [qU]]]::(g++[qE `c6 [qG 1,qG 1],qT "assumption" [],qH "tacticRfl" "rfl" [],qE `aT [r],qE `bp [qP `aT [r]],qE `bp [qP `bp [qP `aT [r]]],qE `bp [qP `bp [qP `bp [r]]]].map (λt=>qQ [t])))]]]
end PX
set_option backward.eqns.nonrecursive true
namespace PV
open L2 PX
noncomputable abbrev Ze:Nat:=100000
def yb:FS:=gW (kn<|Ab (qh (G5 [.int])<|gK 0)<|VQ<|qh (G5 [.bool])<|gK 0) ir
def lK:NL:=Q1 1 1 [] yb
def qg:FS:=gW (kn<|Ab (hU lK [gK 0])<|Aa .LtE .LtE (gK 1) (gK 0)<|gK 2) ir
def kI:NL:=Q1 3 3 [] qg
abbrev kZ:=hG<|fC<|.int 1
def zT:FS:=gW (kn<|hU kI [gK 1,kZ,gK 0]) ir
def oB:NL:=Q1 2 2 [] zT
def uY:FS:=gW (kn<|Ab (hU lK [gK 1])<|hU oB [gK 0,hG<|iB (g1 xE) [gK 1]]) ir
def mq:NL:=Q1 2 2 [] uY
abbrev mC:=jd<|jI 1
abbrev Tu:=hG<|iB (g1 qJ) [gK 1]
abbrev tR:=gW (kn<|fC<|.bl C) ir
abbrev Wv:=sv<|fT<|qh (G5 [.tuple])<|gK 1
def ma:FS:=gW (AD (Dk Wv<|fT<|il D4 Tu<|gK 0) tR ir)<|gW (AD (sv<|fT<|iB (g1 xD) [hG<|iR [0] 1 mC (gP 1) iZ<|ja<|hU mq [gK 0,gK 1]]) tR ir)<|gW (kn<|il Ao (hG<|tH [] 1 mC (gP 0) iZ<|Dx<|iB (g1 xE) [gK 0])<|gK 0) ir
def jm:NL:=Q1 2 2 [] ma
abbrev oT:=hG<|fC<|.int 0
abbrev WA:=il (qL .Gt) (gK 1) oT
abbrev WH:=fT WA
def ya:FS:=gW (kn<|JK WH (il A2 (gK 0)<|hG<|il Er (gK 1) kZ)<|qh yt<|hG<|il A2 (gK 0)<|hG<|il Er (hG<|qh yt<|gK 1) kZ) ir
def my:NL:=Q1 2 2 [] ya
abbrev Lu:=hG<|iB (g1 qJ) [gK 0]
def ot:FS:=gW (AD (fT<|il (qL .Lt) (gK 1) Lu) (gW (kn<|il A2 (gK 0)<|gK 1) ir) ir)<|gW (kn<|fC<|.int 0) ir
def kR:NL:=Q1 2 2 [] ot
abbrev DL:=fC<|.bl Y
abbrev WN:=hG<|il NO (hG<|fC<|.int 10)<|hG<|fC<|.int 18
def qf:FS:=gW (jy 2<|hU kR [gK 0,gK 1])<|gW (AD (fT<|il (qL .GtE) (gK 2) WN) (gW (kn<|nW [il Er (gK 2) WN,DL]) ir) ir)<|gW (kn<|nW [il zP (gK 2)<|hG<|fC<|.int 2147483647,fC<|.bl C]) ir
def lP:NL:=Q1 3 2 [2] qf
abbrev DN:=gW (pX 2) ir
abbrev ze:=hG<|il A2 (gK 0) oT
def sf:FS:=gW (AD (fT<|il A2 (gK 0) kZ) (gW (jy 2<|il zP ze<|gK 1)<|gW (uO 0 (il NT ze<|gK 1) oT) DN) ir)<|gW (uO 0 (il zP (hG<|il nG (hG<|il qI ze<|hG<|fC<|.int 48271)<|hG<|fC<|.int 29)<|hG<|fC<|.int 2147483647) oT)<|gW (jy 3<|il zP (hG<|il nG (hG<|il nG (hG<|il qI ze ze)<|hG<|il qI (hG<|fC<|.int 39373) ze)<|hG<|fC<|.int 7)<|hG<|fC<|.int 2147483629)<|gW (jy 3<|il zP (hG<|il nG (hG<|il qI (gK 3)<|gK 3)<|hG<|il qI (hG<|fC<|.int 16807)<|gK 3)<|hG<|fC<|.int 2147483587)<|gW (kn<|il zP (hG<|il NT (gK 3)<|hG<|fC<|.int 8)<|gK 1) ir
def iG:NL:=Q1 4 2 [2,3] sf
abbrev DM:=hG<|fC<|.int 2
abbrev Pd:=qh yt kZ
abbrev Pf:=hG<|il nG (gK 1) kZ
abbrev TH:=gW (kn<|iB (g1 mX) [gK 3]) ir
abbrev WY:=zZ 2<|hG<|hU iG [gK 0,hG<|iB (g1 qJ) [gK 2]]
abbrev Xj:=il A2 (hG<|nW [fC<|.int 1,Pd])<|hG<|hU iG [gK 0,DM]
abbrev Xl:=hG Xj
def zR:FS:=gW (jy 2<|iB (KL .lst Y) [kZ,Pf])<|gW (jy 3<|nW [])<|gW (nE (yp<|gK 1) (gP 4)<|gW (nA<|ml 3<|il qI (hG WY) Xl) ir) TH
def ke:NL:=Q1 5 2 [2,3,4] zR
abbrev xR:=hG<|nW []
abbrev WE:=jy 5<|hU iG [gK 0,gK 2]
abbrev WJ:=hG<|hU iG [gK 0,hG<|fC<|.int 3]
abbrev Xk:=jy 2<|il A2 (hG<|nW [fC<|.int 3,fC<|.int 4,fC<|.int 6]) WJ
abbrev zC3:=gW WE<|gW (AD (fT<|il (qL .Lt) (gK 5) DM) (gW (nA<|ml 3<|il A2 (hG<|nW [jI 4,qh yt<|gK 4])<|gK 5) ir) ir) ir
def abA:FS:=gW Xk<|gW (jy 3<|nW [])<|gW (nE (zN kZ Pf) (gP 4) zC3)<|gW (AD (fT<|il Ao (gK 3) xR) (gW (nA<|ml 3<|il qI Xl<|hG<|il nG kZ<|hG<|hU iG [gK 0,gK 1]) ir) ir) TH
def md:NL:=Q1 6 2 [2,3,4,5] abA
abbrev W9:=hG<|il A2 (gK 0)<|hG<|il Er (hG<|iB (g1 xE) [gK 1]) kZ
def qx:FS:=gW (kn<|il qI W9<|hG<|il A2 (hG<|nW [Pd,fC<|.int 1])<|hG<|iB (g1 Rl) [hG WA]) ir
def lg:NL:=Q1 2 2 [] qx
abbrev Xi:=gW (jy 4<|hU lg [gK 0,gK 3])<|gW (L7 2 (jI 4)<|hG<|iB (g1 xE) [gK 4]) ir
def vV:FS:=gW (jy 2 Te)<|gW (nE mC (gP 3) Xi)<|gW (kn<|iB (g1 mX) [hG<|iR [2] 1 (jd<|iB (g1 kG) [gK 2]) (gP 1) iZ<|ja<|il G4 (gK 0)<|gK 1]) ir
def kH:NL:=Q1 5 2 [2,3,4] vV
abbrev Tp:=nA<|ml 2<|jI 5
abbrev WM:=gW (jy 3<|il nG (gK 3) kZ) ir
abbrev WO:=fT<|il (qL .Lt) (gK 3)<|hG<|iB (g1 qJ) [gK 2]
abbrev WV:=jy 5<|hU kH [gK 4,hG<|il A2 (gK 2)<|gK 3]
abbrev zC9:=gW WV<|gW (AD (fT<|il nF (gK 5)<|gK 2) (gW Tp ir) ir) ir
def abz:FS:=gW (jy 2<|iB (g1 Bu) [gK 0])<|gW (jy 3<|fC<|.int 0)<|gW (ou WO (gW (nE mC (gP 4) zC9) WM) Ze) DN
def nr:NL:=Q1 6 2 [2,3,4,5] abz
abbrev zf:=jd<|jI 0
abbrev Zx:=hG<|iB (g1 Vv) [gK 6]
abbrev Ph:=iB (g1 kG) [Zx]
abbrev WK:=jy 4<|hU iG [gK 0,hG<|fC<|.int 4]
abbrev TM:=fT<|il (qL .Gt) (hG<|iB (g1 qJ) [gK 6])<|hG<|fC<|.int 30
abbrev WZ:=hG<|il nG kZ<|hG<|il zP (gK 4) DM
abbrev Zz:=hG<|iR [] 1 zf (gP 0) iZ<|ja<|iB (g1 xE) [gK 0]
abbrev W8:=gW (jy 6<|uj (gK 6)<|hG<|hU iG [gK 0,hG<|fC<|.int 30]) ir
abbrev TN:=iB (g1 mX) [Zz]
abbrev Xf:=ja TN
abbrev TQ:=il A2 (hG<|nW [fC<|.int 4,fC<|.int 8,fC<|.int 13]) WJ
abbrev Xm:=jy 3<|il nG (gK 1)<|hG<|hU iG [gK 0,hG<|il nG (hG<|il Er (gK 2)<|gK 1) kZ]
abbrev zC2:=AD (fT<|il Ao (gK 4)<|hG<|fC<|.int 3) (gW (jy 7<|iR [] 1 (jd<|jI 7) (gP 0) iZ Xf) ir) ir
abbrev zC0:=AD (fT<|il (qL .Gt) (gK 4) oT) (gW (jy 7<|iR [0,3] 1 (yp WZ) (gP 2) iZ<|ja<|hU ke [gK 0,gK 1])<|gW zC2<|gW (jy 6<|hU nr [hG<|uj (hG Ph) DM,gK 7]) ir) ir
def aby:FS:=gW Xm<|gW WK<|gW (AD (fT<|il Ao (gK 3) oT) (gW (kn<|vb [fC<|.int 0,vb []]) ir) ir)<|gW (jy 5<|hU iG [gK 0,hG TQ])<|gW (jy 6<|iR [0,3] 1 (yp<|gK 5) (gP 2) iZ<|ja<|hU md [gK 0,gK 1])<|gW zC0<|gW (jy 6 Ph)<|gW (AD TM W8 ir)<|gW (kn<|vb [jI 3,iB (g1 mX) [gK 6]]) ir
def nq:NL:=Q1 8 3 [3,4,5,6,7] aby
def Bw:FS:=gW (kn<|hU kI [gK 0,oT,kZ]) ir
def nZ:NL:=Q1 1 1 [] Bw
def vW:FS:=gW (kn<|Ab (qh (G5 [.tuple])<|gK 1)<|Ab (il Ao Tu<|gK 0)<|iB (g1 xD) [hG<|iR [] 1 mC (gP 0) iZ<|ja<|hU nZ [gK 0]]) ir
def lQ:NL:=Q1 2 2 [] vW
def EL:FS:=gW (kn<|il Ao W9<|hG<|JK WH (fC<|.int 1)<|fC<|.int 0) ir
def oA:NL:=Q1 2 2 [] EL
def yu:FS:=gW (kn<|iB (g1 Dd) [hG<|iR [0] 1 mC (gP 1) iZ<|ja<|hU oA [gK 0,gK 1]]) ir
def mn:NL:=Q1 2 2 [] yu
abbrev A9:=jd<|jI 3
abbrev Pc:=LK [gP 2,gP 3]
abbrev TF:=Ug Pc<|jI 0
def NW:FS:=gW TF<|gW (kn<|Ab (hU lQ [gK 2,gK 1])<|iB (g1 xD) [hG<|iR [1] 1 A9 (gP 1) iZ<|ja<|hU mn [gK 0,gK 1]]) ir
def sD:NL:=Q1 4 2 [2,3] NW
abbrev Lv:=hG<|vb [jI 1]
abbrev Tw:=vb [fC<|.int 0,fC<|.int 1]
abbrev zC7:=gW (jy 1<|iR [] 2 mC (gP 0) iZ<|Dw (jd Tw) (gP 1) iZ<|ja<|il nG (gK 0) Lv) ir
def zW:FS:=gW (jy 1<|nW [vb []])<|gW (nE (yp<|gK 0) (gP 2) zC7)<|gW (pX 1) ir
def mN:NL:=Q1 3 1 [1,2] zW
abbrev qv:=ja<|jI 1
abbrev TL:=hU mN [ze]
def acq:FS:=gW (kn<|iR [0] 1 (jd TL) (gP 1) (fT<|hU sD [gK 0,gK 1]) qv) ir
def oF:NL:=Q1 1 1 [] acq
abbrev WI:=sv<|fT<|hU jm [gK 0,gK 1]
def mY:FS:=gW (AD WI (gW Gz ir) ir) ir
def jn:NL:=Q1 2 2 [] mY
def abv:FS:=gW (kn<|iB (g1 mX) [hG<|iB (g1 uX) [hG<|iR [1] 1 zf (gP 1) iZ<|ja<|hU my [gK 0,gK 1]]]) ir
def kJ:NL:=Q1 2 2 [] abv
def VA:FS:=gW TF<|gW (nA<|hU jn [gK 2,gK 1])<|gW (kn<|vb [jI 2,iB (g1 mX) [hG<|iB (g1 nV) [hG<|iR [1] 1 A9 (gP 1) iZ<|ja<|hU kJ [(gK 1),(gK 0)]]]]) ir
def Dm:NL:=Q1 4 2 [2,3] VA
abbrev Wz:=il (qL .Gt) (gK 3) oT
abbrev WQ:=il Er (hG<|iB (g1 xE) [gK 3]) kZ
abbrev Xr:=gW (uO 1 (JK (fT Wz) (jI 2)<|qh yt<|gK 2)<|hG WQ) ir
def Ro:FS:=gW (jy 1<|iB (g1 Bu) [gK 0])<|gW (nE (C6 1<|jI 0) Pc Xr)<|gW (kn<|iB (g1 mX) [gK 1]) ir
def tJ:NL:=Q1 4 1 [1,2,3] Ro
def abx:FS:=gW (nA<|hU jn [Lu,gK 1])<|gW (kn<|iB (g1 mX) [hG<|iR [0] 1 (jd<|hU tJ [gK 1]) (gP 1) iZ<|ja<|JK (fT<|hU oA [gK 0,gK 1]) (fC<|.int 1)<|fC<|.int 0]) ir
def lj:NL:=Q1 2 2 [] abx
def zU:FS:=gW (kn<|Ab (hU jm [ze,gK 1])<|il Ao (hG<|hU Dm [gK 0,gK 1])<|gK 0) ir
def lL:NL:=Q1 2 2 [] zU
abbrev WB:=hG<|il nG (gK 0) kZ
def ab3:FS:=gW (kn<|iR [] 1 (zN (hG<|qh yt<|gK 0) WB) (gP 0) (fT<|il D4 (gK 0) oT)<|ja<|jI 0) ir
def mM:NL:=Q1 1 1 [] ab3
abbrev Tr:=il nF (gK 2)<|gK 1
abbrev Ww:=il nG (gK 1)<|hG<|vb [jI 2]
abbrev Zy:=il nF (hG<|qh yt<|gK 2)<|gK 1
abbrev TK:=fT Zy
def xF:FS:=gW (kn<|iR [0] 2 mC (gP 1) iZ<|Dw (jd<|hU mM [gK 0]) (gP 2) (sy (fT Tr) TK)<|ja Ww) ir
def lN:NL:=Q1 2 2 [] xF
abbrev Tz:=hG Pd
abbrev WD:=hG<|hU kJ [gK 2,gK 1]
abbrev TJ:=jd<|hU lN [gK 2,gK 4]
abbrev Xc:=il Ao (hG<|iB (g1 xE) [hG<|il A2 (gK 1) Tz])<|gK 0
abbrev Xn:=fT<|iB (g1 xD) [hG<|iR [0,2] 1 mC (gP 2) iZ<|ja<|il Js WD<|gK 0]
abbrev Xp:=jy 6<|iR [5] 1 A9 (gP 1) (fT Xc) qv
def xG:FS:=gW TF<|gW (jy 4<|nW [vb []])<|gW (nE (zN kZ<|hG<|il nG (gK 2) kZ) (gP 5)<|gW Xp<|gW (jy 4<|iR [1,6] 1 TJ (gP 2) Xn<|ja<|jI 2) ir)<|gW (pX 4) ir
def lO:NL:=Q1 7 2 [2,3,4,5,6] xG
abbrev Wy:=hG<|il A2 (gK 1) kZ
def zV:FS:=gW (kn<|JK (fT<|il Ao (hG<|iB (g1 qJ) [hG<|il A2 (gK 0) kZ])<|hG<|iB (g1 qJ) [Wy]) (hU lO [gK 0,Wy])<|nW []) ir
def oG:NL:=Q1 2 2 [] zV
def abu:FS:=gW (kn<|hU oG [gK 0,gK 0]) ir
def jJ:NL:=Q1 1 1 [] abu
abbrev Pe:=hU lj [gK 0,gK 1]
def ab2:FS:=gW (kn<|il (qL .LtE) (gK 0)<|hG Pe) ir
def kx:NL:=Q1 2 2 [] ab2
abbrev Xb:=gW (AD (fT<|hU kx [gK 2,gK 0]) tR ir) ir
def ac3:FS:=gW (nE mC (gP 2) Xb)<|gW (kn DL) ir
def pQ:NL:=Q1 3 2 [2] ac3
abbrev Tt:=il tE (gK 4)<|gK 3
def yB(a:NL):FS:=gW (jy 2<|nW [])<|gW (jy 3 N0)<|gW (nE zf (gP 4)<|gW (AD (fT Tt) (gW (L8 5 [4,7] a)<|gW Tp<|gW (nE (jd<|jI 5) (gP 6)<|gW (nA<|EO 3<|jI 6) ir) ir) ir) ir) DN
def uZ:FS:=gW (kn<|iB (g1 kG) [hG<|N1 [0] 1 mC (gP 1) iZ<|vn Pe]) ir
def iE:NL:=Q1 2 2 [] uZ
def se:FS:=gW (kn<|iB (g1 mX) [hG<|hU iE [gK 0,gK 1]]) ir
def jD:NL:=Q1 2 2 [] se
def sh:FS:=gW (jy 2<|hU jJ [gK 0])<|Uj 2<|D9 3 1 [2] 5<|yB jD
def oz:NL:=Q1 4 2 [2,3] sh
abbrev Tq:=hU oF [gK 0]
def EK:FS:=gW (kn<|hU oz [gK 0,hG Tq]) ir
def sA:NL:=Q1 1 1 [] EK
abbrev WC:=ja<|hU kx [gK 0,gK 1]
abbrev Xa:=gW (nA<|hU jn [ze,gK 2]) ir
abbrev Xg:=iB (g1 xD) [hG<|iR [1] 1 zf (gP 1) iZ WC]
def IE:FS:=gW (nE mC (gP 2) Xa)<|gW (kn<|iR [1] 1 (jd Tq) (gP 1) (fT Xg) qv) ir
def ku:NL:=Q1 3 2 [2] IE
abbrev W4:=gW (AD (fT<|hU pQ [gK 2,gK 1]) DN ir) ir
def mI:FS:=gW (nE zf (gP 2) W4)<|gW (kn<|fC .T2) ir
def lu:NL:=Q1 3 2 [2] mI
abbrev Pa:=hU sA [gK 0]
abbrev Pb:=il Js (gK 1)<|gK 0
abbrev Xe:=fT<|iB (g1 Dd) [hG<|iR [0] 1 mC (gP 1) iZ<|ja Pb]
def De:FS:=gW (jy 2<|hU ku [gK 0,gK 1])<|gW (kn<|iR [2] 1 (jd Pa) (gP 1) (sv Xe) qv) ir
def wc:NL:=Q1 3 2 [2] De
abbrev Zw:=hG Pa
abbrev Wu:=hG<|hU ku [gK 0,gK 1]
abbrev Pg:=iB (g1 qJ) [Zw]
def vX:FS:=gW (AD (Dk Wv<|sv<|fT<|iB (g1 xD) [hG<|iR [0] 1 mC (gP 1) iZ<|ja<|hU lL [gK 0,gK 1]]) tR ir)<|gW (kn<|il Ao (hG<|iB (g1 qJ) [Wu])<|hG Pg) ir
def mK:NL:=Q1 2 2 [] vX
abbrev TC:=jd<|By (gK 3) kZ
abbrev WL:=hU lu [gK 1,hG<|nW [jI 4]]
abbrev Xh:=iB (g1 xD) [hG<|iR [4] 1 (xy<|gK 2) (gP 1) iZ WC]
def si:FS:=gW (jy 1<|hU jJ [gK 0])<|gW (jy 2<|nW [])<|gW (nE (jd Pa) (gP 3)<|gW (nE TC (gP 4)<|gW (AD (fT Xh) (gW (nA<|ml 2 WL) ir) ir) ir) ir) DN
def oE:NL:=Q1 5 1 [1,2,3,4] si
abbrev Wt:=hG<|hU ku [gK 0,gK 5]
abbrev W3:=il Ao (hG<|iB (g1 qJ) [Wt])<|gK 1
abbrev zC1:=gW (jy 5<|iR [4] 1 A9 (gP 1) (fT<|il D4 (gK 1)<|gK 0) qv)<|gW (AD (fT W3) (gW (jy 3<|jI 5) ir) ir) ir
def ui:FS:=gW (jy 1 Pg)<|gW (jy 2<|hU oE [gK 0])<|gW (jy 3<|iB (g1 Bu) [gK 2])<|gW (nE (jd<|jI 2) (gP 4) zC1) TH
def nk:NL:=Q1 6 1 [1,2,3,4,5] ui
abbrev Tv:=fT<|il nF (gK 1)<|gK 0
abbrev Ws:=hG<|hU wc [gK 1,gK 7]
abbrev Wx:=hG<|il A2 (gK 1) oT
abbrev WS:=il D4 (hG<|hU wc [gK 1,gK 5]) xR
abbrev WT:=hG<|hU iG [gK 1,Lu]
abbrev W7:=hG<|nW [hU ke [gK 0,Wx]]
abbrev zC8:=iR [8] 1 A9 (gP 1) (fT<|il Ao (hG<|iR [0] 1 mC (gP 1) (fT Pb) qv) xR) qv
abbrev zC5:=iR [2,0] 1 (yp<|hG<|hU iG [gK 0,hG<|fC<|.int 6]) (gP 2) iZ<|ja<|il A2 (gK 0) WT
def mH:FS:=gW (jy 5 zC5)<|gW (jy 6<|hU ku [gK 1,gK 5])<|gW (AD (Dk (fT WS)<|fT<|il D4 (hG<|iR [6] 1 (jd<|jI 4) (gP 1) Tv qv) xR) tR ir)<|gW (jy 7<|il nG (gK 5) W7)<|gW (jy 8<|hU ku [gK 1,gK 7])<|gW (AD (fT<|il D4 (hG<|iR [6] 1 (jd<|jI 8) (gP 1) Tv qv) xR) tR ir)<|gW (jy 9 zC8)<|gW (kn<|il Ao Ws<|gK 9) ir
def mJ:NL:=Q1 10 5 [5,6,7,8,9] mH
abbrev WG:=jy 2<|hU lP [gK 0,gK 1]
abbrev WR:=il D4 (hG<|hU wc [gK 3,gK 7]) xR
abbrev WU:=il (qL .Lt) (hG<|iB (g1 qJ) [gK 4])<|hG<|fC<|.int 41
abbrev WX:=jy 3<|hU nq [gK 2,oT,hG<|fC<|.int 4]
abbrev WW:=il zQ (hG<|hU mK [gK 3,gK 7])<|hG DL
abbrev W0:=sv<|fT<|hU mJ [gK 2,gK 3,gK 4,gK 5,gK 6]
abbrev W5:=il D4 (hG<|hU ku [gK 3,gK 7])<|hG<|iB (g1 nV) [gK 6]
abbrev W6:=iR [] 1 (jd<|jI 5) (gP 0) iZ<|ja<|il A2 (gK 0) oT
abbrev Xd:=il zQ (hG<|hU mK [gK 3,hG<|iB (g1 mX) [gK 4]])<|hG DL
abbrev Xo:=Dk (fT W5)<|fT WR
abbrev Xq:=sy (fT WU)<|fT<|il D4 (hG<|hU ku [gK 3,gK 4])<|hG<|iB (g1 nV) [gK 6]
abbrev zC6:=sy (fT<|il D4 (gK 7)<|hG<|vb [])<|fT<|il zQ (hG<|hU mK [gK 3,hG<|uj (gK 7) Tz])<|hG<|fC<|.bl C
abbrev zC4:=Dk (fT Xd)<|fT WW
def zS:FS:=gW (nE (yp<|hG<|iB (g2 NQ) [kZ,hG<|iB (g2 NP) [Lu,hG<|fC<|.int 4]]) (gP 1)<|gW WG<|gW WX<|gW (jy 4<|hU jJ [gK 3])<|gW (jy 5<|hU sA [gK 3])<|gW (jy 6 W6)<|gW (jy 7<|hU nk [gK 3])<|gW (AD zC4 tR ir)<|gW (AD Xo tR ir)<|gW (AD zC6 tR ir)<|gW (AD Xq tR ir)<|gW (AD W0 tR ir) ir)<|gW (kn DL) ir
def uk:NL:=Q1 8 1 [1,2,3,4,5,6,7] zS
end PV
namespace K55
open L2 PX PV
noncomputable def top(i:Nat):Stmt:=PySem.Challenge.pw_twinriddles_k55_whole_rows.main.body.getD i<|.Pass ⟨0,0,0,0⟩
abbrev TB55:List (gJ×av):=[(197,"kinds_among.<locals>.reach")]
abbrev AZ(Z:ZZ)(i:Nat):Prop:=Fz Z.K Z.mg (Jy<|top i)<|top i
abbrev Ow(Z:ZZ)(k i:Nat)(a:NL):Prop:=Oz Z k (Jy<|top i) (Jw<|top i) a
def aS:Lean.Syntax:=X9 [(`QO,3,[(0,[`xV]),(1,[`xO])]),(`QX,3,[(211,[`xLS,`ZE,`ZJ]),(231,[`ZF,`xI]),(0,[`x3,`xW,`x2,`x1,`x7]),(221,[`xU]),(2311,[`xB,`xT]),(111,[`ZL,`ZK,`xIf,`xCh]),(11,[`xIx,`xC,`ZM,`Xv,`ZD,`ZC,`ZG]),(1,[`Xu,`ZI,`ZA,`xBo,`ZH]),(2221,[`xUT]),(21,[`xSA])]),(`QA,3,[(11,[`xA]),(0,[`LZ])]),(`QQ,6,[(11,[`s1]),(0,[`s0])]),(`QS,6,[(1,[`sR,`sE]),(21,[`sS]),(111,[`sI,`sF,`IX]),(211,[`sC]),(2,[`sRV]),(11,[`sT,`sW]),(0,[`sX]),(2111,[`sDP])]),(`QG,4,[(2,[`gN]),(11,[`gT])]),(`QP.mk,0,[(0,[`QJ,`Qz,`Qw,`QD,`adi,`Qx,`QH]),(1,[`U1,`UZ,`adh,`U0]),(11,[`Qy])]),(`QL,3,[(11,[`xL]),(0,[`xL0])]),(`QT,3,[(111,[`XM]),(1,[`ZQ,`tW,`Ji])]),(`QC.mk,0,[(0,[`ad7,`yg,`aeb,`acW,`ad8]),(1,[`aea,`we,`ad9,`acV,`acU]),(11,[`ab8,`ad3])]),(`QI,5,[(1,[`iS,`iSV]),(21,[`iR1,`iR2,`iE1])]),(`QW,3,[(11,[`wOr,`ZO]),(1,[`ZN,`Xz])]),(`QF,3,[(0,[`f0]),(1,[`f1])]),(`QB,6,[(1,[`bE]),(31111,[`bF])])]
def qS{P:Prop}(h:autoParam P aS):P:=h
def AO{Z:ZZ}{k:Nat}{st:aU}{c:jc}{fs:FS}(a:Fz Z.K Z.mg (Jy st) st)(_:Tx Z.mg)(N:List Str:=loS st)(d:Bd Z k (Jy st) st N (Jw st) c fs:=by exact qS)(S:SS N (Jw st) (gS st):=by exact J7)(b:Gw (Jy st) st (Jw st):=by intro _ _ _ _ _ _;repeat' (first|exact J6 rfl|refine GO λ_=>?_)):Oz Z (k+1) (Jy st) (Jw st) (Q1 (A1 N) (Jw st).length c fs):=ozB a S b d
section
variable {Z:ZZ}{k:Nat}
def aci(a:AZ Z 4)(T:Tx Z.mg):Ow Z (k+1) 4 lK:=AO a T
def abT(a:AZ Z 5)(T:Tx Z.mg)(b:Ow Z k 4 lK):Ow Z (k+1) 5 kI:=AO a T
def adk(a:AZ Z 6)(T:Tx Z.mg)(b:Ow Z k 5 kI):Ow Z (k+1) 6 nZ:=AO a T
def acE(a:AZ Z 7)(T:Tx Z.mg)(b:Ow Z k 5 kI):Ow Z (k+1) 7 oB:=AO a T
def acD(a:AZ Z 8)(T:Tx Z.mg)(b:Ow Z k 4 lK)(c:Ow Z k 7 oB):Ow Z (k+1) 8 mq:=AO a T
def abU(a:AZ Z 9)(T:Tx Z.mg)(b:Ow Z k 6 nZ):Ow Z (k+1) 9 lQ:=AO a T
def MY(a:AZ Z 10)(T:Tx Z.mg):Ow Z (k+1) 10 oA:=AO a T
def yo(a:AZ Z 11)(T:Tx Z.mg)(b:Ow Z k 10 oA):Ow Z (k+1) 11 mn:=AO a T
def MX(a:AZ Z 12)(T:Tx Z.mg)(c:Ow Z k 9 lQ)(b:Ow Z k 11 mn):Ow Z (k+1) 12 sD:=AO a T
def zF(a:AZ Z 13)(T:Tx Z.mg):Ow Z (k+1) 13 mN:=AO a T
def acF(a:AZ Z 14)(T:Tx Z.mg)(b:Ow Z k 13 mN)(c:Ow Z k 12 sD):Ow Z (k+1) 14 oF:=AO a T
def abq(a:AZ Z 16)(T:Tx Z.mg)(b:Ow Z k 8 mq):Ow Z (k+1) 16 jm:=AO a T
def xo(a:AZ Z 17)(T:Tx Z.mg)(b:Ow Z k 16 jm):Ow Z (k+1) 17 jn:=AO a T
def acg(a:AZ Z 18)(T:Tx Z.mg):Ow Z (k+1) 18 my:=AO a T
def abl(a:AZ Z 19)(T:Tx Z.mg)(b:Ow Z k 18 my):Ow Z (k+1) 19 kJ:=AO a T
def U9(a:AZ Z 20)(T:Tx Z.mg)(b:Ow Z k 17 jn)(c:Ow Z k 19 kJ):Ow Z (k+1) 20 Dm:=AO a T
def QZ(a:AZ Z 22)(T:Tx Z.mg):Ow Z (k+1) 22 tJ:=AO a T
def abm(a:AZ Z 21)(T:Tx Z.mg)(b:Ow Z k 17 jn)(d:Ow Z k 22 tJ)(c:Ow Z k 10 oA):Ow Z (k+1) 21 lj:=AO a T
def zC(a:AZ Z 24)(T:Tx Z.mg)(b:Ow Z k 16 jm)(c:Ow Z k 20 Dm):Ow Z (k+1) 24 lL:=AO a T
def abW(a:AZ Z 25)(T:Tx Z.mg):Ow Z (k+1) 25 mM:=AO a T
def xk(a:AZ Z 26)(T:Tx Z.mg)(b:Ow Z k 25 mM):Ow Z (k+1) 26 lN:=AO a T
def xm(a:AZ Z 27)(T:Tx Z.mg)(b:Ow Z k 26 lN)(c:Ow Z k 19 kJ):Ow Z (k+1) 27 lO:=AO a T
def zE(a:AZ Z 28)(T:Tx Z.mg)(b:Ow Z k 27 lO):Ow Z (k+1) 28 oG:=AO a T
def abk(a:AZ Z 29)(T:Tx Z.mg)(b:Ow Z k 28 oG):Ow Z (k+1) 29 jJ:=AO a T
abbrev Nq(Z:ZZ)(k:Nat):Prop:=LtZ Z k "lots" (top 30) ["things","reach","found","seen","thing","lot","other","0"] ["things","reach"] [2,3,4,5,6] 5 1 yB
def RL:Gw "lots" (top 30) ["things","reach"]:=λ_ _ _ _ _ _=>GO λ_=>GO λ_=>J6 I
def QU(a:AZ Z 30)(T:Tx Z.mg):Nq Z k:=by have S:SS ["things","reach","found","seen","thing","lot","other","0"] ["things","reach"] (gS<|top 30):=J7;refine ltZ a S RL λf x A g s Q m w v O u L E q scope c l B hv t N y d e b o=>?_;obtain⟨n,rfl⟩:=Wq.mp hv;have r:∀i,(⟨λ_=>False,J<|oi v m 5 [n]⟩:LL).p i->i<2:=λ_ h=>h.elim;exact(s1 (sS b<|Xu xL0)<|s1 (sS b<|Xs T)<|s1 (sF (iS xW) (gN b)<|s1 (sI (XM ⟨acA d⟩ xV xV) (s1 (sCl (j:=1) (z:=oi v m 5 [n]) o I t b)<|s1 (sE<|Xv xV xW)<|s1 (sF (iS xW) (gN b)<|s1 (sE<|Xt e xV xW) s0) s0) s0) s0)<|s1 (sRV r) s0)
def uT(a:AZ Z 31)(T:Tx Z.mg)(b:Ow Z k 21 lj):Ow Z (k+1) 31 iE:=AO a T
abbrev uf(Z:ZZ)(k:Nat):Prop:=Ho Z TB55 k "kinds_among" ["riddle","some"] oz
def abH:Gw "kinds_among" (top 32) ["riddle","some"]:=λ_ _ _ _ _ _=>GO λ_=>GO λ_=>J6 I
def zB(a:TbK Z TB55 "kinds_among" (top 32) "kinds_among.<locals>.reach" 197)(T:Tx Z.mg)(c:Ow Z k 29 jJ)(b:Ow Z k 31 iE)(e:Nq Z k):uf Z (k+3):=by have S:SS ["riddle","some","turnings","reach"] ["riddle","some"] (gS<|top 32):=J7;have o:=c.up (j:=k+2) (by omega);have d:=b.up (j:=k+2) (by omega);refine ozQ (asg:=[2,3]) (fs:=sh) a S abH λf p A h s Q E L l g r q m n i tb=>?_;exact(s1 (sS i<|xU g o<|xA xV LZ)<|Z2<|sLo (N':=["turnings"]) (xp:="answer") (asgR:=[]) e J7 tb g i (cOk S) (by decide+kernel) (λ_ _ _ _ _ _ _ L l g=>s1 (sR<|xT T I ⟨yg⟩<|xA (xO<|xU g b<|xA xV<|xA xV LZ) LZ) s0) I<|aaL<|by decide+kernel)
abbrev sQ(Z:ZZ)(k:Nat):Prop:=Ho Z TB55 k "kinds" ["riddle"] sA
def Ox:Gw "kinds" (top 33) ["riddle"]:=λ_ _ _ _ _ _=>GO λ_=>J6 I
def MW(a:AZ Z 33)(T:Tx Z.mg)(c:Ow Z k 14 oF)(b:uf Z k):sQ Z (k+1):=by have S:SS ["riddle"] ["riddle"] (gS<|top 33):=J7;refine Jx (asg:=[]) (fs:=EK) a S Ox λ_ _ _ _ _ _ _ _ _ _ _ _ _ _ _ _=>?_;exact qS
def abS(a:AZ Z 35)(T:Tx Z.mg)(b:Ow Z k 21 lj):Ow Z (k+1) 35 kx:=AO a T
def adj(a:AZ Z 36)(T:Tx Z.mg)(b:Ow Z k 35 kx):Ow Z (k+1) 36 pQ:=AO a T
def vM(a:AZ Z 37)(T:Tx Z.mg)(b:Ow Z k 36 pQ):Ow Z (k+1) 37 lu:=AO a T
def QY(a:AZ Z 38)(T:Tx Z.mg)(b:Ow Z k 17 jn)(d:Ow Z k 14 oF)(c:Ow Z k 35 kx):Ow Z (k+1) 38 ku:=AO a T
abbrev Gq(Z:ZZ)(k:Nat):Prop:=Ho Z TB55 k "lost" ["riddle","rows"] wc
def RM:Gw "lost" (top 39) ["riddle","rows"]:=λ_ _ _ _ _ _=>GO λ_=>GO λ_=>J6 I
def QV(a:AZ Z 39)(T:Tx Z.mg)(c:Ow Z k 38 ku)(b:sQ Z k):Gq Z (k+1):=by have S:SS ["riddle","rows","still_there"] ["riddle","rows"] (gS<|top 39):=J7;refine Jx (asg:=[2]) (fs:=De) a S RM λ_ _ _ _ _ _ _ _ _ _ _ _ _ _ _ _=>?_;exact qS
abbrev xS(Z:ZZ)(k:Nat):Prop:=Ho Z TB55 k "are_sharp" ["riddle","thing"] mK
def ab9:Gw "are_sharp" (top 40) ["riddle","thing"]:=λ_ _ _ _ _ _=>GO λ_=>GO λ_=>J6 I
def abV(a:AZ Z 40)(T:Tx Z.mg)(b:Ow Z k 24 lL)(d:Ow Z k 38 ku)(c:sQ Z k):xS Z (k+1):=by have S:SS ["riddle","thing"] ["riddle","thing"] (gS<|top 40):=J7;refine Jx (asg:=[]) (fs:=vX) a S ab9 λ_ _ _ _ _ _ _ _ _ _ _ _ _ _ _ _=>?_;exact qS
abbrev ug(Z:ZZ)(k:Nat):Prop:=Ho Z TB55 k "enough_rows" ["riddle"] oE
def abJ:Gw "enough_rows" (top 41) ["riddle"]:=λ_ _ _ _ _ _=>GO λ_=>J6 I
def zD(a:AZ Z 41)(T:Tx Z.mg)(d:Ow Z k 29 jJ)(e:sQ Z k)(c:Ow Z k 35 kx)(b:Ow Z k 37 lu):ug Z (k+1):=by have S:SS ["riddle","turnings","rows","kind","answer"] ["riddle"] (gS<|top 41):=J7;refine Jx (asg:=[1,2,3,4]) (fs:=si) a S abJ λ_ _ _ _ _ _ _ _ _ _ _ _ _ _ _ _=>?_;exact qS
abbrev vF(Z:ZZ)(k:Nat):Prop:=Ho Z TB55 k "sharp_rows" ["riddle"] nk
def abi:Gw "sharp_rows" (top 42) ["riddle"]:=λ_ _ _ _ _ _=>GO λ_=>J6 I
def abj(a:AZ Z 42)(T:Tx Z.mg)(c:sQ Z k)(b:ug Z k)(d:Ow Z k 38 ku):vF Z (k+1):=by have S:SS ["riddle","many","rows","wanted","row","others"] ["riddle"] (gS<|top 42):=J7;refine Jx (asg:=[1,2,3,4,5]) (fs:=ui) a S abi λ_ _ _ _ _ _ _ _ _ _ _ _ _ _ _ _=>?_;exact qS
def zA(a:AZ Z 44)(T:Tx Z.mg):Ow Z (k+1) 44 kR:=AO a T
def abR(a:AZ Z 45)(T:Tx Z.mg)(b:Ow Z k 44 kR):Ow Z (k+1) 45 lP:=AO a T
def ach(a:AZ Z 46)(T:Tx Z.mg):Ow Z (k+1) 46 iG:=AO a T
def abp(a:AZ Z 47)(T:Tx Z.mg)(b:Ow Z k 46 iG):Ow Z (k+1) 47 md:=AO a T
def zy(a:AZ Z 48)(T:Tx Z.mg)(b:Ow Z k 46 iG):Ow Z (k+1) 48 ke:=AO a T
def yn(a:AZ Z 49)(T:Tx Z.mg):Ow Z (k+1) 49 lg:=AO a T
def vL(a:AZ Z 50)(T:Tx Z.mg)(b:Ow Z k 49 lg):Ow Z (k+1) 50 kH:=AO a T
def abo(a:AZ Z 52)(T:Tx Z.mg)(b:Ow Z k 50 kH):Ow Z (k+1) 52 nr:=AO a T
def abn(a:AZ Z 53)(T:Tx Z.mg)(e:Ow Z k 46 iG)(c:Ow Z k 47 md)(b:Ow Z k 48 ke)(d:Ow Z k 52 nr):Ow Z (k+1) 53 nq:=AO a T
abbrev pG(Z:ZZ)(k:Nat):Prop:=Ho Z TB55 k "_law_some_right" ["_law_state_here","_law_riddle_here","_law_likes","_law_some","_law_firsts"] mJ
def wq:Gw "_law_some_right" (top 54) ["_law_state_here","_law_riddle_here","_law_likes","_law_some","_law_firsts"]:=λ_ _ _ _ _ _=>GO λ_=>GO λ_=>GO λ_=>GO λ_=>GO λ_=>J6 I
def vK(a:AZ Z 54)(T:Tx Z.mg)(d:Ow Z k 46 iG)(e:Ow Z k 38 ku)(c:Gq Z k)(b:Ow Z k 48 ke):pG Z (k+1):=by have S:SS ["_law_state_here","_law_riddle_here","_law_likes","_law_some","_law_firsts","_law_rows","_law_there","_law_more","_law_later","_law_gone"] ["_law_state_here","_law_riddle_here","_law_likes","_law_some","_law_firsts"] (gS<|top 54):=J7;refine Jx (asg:=[5,6,7,8,9]) (fs:=mH) a S wq λ_ _ _ _ _ _ _ _ _ _ _ _ _ _ _ _=>?_;exact qS
def V7:Gw "law" (top 55) ["_law_script"]:=λ_ _ _ _ _ _=>GO λ_=>J6 I
def Va{f:gJ}{h:mr}(F:Gv Z.K "law" "law" (top 55) f h)(T:Tx Z.mg)(e:Ow Z k 45 lP)(b:Ow Z k 53 nq)(i:Ow Z k 29 jJ)(j:sQ Z k)(c:vF Z k)(d:xS Z k)(l:Ow Z k 38 ku)(g:Gq Z k)(a:pG Z k):AP Z.P Z.w Z.K Z.mg Z.base Au (k+1) f h ["_law_script"] (spT TB55<|G8 Z.K uk):=by have S:SS ["_law_script","_law_k","_law_state_here","_law_riddle_here","_law_likes","_law_some","_law_firsts","_law_rows"] ["_law_script"] (gS<|top 55):=J7;refine fnU (asg:=[1,2,3,4,5,6,7]) (fs:=zS) F S λ_ _ _ _ _ _ _ _ _ _ _ _ _ _ _ _=>?_;exact qS
end
def all_mk{l:PySem.W.OpenLaw}{w:ik}{K:iz}{a:lz}{fa:gJ}(u7:a "law"=z8 (.ref fa))(T:Tx a)
  (a0:Fz K a "is_whole" (top 4))
  (a1:Fz K a "is_number" (top 5))
  (a2:Fz K a "is_bit" (top 6))
  (a3:Fz K a "is_name" (top 7))
  (a4:Fz K a "is_sign" (top 8))
  (a5:Fz K a "is_answer" (top 9))
  (a6:Fz K a "is_so" (top 10))
  (a7:Fz K a "keeps_clause" (top 11))
  (a8:Fz K a "keeps" (top 12))
  (a9:Fz K a "all_answers" (top 13))
  (a10:Fz K a "answers" (top 14))
  (a11:Fz K a "is_turning" (top 16))
  (a12:Fz K a "check_turning" (top 17))
  (a13:Fz K a "led_sign" (top 18))
  (a14:Fz K a "led_clause" (top 19))
  (a15:Fz K a "led" (top 20))
  (a16:Fz K a "back" (top 22))
  (a17:Fz K a "led_answer" (top 21))
  (a18:Fz K a "is_likeness" (top 24))
  (a19:Fz K a "all_signs" (top 25))
  (a20:Fz K a "longer_by_one" (top 26))
  (a21:Fz K a "leading_among" (top 27))
  (a22:Fz K a "all_leading" (top 28))
  (a23:Fz K a "likenesses" (top 29))
  (a24:Fz K a "lots" (top 30))
  (a25:Fz K a "answers_reached" (top 31))
  (i:Kf K a "kinds_among" (top 32) 197)
  (a27:Fz K a "kinds" (top 33))
  (a28:Fz K a "keeps_row" (top 35))
  (a29:Fz K a "lowers" (top 36))
  (a30:Fz K a "first_lowering" (top 37))
  (a31:Fz K a "left" (top 38))
  (a32:Fz K a "lost" (top 39))
  (a33:Fz K a "are_sharp" (top 40))
  (a34:Fz K a "enough_rows" (top 41))
  (a35:Fz K a "sharp_rows" (top 42))
  (a36:Fz K a "_law_cell_at" (top 44))
  (a37:Fz K a "_law_state" (top 45))
  (a38:Fz K a "_law_take" (top 46))
  (a39:Fz K a "_law_clause" (top 47))
  (a40:Fz K a "_law_turning" (top 48))
  (a41:Fz K a "_law_led_sign" (top 49))
  (a42:Fz K a "_law_led_clause" (top 50))
  (a43:Fz K a "_law_closed" (top 52))
  (a44:Fz K a "_law_riddle" (top 53))
  (a45:Fz K a "_law_some_right" (top 54))
  (a46:Fz K a "law" (top 55))
  :∃o:mr,(∀(s:gM)(v:gU),eF s o ⟨[v],[]⟩ [("_law_script",v)])/\(∀p∈TB55,∃c,PySem.W.codeHdIn K c p.1=At)/\∀base:ip,K.In base->base.Ns aj a->(∀p∈TB55,base.BuiltinsAt a p.1)->AP l.prog w K a base Au 15 fa o ["_law_script"] (spT TB55<|G8 K uk):=by
 obtain⟨o,F,hb⟩:=fzL a46 u7 V7;refine⟨o,hb,aC i.cd<|aN,λbase KB _ BB=>?_⟩
 let z:ZZ:=⟨l.prog,w,K,a,base⟩
 have O0:=aci (Z:=z) (k:=0) a0 T;have O1:=abT (Z:=z) (k:=1) a1 T O0.up;have O2:=adk (Z:=z) (k:=2) a2 T O1.up;have O3:=acE (Z:=z) (k:=2) a3 T O1.up;have O4:=acD (Z:=z) (k:=3) a4 T O0.up O3.up;have O5:=abU (Z:=z) (k:=3) a5 T O2.up;have O6:=MY (Z:=z) (k:=0) a6 T;have O7:=yo (Z:=z) (k:=1) a7 T O6.up;have O8:=MX (Z:=z) (k:=4) a8 T O5.up O7.up;have O9:=zF (Z:=z) (k:=0) a9 T;have b:=acF (Z:=z) (k:=5) a10 T O9.up O8.up;have d:=abq (Z:=z) (k:=4) a11 T O4.up;have X:=xo (Z:=z) (k:=5) a12 T d.up;have q:=acg (Z:=z) (k:=0) a13 T;have e:=abl (Z:=z) (k:=1) a14 T q.up;have r:=U9 (Z:=z) (k:=6) a15 T X.up e.up;have t:=QZ (Z:=z) (k:=0) a16 T;have f:=abm (Z:=z) (k:=6) a17 T X.up t.up O6.up;have u:=zC (Z:=z) (k:=7) a18 T d.up r.up;have x:=abW (Z:=z) (k:=0) a19 T;have y:=xk (Z:=z) (k:=1) a20 T x.up;have A:=xm (Z:=z) (k:=2) a21 T y.up e.up;have B:=zE (Z:=z) (k:=3) a22 T A.up;have V:=abk (Z:=z) (k:=4) a23 T B.up;have C:=QU (Z:=z) (k:=8) a24 T;have E:=uT (Z:=z) (k:=7) a25 T f.up;have H:=zB (Z:=z) (k:=8) (i.tb KB BB<|by decide) T V.up E.up C;have m:=MW (Z:=z) (k:=11) a27 T b.up H.up;have S:=abS (Z:=z) (k:=7) a28 T f.up;have I:=adj (Z:=z) (k:=8) a29 T S.up;have L:=vM (Z:=z) (k:=9) a30 T I.up;have j:=QY (Z:=z) (k:=8) a31 T X.up b.up S.up;have g:=QV (Z:=z) (k:=12) a32 T j.up m.up;have O:=abV (Z:=z) (k:=12) a33 T u.up j.up m.up;have Q:=zD (Z:=z) (k:=12) a34 T V.up m.up S.up L.up;have G:=abj (Z:=z) (k:=13) a35 T m.up Q.up j.up;have J:=zA (Z:=z) (k:=0) a36 T;have M:=abR (Z:=z) (k:=1) a37 T J.up;have n:=ach (Z:=z) (k:=0) a38 T;have N:=abp (Z:=z) (k:=1) a39 T n.up;have h:=zy (Z:=z) (k:=1) a40 T n.up;have U:=yn (Z:=z) (k:=0) a41 T;have Y:=vL (Z:=z) (k:=1) a42 T U.up;have D:=abo (Z:=z) (k:=2) a43 T Y.up;have P:=abn (Z:=z) (k:=3) a44 T n.up N.up h.up D.up;have R:=vK (Z:=z) (k:=13) a45 T n.up j.up g.up h.up;exact Va (Z:=z) (k:=14) F T M.up P.up V.up m.up G.up O.up j.up g.up R.up
end K55
namespace PV
open L2 PX
@[simp] theorem abg(d:D)(a:Dn):fC d a=J ((d,C),a):=rfl
@[simp] theorem aam(f:F)(a:Dn):hG f a=(f a).bind λp=>J (.val p.1,p.2):=rfl
@[simp] theorem Zp(x:D×Bool)(a:Dn):gK 0 (J x::a)=J (.slot 0,J x::a):=rfl
@[simp] theorem Zo(a:Sl)(x:D×Bool)(b:Dn):gK 1 (a::J x::b)=J (.slot 1,a::J x::b):=rfl
@[simp] theorem Zn(a b:Sl)(x:D×Bool)(c:Dn):gK 2 (a::b::J x::c)=J (.slot 2,a::b::J x::c):=rfl
@[simp] theorem Zm(a b c:Sl)(x:D×Bool)(d:Dn):gK 3 (a::b::c::J x::d)=J (.slot 3,a::b::c::J x::d):=rfl
@[simp] theorem Zl(a b c d:Sl)(x:D×Bool)(e:Dn):gK 4 (a::b::c::d::J x::e)=J (.slot 4,a::b::c::d::J x::e):=rfl
@[simp] theorem Zk(a b c d e:Sl)(x:D×Bool)(f:Dn):gK 5 (a::b::c::d::e::J x::f)=J (.slot 5,a::b::c::d::e::J x::f):=rfl
@[simp] theorem Zj(a b c d e f:Sl)(x:D×Bool)(g:Dn):gK 6 (a::b::c::d::e::f::J x::g)=J (.slot 6,a::b::c::d::e::f::J x::g):=rfl
@[simp] theorem Zi(a b c d e f g:Sl)(x:D×Bool)(h:Dn):gK 7 (a::b::c::d::e::f::g::J x::h)=J (.slot 7,a::b::c::d::e::f::g::J x::h):=rfl
@[simp] theorem Zh(a b c d e f g h:Sl)(x:D×Bool)(i:Dn):gK 8 (a::b::c::d::e::f::g::h::J x::i)=J (.slot 8,a::b::c::d::e::f::g::h::J x::i):=rfl
@[simp] theorem CJ(δ:Dn)(r:D×Bool):res δ (.val r)=J r.1:=rfl
@[simp] theorem aal(x:D×Bool)(a:Dn):res (J x::a) (.slot 0)=J x.1:=rfl
@[simp] theorem aak(a:Sl)(x:D×Bool)(b:Dn):res (a::J x::b) (.slot 1)=J x.1:=rfl
@[simp] theorem aaj(a b:Sl)(x:D×Bool)(c:Dn):res (a::b::J x::c) (.slot 2)=J x.1:=rfl
@[simp] theorem aai(a b c:Sl)(x:D×Bool)(d:Dn):res (a::b::c::J x::d) (.slot 3)=J x.1:=rfl
@[simp] theorem aah(a b c d:Sl)(x:D×Bool)(e:Dn):res (a::b::c::d::J x::e) (.slot 4)=J x.1:=rfl
@[simp] theorem aag(a b c d e:Sl)(x:D×Bool)(f:Dn):res (a::b::c::d::e::J x::f) (.slot 5)=J x.1:=rfl
@[simp] theorem aaf(a b c d e f:Sl)(x:D×Bool)(g:Dn):res (a::b::c::d::e::f::J x::g) (.slot 6)=J x.1:=rfl
@[simp] theorem aae(a b c d e f g:Sl)(x:D×Bool)(h:Dn):res (a::b::c::d::e::f::g::J x::h) (.slot 7)=J x.1:=rfl
@[simp] theorem aad(a b c d e f g h:Sl)(x:D×Bool)(i:Dn):res (a::b::c::d::e::f::g::h::J x::i) (.slot 8)=J x.1:=rfl
@[simp] theorem aav(g:D->Option (D×Bool))(a:FO)(b:Dn):qh g a b=(a b).bind λp=>(res p.2 p.1).bind λx=>(g x).bind λz=>J (z,p.2):=rfl
@[simp] theorem aau(g:D->D->Option (D×Bool))(a b:FO)(c:Dn):il g a b c=(a c).bind λp=>(b p.2).bind λq=>(res q.2 p.1).bind λx=>(res q.2 q.1).bind λy=>(g x y).bind λz=>J (z,q.2):=rfl
@[simp] theorem X2(a:Dn):kD [] a=J ([],a):=rfl
@[simp] theorem Zt(f:FO)(fs:List FO)(a:Dn):kD (f::fs) a=(f a).bind λp=>(kD fs p.2).bind λq=>J (p.1::q.1,q.2):=rfl
@[simp] theorem PQ(a:Dn):uP a []=J []:=rfl
@[simp] theorem Uq(a:Dn)(o:F2)(os:List F2):uP a (o::os)=(res a o).bind λd=>(uP a os).bind λl=>J (d::l):=rfl
@[simp] theorem Zs(g:List D->Option (D×Bool))(fs:List FO)(a:Dn):iB g fs a=(kD fs a).bind λp=>(uP p.2 p.1).bind λb=>(g b).bind λz=>J (z,p.2):=rfl
@[simp] theorem Zf:pd []=J []:=rfl
@[simp] theorem Z5(r:D×Bool)(os:List F2):pd (.val r::os)=(pd os).map (r.1:: ·):=rfl
@[simp] theorem Ut(fs:List F)(b:Dn):vb fs b=(kD (fs.map hG) b).bind λp=>(pd p.1).bind λa=>if (A1 a)<=sizeLine then J ((.tup a,C),p.2)else U:=rfl
@[simp] theorem aax(fs:List F)(b:Dn):nW fs b=(kD (fs.map hG) b).bind λp=>(pd p.1).bind λa=>if (A1 a)<=sizeLine then J ((.lst a,Y),p.2)else U:=rfl
@[simp] theorem aa9(b o:Bool)(a:Dn):JX ((.bl b,o),a)=J (b,a):=rfl
@[simp] theorem abf(f:F)(a:Dn):fT f a=(f a).bind JX:=rfl
@[simp] theorem Zu(f g:FT)(a:Dn):sy f g a=(f a).bind λp=>if p.1=Y then g p.2 else J (C,p.2):=rfl
@[simp] theorem aat(f g:FT)(a:Dn):Dk f g a=(f a).bind λp=>if p.1=Y then J (Y,p.2)else g p.2:=rfl
@[simp] theorem Zr(f:FT)(a:Dn):sv f a=(f a).bind λp=>J (!p.1,p.2):=rfl
@[simp] theorem Mj(f g:F)(a:Dn):Ab f g a=(f a).bind λp=>(JX p).bind λq=>if q.1=Y then g q.2 else J ((.bl C,C),q.2):=rfl
@[simp] theorem aaw(f:F)(a:Dn):VQ f a=(f a).bind λp=>(JX p).bind λq=>J ((.bl (!q.1),C),q.2):=rfl
@[simp] theorem Sq(t:FT)(f g:F)(δ:Dn):JK t f g δ=(t δ).bind λp=>if p.1=Y then f p.2 else g p.2:=rfl
@[simp] theorem aab(a:Dn):ir a=J (.nx a):=rfl
noncomputable def nxt(g:FS):Out->Option Out
 |.nx a=>g a
 |o=>J o
@[simp] theorem aao(g:FS)(a:Dn):nxt g (.nx a)=g a:=rfl
@[simp] theorem aan(g:FS)(r:D×Bool)(a:Dn):nxt g (.rt r a)=J (.rt r a):=rfl
@[simp] theorem Z9(f g:FS)(a:Dn):gW f g a=(f a).bind (nxt g):=by
 unfold gW
 cases f a with
 |none=>rfl
 |some o=>cases o<;>rfl
@[simp] theorem Zg(f:F)(a:Dn):nA f a=(f a).bind λp=>J (.nx p.2):=rfl
@[simp] theorem aaa(f:F)(a:Dn):kn f a=(f a).bind λp=>J (.rt p.1 p.2):=rfl
@[simp] theorem aa1(t:FT)(f g:FS)(a:Dn):AD t f g a=(t a).bind λp=>if p.1=Y then f p.2 else g p.2:=rfl
@[simp] theorem Z8(i:Nat)(f:F)(a:Dn):jy i f a=(f a).bind λp=>if i<(A1 p.2)then J (.nx<|p.2.set i<|J p.1)else U:=rfl
@[simp] theorem Z7(b:Tg)(f:F)(c:Dn):Ug b f c=(f c).bind λp=>(b p.1.1 p.2).bind λa=>J (.nx a):=rfl
@[simp] theorem abe(g:D->Option (D×Bool))(d:D):g1 g [d]=g d:=rfl
@[simp] theorem abd(g:D->D->Option (D×Bool))(d e:D):g2 g [d,e]=g d e:=rfl
@[simp] theorem X4(i j:Int):nG (.int i) (.int j)=J (.int<|i+j,C):=rfl
@[simp] theorem aa0(i j:Int):PX.Er (.int i) (.int j)=J (.int<|i-j,C):=rfl
@[simp] theorem aa2(i:Int):yt (.int i)=J (.int (-i),C):=rfl
@[simp] theorem aba(i:Int):xE (.int i)=J (.int (if i<0 then -i else i),C):=rfl
@[simp] theorem Us(l:List D):qJ (.tup l)=J (.int<|A1 l,C):=rfl
@[simp] theorem xg(l:List D):qJ (.lst l)=J (.int<|A1 l,C):=rfl
@[simp] theorem Mi(l:List D):mX (.lst l)=J (.tup l,C):=rfl
@[simp] theorem Z6(l:List D):mX (.tup l)=J (.tup l,C):=rfl
@[simp] theorem aap(l:List D):Bu (.tup l)=J (.lst l,Y):=rfl
@[simp] theorem aaq(l:List D):Bu (.lst l)=J (.lst l,Y):=rfl
@[simp] theorem aas(b:Bool):Rl (.bl b)=J (.int (if b then 1 else 0),C):=rfl
@[simp] theorem aar(b:Int):Rl (.int b)=J (.int b,C):=rfl
@[simp] theorem aa6(i j:Int):NQ (.int i) (.int j)=J (.int (if j>i then j else i),C):=rfl
@[simp] theorem aa5(i j:Int):NP (.int i) (.int j)=J (.int (if j<i then j else i),C):=rfl
@[simp] theorem aa7(a:List Ty)(d:D):G5 a d=J (.bl<|a.any<|J2 d,C):=rfl
@[simp] theorem Mk(i j:Int):Ao (.int i) (.int j)=J (.bl<|i==j,C):=by unfold Ao;rw[hV<|by simp[D.dep]];simp[D.R1]
@[simp] theorem aa3(i j:Int):D4 (.int i) (.int j)=J (.bl (!(i==j)),C):=by unfold D4;rw[hV<|by simp[D.dep]];simp[D.R1]
@[simp] theorem aa8(i j:Bool):Ao (.bl i) (.bl j)=J (.bl<|i==j,C):=by unfold Ao;rw[hV<|by simp[D.dep]];simp[D.R1]
@[simp] theorem aa4(i j:Bool):D4 (.bl i) (.bl j)=J (.bl (!(i==j)),C):=by unfold D4;rw[hV<|by simp[D.dep]];simp[D.R1]
@[simp] theorem Ur(i j:Int):qL .Lt (.int i) (.int j)=J (.bl<|decide<|i<j,C):=by kernel_rfl
@[simp] theorem abb(i j:Int):qL .LtE (.int i) (.int j)=J (.bl<|decide<|i<=j,C):=by kernel_rfl
@[simp] theorem PR(i j:Int):qL .Gt (.int i) (.int j)=J (.bl<|decide<|i>j,C):=by kernel_rfl
@[simp] theorem abc(i j:Int):qL .GtE (.int i) (.int j)=J (.bl<|decide<|i>=j,C):=by kernel_rfl
@[simp] theorem HU(f:F)(δ:Dn):jd f δ=(f δ).bind λp=>match p.1.1 with|.lst l=>J (l,p.2)|.tup l=>J (l,p.2)|_=>U:=rfl
@[simp] theorem aac(b:AE)(c:Tg)(a:FS)(d:Dn):nE b c a d=(b d).bind λp=>lJ c a p.1 p.2:=rfl
@[simp] theorem PU(a:Dn):iZ a=J (Y,a):=rfl
@[simp] theorem PY(f:F)(a:List D)(b:Dn):ja f a b=(f b).bind λp=>if (A1 a)<sizeLine then J (a++[p.1.1],p.2)else U:=rfl
def yx(h:n<=10000):n<=sizeLine:=by rw[jQ];lia
def vI(h:n<=10000):n<sizeLine:=by rw[jQ];lia
noncomputable abbrev enc(t:gQ):D×Bool:=(.tup<|t.map .int,C)
noncomputable abbrev ii(n:Int):Sl:=J (.int n,C)
abbrev eN(t:gQ):Sl:=J<|enc t
noncomputable abbrev pI(n:Int):D×Bool:=(.int n,C)
noncomputable abbrev pS(a:Int)(b:Bool):D×Bool:=(.lst [.int a,.bl b],Y)
def He(i:Nat):([i]:List Nat).Nodup:=by simp
noncomputable abbrev W2(a:Int)(b:Bool):Sl:=J (.lst [.int a,.bl b],Y)
noncomputable abbrev K2(l:gQ):Sl:=J (.lst<|l.map .int,Y)
@[simp] theorem Zq(b:NL)(fs:List FO)(c:Dn):hU b fs c=(kD fs c).bind λp=>(jb p.2 p.1).bind λa=>if(iu p.1 a).Nodup then(b a).bind λq=>J (q.1,wb p.1 a q.2 p.2)else U:=rfl
@[simp] theorem xh(a:Dn):jb a []=J []:=rfl
@[simp] theorem X3(b:Dn)(o:F2)(os:List F2):jb b (o::os)=(yi b o).bind λa=>(jb b os).bind λl=>J (a::l):=rfl
@[simp] theorem aay(a:Dn)(r:D×Bool):yi a (.val r)=J (r.1,C):=rfl
@[simp] theorem aaz(a:Dn)(i:Nat):yi a (.slot i)=(a[i]?).join:=rfl
def sP(a:Int)(b:Bool)(m:Int)(c:0<m)(d:m<1073741824):
  ∃v e,0<=v/\v<m/\iG [pS a b,pI m]=J ((.int v,C),[J (.lst [.int e,.bl b],Y),ii m]):=by
 cases b
 .have h1:∀x:Int, -18446744073709551616<x%2147483647/\x%2147483647<18446744073709551616:=λx=>by lia
  have f:∀x:Int, -18446744073709551616<x%2147483629/\x%2147483629<18446744073709551616:=λx=>by lia
  simp only[iG,sf];simp[Q1,A2,GK,Dv,zP,gI,NT,qI,NO,uO,pX,iQ,iu,wb,Kr,DH,AQ,c,d,h1,f];exact⟨Ft _ (by lia),Fu _ c⟩
 simp only[iG,sf];simp[Q1,A2,GK,Dv,zP,gI,NT,qI,NO,uO,pX,iQ,iu,wb,Kr,DH,AQ,c,d];exact⟨Ft _ (by lia),Fu _ c⟩
theorem qk(x y:Int):(x==y)=decide (x=y):=rfl
def jM{g:List D->Option (D×Bool)}{fs:List FO}{δ a:Dn}{os:List F2}{ds:List D}{z:D×Bool}(h1:kD fs δ=J (os,a))(b:uP a os=J ds)(c:g ds=J z):iB g fs δ=J (z,a):=by unfold iB;rw[h1];simp;rw[b];simp;rw[c];rfl
def jG(h1:(A1 args)=np/\np<=n/\(args.zipIdx.all λp=>!(p.1.2&&asg.contains p.2))=Y)(a:f (args.map J++ah (n-np) U)=J (.rt r δ)):Q1 n np asg f args=J (r,iQ args δ):=by unfold Q1;rw[hV h1,a]
def gO(h:f δ=J (.nx δ1)):gW f g δ=g δ1:=by unfold gW;rw[h];rfl
def iW{r}(h:f δ=J (.rt r δ1)):gW f g δ=J (.rt r δ1):=by unfold gW;rw[h];rfl
def kh{r}(h:f δ=J (r,δ1)):kn f δ=J (.rt r δ1):=by unfold kn;rw[h];rfl
def iU{r}(h:f δ=J (r,δ1))(a:i<A1 δ1):jy i f δ=J (.nx<|δ1.set i<|J r):=by unfold jy;rw[h];simp only[jH];rw[hV a]
def jx(h:f δ=J ((.bl b,o),δ1)):fT f δ=J (b,δ1):=by unfold fT;rw[h];rfl
def iq{r}(h:f δ=J (r,δ1)):hG f δ=J (.val r,δ1):=by unfold hG;rw[h];rfl
def ji(h1:a δ=J (o1,δ1))(c:b δ1=J (o2,δ2))(d:res δ2 o1=J x)(e:res δ2 o2=J y)(f:g x y=J z):il g a b δ=J (z,δ2):=by unfold il;rw[h1];simp;rw[c];simp;rw[d,e];simp;rw[f];rfl
def jl{b:NL}{fs:List FO}{δ δ1:Dn}{os:List F2}{args:List (D×Bool)}{r:D×Bool}{a:Dn}(h1:kD fs δ=J (os,δ1))(c:jb δ1 os=J args)(d:(iu os args).Nodup)(e:b args=J (r,a)):hU b fs δ=J (r,wb os args a δ1):=by unfold hU;rw[h1];simp;rw[c];simp only[jH];rw[hV d,e];rfl
def Dj(h:f δ=J (C,δ1)):Dk f g δ=g δ1:=by unfold Dk;rw[h];rfl
def wa(h:f δ=J (b,δ1)):sv f δ=J (!b,δ1):=by unfold sv;rw[h];rfl
def mE(h:t δ=J (C,δ1)):AD t f g δ=g δ1:=by unfold AD;rw[h];rfl
def qw(h:t δ=J (Y,δ1)):AD t f g δ=f δ1:=by unfold AD;rw[h];rfl
def ox{b c:FO}{δ δ1 a:Dn}{o1 o2:F2}(h1:b δ=J (o1,δ1))(d:c δ1=J (o2,a)):kD [b,c] δ=J ([o1,o2],a):=by simp;rw[h1];simp;rw[d];rfl
def oy{a:FO}{δ δ1:Dn}{o1:F2}(h1:a δ=J (o1,δ1)):kD [a] δ=J ([o1],δ1):=by simp;rw[h1];rfl
def kE(h:fi δ=J (ds,δ1)):nE fi tg fb δ=lJ tg fb ds δ1:=by unfold nE;rw[h];rfl
def Ry{fs:List F}{δ δ1:Dn}{os:List F2}{a:List D}(h1:kD (fs.map hG) δ=J (os,δ1))(b:pd os=J a)(c:(A1 a)<=sizeLine):nW fs δ=J ((.lst a,Y),δ1):=by unfold nW;rw[h1];simp;rw[b];simp only[jH];rw[hV c]
def RG(a:gQ)(k:Nat):∃c,kR [(.lst<|a.map .int,C),pI k]=J ((.int c,C),[J (.lst<|a.map .int,C),ii k]):=by
 by_cases hk:k<A1 a
 .refine⟨a[k],?_⟩;simp[kR,ot,Q1,A2,GK,Dv,iQ,hk]
 refine⟨0,?_⟩;simp[kR,ot,Q1,iQ,hk]
def Sv:NO (.int 10) (.int 18)=ii 1000000000000000000:=by
 have:DH 10 18:=by unfold DH;decide+kernel
 show((if DH 10 18 then J (D.int (10^(18:Int).toNat))else U).map λz=>(z,C))=_;rw[hV this];rfl
def aep(d:gQ)(k:Nat):∃a b,lP [(.lst<|d.map .int,C),pI k]=J ((.lst [.int a,.bl b],Y),[J (.lst<|d.map .int,C),ii k]):=by
 obtain⟨c,e⟩:=RG d k;by_cases h:c>=1000000000000000000
 .refine⟨c-1000000000000000000,Y,?_⟩;simp[lP,qf,Q1,e,iu,wb,Sv,h,jQ,iQ]
 refine⟨c%2147483647,C,?_⟩;simp[lP,qf,Q1,e,iu,wb,Sv,h,jQ,iQ,zP,gI]
noncomputable def st(n:Nat):List Int:=(ap n).map λ(k:Nat)=>(1+(k:Int))
def T8(n:Nat):(st n).map D.int=iI 1 n:=by simp[st,iI]
noncomputable def mF:Nat->List Int->List Int->List (List Int)
 |0,_,f=>[f]
 |k+1,r,f=>(ap<|A1 r).flatMap λv=>mF k (r.eraseIdx v) (f++[r.getD v 0*1])++mF k (r.eraseIdx v) (f++[r.getD v 0* -1])
theorem Bz(f:Int->D):∀(l:gQ)(k:Nat),(l.map f).eraseIdx k=(l.eraseIdx k).map f
 |[],k=>by simp
 |x::l,0=>by kernel_rfl
 |x::l,k+1=>by simp[Bz f l k]
def ac5{i:Nat}{f:FO}{a δ1:Dn}{o:F2}{n l:List D}{k:Int}{j:Nat}{d:D}(b:a[i]?=J (J (.lst n,Y)))(h1:f a=J (o,δ1))(c:res δ1 o=J (.int k))(e:δ1[i]?=J (J (.lst l,Y)))(g: -(2^63)<=k/\k<2^63)(h:Dv (A1 l) k=J j)(m:l[j]?=J d):
  zZ i f a=J ((d,C),δ1.set i<|J (.lst<|l.eraseIdx j,Y)):=by
 unfold zZ;rw[b];simp only[];rw[h1];simp only[jH];rw[c,e];simp only[];rw[hV g,h];simp;rw[m];rfl
def qi{i:Nat}{f:F}{δ δ1:Dn}{r:D×Bool}{l0 l:List D}(a:δ[i]?=J (J (.lst l0,Y)))(h1:f δ=J (r,δ1))(b:δ1[i]?=J (J (.lst l,Y)))(c:(A1 l)<sizeLine):
  ml i f δ=J ((.T2,C),δ1.set i<|J (.lst<|l++[r.1],Y)):=by
 unfold ml;rw[a];simp;rw[h1];simp;rw[b];simp only[];rw[hV c]
def ny{r}(h:f δ=J (r,δ1)):nA f δ=J (.nx δ1):=by unfold nA;rw[h];rfl
abbrev YY:F:=WY
abbrev YX:F:=Xj
abbrev fbT:FS:=gW (nA<|ml 3<|il qI (hG YY)<|hG YX) ir
def UM(a:Int)(b:Bool)(n:Sl)(r f:gQ)(x:Sl)(i:0<A1 r)(l:(A1 r)<=5):∃v c,v<A1 r/\YY [W2 a b,n,K2 r,K2 f,x]=J ((.int<|r.getD v 0,C),[W2 c b,n,K2<|r.eraseIdx v,K2 f,x]):=by
 obtain⟨v,c,d,hv,e⟩:=sP a b (A1 r) (by lia) (by lia);have g:v.toNat<(A1 r):=by lia
 refine⟨v.toNat,c,g,?_⟩;have h:(K2 (r.eraseIdx v.toNat):Sl)=J (.lst<|(r.map D.int).eraseIdx v.toNat,Y):=by rw[Bz]
 rw[h];refine ac5 (k:=v) (δ1:=[W2 c b,n,K2 r,K2 f,x]) I (iq (r:=(.int v,C))<|jl (δ1:=[W2 a b,n,K2 r,K2 f,x]) (os:=[.slot 0,.val (.int<|A1 r,C)]) (args:=[pS a b,pI<|A1 r]) ?_ I (show([0]:List Nat).Nodup from by decide) e) I I ⟨by lia,by lia⟩ (j:=v.toNat) ?_ ?_
 .show J ([F2.slot 0,F2.val (D.int ((r.map D.int).length:Nat),C)],_)=_;rw[jf]
 .unfold Dv;rw[hV d,hV<|by simpa using hv]
 simp[g]
def Ud(a:Int)(b:Bool)(n y z x:Sl):∃s c,(s=1\/s= -1)/\YX [W2 a b,n,y,z,x]=J ((.int s,C),[W2 c b,n,y,z,x]):=by obtain⟨v,c,f,hv,e⟩:=sP a b 2 (by lia) (by lia);have d:∀δ:Dn,nW [fC<|.int 1,Pd] δ=J ((.lst [.int 1,.int (-1)],Y),δ):=λδ=>rfl;refine⟨if v=0 then 1 else -1,c,by split<;>simp,?_⟩;refine ji (δ1:=[W2 a b,n,y,z,x]) (iq<|d _) (iq (δ1:=[W2 c b,n,y,z,x])<|jl (δ1:=[W2 a b,n,y,z,x]) (os:=[.slot 0,.val (.int 2,C)]) (args:=[pS a b,pI 2]) I I (show([0]:List Nat).Nodup from by decide) e) I I ?_;rcases(show v=0\/v=1 by lia)with rfl|rfl<;>rfl
def VD(a:Int)(b:Bool)(n:Sl)(r f:gQ)(x:Sl)(j:0<A1 r)(k:(A1 r)<=5)(m:(A1 f)<=5):∃v s c,v<A1 r/\(s=1\/s= -1)/\fbT [W2 a b,n,K2 r,K2 f,x]=J (.nx [W2 c b,n,K2<|r.eraseIdx v,K2<|f++[r.getD v 0*s],x]):=by
 obtain⟨v,a1,hv,e⟩:=UM a b n r f x j k;obtain⟨s,d,q,g⟩:=Ud a1 b n (K2<|r.eraseIdx v) (K2 f) x;refine⟨v,s,d,hv,q,?_⟩
 have p:qI (.int<|r.getD v 0) (.int s)=ii (r.getD v 0*s):=by have:AQ (r.getD v 0) s:=.inr (by lia);show((if AQ (r.getD v 0) s then J (D.int<|r.getD v 0*s)else U).map λz=>(z,C))=_;rw[hV this];rfl
 have o:(f.map D.int).length<sizeLine:=by rw[jf];exact yJ m (by decide)
 have h:=qi (i:=3) (δ:=[W2 a b,n,K2 r,K2 f,x]) (l0:=f.map .int) I (ji (iq e) (iq g) I I p) (l:=f.map .int) I o;refine(gO<|ny h).trans ?_;simp
def YO(b:Bool)(n:Sl):∀(c:List D)(a:Int)(r f:gQ)(x:Sl),A1 c=A1 r->A1 f+A1 r<=5->
  ∃g t i j,t∈mF (A1 c) r f/\lJ (gP 4) fbT c [W2 a b,n,K2 r,K2 f,x]=J (.nx [W2 g b,n,K2 i,K2 t,j]):=by
 intro p
 induction p with
 |nil=>intro a r f x _ _;exact⟨a,f,r,x,by simp[mF],rfl⟩
 |cons d c o=>
  intro a r f x h q;simp at h;obtain⟨v,s,a1,hv,m,e⟩:=VD a b n r f (J (d,C)) (by lia) (by lia) (by lia);obtain⟨g,t,i,j,k,l⟩:=o a1 (r.eraseIdx v) (f++[r.getD v 0*s]) (J (d,C)) (by rw[yM,hV hv];lia) (by rw[yM,hV hv,nN];simp only[mQ,yK];lia);refine⟨g,t,i,j,?_,?_⟩
  .simp only[mQ,mF,wu,nQ,rn];refine⟨v,hv,?_⟩;rcases m with rfl|rfl
   .exact .inl k
   exact .inr k
  unfold lJ;rw[show gP 4 d [W2 a b,n,K2 r,K2 f,x]=J [W2 a b,n,K2 r,K2 f,J (d,C)]from I];simp only[jH];rw[e];simp;exact l
def Uk(n:Nat)(b:n<=5):KL .lst Y [.int 1,.int<|(n:Int)+1]=J (.lst<|(st n).map .int,Y):=by
 have:n=0\/n=1\/n=2\/n=3\/n=4\/n=5:=by lia
 have h1:CW 1 ((n:Int)+1):=by rcases this with rfl|rfl|rfl|rfl|rfl|rfl<;>decide+kernel
 have a:((n:Int)+1-1).toNat=n:=by lia
 show(if CW 1 ((n:Int)+1)then J (D.lst<|iI 1 ((n:Int)+1-1).toNat,Y)else U)=_;rw[hV h1,a,<-T8]
def tj{f:FO}{δ δ1:Dn}{o:F2}{n:Nat}(h1:f δ=J (o,δ1))(a:res δ1 o=J (.int n))(e:n<=63):yp f δ=J (iI 0 n,δ1):=by
 have d:(-(2^62)<=(n:Int)/\(n:Int)<2^62):=⟨by lia,by lia⟩
 have b:kD [f] δ=J ([o],δ1):=by simp[h1]
 have c:uP δ1 [o]=J [.int n]:=by simp[a]
 unfold yp;rw[b];simp only[jH];rw[c];simp only[];rw[hV d];rfl
def zk(a:Int)(b:Bool)(n:Nat)(f:n<=5):∃d t,t∈mF n (st n) []/\ke [pS a b,pI n]=J (enc t,[W2 d b,ii n]):=by
 have c:(iI 0 n).length=n:=by simp[iI]
 have h:(st n).length=n:=by simp[st]
 obtain⟨d,t,j,k,g,e⟩:=YO b (ii n) (iI 0 n) a (st n) [] U (by rw[c,h]) (by rw[h];simpa using f);rw[c]at g;refine⟨d,t,g,?_⟩;refine jG (δ:=[W2 d b,ii n,K2 j,K2 t,k]) ⟨rfl,by decide,rfl⟩ ?_;refine(gO (δ1:=[W2 a b,ii n,K2<|st n,U,U])<|iU (i:=2) (δ1:=[W2 a b,ii n,U,U,U]) (jM (os:=[.val (.int 1,C),.val (.int<|(n:Int)+1,C)]) I I<|Uk n f) (show 2<5 by decide)).trans ?_;refine(gO (δ1:=[W2 a b,ii n,K2<|st n,K2 [],U]) I).trans ?_;refine(gO<|(kE<|tj (o:=.slot 1) I I<|by lia).trans e).trans ?_;exact iW<|kh<|jM (os:=[.slot 3]) I I I
def adg:∀(k:Nat)(r f t:gQ),A1 r=k->t∈mF k r f->A1 t=A1 f+k:=by
 intro c
 induction c with
 |zero=>intro r f t _ h;simp[mF]at h;subst h;simp
 |succ k b=>
  intro r f t d h;simp only[mF,wu,nQ,rn]at h;obtain⟨v,hv,h⟩:=h;have a:(r.eraseIdx v).length=k:=by rw[yM,hV hv];lia
  rcases h with h|h
  .have:=b _ _ t a h;simp at this;lia
  have:=b _ _ t a h;simp at this;lia
def aem{n:Nat}{t:gQ}(h:t∈mF n (st n) []):(A1 t)=n:=by have:=adg n (st n) [] t (by simp[st]) h;simpa using this
def wd:∀t:List Int,D.Ms (t.map .int)=0:=by
 intro b
 induction b with
 |nil=>simp[D.Ms]
 |cons s t a=>simp[D.Ms,D.dep,a]
theorem Ac:∀a b:List Int,D.B4 (a.map .int) (b.map .int)=decide (a=b)
 |[],[]=>by kernel_rfl
 |[],_::_=>by kernel_rfl
 |_::_,[]=>by kernel_rfl
 |x::a,y::b=>by simp[D.B4,D.R1,Ac a b,qk]
@[simp] theorem Bv(a b:gQ):Ao (.lst<|a.map .int) (.lst<|b.map .int)=J (.bl<|decide<|a=b,C):=by unfold Ao;rw[hV<|by simp[D.dep,wd]];simp[D.R1,Ac]
def Ih:∀(l m:gQ),l.Nodup->(∀x∈l,x∈m)->A1 m<=A1 l->l.Perm m:=by
 intro k
 induction k with
 |nil=>intro m _ _ h;have:m=[]:=Ku.mp (by simpa using h);subst this;exact rC _
 |cons x l j=>
  intro m a c h;rw[yj]at a;have i:=c x jF;have b:=Fh i;refine((j (m.erase x) a.2 (λy d=>?_) ?_).cons x).trans b.symm
  .have f:=c y<|iY _ d;have g:y≠x:=λe=>a.1<|e▸d;exact(B7 g).mpr f
  have:=b.length_eq;simp at this h
  lia
def Jk:x∈st n↔1<=x/\x<=n:=by
 simp only[st,rp,rn];constructor
 .rintro⟨k,h,rfl⟩;lia
 rintro⟨h1,a⟩;exact⟨(x-1).toNat,by lia,by lia⟩
def XW(n:Nat):(st n).Pairwise (· < ·):=by simp only[st];rw[nD];exact OX.imp λh=>by lia
def Si(n:Nat):(st n).Nodup:=(XW n).imp λh=>by lia
def GH{n:Nat}{l:gQ}:l.Perm (st n)↔(A1 l)=n/\(∀x∈l,1<=x/\x<=n)/\l.Nodup:=by
 constructor
 .intro h;refine⟨by rw[h.length_eq];simp[st],λx a=>Jk.mp<|h.mem_iff.mp a,h.symm.nodup<|Si n⟩
 rintro⟨h1,b,c⟩;exact Ih l (st n) c (λx a=>Jk.mpr<|b x a) (by simp[st,h1])
def vU{l:gQ}{m:List D}(h:m.Perm (l.map D.int)):∃k:List Int,m=k.map .int:=by
 refine⟨m.map λd=>match d with|D.int i=>i|_=>0,?_⟩;rw[jA]
 symm
 rw[lX (g:=id),qm];intro d hd;obtain⟨i,_,rfl⟩:=ie<|h.mem_iff.mp hd;rfl
def abY(l:gQ):lF (l.map .int)=Y:=by
 unfold lF
 cases l with
 |nil=>rfl
 |cons x l=>rw[uw];right;simp;simp[kP,D.pr,D.dep,show ∀i j:Int,nX .Lt (.int i) (.int j)=J (ly .Lt i j)from λ_ _=>rfl]
def adN:∀l:List Int,(∀k,(mU<|l.reverse.map .int).1 k=decide (k∈l.reverse))/\(mU<|l.reverse.map .int).2<=A1 l/\((mU<|l.reverse.map .int).2=(A1 l)↔l.Nodup):=by
 intro e
 induction e with
 |nil=>exact⟨λk=>by simp[mU],by simp[mU],by simp[mU]⟩
 |cons x l d=>
  obtain⟨h1,f,c⟩:=d;rw[List.reverse_cons,nL,jK,oP,Bf];refine⟨λk=>?_,?_,?_⟩
  .dsimp only;rw[h1 k];by_cases a:k∈l.reverse<;>by_cases b:k=x<;>simp_all
  .dsimp only;rw[mQ];split<;>lia
  dsimp only;rw[h1 x,yj];by_cases a:x∈l
  .simp only[c5,a,decide_true,mR,not_true_eq_false,false_and,iff_false,mQ];lia
  simp only[c5,a,decide_false,jX,kY,not_false_eq_true,true_and,mQ];rw[<-c];lia
def PJ(l:gQ):(mU<|l.map .int).2=(A1 l)↔l.Nodup:=by have:=(adN l.reverse).2.2;rw[List.reverse_reverse,Lb,yR l |>.nodup_iff]at this;exact this
def HI(pre:Dn)(x:Sl)(d:D):gP (A1 pre) d (pre++[x])=J (pre++[J (d,C)]):=by unfold gP;rw[hV<|by simp];simp
def Ot{f:FB}{g:D->D}{pre:Dn}{N:Nat}:∀(l b:List D)(x:Sl),(∀d∈l,∀a:List D,A1 a<N->f a (pre++[J (d,C)])=J (a++[g d],pre++[J (d,C)]))->A1 b+A1 l<=N->
  ∃c,jr (gP<|A1 pre) iZ f l b (pre++[x])=J (b++l.map g,pre++[c]):=by
 intro n
 induction n with
 |nil=>exact λb x _ _=>⟨x,by simp[jr]⟩
 |cons d l m=>intro b x h i;obtain⟨c,e⟩:=m (b++[g d]) (J (d,C)) (λj k=>h j<|iY _ k) (by simp at i ⊢;lia);refine⟨c,?_⟩;rw[jr,HI];simp;rw[h d jF b<|by simp at i;lia];simp;rw[e];simp
def xP(f:F)(g:D->D)(pre:Dn):∀(l b:List D)(x:Sl),(∀d∈l,∃o,f (pre++[J (d,C)])=J ((g d,o),pre++[J (d,C)]))->A1 b+A1 l<=sizeLine->
  ∃i,jr (gP<|A1 pre) iZ (ja f) l b (pre++[x])=J (b++l.map g,pre++[i]):=λl b x h=>Ot l b x λd hd a c=>by
 obtain⟨o,e⟩:=h d hd;show(f _).bind _=_;rw[e];exact hV c
def V3(f:F)(g:D->Int)(pre:Dn):∀(l b:List D)(x:Sl),(∀d∈l,∃o,f (pre++[J (d,C)])=J ((.int<|g d,o),pre++[J (d,C)]))->A1 b+A1 l<=1000->
  ∃i,jr (gP<|A1 pre) iZ (Dx f) l b (pre++[x])=J (b++l.map λd=>.int (g d),pre++[i]):=λl b x h=>Ot l b x λd hd a c=>by
 obtain⟨o,e⟩:=h d hd;show(f _).bind _=_;rw[e];exact hV (show (A1 a)+1<fJ from yY (Nat.succ_lt_succ c)<|by decide)
def BL(p:D->Bool):∀l:List D,tQ (l.map λd=>.bl (p d))=J (l.map p):=by
 intro b
 induction b with
 |nil=>exact I
 |cons d l a=>simp[tQ,a]
def A5(p:D->Bool)(l:List D):xD (.lst<|l.map λd=>.bl (p d))=J (.bl<|l.all p,C):=by simp[xD,BL,uF]
def Fb(p:D->Bool)(l:List D):Dd (.lst<|l.map λd=>.bl (p d))=J (.bl<|l.any p,C):=by simp[Dd,BL,wO]
noncomputable def ab(s:Int):Int:=if s<0 then -s else s
noncomputable def wh:D->Bool
 |.int _=>Y
 |_=>C
def sg(n:Int):D->Bool
 |.int s=>decide (1<=ab s)&&decide (ab s<=n)
 |_=>C
noncomputable def B1:D->Int
 |.int s=>s
 |_=>0
def vC(d:D):lK [(d,C)]=J ((.bl<|wh d,C),[J (d,C)]):=by
 cases d<;>(first|rfl|simp[lK,yb,Q1,iQ,wh,J2])
def Bk(d:D)(lo a:Int):kI [(d,C),(.int lo,C),(.int a,C)]=J ((.bl (match d with|.int s=>decide (lo<=s)&&decide (s<=a)|_=>C),C),[J (d,C),J (.int lo,C),J (.int a,C)]):=by
 cases d with
 |int s=>by_cases h:lo<=s<;>simp[kI,qg,Q1,iQ,vC,wh,iu,wb,Aa,ly,h]
 |_=>(first|rfl|simp[kI,qg,Q1,iQ,vC,wh,iu,wb])
def Ii(d:D)(n:Int):oB [(.int n,C),(d,C)]=J ((.bl (match d with|.int s=>decide (1<=s)&&decide (s<=n)|_=>C),C),[J (.int n,C),J (d,C)]):=by simp[oB,zT,Q1,iQ,Bk,iu]
def PF(n:Int)(d:D):mq [pI n,(d,C)]=J ((.bl<|sg n d,C),[ii n,J (d,C)]):=by
 cases d with
 |int s=>simp[mq,uY,Q1,iQ,vC,Ii,wh,iu,wb,sg,ab];rfl
 |_=>(first|rfl|simp[mq,uY,Q1,iQ,vC,Ii,wh,iu,wb,sg,ab])
def Gx(h:sg n d=Y):d=.int (B1 d):=by cases d<;>simp_all [sg,B1]
def LB(h:wh d=Y):d=.int (B1 d):=by cases d<;>simp_all [wh,B1]
def tB(n:Nat):D->Bool
 |.tup l=>decide (A1 l=n)&&(l.all (sg n)&&decide ((l.map λd=>ab<|B1 d).Nodup))
 |_=>C
def lB(n:Nat):D->Bool
 |.tup l=>l.all wh&&decide ((l.map λd=>ab<|B1 d).Perm<|st n)
 |_=>C
def LO(n:Nat)(d:D):tB n d=lB n d:=by
 cases d with
 |tup l=>
  rw[tB,lB,uo];simp only[kX,oM,kf,GH,jf,rp];constructor
  .rintro⟨h1,a,b⟩;refine⟨λd hd=>?_,h1,?_,b⟩
   .rw[Gx<|a d hd];rfl
   rintro x ⟨d,hd,rfl⟩;have:=a d hd;rw[Gx this]at this;simpa[sg]using this
  rintro⟨h1,a,b,c⟩;refine⟨a,λd hd=>?_,c⟩;have:=b _ ⟨d,hd,rfl⟩;rw[LB<|h1 d hd];simpa[sg]using this
 |_=>rfl
def rR(n:Nat)(d:D)(hd:∀l,d=.tup l->A1 l<=60):jm [pI n,(d,C)]=J ((.bl<|tB n d,C),[ii n,J (d,C)]):=by
 cases d with
 |tup l=>
  have i:=hd l I;by_cases h1:(A1 l)=n
  .obtain⟨x1,b⟩:=xP (hU mq [gK 0,gK 1]) (λd=>.bl (sg n d)) [ii n] l [] U (λd _=>⟨C,by simp[PF,iu,wb]⟩) (by rw[jQ];simp;lia);simp at b;by_cases a:l.all (sg n)=Y
   .have h:∀d∈l,∃o,iB (g1 xE) [gK 0] ([]++[J (d,C)])=J ((.int<|ab<|B1 d,o),([]++[J (d,C)]:Dn)):=λd hd=>⟨C,by rw[kf]at a;rw[Gx<|a d hd];rfl⟩
    obtain⟨x2,c⟩:=V3 (iB (g1 xE) [gK 0]) (λd=>ab<|B1 d) [] l [] U h (by simp;lia);simp at c
    have e:(mU<|l.map λd=>D.int<|ab<|B1 d).2=(A1 l)↔(l.map λd=>ab<|B1 d).Nodup:=by have:=PJ<|l.map λd=>ab<|B1 d;rw[jA,jf]at this;exact this
    have g:(((mU<|l.map λd=>D.int<|ab<|B1 d).2:Int)==(n:Int))=decide ((l.map λd=>ab<|B1 d).Nodup):=by
     rw[qk,<-h1];by_cases q:(l.map λd=>ab<|B1 d).Nodup
     .rw[kM q,e.mpr q];simp
     rw[kN q];simp only[decide_eq_false_iff_not,lA];exact λz=>q<|e.mp z
    simp[jm,ma,Q1,J2,h1,iR,tH,jI,b,c,A5,a,iQ,iu,wb,tB,g]
   have f:l.all (sg n)=C:=by simpa using a
   simp[jm,ma,Q1,J2,h1,iR,tH,jI,b,A5,f,iQ,iu,wb,tB]
  have: ¬(((A1 l):Int)=(n:Int)):=by lia
  simp[jm,ma,Q1,J2,this,h1,iQ,iu,wb,tB]
 |_=>(first|rfl|simp[jm,ma,Q1,J2,iQ,tB])
def MI(d:D):Prop:= ∀l,d=.tup l->A1 l<=60
def ixt(a:0<=v)(h:v<L.length):A2 (.tup L) (.int v)=J (L.getD v.toNat .T2,C):=by
 have h1:v.toNat<L.length:=by lia
 simp[A2,GK,Dv,a,h]
def M6{t:gQ}{v:Int}(a:0<=v)(h:v<A1 t):A2 (.tup<|t.map .int) (.int v)=ii (t.getD v.toNat 0):=by
 have h1:v.toNat<(A1 t):=by lia
 simp[A2,GK,Dv,a,h]
def YF{t:gQ}{v:Int}(a:0<=v)(h:v<A1 t):A2 (.lst<|t.map .int) (.int v)=ii (t.getD v.toNat 0):=by
 have h1:v.toNat<(A1 t):=by lia
 simp[A2,GK,Dv,a,h]
def aaU(h1:(A1 l)<=1000)(a:(A1 m)<=1000):nG (.lst l) (.lst m)=J (.lst<|l++m,Y):=by simp only[nG];rw[hV<|by rw[jQ];lia]
inductive TkI(m:Int)(P:Int->Int->Prop):Prop where
 |mk (v a:Int) (_:0<=v) (_:v<m) (_:P v a)
def ni(a:Int)(b:Bool)(m:Int)(j:0<m)(f:m<1073741824):TkI m λv c=>∀(d:FO)(δ:Dn)(o:F2),d (W2 a b::δ)=J (o,W2 a b::δ)->yi (W2 a b::δ) o=ii m->hU iG [gK 0,d] (W2 a b::δ)=J ((.int v,C),W2 c b::δ):=by
 obtain⟨v,c,g,h1,e⟩:=sP a b m j f;refine⟨v,c,g,h1,λd δ o h i=>?_⟩;refine(jl (os:=[.slot 0,o]) (args:=[pS a b,pI m]) (ox I h) ?_ ?_ e).trans ?_
 .simp[i]
 .cases o<;>simp[iu]
 cases o<;>kernel_rfl
noncomputable def led(u:gQ)(s:Int):Int:=if 0<s then u.getD (s-1).toNat 0 else -(u.getD (-s-1).toNat 0)
def Vh(u:gQ)(s:Int)(a:s≠0)(h1: -((A1 u):Int)<=s)(b:s<=A1 u):
  my [enc u,pI s]=J ((.int<|led u s,C),[eN u,ii s]):=by
 simp only[my,ya];by_cases h:0<s
 .have:=M6 (t:=u) (v:=s-1) (by lia) (by lia);simp only[Q1];simp[h,led,this,iQ]
 have:=M6 (t:=u) (v:= -s-1) (by lia) (by lia);simp only[Q1];simp[h,led,this,iQ]
def aaF(x:Int):qI (.int x) (.int 1)=ii x:=by have:AQ x 1:=.inr (by lia);show((if AQ x 1 then J (D.int<|x*1)else U).map λz=>(z,C))=_;rw[hV this,zb];rfl
def aaE(x:Int):qI (.int x) (.int (-1))=ii (-x):=by have:AQ x (-1):=.inr (by lia);show((if AQ x (-1)then J (D.int<|x*(-1))else U).map λz=>(z,C))=_;rw[hV this,tp,zb];rfl
def Q2(n:Nat)(c:gQ):Prop:=c≠[]/\(c.map ab).Pairwise (· < ·)/\∀s∈c,1<=ab s/\ab s<=n
def CA(j:Int)(c:gQ):Prop:=(c.map ab).Pairwise (· < ·)/\∀s∈c,1<=ab s/\ab s<j
def nH(h:0<=i):ab i=i:=by unfold ab;rw[iC<|by lia]
def DD(h:0<=i):ab (-i)=i:=by unfold ab;split<;>lia
def CA.snoc{j s:Int}{c:gQ}(h:CA j c)(h1:ab s=j)(e:1<=j):CA (j+1) (c++[s]):=by
 refine⟨?_,λx a=>?_⟩
 .rw[nL,qz];refine⟨h.1,by simp,λx a y b=>?_⟩;obtain⟨z,d,rfl⟩:=ie a;simp at b;subst b;have:=h.2 z d;lia
 rcases nQ.mp a with a|a
 .have:=h.2 x a;lia
 simp at a;subst a;lia
def CA.up(h:CA j c):CA (j+1) c:=⟨h.1,λx a=>by have:=h.2 x a;lia⟩
abbrev fbC:FS:=zC3
def vc{i:Nat}{f:F}{δ δ1:Dn}{r:D×Bool}{l0 l:List D}(a:δ[i]?=J (J (.lst l0,Y)))(h1:f δ=J (r,δ1))(b:δ1[i]?=J (J (.lst l,Y)))(c:(A1 l)<=10000):
  gW (nA<|ml i f) ir δ=J (.nx<|δ1.set i<|J (.lst<|l++[r.1],Y)):=
 (gO<|ny<|qi a h1 b<|vI c).trans rfl
def VN(a:Int)(b:Bool)(n w:Int)(p:0<w)(s:w<100)(j:Int)(o:1<=j)(c:gQ)(m:CA j c)(t:(A1 c)<=10)(x:Sl):∃d f q,CA (j+1) f/\(A1 f)<=A1 c+1/\fbC [W2 a b,ii n,ii w,K2 c,ii j,x]=J (.nx [W2 d b,ii n,ii w,K2 f,ii j,q]):=by
 obtain⟨v,d,u,y,e⟩:=ni a b w p (by lia)
 have s1:∀g,gW WE g [W2 a b,ii n,ii w,K2 c,ii j,x]=g [W2 d b,ii n,ii w,K2 c,ii j,ii v]:=λg=>gO<|iU (i:=5) (δ1:=[W2 d b,ii n,ii w,K2 c,ii j,x]) (e _ [ii n,ii w,K2 c,ii j,x] (.slot 2) rfl rfl) (show 5<6 by decide)
 by_cases h:v<2
 .have k:A2 (.lst [.int j,.int (-j)]) (.int v)=ii (if v=0 then j else -j):=by rcases(show v=0\/v=1 by lia)with rfl|rfl<;>rfl
  refine⟨d,c++[if v=0 then j else -j],ii v,m.snoc (by split;exact nH (by lia);exact DD<|by lia) o,by simp,?_⟩;refine(s1 _).trans ((gO<|(qw (δ1:=[W2 d b,ii n,ii w,K2 c,ii j,ii v])<|by simp[h]).trans<|vc (δ1:=[W2 d b,ii n,ii w,K2 c,ii j,ii v]) (r:=(.int (if v=0 then j else -j),C)) (l0:=c.map .int) (l:=c.map .int) I (by simp[jI,jQ,k]) I<|by simp;lia).trans ?_);simp
 refine⟨d,c,ii v,m.up,by lia,?_⟩;exact(s1 _).trans ((gO<|(mE<|by simp[h]).trans I).trans I)
def aaO(b:Bool)(n w:Int)(v:0<w)(o:w<100):∀(m:Nat)(j:Nat)(a:Int)(c:gQ)(f d:Sl),1<=j->CA j c->A1 c+m<=10->∃g e i l,CA (j+m:Nat) e/\(A1 e)<=10/\lJ (gP 4) fbC ((bA j m).map λ(k:Nat)=>D.int (k:Int)) [W2 a b,ii n,ii w,K2 c,f,d]=J (.nx [W2 g b,ii n,ii w,K2 e,i,l]):=by
 intro y
 induction y with
 |zero=>intro j a c f d t h u;exact⟨a,c,f,d,by simpa using h,by lia,rfl⟩
 |succ m x=>intro j a c f d t h u;obtain⟨a1,p,x1,h1,A,q⟩:=VN a b n w v o j (by lia) c h (by lia) d;obtain⟨g,e,i,l,s,z,r⟩:=x (j+1) a1 p (ii j) x1 (by lia) (by simpa using h1) (by lia);refine⟨g,e,i,l,by rw[show j+(m+1)=j+1+m by lia];exact s,z,?_⟩;rw[yS,jK];unfold lJ;rw[show gP 4 (.int (j:Int)) [W2 a b,ii n,ii w,K2 c,f,d]=J [W2 a b,ii n,ii w,K2 c,ii j,d]from I];simp only[jH];rw[q];simp;exact r
def IC(h1:f δ=J (o1,δ1))(a:g δ1=J (o2,δ2))(b:res δ2 o1=J (.int i))(c:res δ2 o2=J (.int j))(d:0<=i/\i<=1000)(e:0<=j/\j<=1000):zN f g δ=J (iI i (j-i).toNat,δ2):=by unfold zN;rw[ox h1 a];simp only[jH,Uq,PQ,b,c];rw[hV ⟨by lia,by lia,by lia,by lia⟩]
def ad1(a:Int)(b:Bool)(n:Nat)(h1:1<=n)(N:n<=5):∃C' c,Q2 n c/\md [pS a b,pI n]=z8 (enc c,[W2 C' b,ii n]):=by
 obtain⟨v,a1,J,M,E⟩:=ni a b 3 (by lia) (by lia)
 let t:List Int:=[3,4,6]
 let w:=t.getD v.toNat 0
 have A:0<w/\w<100:=by rcases(show v=0\/v=1\/v=2 by lia)with rfl|rfl|rfl<;>decide
 obtain⟨f,c,d,e,y,U,H⟩:=aaO b n w A.1 A.2 n 1 a1 [] z9 z9 (by lia) ⟨by simp,by simp⟩ (by simp;lia)
 have G:zN kZ Pf [W2 a1 b,ii n,ii w,K2 [],z9,z9]=z8 ((bA 1 n).map λ(k:Nat)=>D.int (k:Int),[W2 a1 b,ii n,ii w,K2 [],z9,z9]):=by
  rw[IC (o1:=.val (.int 1,C)) (o2:=.val (.int<|(n:Int)+1,C)) (i:=1) (j:=(n:Int)+1) AT AT AT AT (by lia)<|by lia];rw[show((n:Int)+1-1).toNat=n by lia]
  congr 2
  unfold iI;rw[KD,jA];apply lX;intro k _;simp
 have pre:∀g,(gW Xk<|gW (jy 3<|nW [])<|gW (nE (zN kZ Pf) (gP 4) fbC) g) [W2 a b,ii n,z9,z9,z9,z9]=g [W2 f b,ii n,ii w,K2 c,d,e]:=by
  intro g;refine(gO (δ1:=[W2 a1 b,ii n,ii w,z9,z9,z9]) ?_).trans ?_
  .refine iU (i:=2) (δ1:=[W2 a1 b,ii n,z9,z9,z9,z9]) (ji (o1:=.val (.lst<|t.map .int,At)) (o2:=.val (.int v,C)) (iq (δ1:=[W2 a b,ii n,z9,z9,z9,z9])<|by kernel_rfl) (iq<|E _ [ii n,z9,z9,z9,z9] _ rfl rfl) AT AT<|YF J<|by simpa[t]using M) (show 2<6 by decide)
  refine(gO (δ1:=[W2 a1 b,ii n,ii w,K2 [],z9,z9])<|by kernel_rfl).trans ?_;exact gO<|(kE G).trans H
 by_cases p:c=[]
 .subst p;obtain⟨s,u,s0,s1,I⟩:=ni f b 2 (by lia) (by lia);obtain⟨i,m,Y,F,L⟩:=ni u b n (by lia) (by lia);refine⟨m,[if s=0 then 1+i else -(1+i)],?_,?_⟩
  .refine⟨by simp,by simp,λx B=>?_⟩;simp at B;subst B;split
   .rw[nH<|by lia];lia
   rw[show -(1+i)= -(1+i)from AT,DD<|by lia];lia
  refine jG (δ:=[W2 m b,ii n,ii w,K2 [if s=0 then 1+i else -(1+i)],d,e]) ⟨rfl,by decide,rfl⟩ ((pre _).trans ?_)
  have O:∀q,A2 (.lst [.int 1,.int (-1)]) (.int s)=z8 q->qI q.1 (.int (1+i))=ii (if s=0 then 1+i else -(1+i)):=by
   intro q z;have Q:AQ 1 (1+i):=by unfold AQ;lia
   have T:AQ (-1) (1+i):=by unfold AQ;lia
   rcases(show s=0\/s=1 by lia)with rfl|rfl
   .cases z;simp[qI,gI,Q]
   cases z;simp[qI,gI,T]
  have h:A2 (.lst [.int 1,.int (-1)]) (.int s)=ii (if s=0 then 1 else -1):=by rcases(show s=0\/s=1 by lia)with rfl|rfl<;>rfl
  refine(gO<|(qw (δ1:=[W2 f b,ii n,ii w,K2 [],d,e])<|jx<|ji (o1:=.slot 3) (o2:=.val (.lst [],At)) (δ2:=[W2 f b,ii n,ii w,K2 [],d,e]) AT (iq<|by kernel_rfl) AT AT<|Bv [] []).trans<|vc (r:=(.int (if s=0 then 1+i else -(1+i)),C)) (δ1:=[W2 m b,ii n,ii w,K2 [],d,e]) (l0:=[]) (l:=[]) AT ?_ AT<|by simp).trans ?_
  .refine ji (δ1:=[W2 u b,ii n,ii w,K2 [],d,e]) (iq<|ji (δ1:=[W2 f b,ii n,ii w,K2 [],d,e]) (o1:=.val (.lst [.int 1,.int (-1)],At)) (iq<|by kernel_rfl) (iq<|I _ _ _ rfl rfl) AT AT h) (iq<|ji (o1:=.val (.int 1,C)) AT (iq<|L _ _ (.slot 1) rfl rfl) AT AT AT) AT AT (O _ h)
  exact iW (kh<|jM (os:=[.slot 3]) AT AT AT)
 refine⟨f,c,⟨p,y.1,λs h=>by have:=y.2 s h;lia⟩,?_⟩;refine jG (δ:=[W2 f b,ii n,ii w,K2 c,d,e]) ⟨rfl,by decide,rfl⟩<|(pre _).trans ?_;refine(gO<|(mE (δ1:=[W2 f b,ii n,ii w,K2 c,d,e])<|jx (o:=C)<|ji (o1:=.slot 3) (o2:=.val (.lst [],At)) (δ2:=[W2 f b,ii n,ii w,K2 c,d,e]) AT (iq<|by kernel_rfl) AT AT<|(Bv c []).trans<|by rw[kN p]).trans AT).trans ?_;exact iW<|kh<|jM (os:=[.slot 3]) AT AT AT
def lM(h:f δ=J ((.lst l,o),δ1)):jd f δ=J (l,δ1):=by unfold jd;rw[h];rfl
def mV{b:Type}[BEq b][LawfulBEq b]:∀(l m:List b),l.Nodup->(∀x∈l,x∈m)->A1 l<=(A1 m):=by
 intro n
 induction n with
 |nil=>intro m _ _;exact lq _
 |cons x l k=>
  intro m a c;rw[yj]at a;have j:=c x jF;have i:=Fh j
  have:=k (m.erase x) a.2 (λy d=>by have f:=c y<|iY _ d;have g:y≠x:=λe=>a.1<|e▸d;exact(B7 g).mpr f)
  have h:=i.length_eq;simp at h ⊢
  lia
def Ee{l:gQ}(h:l.Pairwise (· < ·)):l.Nodup:=h.imp λh=>by lia
def Q2.len{n:Nat}{c:gQ}(h:Q2 n c):(A1 c)<=n:=by
 have:=mV (c.map ab) (st n) (Ee h.2.1) (λx b=>by obtain⟨s,a,rfl⟩:=ie b;exact Jk.mpr<|h.2.2 s a)
 simpa[st]using this
def Gu(n:Nat)(t:gQ):Prop:=A1 t=n/\∀x∈t,1<=ab x/\ab x<=n
theorem mp0:A2 (.lst [.int (-1),.int 1]) (.int 0)=ii (-1):=rfl
theorem mp1:A2 (.lst [.int (-1),.int 1]) (.int 1)=ii 1:=rfl
def Yr(u:gQ)(s:Int)(b:s≠0)(h1: -((A1 u):Int)<=s)(c:s<=A1 u):
  lg [enc u,pI s]=J ((.int<|led u s,C),[eN u,ii s]):=by
 simp only[lg,qx];by_cases h:0<s
 .have:=M6 (t:=u) (v:=s-1) (by lia) (by lia);have a: ¬s<0:=by lia
  simp only[Q1];simp[h,a,led,this,iQ,jQ,mp1,aaF]
 have:=M6 (t:=u) (v:= -s-1) (by lia) (by lia);have a:s<0:=by lia
 simp only[Q1];simp[h,a,led,this,iQ,jQ,mp0,aaE]
def mZ(i:Int):ab (-i)=ab i:=by unfold ab;split<;>split<;>lia
def kQ{l:gQ}{k:Nat}(h:k<A1 l):l.getD k 0∈l:=by rw[qp,jk h];exact wB h
def Nk{n:Nat}{t:gQ}(b:Gu n t){s:Int}(h1:1<=ab s)(a:ab s<=n):1<=ab (led t s)/\ab (led t s)<=n:=by
 unfold led;unfold ab at h1 a;have c:=b.1;split
 .rename_i h;rw[iC<|by omega]at h1 a;exact b.2 _ (kQ<|by omega)
 rename_i h;rw[mZ];split at h1
 .rw[hV<|by assumption]at a;exact b.2 _ (kQ<|by omega)
 omega
def dD(a:gQ):D:=.Sr .dct (a.map λw=>.int (ab w)) (a.map .int)
def CK(a:gQ)(w:Int):List Int:=if ab w∈a.map ab then a.map λx=>if ab x=ab w then w else x else a++[w]
def V9(w:Int):∀a:List Int,((a.map λw=>D.int<|ab w).any (D.R1 · (.int<|ab w)))=decide (ab w∈a.map ab):=by
 intro c
 induction c with
 |nil=>kernel_rfl
 |cons x a b=>
  simp only[jK,rA,b,D.R1];by_cases h:ab x=ab w
  .simp[h]
  have: ¬ab w=ab x:=λe=>h e.symm;simp[h,this]
def PN(w:Int):∀a:List Int,zp (a.map λw=>D.int<|ab w) (a.map .int) (.int<|ab w) (.int w)=(a.map λx=>if ab x=ab w then w else x).map .int:=by
 intro c
 induction c with
 |nil=>kernel_rfl
 |cons x a b=>simp only[jK,zp,b,D.R1];by_cases h:ab x=ab w<;>simp[h]
def UH(a:gQ)(w:Int):D.Sr .dct (xj (a.map λw=>.int (ab w)) (a.map .int) (.int<|ab w)<|.int w).1 (xj (a.map λw=>.int (ab w)) (a.map .int) (.int<|ab w)<|.int w).2=dD (CK a w):=by
 unfold xj CK dD;rw[V9];by_cases h:ab w∈a.map ab
 .rw[hV<|by simpa using h,hV h,PN]
  congr 1
  show(a.map λw=>D.int<|ab w)=b4 (λw=>D.int<|ab w) (a.map λx=>if ab x=ab w then w else x);rw[jA];apply lX;intro x _;simp;split
  .rename_i e;rw[e]
  rfl
 rw[iC<|by simpa using h,iC h];simp
def DW(n:Nat)(a:gQ):Prop:=(a.map ab).Nodup/\∀w∈a,1<=ab w/\ab w<=n
def DW.put(h:DW n ws)(h1:1<=ab w/\ab w<=n):DW n (CK ws w):=by
 unfold CK;split
 .rename_i c;refine⟨?_,λx a=>?_⟩
  .have:((ws.map λx=>if ab x=ab w then w else x).map ab)=ws.map ab:=by
    rw[jA];apply lX;intro x _;simp;split
    .rename_i e;rw[e]
    rfl
   rw[this];exact h.1
  obtain⟨y,b,rfl⟩:=ie a;split
  .exact h1
  exact h.2 y b
 rename_i c;refine⟨?_,λx a=>?_⟩
 .rw[nL,yk];refine⟨h.1,by simp,λx a y b e=>?_⟩;simp at b;subst b;subst e;exact c a
 rcases nQ.mp a with a|a
 .exact h.2 x a
 simp at a;subst a;exact h1
def Qd(a:gQ)(w:Int):CK a w≠[]:=by
 unfold CK;split
 .rename_i h
  cases a with
  |nil=>simp at h
  |cons=>simp
 simp
def DW.len(h:DW n ws):(A1 ws)<=n:=by
 have:=mV (ws.map ab) (st n) h.1 (λx b=>by obtain⟨s,a,rfl⟩:=ie b;exact Jk.mpr<|h.2 s a)
 simpa[st]using this
def Io(k:Int):∀a:List Int,k∈a.map ab->∃w∈a,ab w=k/\lV (a.map λw=>D.int<|ab w) (a.map .int) (.int k)=J (.int w):=by
 intro f
 induction f with
 |nil=>intro h;simp at h
 |cons x a d=>
  intro h;simp only[jK,lV,D.R1];by_cases e:ab x=k
  .exact⟨x,by simp,e,by simp[e]⟩
  have:k∈a.map ab:=by
   simp only[jK,mP]at h;rcases h with h|h
   .exact absurd h.symm e
   exact h
  obtain⟨w,c,h1,b⟩:=d this;exact⟨w,by simp[c],h1,by simp[e,b]⟩
def EF(a:gQ)(k:Int):rY (a.map λw=>D.int<|ab w) (.int k)=Y:=by simp[rY,uW]
abbrev fbL:FS:=Xi
def VI{n:Nat}{t:gQ}(g:Gu n t)(k:n<=5){s:Int}(h1:1<=ab s/\ab s<=n){a:gQ}(h:DW n a)(b d:Sl):fbL [eN t,b,J (dD a,Y),ii s,d]=J (.nx [eN t,b,J (dD<|CK a<|led t s,Y),ii s,ii<|led t s]):=by
 have j:=g.1
 have c:s≠0/\ -((A1 t):Int)<=s/\s<=(A1 t):=by have:=h1;unfold ab at this;split at this<;>lia
 refine(gO (δ1:=[eN t,b,J (dD a,Y),ii s,ii<|led t s]) ?_).trans ?_
 .exact iU (i:=4) (δ1:=[eN t,b,J (dD a,Y),ii s,d]) (jl (δ1:=[eN t,b,J (dD a,Y),ii s,d]) (os:=[.slot 0,.slot 3]) (args:=[enc t,pI s]) I I mv<|Yr t s c.1 c.2.1 c.2.2) (show 4<5 by decide)
 refine(gO (δ1:=[eN t,b,J (dD<|CK a<|led t s,Y),ii s,ii<|led t s]) ?_).trans I;have e:jI 4 [eN t,b,J (dD a,Y),ii s,ii<|led t s]=J ((.int<|led t s,C),[eN t,b,J (dD a,Y),ii s,ii<|led t s]):=rfl;have f:hG (iB (g1 xE) [gK 4]) [eN t,b,J (dD a,Y),ii s,ii<|led t s]=J (.val (.int<|ab<|led t s,C),[eN t,b,J (dD a,Y),ii s,ii<|led t s]):=rfl;unfold L7;rw[e];simp only[jH,yN];rw[f];simp only[jH,CJ,wC,yN,dD];rw[hV ⟨EF a _,by have:=h.len;simp;lia⟩,UH];rfl
def YS{n:Nat}{t:gQ}(l:Gu n t)(o:n<=5)(f:Sl):∀(c a:gQ)(x3 b:Sl),(∀s∈c,1<=ab s/\ab s<=n)->DW n a->∃d i k,DW n d/\(a≠[]\/c≠[]->d≠[])/\lJ (gP 3) fbL (c.map .int) [eN t,f,J (dD a,Y),x3,b]=J (.nx [eN t,f,J (dD d,Y),i,k]):=by
 intro r
 induction r with
 |nil=>intro a x3 b _ g;exact⟨a,x3,b,g,λh=>h.elim id λh=>absurd I h,rfl⟩
 |cons s c q=>intro a x3 b h g;have j:=h s jF;obtain⟨d,i,k,h1,m,e⟩:=q (CK a<|led t s) (ii s) (ii<|led t s) (λx p=>h x<|iY _ p)<|g.put<|Nk l j.1 j.2;refine⟨d,i,k,h1,λ_=>m<|.inl<|Qd _ _,?_⟩;rw[jK];unfold lJ;rw[show gP 3 (.int s) [eN t,f,J (dD a,Y),x3,b]=J [eN t,f,J (dD a,Y),ii s,b]from I];simp only[jH];rw[VI l o j g];simp;exact e
def Ua{l k:gQ}(m:l.Nodup)(h:mx CL (l.map .int)=k.map .int):k.Perm l/\k.Pairwise (· < ·):=by
 have f:=jL CL<|l.map D.int;rw[h]at f;have c:=(f.map λd=>match d with|D.int i=>i|_=>0)
 simp at c;have e:((λd=>match d with|D.int i=>i|_=>0)∘D.int)=id:=rfl;rw[e,qm,qm]at c;refine⟨c,?_⟩;have g:=mT<|l.map D.int;rw[h,nD]at g;have j:=c.symm.nodup m;have:=g.and j;refine this.imp λ{a b} h=>?_;have h1:=h.1;rw[xu]at h1;simp only[cT]at h1;by_cases q:b<a
 .simp[q]at h1
 have:=h.2;lia
def ads(a:gQ):∀k:List Int,(∀x∈k,x∈a.map ab)->∃c:List Int,c.map ab=k/\(∀w∈c,w∈a)/\k.map (λx=>(lV (a.map λw=>D.int<|ab w) (a.map .int)<|.int x).getD .T2)=c.map .int:=by
 intro l
 induction l with
 |nil=>intro _;exact⟨[],rfl,by simp,rfl⟩
 |cons x k j=>intro h;obtain⟨w,g,h1,f⟩:=Io x a<|h x jF;obtain⟨c,b,d,e⟩:=j λy i=>h y<|iY _ i;exact⟨w::c,by simp[h1,b],by simp[g];exact d,by simp[f,e]⟩
def Q9{n:Nat}(T:n<=5){t c a:gQ}{x3 f:Sl}(l:DW n a)(s:a≠[])(e:lJ (gP 3) fbL (c.map .int) [eN t,eN c,J (dD [],Y),U,U]=J (.nx [eN t,eN c,J (dD a,Y),x3,f])):
  ∃b,((b.map ab).Pairwise (· < ·)/\(∀w∈b,w∈a)/\(b.map ab).Perm (a.map ab))/\kH [enc t,enc c]=J (enc b,[eN t,eN c]):=by
 have j:=l.len;obtain⟨k,hk⟩:=vU<|jL CL<|(a.map ab).map D.int;obtain⟨kp,z⟩:=Ua l.1 hk;obtain⟨b,i,o,p⟩:=ads a k λx h=>kp.mem_iff.mp h;refine⟨b,⟨by rw[i];exact z,o,by rw[i];exact kp⟩,?_⟩
 have m:(A1 k)<=5:=by have:=kp.length_eq;simp at this;lia
 have s1:kG (dD a)=J (.lst<|k.map .int,Y):=by
  unfold kG dD;have q:((a.map λw=>D.int<|ab w).all λk=>(uW k).isSome)=Y:=by simp[uW]
  have B:(a.map λw=>D.int<|ab w)≠[]:=by simpa using s
  simp only;rw[hV ⟨q,B⟩];have r:(a.map λw=>D.int<|ab w)=(a.map ab).map D.int:=by rw[jA];rfl
  unfold jw;rw[r,hV ⟨abY _,by rw[jQ];simp;lia⟩,hk]
 obtain⟨E,g⟩:=xP (il G4 (gK 0)<|gK 1) (λd=>match d with|.int x=>(lV (a.map λw=>D.int<|ab w) (a.map .int)<|.int x).getD .T2|_=>.T2) [J (dD a,Y)] (k.map .int) [] U (by intro d hd;obtain⟨x,h,rfl⟩:=ie hd;obtain⟨w,v,h1,u⟩:=Io x a<|kp.mem_iff.mp h;refine⟨C,ji (o1:=.slot 0) (o2:=.slot 1) I I I I ?_⟩;simp only[G4,dD];rw[hV<|EF a x,u];rfl) (by rw[jQ];simp;lia)
 have A:((k.map D.int).map λd=>match d with|.int x=>(lV (a.map λw=>D.int<|ab w) (a.map .int)<|.int x).getD .T2|_=>.T2)=b.map .int:=by rw[jA,<-p];rfl
 rw[A]at g;simp at g;refine jG (δ:=[eN t,eN c,J (dD a,Y),x3,f]) ⟨rfl,by decide,rfl⟩ ?_;refine(gO (δ1:=[eN t,eN c,J (dD [],Y),U,U]) I).trans ?_;refine(gO<|(kE (ds:=c.map .int) (δ1:=[eN t,eN c,J (dD [],Y),U,U]) I).trans e).trans ?_;refine iW<|kh<|jM (os:=[.val (.lst<|b.map .int,Y)]) (oy<|iq ?_) I I;have y:jd (iB (g1 kG) [gK 2]) [eN t,eN c,J (dD a,Y),x3,f]=J (k.map .int,[eN t,eN c,J (dD a,Y),x3,f]):=lM<|jM (os:=[.slot 2]) I I s1;unfold iR;rw[y];simp only[jH,jK,oP];rw[show jb [eN t,eN c,J (dD a,Y),x3,f] [.slot 2]=J [(dD a,Y)]from I];simp only[jH];rw[hV (show(iu [F2.slot 2] [(dD a,Y)]).Nodup from(He 2))];rw[show(b4 J [(dD a,Y)]++ah 1 U:Dn)=[J (dD a,Y),U]from I,g];rfl
def abt{n:Nat}(f:n<=5){t c:gQ}(k:Gu n t)(d:Q2 n c):∃a,Q2 n a/\kH [enc t,enc c]=J (enc a,[eN t,eN c]):=by obtain⟨l,x3,m,g,b,e⟩:=YS k f (eN c) c [] U U d.2.2 ⟨by simp,by simp⟩;have b:=b<|.inr d.1;obtain⟨a,⟨h1,h,i⟩,e⟩:=Q9 f g b e;refine⟨a,⟨λz=>b ?_,h1,λs j=>g.2 s<|h s j⟩,e⟩;have:=i.length_eq;rw[z]at this;exact Ku.mp (by simpa using this.symm)
noncomputable abbrev cD(c:gQ):D:=.tup (c.map .int)
def vd(c:gQ):D.dep (cD c)=1:=by simp[D.dep,wd]
def tN:∀a:List (List Int),D.Ms (a.map cD)<=1:=by
 intro d
 induction d with
 |nil=>simp[D.Ms]
 |cons c a b=>have:=b;simp only[jK,D.Ms,vd];lia
def Hd(a b:gQ):D.R1 (cD a) (cD b)=decide (a=b):=by simp[D.R1,Ac]
def Hr(c:gQ):∀a:List (List Int),(a.map cD).any (λd=>D.R1 d<|cD c)=decide (c∈a):=by
 intro f
 induction f with
 |nil=>kernel_rfl
 |cons x a b=>
  simp only[jK,rA,b,Hd];by_cases h:x=c
  .simp[h]
  have: ¬c=x:=λe=>h e.symm;simp[h,this]
def zG(c:gQ)(a:hX):nF (cD c) (.lst<|a.map cD)=J (.bl (!decide (c∈a)),C):=by
 have:inD (cD c) (.lst<|a.map cD)=J (decide<|c∈a):=by have hd:=tN a;show(if D.Ms (a.map cD)<=50/\(cD c).dep<=50 then J ((a.map cD).any λd=>D.R1 d<|cD c)else U)=_;rw[hV ⟨by lia,by rw[vd];lia⟩,Hr]
 unfold nF;rw[this];rfl
noncomputable def Av:Nat->List (List Int)
 |0=>[[]]
 |k+1=>Av k++((Av k).map λc=>c++[(k:Int)+1])++((Av k).map λc=>c++[-((k:Int)+1)])
def OB:∀(k:Nat)(c:gQ),(c.map ab).Pairwise (· < ·)->(∀s∈c,1<=ab s/\ab s<=k)->c∈Av k:=by
 intro j
 induction j with
 |zero=>
  intro c _ h
  cases c with
  |nil=>simp[Av]
  |cons s c=>have:=h s jF;lia
 |succ k f=>
  intro c b h;simp only[Av,nQ,rp];by_cases d:c=[]
  .subst d;exact .inl<|.inl<|f [] (by simp) (by simp)
  have hd:=Fg d;generalize c.dropLast=i at hd;generalize c.getLast d=s at hd;subst hd;rw[nL,qz]at b;have l:=h s (by simp);have g:∀x∈i,1<=ab x/\ab x<ab s:=λx a=>⟨(h x<|by simp[a]).1,b.2.2 (ab x) (qo a) (ab s)<|by simp⟩
  by_cases q:ab s<=k
  .refine .inl (.inl<|f _ ?_ λx a=>?_)
   .rw[nL,qz];exact b
   rcases nQ.mp a with a|a
   .have:=g x a;lia
   simp at a;subst a;lia
  have e:ab s=(k:Int)+1:=by lia
  have hk:=f i b.1 λx a=>by have:=g x a;lia
  unfold ab at e;split at e
  .exact .inr ⟨i,hk,by rw[show s= -((k:Int)+1) by lia]⟩
  exact .inl (.inr ⟨i,hk,by rw[show s=((k:Int)+1) by lia]⟩)
def aee:∀(k:Nat)(n:Nat),n<=k->(Av n).length<=(Av k).length:=by
 intro b
 induction b with
 |zero=>intro n h;rw[show n=0 by lia];exact jh _
 |succ k a=>
  intro n h;by_cases e:n=k+1
  .subst e;exact jh _
  have:=a n (by lia);simp only[Av,nN,jf];lia
def AN(n:Nat)(a:hX):Prop:=a.Nodup/\∀c∈a,Q2 n c
def AN.len(b:n<=5)(h:AN n cs):(A1 cs)<=243:=by
 have h1:=mV cs (Av n) h.1 λc a=>OB n c (h.2 c a).2.1 (h.2 c a).2.2;have d:=aee 5 n b;have e:(Av 5).length=243:=by decide
 lia
def AN.snoc{n:Nat}{b:hX}{c:gQ}(h:AN n b)(f:Q2 n c)(g:c∉b):AN n (b++[c]):=by
 refine⟨?_,λx a=>?_⟩
 .rw[yk];exact⟨h.1,by simp,λx a y d e=>by simp at d;subst d;subst e;exact g a⟩
 rcases nQ.mp a with a|a
 .exact h.2 x a
 simp at a;subst a;exact f
abbrev DQ(a:hX):Sl:=J (.lst<|a.map cD,Y)
abbrev VE:FS:=zC9
def ixc{a:hX}{i:Nat}(h:i<A1 a):A2 (.lst<|a.map cD) (.int i)=J (cD<|a.getD i [],C):=by
 have:(i:Int)<(A1 a):=by lia
 simp[A2,GK,Dv,h]
def ac2{a:hX}{i:Nat}(h:i<A1 a):a.getD i []∈a:=by rw[qp,jk h];exact wB h
def Ru{n:Nat}(q:n<=5){t:gQ}(s:Gu n t){a:hX}(f:AN n a){i:Nat}(p:i<A1 a)(c d j:Sl):∃k u,AN n k/\(A1 a)<=A1 k/\VE [c,d,DQ a,ii i,eN t,j]=J (.nx [c,d,DQ k,ii i,eN t,u]):=by
 obtain⟨b,v,e⟩:=abt q s<|f.2 _ (ac2 p);have w:=f.len q
 have s1:∀g,gW WV g [c,d,DQ a,ii i,eN t,j]=g [c,d,DQ a,ii i,eN t,eN b]:=λg=>gO<|iU (i:=5) (δ1:=[c,d,DQ a,ii i,eN t,j]) (jl (δ1:=[c,d,DQ a,ii i,eN t,j]) (os:=[.slot 4,.val<|enc<|a.getD i []]) (args:=[enc t,enc<|a.getD i []]) (ox I<|iq<|ji (o1:=.slot 2) (o2:=.slot 3) I I I I<|ixc p) I mv e) (show 5<6 by decide)
 have m:(fT<|il nF (gK 5)<|gK 2) [c,d,DQ a,ii i,eN t,eN b]=J (!decide (b∈a),[c,d,DQ a,ii i,eN t,eN b]):=
  jx (o:=C) (ji (o1:=.slot 5) (o2:=.slot 2) I I I I<|zG b a)
 by_cases h:b∈a
 .refine⟨a,eN b,f,jh _,(s1 _).trans<|(gO<|(mE ?_).trans I).trans I⟩;rw[m,kM h];rfl
 refine⟨a++[b],eN b,f.snoc v h,by simp,(s1 _).trans ?_⟩;rw[kN h]at m;refine(gO<|(qw m).trans<|vc (δ1:=[c,d,DQ a,ii i,eN t,eN b]) (r:=enc b) (l0:=a.map cD) (l:=a.map cD) I I I<|by simp;lia).trans ?_;simp
def YQ{n:Nat}(s:n<=5)(i:Nat)(c d:Sl):∀(k:hX)(a:hX)(f b:Sl),(∀t∈k,Gu n t)->AN n a->i<A1 a->∃e h j,AN n e/\(A1 a)<=A1 e/\lJ (gP 4) VE (k.map cD) [c,d,DQ a,ii i,f,b]=J (.nx [c,d,DQ e,ii i,h,j]):=by
 intro x
 induction x with
 |nil=>intro a f b _ g l;exact⟨a,f,b,g,jh _,rfl⟩
 |cons t k w=>intro a f b m g l;obtain⟨o,y,h1,z,p⟩:=Ru s (m t jF) g l c d b;obtain⟨e,h,j,r,A,q⟩:=w o (eN t) y (λu v=>m u<|iY _ v) h1 (by lia);refine⟨e,h,j,r,by lia,?_⟩;rw[jK];unfold lJ;rw[show gP 4 (cD t) [c,d,DQ a,ii i,f,b]=J [c,d,DQ a,ii i,eN t,b]from I];simp only[jH];rw[p];simp;exact q
abbrev ftW:FT:=WO
abbrev fbW:FS:=gW (nE mC (gP 4) VE) WM
def TX{n:Nat}(y:n<=5)(g:Sl)(c:hX)(A:∀t∈c,Gu n t):∀(m a i:Nat)(o:Bool)(b:hX)(d e:Sl),i+m=243->m<a->AN n b->∃l v r s u,AN n l/\(A1 b)<=A1 l/\ou ftW fbW a [g,J (.lst<|c.map cD,o),DQ b,ii i,d,e]=J (.nx [g,J (.lst<|c.map cD,v),DQ l,ii r,s,u]):=by
 intro m
 induction m with
 |zero=>
  intro a i o b d e q T k;have L:=k.len y;obtain⟨f,rfl⟩:∃f,a=f+1:=⟨a-1,by lia⟩
  refine⟨b,o,i,d,e,k,jh _,?_⟩;have h: ¬((i:Int)<A1 b):=by lia
  have j:ftW [g,J (.lst<|c.map cD,o),DQ b,ii i,d,e]=J (C,[g,J (.lst<|c.map cD,o),DQ b,ii i,d,e]):=
   jx (o:=C) (ji (o1:=.slot 3) (o2:=.val (.int<|A1 b,C)) I (iq<|jM (os:=[.slot 2]) I I<|by simp) I I<|by rw[Ur,kN h])
  unfold ou;rw[j];rfl
 |succ m N=>
  intro a i o b d e q T k;obtain⟨f,rfl⟩:∃f,a=f+1:=⟨a-1,by lia⟩
  have j:ftW [g,J (.lst<|c.map cD,o),DQ b,ii i,d,e]=J (decide<|(i:Int)<A1 b,[g,J (.lst<|c.map cD,o),DQ b,ii i,d,e]):=
   jx (o:=C) (ji (o1:=.slot 3) (o2:=.val (.int<|A1 b,C)) I (iq<|jM (os:=[.slot 2]) I I<|by simp) I I<|by rw[Ur])
  by_cases h:((i:Int)<A1 b)
  .rw[kM h]at j;obtain⟨p,w,x,h1,O,B⟩:=YQ y i g (J (.lst<|c.map cD,C)) c b d e A k (by lia);obtain⟨l,v,r,s,u,E,Q,M⟩:=N f (i+1) C p w x (by lia) (by lia) h1;refine⟨l,v,r,s,u,E,by lia,?_⟩;unfold ou;rw[j];simp only[jH]
   have z:fbW [g,J (.lst<|c.map cD,o),DQ b,ii i,d,e]=J (.nx [g,J (.lst<|c.map cD,C),DQ p,ii (i+1:Nat),w,x]):=by refine(gO<|(kE (ds:=c.map cD) (δ1:=[g,J (.lst<|c.map cD,C),DQ b,ii i,d,e]) I).trans B).trans ?_;refine(gO<|iU (i:=3) (δ1:=[g,J (.lst<|c.map cD,C),DQ p,ii i,w,x]) (ji (o1:=.slot 3) (o2:=.val (.int 1,C)) I I I I I) (show 3<6 by decide)).trans ?_;simp
   rw[z];simp;exact M
  rw[kN h]at j;refine⟨b,o,i,d,e,k,jh _,?_⟩;unfold ou;rw[j];rfl
def ad0{n:Nat}(i:n<=5){b a:hX}(f:∀t∈b,Gu n t)(h:AN n a)(o:Bool):∃c p,AN n c/\(A1 a)<=A1 c/\nr [(.lst<|a.map cD,C),(.lst<|b.map cD,o)]=J ((.lst<|c.map cD,Y),[J (.lst<|a.map cD,C),p]):=by
 obtain⟨c,d,j,k,m,g,l,e⟩:=TX i (J (.lst<|a.map cD,C)) b f 243 Ze 0 o a U U (by lia) (by decide) h;refine⟨c,if o=Y then J (.lst<|b.map cD,d)else J (.lst<|b.map cD,o),g,l,?_⟩;refine(jG (r:=(.lst<|c.map cD,Y)) (δ:=[J (.lst<|a.map cD,C),J (.lst<|b.map cD,d),U,ii j,k,m]) ⟨rfl,(show 2<=6 by decide),by cases o<;>rfl⟩ ?_).trans ?_
 .refine(gO (δ1:=[J (.lst<|a.map cD,C),J (.lst<|b.map cD,o),DQ a,U,U,U]) I).trans ?_;refine(gO (δ1:=[J (.lst<|a.map cD,C),J (.lst<|b.map cD,o),DQ a,ii 0,U,U]) I).trans ?_;exact(gO e).trans (iW I)
 cases o<;>rfl
noncomputable def ql(a:hX)(c:gQ):List (List Int):=if c∈a then a else a++[c]
def dd(cs:hX):List (List Int):=cs.foldl ql []
def DC(a:hX)(c:gQ):nC (a.map cD) (cD c)=(ql a c).map cD:=by unfold nC ql;rw[show(a.map cD).any (D.R1 · (cD c))=decide (c∈a)from Hr c a];by_cases h:c∈a<;>simp[h]
def Oc:∀(b a:hX),(b.map cD).foldl nC (a.map cD)=(b.foldl ql a).map cD:=by
 intro e
 induction e with
 |nil=>intro a;exact I
 |cons c b d=>intro a;rw[jK,uA,uA,DC,d]
def OF:x∈ql a c↔x∈a\/x=c:=by
 unfold ql;by_cases h:c∈a
 .rw[hV h];constructor
  .exact .inl
  rintro(h1|rfl)
  .exact h1
  exact h
 rw[iC h];simp
def pN:∀(cs a:hX)(x:gQ),x∈cs.foldl ql a↔x∈a\/x∈cs:=by
 intro d
 induction d with
 |nil=>intro a x;simp
 |cons c cs b=>intro a x;rw[uA,b,OF,mP,or_assoc]
def R0(h:f.Nodup):(ql f c).Nodup:=by
 unfold ql;split
 .exact h
 rename_i b;rw[yk];exact⟨h,by simp,λx d y a e=>by simp at a;subst a;subst e;exact b d⟩
def vY:∀(cs a:hX),a.Nodup->(cs.foldl ql a).Nodup:=by
 intro d
 induction d with
 |nil=>intro a h;exact h
 |cons c cs b=>intro a h;rw[uA];exact b _ (R0 h)
def pK:∀l:List Int,D.GS (l.map .int)=Y:=by
 intro b
 induction b with
 |nil=>simp[D.GS]
 |cons x l a=>simp[D.GS,D.pr,a]
def Vb(c:gQ):AK (cD c)=Y:=by simp[AK,pK,wd]
def pZ(cs:hX):(cs.map cD).all AK=Y:=by rw[kf];intro d hd;obtain⟨c,_,rfl⟩:=ie hd;exact Vb c
theorem BH(c:ce):∀a b:List Int,(nB c (a.map .int)<|b.map .int).isSome=Y
 |[],b=>by kernel_rfl
 |x::a,[]=>by kernel_rfl
 |x::a,y::b=>by
  simp only[jK,nB];split
  .exact BH c a b
  simp[nX]
def sV(cs:hX)(h:∀c∈cs,c≠[]):lF (cs.map cD)=Y:=by
 have hk:∀c:List Int,c≠[]->kP (cD c)=J 1:=λc g=>by
  cases c with
  |nil=>exact absurd I g
  |cons=>rfl
 unfold lF
 cases cs with
 |nil=>rfl
 |cons c cs=>
  rw[uw];right;simp only[jK];rw[kX,kX,hk c<|h c jF];refine⟨⟨rfl,?_⟩,?_⟩
  .rw[kf];intro d hd;rw[<-jK (f:=cD)]at hd;obtain⟨x,b,rfl⟩:=ie hd;rw[hk x<|h x b,vd];simp[D.pr,pK]
  rw[kf];intro d hd;rw[kf];intro e a;rw[<-jK (f:=cD)]at hd a;obtain⟨x,b,rfl⟩:=ie hd;obtain⟨y,i,rfl⟩:=ie a;simp only[nX];rw[hV<|.inl trivial];exact BH _ _ _
def Ds:D->List Int
 |.tup l=>l.map B1
 |_=>[]
def kc(c:gQ):Ds (cD c)=c:=by simp only[Ds,jA];rw[lX (g:=id),qm];intro x _;rfl
def ve(h:m.Perm (cs.map cD)):∃a:List (List Int),m=a.map cD/\a.Perm cs:=by
 refine⟨m.map Ds,?_,?_⟩
 .rw[jA]
  symm
  rw[lX (g:=id),qm];intro d hd;obtain⟨c,_,rfl⟩:=ie<|h.mem_iff.mp hd;simp only[bI,kc];rfl
 have:=h.map Ds;rw[jA]at this;rw[show b4 (Ds∘cD) cs=b4 id cs from lX λc _=>kc c,qm]at this;exact this
def DT(c:hX):Prop:=c.Pairwise λa b=>CL (cD b) (cD a)=C
def XY{n:Nat}{a:hX}(j:∀c∈a,Q2 n c)(l:(A1 a)<500):∃k b:List (List Int),AN n b/\DT b/\(∀c,c∈b↔c∈a)/\(A1 b)<=A1 a/\Vv (.lst<|a.map cD)=J (.Sr .set []<|k.map cD,Y)/\kG (.Sr .set []<|k.map cD)=J (.lst<|b.map cD,Y):=by
 have g:∀c,c∈dd a↔c∈a:=λc=>by unfold dd;rw[pN];simp
 have f:(dd a).Nodup:=vY a [] (by simp);obtain⟨b,e,i⟩:=ve<|jL CL<|(dd a).map cD;have d:(dd a).length<=(A1 a):=mV _ _ f λc h=>(g c).mp h;refine⟨dd a,b,⟨i.symm.nodup f,λc h=>j c<|(g c).mp<|i.mem_iff.mp h⟩,?_,λc=>i.mem_iff.trans<|g c,by rw[i.length_eq];exact d,?_,?_⟩
 .have:=mT<|(dd a).map cD;rw[e,nD]at this;exact this
 .show(if(a.map cD).all AK=Y/\(a.map cD).length<500 then J (D.Sr .set []<|mO<|a.map cD,Y)else U)=_;rw[hV ⟨pZ a,by simpa using l⟩];unfold mO;rw[show([]:List D)=([]:List (List Int)).map cD from I,Oc];rfl
 show(if((dd a).map cD).all AK=Y then jw ((dd a).map cD)else U)=_;rw[hV<|pZ _];unfold jw;rw[hV ⟨sV _ λc h=>(j c<|(g c).mp h).1,by rw[jQ];simp;lia⟩,e]
def adf:∀(k:Nat)(r f t:gQ),t∈mF k r f->∀x∈t,x∈f\/∃y∈r,x=y*1\/x=y* -1:=by
 intro e
 induction e with
 |zero=>intro r f t h x a;simp[mF]at h;subst h;exact .inl a
 |succ k d=>
  intro r f t h x a;simp only[mF,wu,nQ,rn]at h;obtain⟨v,hv,h⟩:=h
  have key:∀s:Int,(s=1\/s= -1)->t∈mF k (r.eraseIdx v) (f++[r.getD v 0*s])->x∈f\/∃y∈r,x=y*1\/x=y* -1:=by
   intro s b h;rcases d _ _ t h x a with h1|⟨y,c,h1⟩
   .rcases nQ.mp h1 with h1|h1
    .exact .inl h1
    simp at h1;refine .inr ⟨r.getD v 0,kQ hv,?_⟩;rw[qp];rcases b with rfl|rfl<;>simp[h1]
   exact .inr ⟨y,KC c,h1⟩
  rcases h with h|h
  .exact key 1 (.inl I) h
  exact key (-1) (.inr I) h
def aen{n:Nat}{t:gQ}(h:t∈mF n (st n) []):Gu n t:=by
 refine⟨aem h,λx a=>?_⟩;rcases adf n _ _ t h x a with h1|⟨y,b,h1⟩
 .simp at h1
 have:=Jk.mp b;unfold ab;rcases h1 with rfl|rfl<;>split<;>omega
def Gu.abs(h:Gu n t):Gu n (t.map ab):=by refine⟨by simpa using h.1,λx a=>?_⟩;obtain⟨y,b,rfl⟩:=ie a;have:=h.2 y b;rw[nH (i:=ab y)<|by lia];exact this
def Oq(l:NL)(P:List Int->Prop)(b:Bool)(n:Int)(h:∀a,∃i c,P c/\l [pS a b,pI n]=J (enc c,[W2 i b,ii n])):∀(k:List D)(f:hX)(a:Int)(x:Sl),(∀c∈f,P c)->A1 f+A1 k<=1000->
  ∃(i:Int)(j:hX)(o:Sl),(∀c∈j,P c)/\(A1 j)=A1 f+A1 k/\jr (gP 2) iZ (ja<|hU l [gK 0,gK 1]) k (f.map cD) [W2 a b,ii n,x]=J (j.map cD,[W2 i b,ii n,o]):=by
 intro A
 induction A with
 |nil=>intro f a x m _;exact⟨a,f,x,m,by simp,rfl⟩
 |cons d k w=>
  intro f a x m p;obtain⟨a1,z,v,r⟩:=h a
  obtain⟨i,j,o,t,q,e⟩:=w (f++[z]) a1 (J (d,C)) (λy g=>by
   rcases nQ.mp g with g|g
   .exact m y g
   simp at g;subst g;exact v) (by simp at p ⊢;lia)
  refine⟨i,j,o,t,by simp at q ⊢;lia,?_⟩;have u:(f.map cD).length<sizeLine:=by rw[jQ];simp at p ⊢;lia
  have s:hU l [gK 0,gK 1] [W2 a b,ii n,J (d,C)]=J (enc z,[W2 a1 b,ii n,J (d,C)]):=
   jl (δ1:=[W2 a b,ii n,J (d,C)]) (os:=[.slot 0,.slot 1]) (args:=[pS a b,pI n]) rfl rfl (He 0) r
  rw[jr,show gP 2 d [W2 a b,ii n,x]=J [W2 a b,ii n,J (d,C)]from I];simp only[jH,PU,PY];rw[s];simp only[jH];rw[hV u];rw[nL]at e;exact e
def Ai(l:NL)(P:List Int->Prop)(b:Bool)(n:Int)(h:∀a,∃f c,P c/\l [pS a b,pI n]=J (enc c,[W2 f b,ii n]))(k:List D)(hd:(A1 k)<=1000)(a:Int)(g i:Sl)(d:Dn)(o:AE)(m:o (W2 a b::g::i::ii n::d)=J (k,W2 a b::g::i::ii n::d)):
  ∃(f:Int)(j:hX),(∀c∈j,P c)/\(A1 j)=A1 k/\iR [0,3] 1 o (gP 2) iZ (ja<|hU l [gK 0,gK 1]) (W2 a b::g::i::ii n::d)=J ((.lst<|j.map cD,Y),W2 f b::g::i::ii n::d):=by
 obtain⟨f,j,q,h1,p,e⟩:=Oq l P b n h k [] a U (by simp) (by simpa using hd);refine⟨f,j,h1,by simpa using p,?_⟩;unfold iR;rw[m];simp only[jH,jK,oP];rw[show jb (W2 a b::g::i::ii n::d) [.slot 0,.slot 3]=J [pS a b,pI n]from I];simp only[jH];rw[hV (show(iu [F2.slot 0,F2.slot 3] [(D.lst [.int a,.bl b],Y),pI n]).Nodup from(He 0))];rw[show(b4 J [(D.lst [.int a,.bl b],Y),(D.int n,C)]++ah 1 U:Dn)=[W2 a b,ii n,U]from I];rw[show([]:List D)=([]:List (List Int)).map cD from I,e];rfl
def Oe(a:hX)(v:Nat):∃m,m<=v/\PX.ye (a.map cD) U (J (v:Int))=(a.take m).map cD:=by refine⟨min v<|A1 a,by lia,?_⟩;unfold PX.ye;rw[HT.Uh,HT.Wh,mo,jf,lw,px]
def DT.take(h:DT a)(m:Nat):DT (a.take m):=p6 (wW m a) h
def AN.take(h:AN n a)(m:Nat):AN n (a.take m):=⟨List.Nodup.sublist (wW m a) h.1,λc b=>h.2 c<|uB b⟩
def OJ(t:gQ)(a:(A1 t)<=100):TN [J (cD t,C)]=J ((cD<|t.map ab,C),[J (cD t,C)]):=by
 obtain⟨b,e⟩:=xP (iB (g1 xE) [gK 0]) (λd=>.int (ab<|B1 d)) [] (t.map .int) [] U (by intro d hd;obtain⟨i,_,rfl⟩:=ie hd;exact⟨C,rfl⟩) (by rw[jQ];simp;lia)
 simp at e;refine jM (os:=[.val (.lst<|(t.map ab).map .int,Y)]) (oy<|iq ?_) I I;unfold iR;rw[show zf [J (cD t,C)]=J (t.map .int,[J (cD t,C)])from I];simp only[jH,oP,xh,iu,mv,mR,rq,dG,yI];rw[e,jA];rfl
def Y5{f:F}{c:AE}{e a:Dn}{b d:List D}{h:Sl}(h1:c e=J (b,a))(g:jr (gP 0) iZ (ja f) b [] [U]=J (d,[h])):iR [] 1 c (gP 0) iZ (ja f) e=J ((.lst d,Y),a):=by unfold iR;rw[h1];simp only[jH,oP,xh,iu,mv,mR,rq,dG,yI];rw[g];rfl
def aef(a:hX)(m:(A1 a)<=1000)(l:∀t∈a,A1 t<=100)(b c f g i j k:Sl)(o:Bool):iR [] 1 (jd<|jI 7) (gP 0) iZ Xf [b,c,f,g,i,j,k,J (.lst<|a.map cD,o)]=J ((.lst<|(a.map<|b4 ab).map cD,Y),[b,c,f,g,i,j,k,J (.lst<|a.map cD,C)]):=by
 obtain⟨n,e⟩:=xP TN (λd=>cD<|(Ds d).map ab) [] (a.map cD) [] U (by intro d hd;obtain⟨t,h,rfl⟩:=ie hd;refine⟨C,?_⟩;rw[kc];exact OJ t<|l t h) (by rw[jQ];simp;lia)
 simp at e;have:(a.map<|(λd=>cD<|(Ds d).map ab)∘cD)=a.map (cD∘b4 ab):=lX λt _=>by simp only[bI,kc]
 rw[this]at e;rw[jA];exact Y5 I e
def nh(n:Nat)(a:hX):Prop:=n<=5/\AN n a/\DT a/\(A1 a)<=30
abbrev AW(n:Nat)(ks:hX):D:=.tup [.int n,.tup<|ks.map cD]
abbrev rS(n:Nat)(ks:hX):Sl:=J (AW n ks,C)
noncomputable abbrev lv(L:List D):Sl:=J (.lst L,Y)
def acr(h:kD fs δ=kD b a):hU ev fs δ=hU ev b a:=by unfold hU;rw[h]
def adP(a:Int)(b:Bool)(lo d:Nat)(h1:lo<=d)(h5:d<=5):∃U' n ks,nh n ks/\lo<=n/\n<=d/\nq [pS a b,pI lo,pI d]=z8 ((AW n ks,AC),[W2 U' b,ii lo,ii d]):=by
 obtain⟨v,a1,v0,v1,e1⟩:=ni a b ((d:Int)-lo+1) (by lia) (by lia);obtain⟨w,q,w0,w1,e2⟩:=ni a1 b 4 (by lia) (by lia);obtain⟨n,hn⟩:∃n:Nat,(lo:Int)+v=n:=⟨(lo+v).toNat,by lia⟩
 have pre:∀g,gW Xm (gW WK g) [W2 a b,ii lo,ii d,U,U,U,U,U]=g [W2 q b,ii lo,ii d,ii n,ii w,U,U,U]:=by
  intro g;refine(gO (δ1:=[W2 a1 b,ii lo,ii d,ii n,U,U,U,U]) ?_).trans ?_
  .refine iU (i:=3) (δ1:=[W2 a1 b,ii lo,ii d,U,U,U,U,U]) (ji (o1:=.slot 1) (o2:=.val (.int v,AC)) AT (iq<|e1 _ _ _ rfl rfl) AT AT ?_) (show 3<8 by decide);rw[X4,hn]
  exact gO (iU (i:=4) (δ1:=[W2 q b,ii lo,ii d,ii n,U,U,U,U]) (e2 _ [ii lo,ii d,ii n,U,U,U,U] _ rfl rfl) (show 4<8 by decide))
 by_cases hz:n=0
 .subst hz;refine⟨q,0,[],⟨by lia,⟨by simp,by simp⟩,bX,by simp⟩,by lia,by lia,?_⟩;refine jG (δ:=[W2 q b,ii lo,ii d,ii (0:Nat),ii w,U,U,U]) ⟨rfl,by decide,rfl⟩<|(pre _).trans ?_;refine iW ((qw (δ1:=[W2 q b,ii lo,ii d,ii (0:Nat),ii w,U,U,U])<|by kernel_rfl).trans<|iW<|kh ?_)
  kernel_rfl
 have n1:1<=n:=by lia
 have T:n<=5:=by lia
 obtain⟨u,H,u0,u1,e3⟩:=ni q b 3 (by lia) (by lia)
 let Z:List Int:=[4,8,13]
 let m:=Z.getD u.toNat 0
 have hm:0<m/\m<=13:=by rcases(show u=0\/u=1\/u=2 by lia)with rfl|rfl|rfl<;>decide
 obtain⟨c,I,q0,q1,e4⟩:=ni H b m hm.1 (by lia);obtain⟨f,rfl⟩:∃f:Nat,c=f:=⟨c.toNat,by lia⟩
 have i1:yp (gK 5) [W2 I b,ii lo,ii d,ii n,ii w,ii f,U,U]=z8 (iI 0 f,[W2 I b,ii lo,ii d,ii n,ii w,ii f,U,U]):=tj (o:=.slot 5) AT AT (by lia);obtain⟨B,j,bR,k9,e5⟩:=Ai md (Q2 n) b n (λa=>ad1 a b n n1 T) (iI 0 f) (by simp[iI];lia) I (ii lo) (ii d) [ii w,ii f,U,U] (yp<|gK 5) i1;have i6:(A1 j)<13:=by simp[iI]at k9;lia
 have E:∃(h:Int)(z:hX)(l:Sl),(∀c∈z,Q2 n c)/\(A1 z)<500/\zC0 [W2 B b,ii lo,ii d,ii n,ii w,ii f,lv<|j.map cD,U]=z8 (.nx [W2 h b,ii lo,ii d,ii n,ii w,ii f,lv<|z.map cD,l]):=by
  by_cases hw:0<w
  .obtain⟨k,hk,aV⟩:∃k:Nat,(1:Int)+w%2=k/\k<=2:=⟨(1+w%2).toNat,by lia,by lia⟩
   have i2:yp WZ [W2 B b,ii lo,ii d,ii n,ii w,ii f,lv<|j.map cD,U]=z8 (iI 0 k,[W2 B b,ii lo,ii d,ii n,ii w,ii f,lv<|j.map cD,U]):=by
    refine tj (o:=.val (.int k,AC)) (iq ?_) AT (by lia);rw[<-hk]
    kernel_rfl
   obtain⟨h,A,D,W,e6⟩:=Ai ke (Gu n) b n (λa=>by obtain⟨U',t,L,e⟩:=zk a b n T;exact⟨U',t,aen L,e⟩) (iI 0 k) (by simp[iI];lia) B (ii lo) (ii d) [ii w,ii f,lv<|j.map cD,U] _ i2
   have O:(A1 A)<=1000:=by simp[iI]at W;lia
   have th:∃s:List (List Int),(∀t∈s,Gu n t)/\∀g,gW zC2 g [W2 h b,ii lo,ii d,ii n,ii w,ii f,lv<|j.map cD,lv<|A.map cD]=g [W2 h b,ii lo,ii d,ii n,ii w,ii f,lv<|j.map cD,lv<|s.map cD]:=by
    by_cases h3:w=3
    .refine⟨A.map<|b4 ab,λt L=>?_,λg=>?_⟩
     .obtain⟨t',V,rfl⟩:=ie L;exact(D t' V).abs
     refine gO ((qw (δ1:=[W2 h b,ii lo,ii d,ii n,ii w,ii f,lv<|j.map cD,lv<|A.map cD])<|jx (o:=AC)<|ji (o1:=.slot 4) (o2:=.val (.int 3,AC)) AT AT AT AT<|by rw[Mk,h3];rfl).trans<|(gO<|iU (i:=7) (δ1:=[W2 h b,ii lo,ii d,ii n,ii w,ii f,lv<|j.map cD,z8 (.lst<|A.map cD,AC)]) (aef A O (λt L=>by have:=(D t L).1;lia) _ _ _ _ _ _ _ At) (show 7<8 by decide)).trans AT)
    refine⟨A,D,λg=>gO<|(mE (δ1:=[W2 h b,ii lo,ii d,ii n,ii w,ii f,lv<|j.map cD,lv<|A.map cD])<|jx (o:=AC)<|ji (o1:=.slot 4) (o2:=.val (.int 3,AC)) AT AT AT AT<|by rw[Mk,qk,kN h3]).trans AT⟩
   obtain⟨s,Q,th⟩:=th;obtain⟨vs,ks,J,K,R,P,Y,X⟩:=XY bR (by lia);obtain⟨x,S,ct⟩:=Oe ks 2;obtain⟨z,l,N,_,e7⟩:=ad0 T Q (J.take x) At;refine⟨h,z,l,N.2,by have:=N.len T;lia,?_⟩;refine(qw (δ1:=[W2 B b,ii lo,ii d,ii n,ii w,ii f,lv<|j.map cD,U])<|jx (o:=AC)<|ji (o1:=.slot 4) (o2:=.val (.int 0,AC)) AT AT AT AT<|by rw[PR,kM (show w>0 from hw)]).trans ?_;refine(gO<|iU (i:=7) e6 (show 7<8 by decide)).trans ((th _).trans<|(gO<|iU (i:=6) (δ1:=[W2 h b,ii lo,ii d,ii n,ii w,ii f,lv<|j.map cD,l]) (jl (δ1:=[W2 h b,ii lo,ii d,ii n,ii w,ii f,lv<|j.map cD,lv<|s.map cD]) (os:=[.val (.lst<|(ks.take x).map cD,At),.slot 7]) (args:=[(.lst<|(ks.take x).map cD,AC),(.lst<|s.map cD,At)]) (ox (δ1:=[W2 h b,ii lo,ii d,ii n,ii w,ii f,lv<|j.map cD,lv<|s.map cD]) (iq ?_) AT) AT (He 7) e7) (show 6<8 by decide)).trans AT)
   have f1:Ph [W2 h b,ii lo,ii d,ii n,ii w,ii f,lv<|j.map cD,lv<|s.map cD]=z8 ((.lst<|ks.map cD,At),[W2 h b,ii lo,ii d,ii n,ii w,ii f,lv<|j.map cD,lv<|s.map cD]):=
    jM (os:=[.val (.Sr .set []<|vs.map cD,At)]) (oy<|iq<|jM (os:=[.slot 6]) AT AT Y) rfl X
   unfold uj;rw[iq f1];simp only[jH];rw[show DM [W2 h b,ii lo,ii d,ii n,ii w,ii f,lv<|j.map cD,lv<|s.map cD]=z8 (.val (.int 2,AC),[W2 h b,ii lo,ii d,ii n,ii w,ii f,lv<|j.map cD,lv<|s.map cD])from AT];simp only[jH,CJ];rw[show JV U (z8 2) (.lst<|ks.map cD)=z8 (.lst<|PX.ye (ks.map cD) U<|z8 2,At)from AT];simp only[jH];rw[show PX.ye (ks.map cD) U (z8 2)=(ks.take x).map cD from ct]
  refine⟨B,j,U,bR,by lia,?_⟩;exact(mE (δ1:=[W2 B b,ii lo,ii d,ii n,ii w,ii f,lv<|j.map cD,U])<|jx (o:=AC)<|ji (o1:=.slot 4) (o2:=.val (.int 0,AC)) AT AT AT AT<|by rw[PR,kN (show ¬w>0 from hw)]).trans AT
 obtain⟨h,z,l,N,dW,E⟩:=E;obtain⟨vs,ks,J,K,R,P,Y,X⟩:=XY N dW
 have f1:Ph [W2 h b,ii lo,ii d,ii n,ii w,ii f,lv<|z.map cD,l]=z8 ((.lst<|ks.map cD,At),[W2 h b,ii lo,ii d,ii n,ii w,ii f,lv<|z.map cD,l]):=
  jM (os:=[.val (.Sr .set []<|vs.map cD,At)]) (oy<|iq<|jM (os:=[.slot 6]) AT AT Y) rfl X
 have last:∃(y:Int)(C:hX),AN n C/\DT C/\(A1 C)<=30/\AD TM W8 ir [W2 h b,ii lo,ii d,ii n,ii w,ii f,lv<|ks.map cD,l]=z8 (.nx [W2 y b,ii lo,ii d,ii n,ii w,ii f,lv<|C.map cD,l]):=by
  have M:TM [W2 h b,ii lo,ii d,ii n,ii w,ii f,lv<|ks.map cD,l]=z8 (decide<|((A1 ks):Int)>30,[W2 h b,ii lo,ii d,ii n,ii w,ii f,lv<|ks.map cD,l]):=
   jx (o:=AC) (ji (o1:=.val (.int<|A1 ks,AC)) (o2:=.val (.int 30,AC)) (iq<|jM (os:=[.slot 6]) AT AT<|by simp) AT AT AT<|PR _ _)
  by_cases hb:((A1 ks):Int)>30
  .obtain⟨p,y,p0,p1,e8⟩:=ni h b 30 (by lia) (by lia);obtain⟨G,rfl⟩:∃G:Nat,p=G:=⟨p.toNat,by lia⟩
   obtain⟨x,S,ct⟩:=Oe ks G;refine⟨y,ks.take x,J.take x,K.take x,by rw[rM];lia,?_⟩;rw[kM hb]at M;refine(qw M).trans ((gO<|iU (i:=6) (δ1:=[W2 y b,ii lo,ii d,ii n,ii w,ii f,lv<|ks.map cD,l]) (r:=(.lst<|(ks.take x).map cD,At)) ?_ (show 6<8 by decide)).trans AT);unfold uj;rw[show gK 6 [W2 h b,ii lo,ii d,ii n,ii w,ii f,lv<|ks.map cD,l]=z8 (.slot 6,[W2 h b,ii lo,ii d,ii n,ii w,ii f,lv<|ks.map cD,l])from AT];simp only[jH];rw[iq<|e8 _ [ii lo,ii d,ii n,ii w,ii f,lv<|ks.map cD,l] _ rfl rfl];simp only[jH,CJ];rw[show res (W2 y b::[ii lo,ii d,ii n,ii w,ii f,lv<|ks.map cD,l]) (.slot 6)=z8 (.lst<|ks.map cD)from AT];simp only[jH];rw[show JV U (z8 (G:Int)) (.lst<|ks.map cD)=z8 (.lst<|PX.ye (ks.map cD) U<|z8 (G:Int),At)from AT,ct];rfl
  rw[kN hb]at M;exact⟨h,ks,J,K,by lia,(mE M).trans AT⟩
 obtain⟨y,C,k1,k2,k3,last⟩:=last;refine⟨y,n,C,⟨T,k1,k2,k3⟩,by lia,by lia,?_⟩;refine jG (δ:=[W2 y b,ii lo,ii d,ii n,ii w,ii f,lv<|C.map cD,l]) ⟨rfl,by decide,rfl⟩<|(pre _).trans ?_;refine(gO<|(mE (δ1:=[W2 q b,ii lo,ii d,ii n,ii w,U,U,U])<|by simp[hz]).trans AT).trans ?_;refine(gO (δ1:=[W2 I b,ii lo,ii d,ii n,ii w,ii f,U,U]) ?_).trans ?_
 .refine iU (i:=5) (δ1:=[W2 I b,ii lo,ii d,ii n,ii w,U,U,U]) ?_ (show 5<8 by decide)
  have em:hG TQ [W2 q b,ii lo,ii d,ii n,ii w,U,U,U]=z8 (.val (.int m,AC),[W2 H b,ii lo,ii d,ii n,ii w,U,U,U]):=
   iq (ji (o1:=.val (.lst<|Z.map .int,At)) (o2:=.val (.int u,AC)) (iq (δ1:=[W2 q b,ii lo,ii d,ii n,ii w,U,U,U])<|by kernel_rfl) (iq<|e3 _ [ii lo,ii d,ii n,ii w,U,U,U] _ rfl rfl) AT AT<|YF u0<|by simpa[Z]using u1)
  have F:=e4 (λ_=>z8 (.val (.int m,AC),[W2 H b,ii lo,ii d,ii n,ii w,U,U,U])) [ii lo,ii d,ii n,ii w,U,U,U] (.val (.int m,AC)) AT AT
  have hf:kD [gK 0,hG TQ] [W2 q b,ii lo,ii d,ii n,ii w,U,U,U]=kD [gK 0,λ_=>z8 (.val (.int m,AC),[W2 H b,ii lo,ii d,ii n,ii w,U,U,U])] (W2 H b::[ii lo,ii d,ii n,ii w,U,U,U]):=by rw[ox (o1:=.slot 0) AT em];rfl
  exact(acr hf).trans F
 refine(gO<|iU (i:=6) e5 (show 6<8 by decide)).trans ?_;refine(gO E).trans ?_;refine(gO<|iU (i:=6) f1 (show 6<8 by decide)).trans ?_;refine(gO last).trans (iW<|kh ?_)
 kernel_rfl
noncomputable abbrev AJ(a:List D):Dn:=a.map λd=>J (d,C)
theorem vN:∀(os:List F2)(a:List D),iu os (a.map λd=>(d,C))=[]
 |[],_=>by simp[iu]
 |_::_,[]=>by simp[iu]
 |o::os,d::a=>by cases o<;>simp[iu,vN os a]
theorem HD:∀(os:List F2)(b:List D)(a c:Dn),wb os (b.map λd=>(d,C)) a c=c
 |[],_,_,_=>by simp[wb]
 |_::_,[],_,_=>by kernel_rfl
 |_::_,_::_,[],_=>by kernel_rfl
 |o::os,d::b,x::xs,c=>by cases o<;>simp[wb,HD os b xs]
def V4{f:F}{ti:FT}{g:D->D}{p:D->Bool}{pre:Dn}:∀(l a:List D)(x:Sl),(∀d∈l,ti (pre++[J (d,C)])=J (p d,pre++[J (d,C)])/\(p d=Y->∃o,f (pre++[J (d,C)])=J ((g d,o),pre++[J (d,C)])))->A1 a+A1 l<=sizeLine->
  ∃b,jr (gP<|A1 pre) ti (ja f) l a (pre++[x])=J (a++(l.filter p).map g,pre++[b]):=by
 intro r
 induction r with
 |nil=>intro a x _ _;exact⟨x,by simp[jr]⟩
 |cons d l m=>
  intro a x h j;obtain⟨h1,n⟩:=h d jF;have q:(A1 a)<sizeLine:=by simp at j;lia
  rw[jr,HI];simp;rw[h1]
  cases k:p d
  .obtain⟨b,e⟩:=m a (J (d,C)) (λc i=>h c<|iY _ i) (by simp at j ⊢;lia);exact⟨b,by simp[e,k]⟩
  obtain⟨o,hd⟩:=n k;obtain⟨b,e⟩:=m (a++[g d]) (J (d,C)) (λc i=>h c<|iY _ i) (by simp at j ⊢;lia);refine⟨b,?_⟩;simp;rw[hd];simp;rw[hV q];simp;rw[e];simp[k]
def vf{caps:jc}{fi:AE}{f:F}{ti:FT}{δ δ1:Dn}{l args:List D}(g:D->D)(p:D->Bool)(h1:fi δ=J (l,δ1))(a:jb δ1 (caps.map .slot)=J (args.map λd=>(d,C)))(b:(A1 args)=A1 caps)
  (h:∀d∈l,ti (AJ args++[J (d,C)])=J (p d,AJ args++[J (d,C)])/\(p d=Y->∃o,f (AJ args++[J (d,C)])=J ((g d,o),AJ args++[J (d,C)])))(c:(A1 l)<=10000):
  iR caps 1 fi (gP<|A1 caps) ti (ja f) δ=J ((.lst<|(l.filter p).map g,Y),δ1):=by
 obtain⟨i,e⟩:=V4 (f:=f) (ti:=ti) (g:=g) (p:=p) (pre:=AJ args) l [] U h (by rw[jQ];simp;lia);unfold iR;rw[h1];simp only[jH];rw[a];simp only[jH,vN,mR,jA,HD];rw[show gP (A1 caps)=gP (AJ args).length from by rw[jf,b]];rw[show((args.map<|J∘λd=>(d,C))++ah 1 U:Dn)=AJ args++[U]from I,e];simp
def Ah{caps:jc}{fi:AE}{f:F}{δ δ1:Dn}{l args:List D}(g:D->D)(h1:fi δ=J (l,δ1))(a:jb δ1 (caps.map .slot)=J (args.map λd=>(d,C)))(b:(A1 args)=A1 caps)
  (h:∀d∈l,∃o,f (AJ args++[J (d,C)])=J ((g d,o),AJ args++[J (d,C)]))(c:(A1 l)<=10000):
  iR caps 1 fi (gP<|A1 caps) iZ (ja f) δ=J ((.lst<|l.map g,Y),δ1):=by
 rw[vf g (λ_=>Y) h1 a b (λd hd=>⟨rfl,λ_=>h d hd⟩) c,To.mpr λ_ _=>rfl]
def pT{caps:jc}{fi:AE}{f:F}{δ δ1:Dn}{l args:List D}(p:D->Bool)(h1:fi δ=J (l,δ1))(a:jb δ1 (caps.map .slot)=J (args.map λd=>(d,C)))(b:(A1 args)=A1 caps)
  (h:∀d∈l,∃o,f (AJ args++[J (d,C)])=J ((.bl<|p d,o),AJ args++[J (d,C)]))(c:(A1 l)<=10000):
  iB (g1 xD) [hG<|iR caps 1 fi (gP<|A1 caps) iZ<|ja f] δ=J ((.bl<|l.all p,C),δ1):=
 jM (oy<|iq<|Ah (λd=>.bl (p d)) h1 a b h c) rfl (A5 p l)
def Of{caps:jc}{fi:AE}{f:F}{δ a:Dn}{l args:List D}(p:D->Bool)(h1:fi δ=J (l,a))(b:jb a (caps.map .slot)=J (args.map λd=>(d,C)))(c:(A1 args)=A1 caps)
  (h:∀d∈l,∃o,f (AJ args++[J (d,C)])=J ((.bl<|p d,o),AJ args++[J (d,C)]))(e:(A1 l)<=10000):
  iB (g1 Dd) [hG<|iR caps 1 fi (gP<|A1 caps) iZ<|ja f] δ=J ((.bl<|l.any p,C),a):=
 jM (oy<|iq<|Ah (λd=>.bl (p d)) h1 b c h e) rfl (Fb p l)
def aaS{f:F}{c:AE}{g:D->D->D}{m:List D}(r:∀d y,c [J (d,C),y]=J (m,[J (d,C),y])):∀(l a:List D)(x y:Sl),(∀d∈l,∀e∈m,∃o,f [J (d,C),J (e,C)]=J ((g d e,o),[J (d,C),J (e,C)]))->A1 a+(A1 l)*(A1 m)<=sizeLine->
  ∃v b,jr (gP 0) iZ (Dw c (gP 1) iZ<|ja f) l a [x,y]=J (a++l.flatMap λd=>m.map<|g d,[v,b]):=by
 intro u
 induction u with
 |nil=>intro a x y _ _;exact⟨x,y,by simp[jr]⟩
 |cons d l t=>
  intro a x y h s;have A:(A1 a)+A1 m+(A1 l)*(A1 m)<=sizeLine:=by simp[eu]at s;omega
  obtain⟨b,j⟩:=xP f (g d) [J (d,C)] m a y (λe q=>h d jF e q) (by omega);obtain⟨x2,w,k⟩:=t (a++m.map (g d)) (J (d,C)) b (λi n=>h i<|iY _ n) (by simp;omega);refine⟨x2,w,?_⟩;rw[jr];rw[show gP 0 d [x,y]=J [J (d,C),y]from I];simp;unfold Dw;rw[r];simp;rw[show jr (gP 1) iZ (ja f) m a [J (d,C),y]=_ from j];simp only[jH];rw[show jr (gP 0) iZ (λa z=>(c z).bind λp=>jr (gP 1) iZ (ja f) p.1 a p.2) l (a++m.map (g d)) ([J (d,C)]++[b])=_ from k];simp
def VW{fi fi2:AE}{f:F}{δ δ1:Dn}{l m:List D}(g:D->D->D)(h1:fi δ=J (l,δ1))(a:∀d y,fi2 [J (d,C),y]=J (m,[J (d,C),y]))(h:∀d∈l,∀e∈m,∃o,f [J (d,C),J (e,C)]=J ((g d e,o),[J (d,C),J (e,C)]))(b:(A1 l)*(A1 m)<=10000):
  iR [] 2 fi (gP 0) iZ (Dw fi2 (gP 1) iZ<|ja f) δ=J ((.lst<|l.flatMap λd=>m.map<|g d,Y),δ1):=by
 obtain⟨c,i,e⟩:=aaS (f:=f) (g:=g) a l [] U U h (by rw[jQ];simp;lia);unfold iR;rw[h1];simp only[jH,oP,xh,iu,mv,mR,rq,dG,yI];rw[e];simp[wb]
inductive FIv(P:Dn->Prop)(x:Option Out):Prop where
 |mk (δ:Dn) (_:P δ) (_:x=z8 (.nx δ))
def yC{tg:Tg}{fb:FS}(T:List D->Dn->Prop)(step:∀d ds δ,T (d::ds) δ->∃δ1 δ2,tg d δ=J δ1/\fb δ1=J (.nx δ2)/\T ds δ2):∀(ds:List D)(δ:Dn),T ds δ->FIv (T []) (lJ tg fb ds δ):=by
 intro i
 induction i with
 |nil=>intro δ h;exact⟨δ,h,rfl⟩
 |cons d ds g=>intro δ h;obtain⟨δ1,δ2,h1,b,c⟩:=step d ds δ h;obtain⟨a,e,f⟩:=g δ2 c;refine⟨a,e,?_⟩;unfold lJ;rw[h1];simp;rw[b];exact f
theorem Om{tg:Tg}{f:F}(T:List D->List D->Dn->Prop)(step:∀d g a b,T (d::g) a b->∃δ1 r o e,tg d b=J δ1/\f δ1=J ((r,o),e)/\(A1 a)<=10000/\T g (a++[r]) e):∀(g a:List D)(b:Dn),T g a b->∃i c,T [] i c/\jr tg iZ (ja f) g a b=J (i,c)
 |[],a,b,h=>⟨a,b,h,rfl⟩
 |d::g,a,b,h=>by obtain⟨δ1,r,o,e,h1,j,n,k⟩:=step d g a b h;obtain⟨i,c,l,m⟩:=Om T step g _ e k;refine⟨i,c,l,?_⟩;unfold jr;rw[h1];simp;rw[j];simp;rw[hV<|vI n];exact m
def pP{caps:jc}{k:Nat}{fi:AE}{tg:Tg}{ti:FT}{c:FB}{δ δ1 b:Dn}{l a:List D}{args:List (D×Bool)}(h1:fi δ=J (l,δ1))(d:jb δ1 (caps.map .slot)=J args)(e:(iu (caps.map .slot) args).Nodup)(f:jr tg ti c l [] (args.map J++ah k U)=J (a,b)):
  iR caps k fi tg ti c δ=J ((.lst a,Y),wb (caps.map .slot) args (iQ args b) δ1):=by
 unfold iR;rw[h1];simp;rw[d];simp only[jH];rw[hV e,f];rfl
noncomputable def Ou:D->Bool
 |.int i=>decide (0<=i)&&decide (i<=1)
 |_=>C
def V5(d:D):nZ [(d,C)]=J ((.bl<|Ou d,C),[J (d,C)]):=by
 cases d<;>(first|rfl|simp[nZ,Bw,Q1,iQ,Bk,iu,wb,Ou])
def isA(n:Nat):D->Bool
 |.tup l=>decide (A1 l=n)&&l.all Ou
 |_=>C
def Dl(h:f δ=J ((.bl Y,o),δ1)):Ab f g δ=g δ1:=by rw[Mj,h];rfl
def Ha(h:f δ=J ((.bl C,o),δ1)):Ab f g δ=J ((.bl C,C),δ1):=by rw[Mj,h];rfl
def aed(n:Nat)(d:D)(hd:MI d):lQ [pI n,(d,C)]=J ((.bl<|isA n d,C),[ii n,J (d,C)]):=by
 cases d with
 |tup l=>
  have c:=pT (caps:=[]) (fi:=jd<|jI 1) (f:=hU nZ [gK 0]) (δ:=[ii n,J (.tup l,C)]) (l:=l) (args:=[]) Ou I I I (λd _=>⟨C,by simp[V5,iu,wb]⟩) (by have:=hd l I;lia)
  have e:il Ao Tu (gK 0) [ii n,J (.tup l,C)]=J ((.bl<|decide<|A1 l=n,C),[ii n,J (.tup l,C)]):=by simp[qk,lA]
  refine jG (δ:=[ii n,J (.tup l,C)]) ⟨rfl,by decide,rfl⟩<|iW<|kh<|(Dl I).trans ?_;rw[isA];by_cases h:(A1 l)=n
  .rw[kM h]at e ⊢;exact(Dl e).trans c
  rw[kN h]at e ⊢;exact Ha e
 |_=>(first|rfl|simp[lQ,vW,Q1,iQ,J2,isA])
noncomputable def zo:D->List D
 |.tup l=>l
 |.lst l=>l
 |_=>[]
def EC(t:gQ)(s:Int):Bool:=t.getD ((ab s).toNat-1) 0==(if s>0 then 1 else 0)
def aaH(t:gQ)(s:Int)(h:1<=ab s/\ab s<=A1 t):A2 (.tup<|t.map .int) (.int<|ab s-1)=ii (t.getD ((ab s).toNat-1) 0):=by
 have h1:0<=ab s-1:=by lia
 have b:ab s-1<((t.map D.int).length:Int):=by simp;lia
 have c:(ab s-1).toNat=(ab s).toNat-1:=by lia
 have d:(ab s).toNat-1<(A1 t):=by lia
 have a:Dv (t.map D.int).length (ab s-1)=J ((ab s).toNat-1):=by unfold Dv;rw[hV h1,hV b,c]
 rw[jf]at a;simp[A2,GK,a,d]
def Sj(t:gQ)(s:Int)(h:1<=ab s/\ab s<=A1 t):oA [enc t,pI s]=J ((.bl<|EC t s,C),[eN t,ii s]):=by have:=aaH t s h;unfold ab at this;by_cases a:s>0<;>simp[oA,EL,Q1,iQ,this,a,EC,ab]
def kC(t c:gQ):Bool:=c.any<|EC t
def RT(p:Int->Bool)(c:gQ):(c.map D.int).any (λd=>p<|B1 d)=c.any p:=by simp[qZ,B1]
def YC(n:Nat)(i:n<=5)(t c:gQ)(j:(A1 t)=n)(g:Q2 n c)(a:NL)(b:∀s,1<=ab s/\ab s<=A1 t->a [enc t,pI s]=J ((.bl<|EC t s,C),[eN t,ii s])):
  Q1 2 2 [] (gW (kn<|iB (g1 Dd) [hG<|iR [0] 1 mC (gP 1) iZ<|ja<|hU a [gK 0,gK 1]]) ir) [enc t,enc c]=J ((.bl<|kC t c,C),[eN t,eN c]):=by
 have e:=Of (caps:=[0]) (fi:=jd<|jI 1) (f:=hU a [gK 0,gK 1]) (δ:=[eN t,eN c]) (l:=c.map .int) (args:=[cD t]) (λd=>EC t<|B1 d) I I I (λd hd=>⟨C,by obtain⟨s,h,rfl⟩:=ie hd;have:=g.2.2 s h;simp[b s<|by lia,iu,wb,B1]⟩) (by have:=Q2.len g;simp;lia)
 rw[RT]at e;exact jG ⟨rfl,by decide,rfl⟩<|iW<|kh e
def Vm{n:Nat}(b:n<=5){t c:gQ}(d:(A1 t)=n)(a:Q2 n c):mn [enc t,enc c]=J ((.bl<|kC t c,C),[eN t,eN c]):=YC n b t c d a _ λs h=>Sj t s h
def kB(n:Nat)(a:hX)(d:D):Bool:=isA n d&&a.all (kC<|(zo d).map B1)
def Rh(h:isA n d=Y):∃t:List Int,d=cD t/\(A1 t)=n:=by
 cases d with
 |tup l=>
  rw[isA,kX,oM,kf]at h;refine⟨l.map B1,?_,by simp[h.1]⟩;rw[cD,jA]
  congr 1
  rw[lX (g:=id),qm];intro x a;have:=h.2 x a;cases x<;>simp[Ou,B1]at this ⊢
 |_=>cases h
def RX{n:Nat}(k:n<=5){a:hX}(hk:∀c∈a,Q2 n c)(j:(A1 a)<=30){t:gQ}(m:(A1 t)=n){b:NL}(e:∀c,Q2 n c->b [enc t,enc c]=J ((.bl<|kC t c,C),[eN t,eN c])){fi:AE}{δ:Dn}{i:Nat}(h:δ[i]?=J (eN t))(h1:fi δ=J (a.map cD,δ)):
  iB (g1 xD) [hG<|iR [i] 1 fi (gP 1) iZ<|ja<|hU b [gK 0,gK 1]] δ=J ((.bl<|a.all<|kC t,C),δ):=by
 have:=pT (caps:=[i]) (fi:=fi) (f:=hU b [gK 0,gK 1]) (δ:=δ) (l:=a.map cD) (args:=[cD t]) (λd=>kC t<|(zo d).map B1) h1 (by simp[h]) I (λd hd=>⟨C,by obtain⟨c,g,rfl⟩:=ie hd;simp[e c<|hk c g,iu,wb,zo,qZ,B1]⟩) (by simp;lia)
 refine this.trans ?_;simp[qZ,zo,B1]
def Nx{n:Nat}{a:hX}(h:nh n a)(d:D)(hd:MI d):sD [(AW n a,C),(d,C)]=J ((.bl<|kB n a d,C),[rS n a,J (d,C)]):=by
 let δ:Dn:=[rS n a,J (d,C),ii n,J (.tup<|a.map cD,C)]
 have e:hU lQ [gK 2,gK 1] δ=J ((.bl<|isA n d,C),δ):=jl (os:=[.slot 2,.slot 1]) (args:=[pI n,(d,C)]) I I mv<|aed n d hd;refine jG (δ:=δ) ⟨rfl,by decide,rfl⟩<|(gO (δ1:=δ) I).trans<|iW<|kh ?_;rw[kB]
 cases b:isA n d with
 |false=>rw[b]at e;exact Ha e
 |true=>rw[b]at e;refine(Dl e).trans ?_;obtain⟨t,rfl,f⟩:=Rh b;refine(RX h.1 h.2.1.2 h.2.2.2 f (λc g=>Vm h.1 f g) (i:=1) I I).trans ?_;simp[zo,qZ,B1]
noncomputable def jg:Nat->List (List Int)
 |0=>[[]]
 |n+1=>(jg n).flatMap λt=>[t++[0],t++[1]]
theorem BU:∀n:Nat,(jg n).length=2^n
 |0=>rfl
 |n+1=>by
  rw[jg,List.length_flatMap,tX,<-BU n];generalize jg n=L
  induction L with
  |nil=>rfl
  |cons t L a=>simp at a ⊢;lia
def wt:∀{n:Nat}{t:gQ},t∈jg n->A1 t=n/\∀x∈t,x=0\/x=1:=by
  intro e
  induction e with
  |zero=>intro t h;simp[jg]at h;simp[h]
  |succ n d=>
    intro t h;rw[jg,wu]at h;obtain⟨u,c,h⟩:=h;obtain⟨h1,b⟩:=d c;simp at h
    rcases h with rfl|rfl<;>
      (refine⟨by simp[h1],λx a=>?_⟩
       rcases nQ.mp a with a|a
       · exact b x a
       · simp at a;simp[a])
def Hs{n:Nat}(a:n<=5):(jg n).length<=32:=by rw[BU];exact wD (n:=2) (by decide) a
noncomputable abbrev RK:List D:=[.int 0,.int 1]
def OH(d e:D):D:=.tup (zo d++[e])
def OG(L:hX):(L.map cD).flatMap (λd=>RK.map<|OH d)=(L.flatMap λt=>[t++[0],t++[1]]).map cD:=by simp[List.flatMap_map,List.map_flatMap,OH,zo,cD]
def R3(t:gQ)(a:(A1 t)<=100)(e:D):il nG (gK 0) Lv [J (cD t,C),J (e,C)]=J ((OH (cD t) e,C),[J (cD t,C),J (e,C)]):=by
 have:=jQ;have h:(A1 t)<=16777215:=by lia
 simp[jI,this,nG,OH,zo,h]
def ac8(δ:Dn):jd Tw δ=J (RK,δ):=by kernel_rfl
abbrev fbA:FS:=zC7
def abK{n:Nat}(k:n<=5):mN [pI n]=J ((.lst<|(jg n).map cD,Y),[ii n]):=by
 let z:Sl:=ii n
 obtain⟨i,⟨j,x,a,rfl⟩,e⟩:=yC (tg:=gP 2) (fb:=fbA) (λb δ=>∃j x,j+A1 b=n/\δ=[z,J (.lst<|(jg j).map cD,Y),x]) (λd b δ g=>by
  obtain⟨j,x,a,e⟩:=g;subst e
  have c:=VW (fi:=jd<|jI 1) (fi2:=jd Tw) (f:=il nG (gK 0) Lv) (δ:=[z,J (.lst<|(jg j).map cD,Y),J (d,C)]) (δ1:=[z,J (.lst<|(jg j).map cD,C),J (d,C)]) (l:=(jg j).map cD) (m:=RK) OH I (λd y=>ac8 _) (λd hd e _=>by obtain⟨t,h,rfl⟩:=ie hd;exact⟨C,R3 t (by have:=(wt h).1;simp at a;lia) e⟩) (by have:=Hs (n:=j) (by lia);simp;lia)
  rw[OG]at c;exact⟨_,_,rfl,(gO<|iU c (show 1<3 by decide)).trans I,j+1,_,by simp at a;lia,rfl⟩) (iI 0 n) [z,J (.lst<|(jg 0).map cD,Y),U] ⟨0,U,by simp[iI],rfl⟩
 have:j=n:=by simpa using a
 subst this;exact jG (δ:=[z,U,x]) ⟨rfl,by decide,rfl⟩<|(gO (δ1:=[z,J (.lst<|(jg 0).map cD,Y),U]) I).trans<|(gO<|(kE<|tj (o:=.slot 0) I I<|by lia).trans e).trans<|iW I
def jU(n:Nat)(a:hX):List (List Int):=(jg n).filter λt=>a.all<|kC t
def Ri{n:Nat}{t:gQ}(h:t∈jg n):isA n (cD t)=Y:=by obtain⟨h1,a⟩:=wt h;simp only[isA,jf,h1,decide_true,dN,uF,kf,bI];intro x b;rcases a x b with rfl|rfl<;>rfl
def Vn{n:Nat}{a:hX}{t:gQ}(h:t∈jg n):kB n a (cD t)=a.all (kC t):=by rw[kB,Ri h];simp[zo,qZ,B1]
def Sz{t:gQ}(h:(A1 t)<=60):MI (cD t):=λl e=>by cases e;simpa using h
def pO(p:D->Bool)(L:hX):((L.map cD).filter p).map (λd=>d)=(L.filter λt=>p<|cD t).map cD:=by rw[n4,Ff];rfl
def Ar{n:Nat}{a:hX}(h:nh n a):oF [(AW n a,C)]=J ((.lst<|(jU n a).map cD,Y),[rS n a]):=by
 have h1:jd TL [rS n a]=J ((jg n).map cD,[rS n a]):=
  lM (jl (os:=[.val (.int n,C)]) (args:=[pI n]) I I mv<|abK h.1)
 have c:=vf (caps:=[0]) (fi:=jd TL) (f:=jI 1) (ti:=fT<|hU sD [gK 0,gK 1]) (δ:=[rS n a]) (l:=(jg n).map cD) (args:=[AW n a]) (λd=>d) (kB n a) h1 I I (λd hd=>by obtain⟨t,b,rfl⟩:=ie hd;have:=(wt b).1;have e:=h.1;exact⟨jx<|jl (os:=[.slot 0,.slot 1]) (args:=[(AW n a,C),(cD t,C)]) I I mv<|Nx h _ (Sz<|by lia),λ_=>⟨C,rfl⟩⟩) (by have:=Hs h.1;simp;lia)
 rw[pO,BW λt b=>Vn b]at c;exact jG ⟨rfl,by decide,rfl⟩<|iW<|kh c
def RU{p:List Int->Bool}{k l:hX}(h:∀c,c∈k↔c∈l):k.all p=l.all p:=by rw[uo,kf,kf];exact⟨λa c b=>a c<|(h c).mpr b,λa c b=>a c<|(h c).mp b⟩
def Zb(x:Int)(c:gQ):(c.map D.int).any (λd=>D.R1 d<|.int x)=c.contains x:=by
 induction c with
 |nil=>rfl
 |cons y c a=>rw[jK,rA,a,List.contains_cons];simp[D.R1,qk,eq_comm]
def Ig(x:Int)(c:gQ):nF (.int x) (cD c)=J (.bl (!c.contains x),C):=by
 have:inD (.int x) (cD c)=J (c.contains x):=by show(if D.Ms (c.map .int)<=50/\(D.int x).dep<=50 then J ((c.map D.int).any λd=>D.R1 d<|.int x)else U)=_;rw[hV ⟨by rw[wd];lia,by simp[D.dep]⟩,Zb]
 unfold nF;rw[this];rfl
def NJ(c:gQ)(a:hX):Js (cD c) (.lst<|a.map cD)=J (.bl<|decide<|c∈a,C):=by
 have h:=zG c a;unfold nF at h;unfold Js
 cases d:inD (cD c) (.lst<|a.map cD)with
 |none=>rw[d]at h;cases h
 |some b=>rw[d]at h;simp at h ⊢;cases b<;>simp at h ⊢ <;>exact h
def NS{d:D}(h:d.dep<=50):Ao d d=J (.bl Y,C):=by unfold Ao;rw[hV ⟨h,h⟩,D.A0]
def IQ(L:hX):(D.lst<|L.map cD).dep<=50:=by have:=tN L;rw[D.dep];lia
def N7(n:Nat)(a:hX):(AW n a).dep<=50:=by have:=tN a;simp only[D.dep,D.Ms];lia
def TT(n:Nat)(t:gQ):Prop:=(t.map ab).Perm<|st n
def SG(n:Nat)(s:Int):Prop:=1<=ab s/\ab s<=n
def CD(t u:gQ):List Int:=t.map<|led u
def TT.len{n:Nat}{t:gQ}(h:TT n t):(A1 t)=n:=by simpa using(GH.mp h).1
def TT.sg{n:Nat}{t:gQ}(h:TT n t){x:Int}(a:x∈t):SG n x:=(GH.mp h).2.1 _ (qo a)
def TT.tok{n:Nat}{t:gQ}(h:TT n t):Gu n t:=⟨h.len,λx a=>h.sg a⟩
def Sk{n:Nat}{s:Int}(h:SG n s):s≠0:=by rintro rfl;have:=h.1;simp[ab]at this
def Ue{n:Nat}{s:Int}(h:SG n s):SG n (-s):=by unfold SG;rw[mZ];exact h
def lG{n:Nat}{s:Int}(h:SG n s):∃k:Nat,k<n/\(s=(k:Int)+1\/s= -((k:Int)+1)):=by
 have:=h;unfold SG ab at this;split at this
 .exact⟨(-s-1).toNat,by omega,.inr<|by omega⟩
 exact⟨(s-1).toNat,by omega,.inl<|by omega⟩
def HQ{n k:Nat}(h:k<n):SG n ((k:Int)+1):=by unfold SG;rw[nH<|by lia];lia
def kF(t:gQ)(k:Nat):led t ((k:Int)+1)=t.getD k 0:=by unfold led;rw[hV<|by lia,show((k:Int)+1-1).toNat=k by lia]
def la(t:gQ)(k:Nat):led t (-((k:Int)+1))= -t.getD k 0:=by unfold led;rw[iC<|by lia,show(- -((k:Int)+1)-1).toNat=k by lia]
def vP{n:Nat}(t:gQ){s:Int}(h:SG n s):led t (-s)= -led t s:=by
 obtain⟨k,_,rfl|rfl⟩:=lG h
 .rw[kF,la]
 rw[tf,kF,la,tf]
def DE{n:Nat}{t:gQ}(a:(A1 t)=n){s:Int}(h:SG n s):ab (led t s)=(t.map ab).getD ((ab s).toNat-1) 0:=by
 obtain⟨k,hk,rfl|rfl⟩:=lG h
 .rw[kF,nH (i:=(k:Int)+1)<|by lia,show(((k:Int)+1).toNat-1)=k by lia];simp[a,hk]
 rw[la,mZ,DD<|by lia,show(((k:Int)+1).toNat-1)=k by lia];simp[a,hk]
def TT.led{n:Nat}{t:gQ}(h:TT n t){s:Int}(a:SG n s):SG n (led t s):=Nk h.tok a.1 a.2
def qc{n:Nat}{t:gQ}(h:TT n t)(u:gQ){s:Int}(b:SG n s):PV.led (CD t u) s=PV.led u (PV.led t s):=by
 obtain⟨k,hk,rfl|rfl⟩:=lG b
 .rw[kF,kF];simp[CD,h.len,hk]
 have a:t.getD k 0∈t:=kQ (by rw[h.len];exact hk);rw[la,la,vP u<|h.sg a];simp[CD,h.len,hk]
def TT.CD{n:Nat}{t u:gQ}(h:TT n t)(a:TT n u):TT n (CD t u):=by
 unfold TT
 have e:(PV.CD t u).map ab=(t.map ab).map λj=>(u.map ab).getD (j.toNat-1) 0:=by unfold PV.CD;rw[jA,jA];refine lX λx d=>?_;exact DE a.len<|h.sg d
 rw[e];refine(h.map _).trans (fx (Fe ?_) a);apply yX
 .simp[st,a.len]
 intro i h1 f;have c:i<n:=by simpa[st]using h1
 have b:((1:Int)+(i:Int)).toNat-1=i:=by lia
 simp only[st,jA,hH,ga,bI,b];simp[qp,a.len,c]
def vQ{n:Nat}{t:gQ}(h:TT n t){s r:Int}(g:SG n s)(f:SG n r)(e:PV.led t s=PV.led t r):s=r:=by
 have k:=(GH.mp h).2.2
 have c:∀{i j:Nat},i<n->j<n->ab (t.getD i 0)=ab (t.getD j 0)->i=j:=λ{i j} a b e=>by
  have l:=h.len
  have:=(Cw (xs:=t.map ab) (i:=i) (j:=j) (h₀:=by simpa[l]using a) (h₁:=by simpa[l]using b) k).mp (by simp;simpa[qp,l,a,b]using e)
  exact this
 have d:∀{i:Nat},i<n->t.getD i 0≠0:=λ{i} a=>Sk<|h.sg<|kQ (by rw[h.len];exact a);obtain⟨i,a,rfl|rfl⟩:=lG g<;>obtain⟨j,b,rfl|rfl⟩:=lG f
 .rw[kF,kF]at e;rw[c a b<|by rw[e]]
 .rw[kF,la]at e;have:=c a b (by rw[e,mZ]);subst this;exact absurd (show t.getD i 0=0 by lia)<|d a
 .rw[kF,la]at e;have:=c a b (by rw[<-e,mZ]);subst this;exact absurd (show t.getD i 0=0 by lia)<|d a
 rw[la,la]at e;rw[c a b<|by rw[show t.getD i 0=t.getD j 0 by lia]]
def vR{n:Nat}{t u:gQ}(h1:(A1 t)=n)(a:(A1 u)=n)(h:∀s,SG n s->PV.led t s=PV.led u s):t=u:=by apply yX (by rw[h1,a]);intro i b c;have:=h _ (HQ (n:=n) (k:=i)<|by lia);rw[kF,kF]at this;simpa[qp,b,c]using this
def xb(n:Nat):(st n).length=n:=by simp[st]
def D1(n:Nat):TT n (st n):=by
 have:(st n).map ab=st n:=by
  conv=>rhs;rw[<-qm (st n)]
  refine lX λx a=>?_;have:=Jk.mp a;exact nH (by lia)
 unfold TT;rw[this]
def qb{n:Nat}{s:Int}(h:SG n s):PV.led (st n) s=s:=by
 obtain⟨k,hk,rfl|rfl⟩:=lG h
 .rw[kF];simp[st,hk];lia
 rw[la];simp[st,hk];lia
def BK(n:Nat)(t w:gQ):Prop:=A1 w=n/\∀s,SG n s->PV.led w (PV.led t s)=s
def BK.tt{n:Nat}{t w:gQ}(h:BK n t w)(f:TT n t):TT n w:=by
 refine(Ih (st n) (w.map ab) (Si n) (λx g=>?_)<|by simp[xb,h.1]).symm;have i:=Jk.mp g;have c:SG n x:=by unfold SG;rw[nH<|by lia];lia
 have e:=h.2 x c;have a:=f.led c;have b:ab (PV.led w<|PV.led t x)=x:=by rw[e,nH<|by lia]
 rw[DE h.1 a]at b;rw[<-b];have d:(ab<|PV.led t x).toNat-1<(w.map ab).length:=by have:=a.2;have:=a.1;rw[jf,h.1];lia
 exact kQ d
def BK.sym{n:Nat}{t w:gQ}(h:BK n t w)(b:TT n t):BK n w t:=by refine⟨b.len,λs a=>?_⟩;have c:=h.tt b;exact vQ c (b.led<|c.led a) a<|h.2 _ (c.led a)
def BK.Ki{n:Nat}{t w:gQ}(h:BK n t w)(b:TT n t):CD t w=st n:=
 vR (n:=n) (by simp[CD,b.len]) (xb n) λs a=>by rw[qc b w a,h.2 s a,qb a]
def BK.CD{n:Nat}{t u d j k:gQ}(c:TT n t)(h:TT n u)(h1:BK n t d)(f:BK n u j)(g:BK n (CD t u) k):k=CD j d:=by have i:=h1.tt c;have b:=f.tt h;refine vR (n:=n) g.1 (by simp[PV.CD,b.len]) λs a=>?_;have e:=g.2 _ (i.led<|b.led a);rw[qc c u<|i.led<|b.led a,(h1.sym c).2 _ (b.led a),(f.sym h).2 _ a]at e;rw[e,qc b d a]
def GR(n:Nat)(t:gQ):Nat->List Int
 |0=>st n
 |k+1=>CD (GR n t k) t
theorem oo{n:Nat}{t:gQ}(h:TT n t):∀k,TT n<|GR n t k
 |0=>D1 n
 |k+1=>(oo h k).CD h
theorem yy{n:Nat}{t:gQ}(h:TT n t)(i:Nat){s:Int}(a:SG n s):∀j,PV.led (GR n t<|i+j) s=PV.led (GR n t j) (PV.led (GR n t i) s)
 |0=>by rw[show GR n t 0=st n from I,qb<|(oo h i).led a];rfl
 |j+1=>by show PV.led (PV.CD (GR n t<|i+j) t) s=PV.led (PV.CD (GR n t j) t) _;rw[qc (oo h _) t a,qc (oo h j) t<|(oo h i).led a,yy h i a j]
theorem HV{n:Nat}{t:gQ}(h:TT n t){d:Nat}{s:Int}(a:SG n s)(e:PV.led (GR n t d) s=s):∀q,PV.led (GR n t<|d*q) s=s
 |0=>qb a
 |q+1=>by rw[Nat.mul_succ,yy h _ a,HV h a e q,e]
def UN{c:Type}[DecidableEq c](f:Nat->c)(m:List c):∀k:Nat,(∀i,i<=k->f i∈m)->A1 m<=k->∃i j,i<j/\j<=k/\f i=f j:=λk h s=>by
 apply Classical.byContradiction;intro l
 have p:((ap<|k+1).map f).Nodup:=by rw[eL,nD];refine(OX (n:=k+1)).imp_of_mem λ{a b} r d q e=>l ⟨a,b,q,?_,e⟩;have:=rn.mp d;lia
 have:=mV _ m p λx o=>by obtain⟨i,g,rfl⟩:=ie o;exact h i (by have:=rn.mp g;lia)
 simp at this;lia
def Yh{n:Nat}(f:n<=5){t:gQ}(h:TT n t){s:Int}(a:SG n s):∃d,1<=d/\d<=10/\PV.led (GR n t d) s=s:=by
 obtain⟨i,j,g,c,e⟩:=UN (λi=>PV.led (GR n t i) s) (st n++(st n).map λx=> -x) 10 (λi _=>by
  have:=(oo h i).led a;rw[nQ,rp];obtain⟨k,hk,e|e⟩:=lG this
  .left;rw[e];exact Jk.mpr (by lia)
  right;exact⟨(k:Int)+1,Jk.mpr<|by lia,by rw[e]⟩) (by simp[xb];lia)
 refine⟨j-i,by lia,by lia,?_⟩;have b:=yy h (j-i) a i;rw[show j-i+i=j by lia]at b;exact vQ (oo h i) ((oo h _).led a) a (by rw[<-b];exact e.symm)
def UE{n:Nat}(b:n<=5){t:gQ}(h:TT n t):GR n t 2520=st n:=by
 refine vR (n:=n) (oo h _).len (xb n) λs a=>?_;obtain⟨d,h1,c,e⟩:=Yh b h a
 have hd:d*(2520 / d)=2520:=by
  have:d=1\/d=2\/d=3\/d=4\/d=5\/d=6\/d=7\/d=8\/d=9\/d=10:=by lia
  rcases this with rfl|rfl|rfl|rfl|rfl|rfl|rfl|rfl|rfl|rfl<;>rfl
 rw[<-hd,HV h a e,qb a]
def Qc{n:Nat}{t:gQ}(h:TT n t):GR n t 1=t:=
 vR (n:=n) (oo h 1).len h.len λs a=>by rw[show GR n t 1=PV.CD (st n) t from I,qc (D1 n) t a,qb a]
def acy:∀(k:Nat)(r f t:gQ),A1 r=k->(∀x∈r,0<=x)->t∈mF k r f->(t.map ab).Perm (f.map ab++r):=by
 intro m
 induction m with
 |zero=>intro r f t d _ h;simp[mF]at h;subst h;rw[Ku.mp d];simp
 |succ k i=>
  intro r f t d b h;simp only[mF,wu,nQ,rn]at h;obtain⟨v,hv,h⟩:=h;have c:(r.eraseIdx v).length=k:=by rw[yM,hV hv];lia
  have g:∀x∈r.eraseIdx v,0<=x:=λx a=>b x<|KC a;have a:=b _ (kQ hv)
  have fin:∀y:Int,ab y=r.getD v 0->(b4 ab (f++[y])++r.eraseIdx v).Perm (f.map ab++r):=λy l=>by
   rw[nL,oO];refine KZ _ ?_;simp only[jK,oP,hW,rq,l];have e:r.getD v 0=r[v]:=by simp[hv]
   rw[e];rw[List.eraseIdx_eq_take_drop_succ];have j:r=r.take v++r[v]::r.drop (v+1):=by rw[<-wN hv,rE]
   conv=>rhs;rw[j]
   exact OQ.symm
  rcases h with h|h
  .exact(i _ _ t c g h).trans (fin _ (by rw[zb];exact nH a))
  exact(i _ _ t c g h).trans (fin _ (by rw[tp,zb];exact DD a))
def Pm{n:Nat}{t:gQ}(h:t∈mF n (st n) []):TT n t:=by have:=acy n (st n) [] t (xb n) (λx a=>by have:=Jk.mp a;lia) h;unfold TT;simpa using this
def lc(t c:gQ):List Int:=(mx GP<|(c.map<|led t).map D.int).map B1
def Jg(t c d:gQ):Prop:=d.Perm (c.map<|led t)/\(d.map ab).Pairwise (· < ·)
def EH{m:List D}{l:gQ}(h:m.Perm (l.map D.int)):m=(m.map B1).map D.int/\(m.map B1).Perm l:=by
 obtain⟨k,rfl⟩:=vU h;have e:(k.map D.int).map B1=k:=by rw[jA];exact qm k
 rw[e];refine⟨rfl,?_⟩;have:=h.map B1
 rwa [e,jA,show b4 (B1∘D.int) l=l from qm l]at this
def BV{n:Nat}{t c:gQ}(g:TT n t)(h1:(c.map ab).Nodup)(f:∀s∈c,SG n s):((c.map<|led t).map ab).Nodup:=by
 rw[jA,eL,nD];rw[eL,nD]at h1;refine h1.imp_of_mem λ{a b} i j k e=>k ?_;have e:ab (led t a)=ab (led t b):=e;have h:=f a i;have d:=f b j;by_cases q:led t a=led t b
 .rw[vQ g h d q]
 have:led t a=led t (-b):=by rw[vP t d];unfold ab at e;split at e<;>split at e<;>lia
 rw[vQ g h (Ue d) this,mZ]
def nU{n:Nat}{t c:gQ}(j:TT n t)(g:Q2 n c):Jg t c (lc t c)/\(mx GP<|(c.map<|led t).map D.int)=(lc t c).map D.int:=by
 obtain⟨e,i⟩:=EH<|jL GP<|(c.map<|led t).map D.int;refine⟨⟨i,?_⟩,e⟩;have k:=BV j (Ee g.2.1) λs d=>g.2.2 s d;have f:((lc t c).map ab).Nodup:=(i.map ab).symm.nodup k;have d:=Be<|(c.map<|led t).map D.int;rw[e,nD]at d;rw[nD];rw[eL,nD]at f;refine(d.and f).imp λ{a b} h=>?_;have h1:ab a<=ab b:=h.1;have l:ab a≠ab b:=h.2
 lia
def Jg.uniq{n:Nat}{t c d e:gQ}(h1:Jg t c d)(f:Jg t c e):d=e:=by have g:=h1.2;have h:=f.2;rw[nD]at g h;refine(h1.1.trans f.1.symm).eq_of_pairwise (le:=λa b=>ab a<ab b) (λa b _ _ x y=>absurd x<|by lia) g h
def Jg.cl{n:Nat}{t c d:gQ}(h:Jg t c d)(f:TT n t)(a:Q2 n c):Q2 n d:=by
 refine⟨λe=>a.1 ?_,h.2,λs b=>?_⟩
 .have:=h.1.length_eq;rw[e]at this;simp at this;exact Ku.mp this.symm
 obtain⟨x,g,rfl⟩:=ie<|h.1.mem_iff.mp b;exact f.led<|a.2.2 x g
def SN{n:Nat}{t c:gQ}(b:TT n t)(a:Q2 n c):Q2 n (lc t c):=(nU b a).1.cl b a
def Yy{n:Nat}{t u c:gQ}(b:TT n t)(e:TT n u)(a:Q2 n c):lc u (lc t c)=lc (CD t u) c:=by have h1:=(nU b a).1;have d:=(nU e<|SN b a).1;refine Jg.uniq (n:=n) (t:=CD t u) (c:=c) ⟨d.1.trans ?_,d.2⟩ (nU (b.CD e) a).1;refine(h1.1.map _).trans (Fe ?_);rw[jA];exact lX λs f=>(qc b u<|a.2.2 s f).symm
def SM{n:Nat}{c:gQ}(a:Q2 n c):lc (st n) c=c:=by
 refine Jg.uniq (n:=n) (t:=st n) (c:=c) (nU (D1 n) a).1 ⟨Fe ?_,a.2.1⟩
 conv=>lhs;rw[<-qm c]
 exact lX λs b=>(qb<|a.2.2 s b).symm
def LR(t:gQ)(cs a:hX):Prop:=a.Perm (cs.map<|lc t)/\DT a
def lh(n:Nat)(a:gQ):Prop:=A1 a=n/\∀x∈a,x=0\/x=1
def Fc:∀{n:Nat}{a:gQ},a∈jg n↔lh n a:=λ{n a}=>by
 constructor
 .exact λh=>wt h
 intro h
 induction n generalizing a with
 |zero=>rw[Ku.mp h.1];simp[jg]
 |succ n f=>
  have b:a≠[]:=λe=>by have:=h.1;rw[e]at this;simp at this
  have e:=Fg b;have c:=h.2 _ (hE b);have:=f (a:=a.dropLast) ⟨by rw[KA,h.1];rfl,λx d=>h.2 x<|Kz _ d⟩;simp only[jg,wu];refine⟨a.dropLast,this,?_⟩;rcases c with z|z
  .rw[z]at e;rw[e];simp
  rw[z]at e;rw[e];simp
def Dp(w a:gQ):List Int:=w.map λs=>if EC a s=Y then 1 else 0
def HN{n:Nat}{a:gQ}(c:lh n a){s:Int}(b:SG n s):EC a (-s)=!EC a s:=by
 have d:a.getD ((ab s).toNat-1) 0=0\/a.getD ((ab s).toNat-1) 0=1:=c.2 _ (kQ (by have:=b.1;have:=b.2;rw[c.1];omega));have f:=Sk b;unfold EC;rw[mZ];by_cases h:0<s
 .rw[iC<|by omega,hV<|by omega];rcases d with e|e<;>rw[e]<;>rfl
 rw[hV<|by omega,iC<|by omega];rcases d with e|e<;>rw[e]<;>rfl
def Np{n:Nat}{w:gQ}(b:TT n w)(a:gQ):lh n (Dp w a):=by refine⟨by simp[Dp,b.len],λx c=>?_⟩;obtain⟨s,_,rfl⟩:=ie c;split<;>simp
def L0{n:Nat}{w a:gQ}(c:TT n w)(d:lh n a){s:Int}(f:SG n s):EC (Dp w a) s=EC a (led w s):=by
 have b:∀k:Nat,k<n->EC (Dp w a) ((k:Int)+1)=EC a (led w<|(k:Int)+1):=λk hk=>by
  rw[kF];have e:(Dp w a).getD k 0=if EC a (w.getD k 0)=Y then 1 else 0:=by simp[Dp,c.len,hk]
  conv=>lhs;unfold EC
  rw[nH<|by lia,show(((k:Int)+1).toNat-1)=k by lia,e,hV (show(k:Int)+1>0 by lia)];cases EC a (w.getD k 0)<;>rfl
 obtain⟨k,hk,rfl|rfl⟩:=lG f
 .exact b k hk
 have h1:=HQ hk;rw[HN (Np c a) h1,b k hk,vP w h1,HN d<|c.led h1]
def aeG{l m:gQ}(p:Int->Bool)(h:l.Perm m):l.any p=m.any p:=by rw[uo,Hx,Hx];exact⟨λ⟨x,a,e⟩=>⟨x,h.mem_iff.mp a,e⟩,λ⟨x,a,e⟩=>⟨x,h.mem_iff.mpr a,e⟩⟩
def Oy{a:Type}{l:List a}{p q:a->Bool}(h:∀x∈l,p x=q x):l.any p=l.any q:=by
 induction l with
 |nil=>rfl
 |cons x l c=>rw[rA,rA,h x jF,c λy b=>h y<|iY _ b]
def SQ{n:Nat}{t w a c:gQ}(b:TT n t)(e:BK n t w)(f:lh n a)(d:Q2 n c):kC (Dp w a) (lc t c)=kC a c:=by unfold kC;rw[aeG _ (nU b d).1.1,wO];refine Oy λs g=>?_;have h:=d.2.2 s g;show EC (Dp w a) (led t s)=EC a s;rw[L0 (e.tt b) f<|b.led h,e.2 s h]
def Wa{n:Nat}{t w a:gQ}{d f:hX}(j:TT n t)(k:BK n t w)(g:lh n a)(i:nh n d)(h:LR t d f):f.all (kC<|Dp w a)=d.all (kC a):=by
 rw[RU λc=>h.1.mem_iff,uF,uo,kf,kf];refine yH λc=>?_;constructor
 .intro e b;rw[<-SQ j k g (i.2.1.2 c b)];exact e b
 intro e b;exact(SQ j k g<|i.2.1.2 c b).trans (e b)
def YB{n:Nat}{b c a:gQ}(h1:TT n b)(d:TT n c)(e:lh n a):Dp c (Dp b a)=Dp (CD c b) a:=by unfold CD Dp;rw[jA];refine lX λs f=>?_;have:=L0 h1 e<|d.sg f;unfold Dp at this;simp only[bI,this]
def YA{n:Nat}{a:gQ}(c:lh n a):Dp (st n) a=a:=by
 apply yX (by simp[Dp,st,c.1]);intro i h1 b;have f:i<n:=by rw[<-c.1];exact b
 have d:=c.2 _ (wB b)
 have e:EC a ((i:Int)+1)=(a[i]==1):=by unfold EC;rw[nH<|by lia,show(((i:Int)+1).toNat-1)=i by lia,hV<|by lia];simp[b]
 simp only[Dp,st,hH,ga,qs 1 (i:Int),e];rcases d with z|z<;>rw[z]<;>rfl
def RY:∀n:Nat,n<6->(jg n).Nodup:=by decide+kernel
def RJ(b:FO)(a:Dn)(d:D):Prop:= ∃o,b a=J (o,a)/\res a o=J d
def FJ(a:FO)(δ:Dn)(d:D):Prop:= ∃o,a δ=J (o,δ)/\res δ o=J d/\yi δ o=J (d,C)
def FJ.r{c:FO}{δ:Dn}{d:D}(h:FJ c δ d):RJ c δ d:=let⟨o,a,b,_⟩:=h;⟨o,a,b⟩
def jV{i:Nat}{δ:Dn}{d:D}(h:δ[i]?=J (J (d,C))):FJ (gK i) δ d:=⟨.slot i,by unfold gK;rw[h],by unfold res;simp[h],by simp[h]⟩
def jR{i:Nat}{δ:Dn}{d:D}{b:Bool}(h:δ[i]?=J (J (d,b))):RJ (gK i) δ d:=⟨.slot i,by unfold gK;rw[h],by unfold res;simp[h]⟩
def jE{f:F}{δ:Dn}{d:D}{b:Bool}(h:f δ=J ((d,b),δ)):FJ (hG f) δ d:=⟨.val (d,b),iq h,rfl,rfl⟩
def J1{c:NL}{e:FO}{δ:Dn}{a:D}{r:D×Bool}{b:Dn}(h:c [(a,C)]=J (r,b))(g:FJ e δ a):hU c [e] δ=J (r,δ):=by obtain⟨o,h1,_,f⟩:=g;refine(jl (oy h1) (args:=[a].map λd=>(d,C)) (by simp[f]) (by rw[vN];exact mv) h).trans ?_;rw[HD]
def Am{c:NL}{e fb:FO}{δ:Dn}{a b:D}{r:D×Bool}{outs:Dn}(h:c [(a,C),(b,C)]=J (r,outs))(g:FJ e δ a)(i:FJ fb δ b):hU c [e,fb] δ=J (r,δ):=by obtain⟨o,h1,_,f⟩:=g;obtain⟨l,j,_,k⟩:=i;refine(jl (ox h1 j) (args:=[a,b].map λd=>(d,C)) (by simp[f,k]) (by rw[vN];exact mv) h).trans ?_;rw[HD]
def jO{g:D->D->Option (D×Bool)}{c fb:FO}{δ:Dn}{a b:D}{r:D×Bool}(h:g a b=J r)(e:RJ c δ a)(f:RJ fb δ b):il g c fb δ=J (r,δ):=by obtain⟨o,h1,d⟩:=e;obtain⟨k,i,j⟩:=f;exact ji h1 i d j h
def jC{g:D->Option (D×Bool)}{b:FO}{δ:Dn}{a:D}{r:D×Bool}(h:g a=J r)(d:RJ b δ a):iB (g1 g) [b] δ=J (r,δ):=by obtain⟨o,h1,c⟩:=d;exact jM (ds:=[a]) (oy h1) (by simp[c]) h
def AA{f:F}{np:Nat}{args:List (D×Bool)}{r:D×Bool}{δ:Dn}(h1:(A1 args)=np/\np<=np/\(args.zipIdx.all λp=>!(p.1.2&&([]:List Nat).contains p.2))=Y)(a:f (args.map J++ah (np-np) U)=J (r,δ)):Q1 np np [] (gW (kn f) ir) args=J (r,iQ args δ):=
 jG h1 (iW<|kh a)
def X1{n:Nat}{s:Int}(h:SG n s):s≠0/\ -(n:Int)<=s/\s<=n:=by obtain⟨k,hk,rfl|rfl⟩:=lG h<;>lia
def Yw{n:Nat}{u:gQ}(d:(A1 u)=n){s:Int}(h:SG n s):my [enc u,pI s]=J ((.int<|led u s,C),[eN u,ii s]):=by obtain⟨a,b,c⟩:=X1 h;exact Vh u s a (by rw[d];exact b) (by rw[d];exact c)
def Nb(f:Int->Int)(l:gQ):(l.map D.int).map (λd=>D.int<|f<|B1 d)=(l.map f).map D.int:=by rw[jA,jA];rfl
def xK{a:jc}{fi:AE}{f:F}{δ b:Dn}{l:gQ}{args:List D}(g:Int->Int)(h1:fi δ=J (l.map D.int,b))(c:jb b (a.map .slot)=J (args.map λd=>(d,C)))(e:(A1 args)=A1 a)
  (h:∀x∈l,∃o,f (AJ args++[ii x])=J ((.int<|g x,o),AJ args++[ii x]))(i:(A1 l)<=10000):
  iR a 1 fi (gP<|A1 a) iZ (ja f) δ=J ((.lst<|(l.map g).map D.int,Y),b):=by
 rw[Ah (λd=>.int (g<|B1 d)) h1 c e (λd hd=>by obtain⟨x,j,rfl⟩:=ie hd;exact h x j)<|by simpa using i,Nb]
def ab1{n:Nat}(b:n<=5){t:gQ}(a:TT n t):jm [pI n,enc t]=J ((.bl Y,C),[ii n,eN t]):=by
 have h:tB n (cD t)=Y:=by rw[LO];simp only[lB,kX,kf,oM,jA];refine⟨λd hd=>?_,a⟩;obtain⟨x,_,rfl⟩:=ie hd;rfl
 rw[rR n (cD t) (λl e=>by cases e;rw[jf,a.len];lia),h]
def Ak{n:Nat}(a:n<=5){t:gQ}(b:TT n t):jn [pI n,enc t]=J ((.T2,C),[ii n,eN t]):=by
 have:AD WI (gW Gz ir) ir [ii n,eN t]=J (.nx [ii n,eN t]):=
  (mE<|wa<|jx<|Am (ab1 a b) (jV I)<|jV I).trans rfl
 have e:mY [ii n,eN t]=J (.nx [ii n,eN t]):=(gO this).trans I;simp only[jn,Q1];rw[hV ⟨rfl,by decide,rfl⟩];show(match mY [ii n,J<|enc t]with|some (.rt r δ)=>J (r,iQ _ δ)|some (.nx δ)=>J ((D.T2,C),iQ _ δ)|_=>U)=_;rw[e];rfl
noncomputable def Jj(t:gQ)(j:Nat):Int:=if t.getD j 0>0 then(j:Int)+1 else -((j:Int)+1)
def LJ(n:Nat)(t:gQ)(k:Nat)(w:gQ):Prop:=A1 w=n/\∀j,j<k->w.getD ((ab<|t.getD j 0).toNat-1) 0=Jj t j
def Vp{n:Nat}{t w:gQ}(a:TT n t)(h:LJ n t n w):BK n t w:=by
 refine⟨h.1,λs g=>?_⟩
 have one:∀j,j<n->led w (t.getD j 0)=(j:Int)+1:=λj b=>by
  have c:=a.sg<|kQ (l:=t) (k:=j) (by rw[a.len];exact b);have e:=h.2 j b;unfold Jj at e;unfold led;unfold SG at c;by_cases d:t.getD j 0>0
  .rw[hV d]at e ⊢;rw[nH<|by lia]at e;rw[show(t.getD j 0-1).toNat=(t.getD j 0).toNat-1 by lia,e]
  have f:ab (t.getD j 0)= -t.getD j 0:=by unfold ab;split<;>lia
  rw[iC d]at e ⊢;rw[f]at e c;rw[show(-t.getD j 0-1).toNat=(-t.getD j 0).toNat-1 by lia,e]
  lia
 obtain⟨k,hk,rfl|rfl⟩:=lG g
 .rw[kF];exact one k hk
 rw[vP t<|HQ hk,vP w<|a.led<|HQ hk,kF,one k hk]
def Ny{n:Nat}{t w:gQ}(a:TT n t){k:Nat}(hk:k<n)(h:LJ n t k w):LJ n t (k+1) (w.set ((ab<|t.getD k 0).toNat-1)<|Jj t k):=by
 have b:∀j,j<n->1<=ab (t.getD j 0)/\ab (t.getD j 0)<=n:=λj c=>a.sg<|kQ (l:=t) (k:=j) (by rw[a.len];exact c);refine⟨by simp[h.1],λj c=>?_⟩;have d:=b k hk;have f:=b j (by lia);by_cases e:j=k
 .subst e;rw[qp,pz<|by rw[h.1];lia];rfl
 have ne:ab (t.getD j 0)≠ab (t.getD k 0):=λq=>e (by
  have l:=a.len
  have:=(Cw (xs:=t.map ab) (i:=j) (j:=k) (h₀:=by simp[l];lia) (h₁:=by simp[l];lia) (GH.mp a).2.2).mp (by simp;simpa[qp,l,hk,show j<n by lia]using q)
  exact this)
 rw[qp,lC<|by lia,<-qp];exact h.2 j (by lia)
abbrev fbB:FS:=Xr
def VO{n:Nat}{t w:gQ}(c:TT n t){k:Nat}(hk:k<n)(f:(A1 w)=n):fbB [eN t,K2 w,ii<|(k:Int)+1,ii<|t.getD k 0]=J (.nx [eN t,K2<|w.set ((ab<|t.getD k 0).toNat-1)<|Jj t k,ii<|(k:Int)+1,ii<|t.getD k 0]):=by
 have b:=c.sg<|kQ (l:=t) (k:=k) (by rw[c.len];exact hk)
 have d:JK (fT Wz) (jI 2) (qh yt<|gK 2) [eN t,K2 w,ii<|(k:Int)+1,ii<|t.getD k 0]=J ((.int<|Jj t k,C),[eN t,K2 w,ii<|(k:Int)+1,ii<|t.getD k 0]):=by
  rw[Sq,jx (o:=C)<|jO (PR _ _) (jV I).r (jE I).r];simp only[jH];unfold Jj;by_cases a:t.getD k 0>0
  .rw[hV<|by simpa using a,hV a];rfl
  rw[iC<|by simpa using a,iC a];rfl
 have e:hG WQ [eN t,K2 w,ii<|(k:Int)+1,ii<|t.getD k 0]=J (.val (.int<|ab (t.getD k 0)-1,C),[eN t,K2 w,ii<|(k:Int)+1,ii<|t.getD k 0]):=rfl
 have g:Dv (w.map D.int).length (ab (t.getD k 0)-1)=J ((ab<|t.getD k 0).toNat-1):=by
  have:=b.1;have:=b.2;unfold Dv;rw[jf,f,hV<|by lia,hV<|by lia]
  congr 1;lia
 refine(gO (δ1:=[eN t,K2<|w.set ((ab<|t.getD k 0).toNat-1)<|Jj t k,ii<|(k:Int)+1,ii<|t.getD k 0]) ?_).trans rfl;unfold uO;rw[d];simp only[jH,yN];rw[e];simp only[jH,CJ,wC,yN];rw[g];simp
def aaP{n:Nat}{t:gQ}(f:TT n t):∀(m k:Nat)(w:gQ)(x y:Sl),k+m=n->LJ n t k w->∃b c d,LJ n t n b/\lJ Pc fbB ((bA k m).map λ(j:Nat)=>.tup [.int<|(j:Int)+1,.int<|t.getD j 0]) [eN t,K2 w,x,y]=J (.nx [eN t,K2 b,c,d]):=by
 intro i
 induction i with
 |zero=>intro k w x y h a;exact⟨w,x,y,by rw[show k=n by lia]at a;exact a,rfl⟩
 |succ m g=>intro k w x y h a;obtain⟨b,c,d,h1,e⟩:=g (k+1) _ (ii<|(k:Int)+1) (ii<|t.getD k 0) (by lia) (Ny f (by lia) a);refine⟨b,c,d,h1,?_⟩;rw[yS,jK];unfold lJ;rw[show Pc (.tup [.int<|(k:Int)+1,.int<|t.getD k 0]) [eN t,K2 w,x,y]=J [eN t,K2 w,ii<|(k:Int)+1,ii<|t.getD k 0]from I];simp only[jH];rw[VO f (by lia) a.1];exact e
def VT(t:gQ):(((t.map D.int).zipIdx).map λq=>D.tup [.int (1+q.2),q.1])=(bA 0<|A1 t).map λ(j:Nat)=>.tup [.int<|(j:Int)+1,.int<|t.getD j 0]:=by
 apply yX
 .simp
 intro i h1 b;have a:i<(A1 t):=by simpa using h1
 simp[a,qs]
def RN{n:Nat}{t:gQ}(b:TT n t):∃w,BK n t w/\tJ [enc t]=J (enc w,[eN t]):=by
 obtain⟨w,x,y,h,e⟩:=aaP b n 0 t U U (by lia) ⟨b.len,λj c=>absurd c<|by lia⟩;refine⟨w,Vp b h,?_⟩;refine jG (δ:=[eN t,K2 w,x,y]) ⟨rfl,by decide,rfl⟩ ?_;refine(gO (δ1:=[eN t,K2 t,U,U]) I).trans ((gO<|(kE (δ1:=[eN t,K2 t,U,U]) (ds:=(bA 0 n).map λ(j:Nat)=>.tup [.int<|(j:Int)+1,.int<|t.getD j 0]) ?_).trans e).trans ?_)
 .show J (((t.map D.int).zipIdx).map λq=>D.tup [.int (1+q.2),q.1],([eN t,K2 t,U,U]:Dn))=_;rw[VT,b.len]
 exact iW (kh<|jC (a:=.lst (w.map D.int)) I<|jR I)
def BK.uniq{n:Nat}{t w v:gQ}(c:TT n t)(h1:BK n t w)(a:BK n t v):w=v:=
 vR h1.1 a.1 λs b=>by have e:=(h1.sym c).2 s b;have:=a.2 _ ((h1.tt c).led b);rw[e]at this;exact this.symm
def RO{n:Nat}{t w:gQ}(a:TT n t)(b:BK n t w):tJ [enc t]=J (enc w,[eN t]):=by obtain⟨v,h1,e⟩:=RN a;rw[b.uniq a h1];exact e
def Vx(a b:gQ):D4 (cD a) (cD b)=J (.bl (!decide (a=b)),C):=by unfold D4;rw[hV<|by rw[vd,vd];decide,Hd]
def Yu{n:Nat}{t:gQ}(h:(A1 t)=n):qJ (cD t)=ii n:=by rw[Us,jf,h]
def aes{n:Nat}{t c:gQ}(h:n<=5)(b:TT n t)(a:Q2 n c):uX (.lst<|(c.map<|led t).map D.int)=J (.lst<|(lc t c).map D.int,Y):=by
 have:=a.len;show(if((c.map<|led t).map D.int).all Jr=Y/\(((c.map<|led t).map D.int).map aD).Nodup/\((c.map<|led t).map D.int).length<64 then J (D.lst<|mx GP<|(c.map<|led t).map D.int,Y)else U)=_
 have e:((c.map<|led t).map D.int).all Jr=Y:=by rw[kf];intro d hd;obtain⟨x,_,rfl⟩:=ie hd;rfl
 have f:(((c.map<|led t).map D.int).map aD).Nodup:=by rw[jA];exact BV b (Ee a.2.1) λs g=>a.2.2 s g
 rw[hV ⟨e,f,by simp;lia⟩,(nU b a).2]
def Q7{n:Nat}(f:n<=5){t c:gQ}(e:TT n t)(d:Q2 n c):kJ [enc c,enc t]=J (enc<|lc t c,[eN c,eN t]):=by have:=d.len;refine AA ⟨rfl,by decide,rfl⟩<|jC (a:=.lst ((lc t c).map D.int)) I (jE (b:=Y)<|jC (aes f e d) (jE (b:=Y)<|xK (args:=[cD t]) (led t) I I I (λx g=>⟨C,?_⟩)<|by lia).r).r;exact Am (Yw e.len<|d.2.2 x g) (jV I)<|jV I
def RD{a:jc}{b:AE}{f:F}{δ δ1:Dn}{l:hX}{args:List D}(g:List Int->List Int)(h1:b δ=J (l.map cD,δ1))(c:jb δ1 (a.map .slot)=J (args.map λd=>(d,C)))(e:(A1 args)=A1 a)
  (h:∀x∈l,∃o,f (AJ args++[J (cD x,C)])=J ((cD<|g x,o),AJ args++[J (cD x,C)]))(i:(A1 l)<=10000):
  iR a 1 b (gP<|A1 a) iZ (ja f) δ=J ((.lst<|(l.map g).map cD,Y),δ1):=by
 rw[Ah (λd=>cD<|g<|Ds d) h1 c e (λd hd=>by obtain⟨x,j,rfl⟩:=ie hd;rw[kc];exact h x j)<|by simpa using i];rw[jA,jA,lX (g:=cD∘g) λx _=>by simp only[bI,kc]]
def Pw{cs:hX}(h:lF (cs.map cD)=Y)(b:(A1 cs)<=10000):∃a:List (List Int),a.Perm cs/\DT a/\jw (cs.map cD)=J (.lst<|a.map cD,Y):=by
 obtain⟨a,e,c⟩:=ve<|jL CL<|cs.map cD;refine⟨a,c,?_,?_⟩
 .have:=mT<|cs.map cD;rw[e,nD]at this;exact this
 unfold jw;rw[hV ⟨h,by rw[jf];exact yx b⟩,e]
def YW{f g:F}{δ:Dn}{a b:D×Bool}(h1:f δ=J (a,δ))(c:g δ=J (b,δ)):vb [f,g] δ=J ((.tup [a.1,b.1],C),δ):=by
 rw[Ut,show[f,g].map hG=[hG f,hG g]from I,ox (iq h1)<|iq c]
 kernel_rfl
def SH{n:Nat}{t:gQ}{cs:hX}(g:TT n t)(f:nh n cs):∃d,LR t cs d/\Dm [(AW n cs,C),enc t]=J ((AW n d,C),[rS n cs,eN t]):=by
 have i:=f.1;have j:=f.2.2.2
 obtain⟨d,m,o,e⟩:=Pw (cs:=cs.map<|lc t) (sV _ λc k=>by obtain⟨x,h,rfl⟩:=ie k;exact(SN g<|f.2.1.2 x h).1) (by simp;lia)
 refine⟨d,⟨m,o⟩,?_⟩;refine jG (δ:=[rS n cs,eN t,ii n,J (.tup<|cs.map cD,C)]) ⟨rfl,by decide,rfl⟩ ?_;refine(gO (δ1:=[rS n cs,eN t,ii n,J (.tup<|cs.map cD,C)]) I).trans ?_;refine(gO<|ny<|Am (Ak i g) (jV I)<|jV I).trans (iW<|kh<|YW (a:=(.int n,C)) (b:=(.tup<|d.map cD,C)) I<|jC (a:=.lst (d.map cD)) I (jE (b:=Y)<|jC e (jE (b:=Y)<|RD (l:=cs) (args:=[cD t]) (lc t) I I I (λx h=>⟨C,?_⟩)<|by lia).r).r);exact Am (Q7 i g<|f.2.1.2 x h) (jV I)<|jV I
def Iy{n:Nat}(g:n<=5){t w a:gQ}(c:TT n t)(e:BK n t w)(d:lh n a):lj [enc a,enc t]=J (enc<|Dp w a,[eN a,eN t]):=by
 have f:=e.tt c;refine jG (δ:=[eN a,eN t]) ⟨rfl,by decide,rfl⟩ ?_;refine(gO<|ny<|Am (Ak g c) (jE<|jC (Yu d.1) (jV I).r)<|jV I).trans (iW<|kh<|jC (a:=.lst ((Dp w a).map D.int)) I (jE (b:=Y)<|xK (args:=[cD a]) (λs=>if EC a s=Y then 1 else 0) (fi:=jd<|hU tJ [gK 1]) (l:=w) ?_ I I (λx h=>⟨C,?_⟩)<|by rw[f.len];lia).r)
 .rw[HU,J1 (RO c e)<|jV I];rfl
 rw[Sq,jx<|Am (Sj a x (by have:=f.sg h;rw[d.1];exact this)) (jV I)<|jV I];cases EC a x<;>rfl
def adS(n:Nat):iI 1 n=(bA 1 n).map λ(k:Nat)=>D.int (k:Int):=by unfold iI;rw[KD,jA];exact lX λk _=>by simp
def no{t:FT}{f:FS}{δ:Dn}(g:FS)(h:t δ=J (C,δ)):gW (AD t f ir) g δ=g δ:=gO<|(mE h).trans I
def D2{k l:hX}(g:k.Perm l)(h1:DT k)(f:DT l):k=l:=by
 refine g.eq_of_pairwise (le:=λa b=>CL (cD b) (cD a)=C) (λa b _ _ x y=>?_) h1 f;rw[xu]at x y;have d:∀x:List Int,D.pr (cD x)=Y:=λx=>by simp[D.pr,pK]
 have e:cT (cD a) (cD b)=.eq:=by
  rw[wo]at x
  cases c:cT (cD a) (cD b)with
  |lt=>exact absurd c y
  |gt=>rw[c]at x;exact absurd I x
  |eq=>rfl
 have:=sJ _ _ (d a) (d b) e;simpa[kc]using lY Ds this
def OC:∀n:Nat,n<6->(jg n).Pairwise λa b=>CL (cD b) (cD a)=C:=by decide+kernel
def PT(n m:Nat)(p:gQ):Prop:=A1 p=m/\(∀x∈p,SG n x)/\(p.map ab).Nodup
def PT.tt{n:Nat}{t:gQ}(h:PT n n t):TT n t:=GH.mpr ⟨by simp[h.1],λx a=>by obtain⟨y,b,rfl⟩:=ie a;exact h.2.1 y b,h.2.2⟩
def Vc{n m:Nat}{p c:gQ}(h:PT n m p)(d:Q2 m c):((c.map<|led p).map ab).Nodup:=by
 rw[jA];have f:=Ee d.2.1;rw[Jd]at f ⊢;rw[nD]at f ⊢;refine Ky ?_ f;intro a b g i o e;simp at e;rw[DE h.1<|d.2.2 a g,DE h.1<|d.2.2 b i]at e;have h1:=d.2.2 a g;have l:=d.2.2 b i;have j:(ab a).toNat-1<(p.map ab).length:=by simp[h.1];lia
 have k:(ab b).toNat-1<(p.map ab).length:=by simp[h.1];lia
 simp only[qp,jk j,jk k]at e;have:=(Cw h.2.2).mp e
 lia
def Ra(p c:gQ):mx GP ((c.map<|led p).map D.int)=(lc p c).map D.int:=(EH<|jL GP _).1
def Vg{n m:Nat}(l:m<=5){p c:gQ}(h:PT n m p)(e:Q2 m c):kJ [enc c,enc p]=J (enc<|lc p c,[eN c,eN p]):=by
 have k:=e.len
 have i:uX (.lst<|(c.map<|led p).map D.int)=J (.lst<|(lc p c).map D.int,Y):=by
  show(if((c.map<|led p).map D.int).all Jr=Y/\(((c.map<|led p).map D.int).map aD).Nodup/\((c.map<|led p).map D.int).length<64 then J (D.lst<|mx GP<|(c.map<|led p).map D.int,Y)else U)=_
  have f:((c.map<|led p).map D.int).all Jr=Y:=by rw[kf];intro d hd;obtain⟨x,_,rfl⟩:=ie hd;rfl
  have g:(((c.map<|led p).map D.int).map aD).Nodup:=by rw[jA];exact Vc h e
  rw[hV ⟨f,g,by simp;lia⟩,Ra]
 refine AA ⟨rfl,by decide,rfl⟩<|jC (a:=.lst ((lc p c).map D.int)) I (jE (b:=Y)<|jC i (jE (b:=Y)<|xK (args:=[cD p]) (led p) I I I (λx j=>⟨C,?_⟩)<|by lia).r).r;exact Am (Yw h.1<|e.2.2 x j) (jV I)<|jV I
def Q8{m:Nat}{p:gQ}(a:(A1 p)=m)(r:gQ){s:Int}(h:SG m s):led (p++r) s=led p s:=by
 obtain⟨k,hk,rfl|rfl⟩:=lG h
 .rw[kF,kF];simp[oQ (show k<(A1 p) by lia)]
 rw[la,la];simp[oQ (show k<(A1 p) by lia)]
def Vi{m:Nat}{p c:gQ}(b:(A1 p)=m)(r:gQ)(a:Q2 m c):lc (p++r) c=lc p c:=by unfold lc;rw[lX λs d=>Q8 b r<|a.2.2 s d]
noncomputable def JH(n:Nat):List Int:=((ap (2*n+1)).map λ(k:Nat)=> -(n:Int)+k).filter λs=>!(s==0)
def Jt(n:Nat)(t:gQ):List Int:=(JH n).filter λs=>!t.contains s&&!t.contains (-s)
def Hf(n:Nat)(L:hX):List (List Int):=L.flatMap λt=>(Jt n t).map λs=>t++[s]
def mh(n:Nat):Nat->List (List Int)
 |0=>[[]]
 |m+1=>Hf n<|mh n m
def Wg{n:Nat}{s:Int}:s∈JH n↔SG n s:=by
 unfold JH SG;simp only[mB,rp,rn];constructor
 .rintro⟨⟨k,hk,rfl⟩,b⟩;unfold ab;simp at b;split<;>lia
 rintro⟨h1,a⟩;unfold ab at h1 a;refine⟨⟨(s+n).toNat,by split at a<;>lia,by split at a<;>lia⟩,by simp;split at h1<;>lia⟩
def sL{n:Nat}:∀{m:Nat}{t:gQ},t∈mh n m->PT n m t:=by
 intro r
 induction r with
 |zero=>intro t h;simp[mh]at h;subst h;exact⟨rfl,λx c=>by simp at c,mv⟩
 |succ m q=>
  intro t h;simp only[mh,Hf,wu,rp]at h;obtain⟨p,o,s,d,rfl⟩:=h;obtain⟨h1,j,k⟩:=q o;unfold Jt at d;simp at d;obtain⟨d,f,g⟩:=d;have sg:=Wg.mp d;refine⟨by simp[h1],λx c=>?_,?_⟩
  .rcases nQ.mp c with c|c
   .exact j x c
   simp at c;subst c;exact sg
  rw[nL,yk];refine⟨k,by simp,λa l b i e=>?_⟩;simp at i;subst i;subst e;obtain⟨x,c,e⟩:=ie l;unfold ab at e;have:x=s\/x= -s:=by split at e<;>split at e<;>lia
  rcases this with rfl|rfl
  .exact f c
  exact g c
def E8:∀n,n<6->∀m,m<6->(mh n m).length<=3840:=by decide+kernel
def T9:∀n,n<6->st n∈mh n n:=by decide+kernel
def Vr{f g:FO}{δ δ1 δ2:Dn}{o1 o2:F2}{i j:Int}(h1:f δ=J (o1,δ1))(a:g δ1=J (o2,δ2))(b:res δ2 o1=J (.int i))(c:res δ2 o2=J (.int j))(d: -1000<=i/\i<=1000)(e: -1000<=j/\j<=1000):zN f g δ=J (iI i (j-i).toNat,δ2):=by unfold zN;rw[ox h1 a];simp only[jH,uP,b,c];rw[hV<|by lia]
def abZ{n:Nat}(b:n<=5):mM [pI n]=J ((.lst<|(JH n).map .int,Y),[ii n]):=by
 have e:=vf (caps:=[]) (fi:=zN (hG<|qh yt<|gK 0) WB) (f:=jI 0) (ti:=fT<|il D4 (gK 0) oT) (δ:=[ii n]) (δ1:=[ii n]) (l:=iI (-(n:Int)) (2*n+1)) (args:=[]) (λd=>d) (λd=>!(B1 d==0)) ?_ I I (λd hd=>?_) (by simp[iI];lia)
 .have a:((iI (-(n:Int)) (2*n+1)).filter λd=>!(B1 d==0)).map (λd=>d)=(JH n).map .int:=by rw[n4];unfold iI JH;rw[show(λ(k:Nat)=>D.int (-(n:Int)+k))=D.int∘(λ(k:Nat)=> -(n:Int)+k)from I,<-jA,Ff];rfl
  rw[a]at e;exact AA ⟨rfl,by decide,rfl⟩ e
 .rw[Vr (o1:=.val (.int (-n),C)) (o2:=.val (.int<|n+1,C)) (δ1:=[ii n]) (δ2:=[ii n]) I I I I (by lia)<|by lia,show((n:Int)+1- -n).toNat=2*n+1 by lia]
 obtain⟨k,_,rfl⟩:=ie hd;exact⟨by kernel_rfl,λ_=>⟨C,rfl⟩⟩
abbrev Kg:FT:=sy (fT Tr) TK
abbrev fE:F:=Ww
def T3(n:Nat)(t:gQ)(s:Int):Kg [ii n,eN t,ii s]=J (!t.contains s&&!t.contains (-s),[ii n,eN t,ii s]):=by
 have h1:fT Tr [ii n,eN t,ii s]=J (!t.contains s,[ii n,eN t,ii s]):=jx<|jO (Ig s t) (jV I).r (jV I).r;have a:TK [ii n,eN t,ii s]=J (!t.contains (-s),[ii n,eN t,ii s]):=jx<|jO (Ig (-s) t) (jE (b:=C) I).r (jV I).r;unfold Kg sy;rw[h1];simp only[jH];cases t.contains s
 .simp only[lT,dN];exact a
 rfl
def Y0(n:Nat)(t:gQ)(a:(A1 t)<=100)(s:Int):fE [ii n,eN t,ii s]=J ((cD<|t++[s],C),[ii n,eN t,ii s]):=by refine jO (b:=.tup [.int s]) ?_ (jV I).r (jE (b:=C)<|by kernel_rfl).r;show nG (.tup<|t.map .int) (.tup [.int s])=_;simp only[nG];rw[hV<|yx<|by simp;lia,<-List.map_singleton,<-nL]
theorem Oo{n:Nat}(e:n<=5):∀(L:hX)(a:List D)(x y:Sl),(∀t∈L,A1 t<=100)->A1 a+10*(A1 L)<=sizeLine->
  ∃u b,jr (gP 1) iZ (Dw (jd<|hU mM [gK 0]) (gP 2) Kg<|ja fE) (L.map cD) a [ii n,x,y]=J (a++(Hf n L).map cD,[ii n,u,b])
 |[],a,x,y,_,_=>⟨x,y,by simp[jr,Hf]⟩
 |t::L,a,x,y,h,o=>by
  have q:(JH n).length<=10:=by have:=pj (λs:Int=>!(s==0))<|(ap (2*n+1)).map λ(k:Nat)=> -(n:Int)+k;rcases(show n=0\/n=1\/n=2\/n=3\/n=4\/n=5 by lia)with rfl|rfl|rfl|rfl|rfl|rfl<;>decide
  simp at o
  obtain⟨b,c⟩:=V4 (f:=fE) (ti:=Kg) (g:=λd=>cD<|t++[B1 d]) (p:=λd=>!t.contains (B1 d)&&!t.contains (-(B1 d))) (pre:=[ii n,eN t]) ((JH n).map .int) a y (λd hd=>by obtain⟨s,_,rfl⟩:=ie hd;exact⟨T3 n t s,λ_=>⟨C,Y0 n t (h t jF) s⟩⟩) (by simp;lia)
  have j:(((JH n).map D.int).filter λd=>!t.contains (B1 d)&&!t.contains (-(B1 d))).map (λd=>cD<|t++[B1 d])=((Jt n t).map λs=>t++[s]).map cD:=by rw[Ff,jA,jA];rfl
  rw[j]at c
  have m:((Jt n t).map λs=>t++[s]).length<=10:=by rw[jf];exact jW (pj _ _) q
  obtain⟨x2,v,i⟩:=Oo e L (a++((Jt n t).map λs=>t++[s]).map cD) (eN t) b (λr l=>h r<|iY _ l) (by rw[nN,jf];lia);refine⟨x2,v,?_⟩;rw[jK,jr];rw[show gP 1 (cD t) [ii n,x,y]=J [ii n,eN t,y]from I];simp;unfold Dw;rw[lM<|J1 (abZ e)<|jV I];simp;rw[show jr (gP 2) Kg (ja fE) ((JH n).map .int) a [ii n,eN t,y]=_ from c];simp only[jH];refine(show _=_ from i).trans ?_;simp[Hf]
def adp{n:Nat}(a:n<=5)(L:hX)(h:∀t∈L,A1 t<=100)(b:(A1 L)<=4000):lN [pI n,(.lst<|L.map cD,Y)]=J ((.lst<|(Hf n L).map cD,Y),[ii n,J (.lst<|L.map cD,C)]):=by obtain⟨c,d,e⟩:=Oo a L [] U U h (by rw[jQ];simp;lia);refine jG (δ:=[ii n,J (.lst<|L.map cD,C)]) ⟨rfl,by decide,rfl⟩<|iW<|kh ?_;exact(pP (caps:=[0]) (l:=L.map cD) (δ1:=[ii n,J (.lst<|L.map cD,C)]) (args:=[pI n]) (lM (o:=C) I) I mv e).trans I
def ln(c:gQ):Nat:=(ab<|c.getLastD 0).toNat
def Ir{n:Nat}{c:gQ}(h:Q2 n c):1<=ln c/\ln c<=n/\Q2 (ln c) c:=by
 obtain⟨b,h1,d⟩:=h;rcases yP c with rfl|⟨l,x,rfl⟩
 .exact absurd I b
 rw[Cc]at b h1 d ⊢;have e:ln (l++[x])=(ab x).toNat:=by simp[ln]
 have f:=d x (by simp);rw[e];refine⟨by lia,by lia,b,h1,λs a=>⟨(d s a).1,?_⟩⟩;rcases nQ.mp a with a|a
 .rw[nL,qz]at h1;have:=h1.2.2 (ab s) (qo a) (ab x) (by simp)
  lia
 simp at a;subst a;lia
def Q2.up{n m:Nat}{c:gQ}(h:Q2 n c)(b:n<=m):Q2 m c:=⟨h.1,h.2.1,λs a=>by have:=h.2.2 s a;lia⟩
def Rc{n:Nat}{c:gQ}(h:Q2 n c):A2 (cD c) (.int (-1))=ii (c.getLastD 0):=by
 rcases yP c with rfl|⟨l,x,rfl⟩
 .exact absurd I h.1
 simp;simp[A2,GK,Dv];rw[hV<|by lia,show(-1+(((A1 l):Int)+1)).toNat=(A1 l) by lia];simp
def Vt(c:gQ)(a:hX):Js (cD c) (.tup<|a.map cD)=J (.bl<|decide<|c∈a,C):=NJ c a
def DA(js a:hX)(m:Nat)(t:gQ):Bool:=a.all λc=>!decide (ln c<=m)||decide (lc t c∈js)
def Hq(a:hX)(m:Nat):List (List Int):=a.filter λc=>ln c==m
theorem Bx{d e:Type}{P:d->Bool}{Q R:e->Bool}{f:d->List e}:∀L:List d,(∀t∈L,∀u∈f t,R u=(P t&&Q u))->((L.filter P).flatMap f).filter Q=(L.flatMap f).filter R
 |[],_=>rfl
 |t::L,h=>by
  have g:=Bx L λt b=>h t<|iY _ b;have b:=h t jF;rw[Fd,yG,<-g]
  cases a:P t with
  |true=>
   rw[wy a,Fd,yG]
   congr 1
   exact BW λu c=>by rw[b u c,a];rfl
  |false=>
   rw[wx<|by rw[a];decide];have:(f t).filter R=[]:=OP.mpr λu c=>by rw[b u c,a,dw];exact ky
   rw[this];rfl
def MZ{n m:Nat}{b a:hX}(hk:∀c∈a,Q2 n c){t:gQ}(f:(A1 t)=m)(s:Int):DA b a (m+1) (t++[s])=(DA b a m t&&(Hq a<|m+1).all λc=>decide<|lc (t++[s]) c∈b):=by
 unfold DA Hq
 induction a with
 |nil=>rfl
 |cons c a g=>
  have e:=Ir<|hk c jF;rw[uG,uG,g λc h=>hk c<|iY _ h];by_cases h1:ln c=m+1
  .rw[wy<|by simp[h1],uG,kM (show ln c<=m+1 by lia),kN (show ¬ln c<=m by lia)];simp;cases decide (lc (t++[s]) c∈b)<;>cases(a.all λc=>!decide (ln c<=m)||decide (lc t c∈b))<;>rfl
  rw[wx<|by simpa using h1];by_cases d:ln c<=m
  .rw[kM (show ln c<=m+1 by lia),kM d,Vi f [s]<|e.2.2.up d,eO]
  rw[kN (show ¬ln c<=m+1 by lia),kN d,eO];rfl
def N2{n m:Nat}{js a:hX}(hk:∀c∈a,Q2 n c):(Hf n<|(mh n m).filter<|DA js a m).filter (λu=>(Hq a<|m+1).all λc=>decide<|lc u c∈js)=(mh n<|m+1).filter (DA js a<|m+1):=by refine Bx _ λt b u d=>?_;obtain⟨s,_,rfl⟩:=ie d;exact MZ hk (sL b).1 s
def Yo{n:Nat}{js a:hX}(hk:∀c∈a,Q2 n c)(t:gQ):DA js a 0 t=Y:=kf.mpr λc b=>by rw[kN (by have:=(Ir<|hk c b).1;lia)];rfl
def Yn{n:Nat}{js a:hX}(hk:∀c∈a,Q2 n c)(t:gQ):DA js a n t=a.all λc=>decide (lc t c∈js):=by unfold DA;rw[uo,kf,kf];refine yH λc=>yH λb=>?_;rw[kM (Ir<|hk c b).2.1];rfl
abbrev Po:FT:=Xn
abbrev YU:FS:=gW Xp<|gW (jy 4<|iR [1,6] 1 TJ (gP 2) Po<|ja<|jI 2) ir
abbrev V0(L:hX)(o:Bool):Sl:=J (.lst<|L.map cD,o)
abbrev Eo(L:hX):Sl:=J (.tup<|L.map cD,C)
def Pn{n m:Nat}(g:m<=5){js a:hX}(h:∀c∈a,Q2 m c)(j:(A1 a)<=30){t:gQ}(i:PT n m t)(o:Bool):Po [Eo js,V0 a o,eN t]=J (a.all λc=>decide<|lc t c∈js,[Eo js,V0 a C,eN t]):=by
 have c:=pT (caps:=[0,2]) (fi:=jd<|jI 1) (f:=il Js WD<|gK 0) (δ:=[Eo js,V0 a o,eN t]) (δ1:=[Eo js,V0 a C,eN t]) (l:=a.map cD) (args:=[.tup<|js.map cD,cD t]) (λd=>decide<|lc t (Ds d)∈js) (by cases o<;>exact lM (o:=C) I) I I (λd hd=>by obtain⟨c,e,rfl⟩:=ie hd;rw[kc];exact⟨C,jO (b:=.tup (js.map cD)) (Vt _ _) (jE (b:=C)<|Am (Vg g i<|h c e) (jV I)<|jV I).r (jV I).r⟩) (by simp;lia)
 rw[show(a.map cD).all (λd=>decide<|lc t (Ds d)∈js)=a.all λc=>decide (lc t c∈js) by rw[uF];simp only[qZ,kc]]at c;exact jx c
theorem Ol{n m:Nat}(i:m<=5){js b:hX}(j:∀c∈b,Q2 m c)(g:(A1 b)<=30):∀(L:hX)(a:List D)(o:Bool)(x:Sl),(∀t∈L,PT n m t)->A1 a+A1 L<=sizeLine->
  ∃d f,jr (gP 2) Po (ja<|jI 2) (L.map cD) a [Eo js,V0 b o,x]=J (a++(L.filter λt=>b.all λc=>decide<|lc t c∈js).map cD,[Eo js,V0 b d,f])
 |[],a,o,x,_,_=>⟨o,x,by simp[jr]⟩
 |t::L,a,o,x,h,r=>by
  have q:=Pn i j g (h t jF) (js:=js) o;have k:∀t∈L,PT n m t:=λt s=>h t<|iY _ s;simp at r;rw[jK,jr,show gP 2 (cD t) [Eo js,V0 b o,x]=J [Eo js,V0 b o,eN t]from I];simp only[jH];rw[q];simp only[jH]
  cases l:b.all λc=>decide (lc t c∈js)with
  |false=>obtain⟨d,f,e⟩:=Ol i j g L a C (eN t) k (by lia);exact⟨d,f,by rw[iC ky,wx (p:=λt=>b.all λc=>decide<|lc t c∈js)<|by rw[l];exact ky];exact e⟩
  |true=>obtain⟨d,f,e⟩:=Ol i j g L (a++[cD t]) C (eN t) k (by simp;lia);refine⟨d,f,?_⟩;rw[hV I,wy (p:=λt=>b.all λc=>decide<|lc t c∈js) l];simp;rw[show jI 2 [Eo js,V0 b C,eN t]=J ((cD t,C),[Eo js,V0 b C,eN t])from I];simp;rw[hV<|by lia];simp;rw[e];simp
def VR{t:FT}{f g:F}{δ δ1:Dn}{b:Bool}(h:t δ=J (b,δ1)):JK t f g δ=if b=Y then f δ1 else g δ1:=by unfold JK;rw[h];rfl
theorem IH{n:Nat}(a:n<=5):∀L:List (List Int),(Hf n L).length<=10*(A1 L)
 |[]=>by simp[Hf]
 |t::L=>by
  have:=IH a L
  have b:((Jt n t).map λs=>t++[s]).length<=10:=by rw[jf];refine jW (pj _ _) ?_;rcases(show n=0\/n=1\/n=2\/n=3\/n=4\/n=5 by lia)with rfl|rfl|rfl|rfl|rfl|rfl<;>decide
  unfold Hf at*;rw[Fd,nN,mQ]
  lia
section
variable {n:Nat}{g js:hX}(j:n<=5)(hk:∀c∈g,Q2 n c)(q:g.length<=30)
include j hk q
abbrev JE(n:Nat)(g js L:hX)(x y:Sl):Dn:=[J (AW n g,C),Eo js,ii n,Eo g,V0 L Y,x,y]
theorem Rx{m:Nat}(G:m+1<=n)(y:Sl):∃Q,YU (JE n g js ((mh n m).filter<|DA js g m) (ii<|(m:Int)+1) y)=z8 (.nx<|JE n g js ((mh n<|m+1).filter<|DA js g<|m+1) (ii<|(m:Int)+1) Q):=by
 have s:=vf (caps:=[5]) (fi:=jd<|jI 3) (f:=jI 1) (ti:=fT Xc) (δ:=JE n g js ((mh n m).filter<|DA js g m) (ii<|(m:Int)+1) y) (δ1:=JE n g js ((mh n m).filter<|DA js g m) (ii<|(m:Int)+1) y) (l:=g.map cD) (args:=[.int<|(m:Int)+1]) (λd=>d) (λd=>ln (Ds d)==m+1) I I I (λd hd=>by
  obtain⟨c,u,rfl⟩:=ie hd;rw[kc];refine⟨jx (o:=AC)<|jO (a:=.int (ab<|c.getLastD 0)) ?_ (jE (b:=AC)<|jC I (jE (b:=AC)<|jO (Rc<|hk c u) (jV I).r (jE (b:=AC) I).r).r).r (jV I).r,λ_=>⟨AC,rfl⟩⟩;have T:0<=ab (c.getLastD 0):=by unfold ab;split<;>lia
  have:(ln c==m+1)=decide (ab (c.getLastD 0)=(m:Int)+1):=by
   unfold ln;generalize ab (c.getLastD 0)=x at*;by_cases h:x=(m:Int)+1
   .rw[kM h,h];simp
   rw[kN h];simp;lia
  rw[this];generalize ab (c.getLastD 0)=x
  kernel_rfl) (by simp;lia)
 rw[pO]at s;have er:(g.filter λt=>ln (Ds<|cD t)==m+1)=Hq g (m+1):=by simp only[kc];rfl
 rw[er]at s
 have O:∀c∈Hq g (m+1),Q2 (m+1) c:=λc u=>by obtain⟨h1,z⟩:=mB.mp u;have:=Ir<|hk c h1;rw[beq_iff_eq]at z;rw[<-z];exact this.2.2
 have v:(Hq g<|m+1).length<=30:=jW (pj _ _) q;have B:∀t∈(mh n m).filter (DA js g m),PT n m t:=λt k=>sL (mB.mp k).1;have C:((mh n m).filter<|DA js g m).length<=3840:=jW (pj _ _)<|E8 n (by lia) m (by lia)
 have E:∀t∈Hf n ((mh n m).filter<|DA js g m),PT n (m+1) t:=λt k=>by refine sL (m:=m+1) ?_;obtain⟨p,M,L⟩:=wu.mp k;exact wu.mpr ⟨p,(mB.mp M).1,L⟩
 have N:(Hf n<|(mh n m).filter<|DA js g m).length<=38400:=by
  have:=IH j<|(mh n m).filter<|DA js g m
  lia
 obtain⟨w,J,e⟩:=Ol (n:=n) (m:=m+1) (by lia) (js:=js) O v (Hf n<|(mh n m).filter<|DA js g m) [] Y U E (by rw[jQ];simp;lia);rw[rq,N2 hk]at e;refine⟨V0 (Hq g<|m+1) w,?_⟩
 have A:iR [1,6] 1 TJ (gP 2) Po (ja<|jI 2) (JE n g js ((mh n m).filter<|DA js g m) (ii<|(m:Int)+1)<|V0 (Hq g<|m+1) Y)=z8 ((.lst<|((mh n<|m+1).filter<|DA js g<|m+1).map cD,Y),[rS n g,Eo js,ii n,Eo g,V0 ((mh n m).filter<|DA js g m) AC,ii<|(m:Int)+1,V0 (Hq g<|m+1) w]):=by
  refine(pP (caps:=[1,6]) (args:=[(.tup<|js.map cD,AC),(.lst<|(Hq g<|m+1).map cD,Y)]) (δ1:=[rS n g,Eo js,ii n,Eo g,V0 ((mh n m).filter<|DA js g m) AC,ii<|(m:Int)+1,V0 (Hq g<|m+1) Y]) (lM (o:=Y) ?_) I (He 6) e).trans ?_
  .exact jl (δ1:=JE n g js ((mh n m).filter<|DA js g m) (ii<|(m:Int)+1)<|V0 (Hq g<|m+1) Y) (os:=[.slot 2,.slot 4]) (args:=[pI n,(.lst<|((mh n m).filter<|DA js g m).map cD,Y)]) I I (He 4) (adp j _ (λt k=>by have:=(B t k).1;lia) (by lia))
  cases w<;>rfl
 exact(gO<|iU s (show 6<7 by decide)).trans ((gO<|iU (i:=4) A (show 4<7 by decide)).trans I)
theorem acI:lO [(AW n g,C),(.tup<|js.map cD,C)]=J ((.lst<|((mh n n).filter λt=>g.all λc=>decide<|lc t c∈js).map cD,Y),[rS n g,Eo js]):=by
 obtain⟨_,⟨m,x,y,l,rfl⟩,e⟩:=yC (tg:=gP 5) (fb:=YU) (λds δ=>∃(m:Nat)(x y:Sl),(m<=n/\ds=(bA (m+1)<|n-m).map λ(k:Nat)=>D.int (k:Int))/\δ=JE n g js ((mh n m).filter<|DA js g m) x y) (λd ds δ T=>by
  obtain⟨m,x,y,⟨h1,a⟩,h⟩:=T
  subst h
  have i:m<n:=by
   rcases pC m n with h|h
   .exact h
   rw[show n-m=0 by lia]at a;cases a
  rw[show n-m=(n-(m+1))+1 by lia,yS,jK]at a;obtain⟨rfl,rfl⟩:=uz a;obtain⟨o,e⟩:=Rx (js:=js) j hk q (m:=m) (by lia) y
  exact⟨_,_,rfl,e,m+1,_,o,⟨i,rfl⟩,rfl⟩) ((bA 1 n).map λ(k:Nat)=>D.int (k:Int)) (JE n g js [[]] U U) ⟨0,U,U,⟨lq _,rfl⟩,by rw[To.mpr λt _=>Yo hk t];rfl⟩
 obtain⟨p,f⟩:=l
 have b:m=n:=by
  rcases pC m n with h|h
  .rw[show n-m=(n-(m+1))+1 by lia,yS]at f;cases f
  lia
 subst b;rw[BW λt _=>Yn hk t]at e;refine jG (δ:=[rS m g,Eo js,ii m,Eo g,U,x,y]) ⟨rfl,by decide,rfl⟩ ?_;refine(gO (δ1:=[rS m g,Eo js,ii m,Eo g,U,U,U]) I).trans ((gO (δ1:=JE m g js [[]] U U)<|by kernel_rfl).trans ?_);refine(gO<|(kE (ds:=(bA 1 m).map λ(k:Nat)=>D.int (k:Int)) (δ1:=JE m g js [[]] U U) ?_).trans e).trans (iW ?_)
 .rw[IC (o1:=.val (.int 1,C)) (o2:=.val (.int<|(m:Int)+1,C)) (δ2:=JE m g js [[]] U U) I I I I (by lia)<|by lia,show((m:Int)+1-1).toNat=m by lia,adS]
 rfl
theorem abr:jJ [(AW n g,C)]=J ((.lst<|((mh n n).filter λt=>g.all λc=>decide<|lc t c∈g).map cD,Y),[rS n g]):=by
 refine AA ⟨rfl,by decide,rfl⟩<|Am (b:=AW n g) (outs:=[rS n g,rS n g]) ?_ (jV I)<|jV I;refine AA ⟨rfl,by decide,rfl⟩ (δ:=[rS n g,rS n g])<|(VR (b:=Y) (δ1:=[rS n g,rS n g])<|jx (o:=C)<|jO (a:=.int (A1 g)) (NS<|by simp[D.dep]) (jE (b:=C)<|jC ?_ (jE (b:=C)<|jO I (jV I).r (jE I).r).r).r (jE (b:=C)<|jC ?_ (jE (b:=C)<|jO I (jV I).r (jE I).r).r).r).trans ?_
 .simp
 .simp
 exact Am (acI j hk q) (jV I) (jE (b:=C)<|jO I (jV I).r (jE I).r)
end
def aey{l:gQ}(h:(l.map ab).Nodup):l.Nodup:=p7 ab (λ_ _ h e=>h<|lY ab e) h
def Ep{f:Type}[DecidableEq f]:∀(l m:List f),l.Nodup->(∀x∈l,x∈m)->A1 m<=A1 l->l.Perm m:=by
 intro j
 induction j with
 |nil=>intro m _ _ h;rw[Ku.mp<|Nat.le_zero.mp h]
 |cons x l i=>intro m a b g;rw[yj]at a;have c:=b x jF;have k:=i (m.erase x) a.2 (λy d=>(B7 (show y≠x from λe=>a.1<|e▸d)).mpr<|b y<|iY _ d) (by rw[K8 c];simp at g;omega);exact(k.cons x).trans (Fh c).symm
def Vj{n:Nat}{t a b:gQ}(f:TT n t)(c:Q2 n a)(d:Q2 n b)(e:lc t a=lc t b):a=b:=by
 have i:=(nU f c).1.1;have m:=(nU f d).1.1;rw[e]at i;have j:=i.symm.trans m;have k:=j.length_eq;simp at k
 have l:a.Perm b:=Ep _ _ (aey<|Ee c.2.1) (λs h=>by obtain⟨r,g,e⟩:=ie<|j.mem_iff.mp<|qo h;rw[<-vQ f (d.2.2 r g) (c.2.2 s h) e];exact g) (by lia)
 have o:=nD.mp c.2.1;have p:=nD.mp d.2.1;exact l.eq_of_pairwise (λx y _ _ h1 q=>by lia) o p
def Ez{n:Nat}{t:gQ}{d g:hX}(o:TT n t)(f:nh n d)(h:LR t d g):(g=d)↔ ∀c∈d,lc t c∈d:=by
 constructor
 .rintro rfl c i;exact h.1.mem_iff.mpr<|qo i
 intro j
 have q:(d.map<|lc t).Nodup:=by rw[Jd,nD];refine Ky ?_<|Jd.mp f.2.1.1;intro a b k l r e;exact r<|Vj o (f.2.1.2 a k) (f.2.1.2 b l) e
 have m:g.Perm d:=by refine h.1.trans<|Ep _ _ q (λx p=>?_) (by simp);obtain⟨c,i,rfl⟩:=ie p;exact j c i
 exact D2 m h.2 f.2.2.1
def Z0{n:Nat}{d:D}(h:tB n d=Y):∃t,d=cD t/\TT n t:=by
 rw[LO]at h
 cases d with
 |tup l=>
  simp only[lB,kX,kf,oM]at h;refine⟨l.map B1,?_,?_⟩
  .have:l=(l.map B1).map D.int:=by
    rw[jA]
    conv=>lhs;rw[<-qm l]
    exact lX λd hd=>LB<|h.1 d hd
   exact lY D.tup this
  unfold TT;rw[jA];exact h.2
 |_=>cases h
def liB(n:Nat)(a:hX)(d:D):Bool:=tB n d&&a.all λc=>decide<|lc ((zo d).map B1) c∈a
def L6(t:gQ):(zo<|cD t).map B1=t:=kc t
theorem IK:∀a b:List (List Int),D.B4 (a.map cD) (b.map cD)=decide (a=b)
 |[],[]=>rfl
 |[],_::_=>rfl
 |_::_,[]=>rfl
 |x::a,y::b=>by rw[jK,jK,D.B4,Hd,IK a b];simp
def Vy(n:Nat)(a b:hX):Ao (AW n a) (AW n b)=J (.bl<|decide<|a=b,C):=by unfold Ao;rw[hV ⟨N7 n a,N7 n b⟩];simp only[D.R1,D.B4];rw[IK];simp
section
variable {n:Nat}{a:hX}(h:nh n a){d:D}(hd:MI d)
include h hd
theorem adz:lL [(AW n a,C),(d,C)]=J ((.bl<|liB n a d,C),[rS n a,J (d,C)]):=by
 have c:hU jm [ze,gK 1] [rS n a,J (d,C)]=J ((.bl<|tB n d,C),[rS n a,J (d,C)]):=Am (rR n d hd) (jE (b:=C)<|jO I (jV I).r (jE I).r)<|jV I;refine AA ⟨rfl,by decide,rfl⟩ (δ:=[rS n a,J (d,C)]) ?_;unfold liB
 cases e:tB n d with
 |false=>rw[e]at c;exact Ha c
 |true=>
  rw[e]at c;obtain⟨t,rfl,f⟩:=Z0 e;obtain⟨j,i,g⟩:=SH f h;refine(Dl c).trans (jO ?_ (jE (b:=C)<|Am g (jV I)<|jV I).r (jV I).r);rw[Vy,L6,dN]
  congr 3
  rw[uo,oM,kf,Ez f h i];simp
end
section
variable {n:Nat}{t w a:gQ}(b:TT n t)(c:lh n a)
include b c
end
def aaR(l:List D):PX.ye l (J 1) U=l.tail:=by
 unfold PX.ye;rw[show(J (1:Int))=J ((1:Nat):Int)from I,HT.Wh,HT.Uh]
 cases l with
 |nil=>rfl
 |cons x l=>rw[show min 1 (x::l).length=1 from by simp];simp
theorem SJ:∀a b:List Int,∃r,nB .LtE (a.map .int) (b.map .int)=J (!r)/\nB .Lt (b.map .int) (a.map .int)=J r
 |[],[]=>⟨C,by kernel_rfl,by kernel_rfl⟩
 |[],y::b=>⟨C,by simp[nB,ly];lia,by simp[nB,ly];lia⟩
 |x::a,[]=>⟨Y,by kernel_rfl<;>lia,by simp[nB,ly]<;>lia⟩
 |x::a,y::b=>by
  obtain⟨r,h1,d⟩:=SJ a b;by_cases h:x=y
  .subst h;exact⟨r,by simp[nB,D.R1,h1],by simp[nB,D.R1,d]⟩
  have c: ¬y=x:=λe=>h e.symm;refine⟨decide<|y<x,?_,?_⟩
  .simp only[jK,nB,D.R1,qk,kN h,nX,ly];simp;by_cases q:y<x
   .have: ¬x<=y:=by lia
    simp[q,this]
   have:x<=y:=by lia
   simp[q,this]
  simp[nB,D.R1,c,nX,ly]
def Yx(a b:gQ):qL .LtE (cD a) (cD b)=J (.bl (!CL (cD b) (cD a)),C):=by obtain⟨r,h1,c⟩:=SJ a b;have e:=yE (cD b) (cD a) (by simp[D.pr,pK]) (by simp[D.pr,pK]) r (by simpa[nX]using c);unfold qL;rw[hV ⟨by rw[vd];omega,by rw[vd];omega⟩,show nX .LtE (cD a) (cD b)=J (!r)from by simpa[nX]using h1,e];rfl
def brk(n:Nat)(b:hX)(c:gQ):List (List Int):=(jU n b).filter λa=>!kC a c
abbrev Du(w a:gQ):Bool:=CL (cD<|Dp w a)<|cD a
def C4{n:Nat}{b:hX}{a:gQ}(h:a∈jU n b):lh n a:=Fc.mp (mB.mp h).1
def zL{n:Nat}(a:n<=5)(ks:hX):(jU n ks).length<=32:=jW (pj _ _)<|Hs a
section
variable {n:Nat}(g:n<=5){t w:gQ}(f:TT n t)(d:BK n t w)
include g f d
theorem GB{a:gQ}(c:lh n a):kx [enc a,enc t]=J ((.bl (!Du w a),C),[eN a,eN t]):=
 AA ⟨rfl,by decide,rfl⟩ (jO (Yx _ _) (jV I).r (jE (b:=C)<|Am (Iy g f d c) (jV I)<|jV I).r)
abbrev G7:FS:=Xb
theorem YR(i:Sl):∀(L:hX)(x:Sl),(∀a∈L,lh n a)->∃k,lJ (gP 2) G7 (L.map cD) [eN t,i,x]=if L.all (Du w)=Y then J (.nx [eN t,i,k])else J (.rt (.bl C,C) [eN t,i,k]):=by
 intro s
 induction s with
 |nil=>intro x _;exact⟨x,rfl⟩
 |cons a L q=>
  intro x h;have j:fT (hU kx [gK 2,gK 0]) [eN t,i,eN a]=J (!Du w a,[eN t,i,eN a]):=jx (o:=C)<|Am (GB g f d<|h a jF) (jV I)<|jV I
  have m:lJ (gP 2) G7 ((a::L).map cD) [J<|enc t,i,x]=(G7 [J<|enc t,i,J<|enc a]).bind λo=>match o with
   |.nx b=>lJ (gP 2) G7 (L.map cD) b
   |.ct b=>lJ (gP 2) G7 (L.map cD) b
   |.bk b=>J<|.nx b
   |.rt r b=>J (.rt r b):=rfl
  rw[m,uG];cases l:Du w a
  .rw[l]at j;refine⟨eN a,?_⟩;have s1:G7 [eN t,i,eN a]=J (.rt (.bl C,C) [eN t,i,eN a]):=iW<|(qw j).trans I;rw[s1];rfl
  rw[l]at j;obtain⟨k,e⟩:=q (eN a) λc p=>h c<|iY _ p;refine⟨k,?_⟩;have s1:G7 [eN t,i,eN a]=J (.nx [eN t,i,eN a]):=(gO<|(mE j).trans I).trans I;rw[s1];exact e
theorem ado(L:hX)(c:∀a∈L,lh n a):pQ [enc t,(.lst<|L.map cD,C)]=J ((.bl<|L.all<|Du w,C),[eN t,J (.lst<|L.map cD,C)]):=by
 obtain⟨x,e⟩:=YR g f d (J (.lst<|L.map cD,C)) L U c
 cases b:L.all (Du w)with
 |true=>rw[b,hV I]at e;exact jG (δ:=[eN t,J (.lst<|L.map cD,C),x]) ⟨rfl,by decide,rfl⟩<|(gO<|(kE I).trans e).trans<|iW I
 |false=>rw[b,iC ky]at e;exact jG (δ:=[eN t,J (.lst<|L.map cD,C),x]) ⟨rfl,by decide,rfl⟩<|iW<|(kE I).trans e
end
section
variable {n:Nat}{ks:hX}(h:nh n ks)
include h
abbrev T1(n:Nat)(ks:hX):List (List Int):=(mh n n).filter λt=>ks.all λc=>decide<|lc t c∈ks
theorem oX:(T1 n ks).length<=3840:=jW (pj _ _)<|E8 n (by have:=h.1;lia) n (by have:=h.1;lia)
theorem kr{t:gQ}(a:t∈T1 n ks):TT n t:=(sL (mB.mp a).1).tt
theorem Q6:0<(T1 n ks).length:=by refine List.length_pos_of_mem (a:=st n)<|mB.mpr ⟨T9 n (by have:=h.1;lia),kf.mpr λc b=>?_⟩;rw[SM<|h.2.1.2 c b,kM b]
end
section
variable {n:Nat}{a:hX}(h:nh n a)(h1:1<=n)
include h h1
end
section
variable {d:D}{lo a:Int}
end
section
variable {n m:Nat}{V R:hX}{d:D}
end
def VY{a b:gQ}(h:cD a=cD b):a=b:=by have:=lY Ds h;rwa [kc,kc]at this
section
variable {n:Nat}{L a V R:hX}{d:D}
end
section
variable {a b c:D}
end
section
variable {n:Nat}{d:D}
end
section
variable {n:Nat}{L a c V F:hX}{d:D}{b:gQ}
end
def Na{n:Nat}:∀{m:Nat}{t:gQ},PT n m t->t∈mh n m:=by
 intro m
 induction m with
 |zero=>intro t h;rw[Ku.mp h.1];simp[mh]
 |succ m e=>
  intro t h;obtain⟨h1,d,a⟩:=h;rcases yP t with rfl|⟨p,s,rfl⟩
  .simp at h1
  rw[Cc]at*;rw[nL,yk]at a;have c:∀x∈p,ab x≠ab s:=λx b=>a.2.2 _ (qo b) _ (by simp);simp only[mh,Hf,wu,rp];refine⟨p,e ⟨by simpa using h1,λx b=>d x<|by simp[b],a.1⟩,s,?_,rfl⟩;unfold Jt;simp;refine⟨Wg.mpr<|d s<|by simp,λz=>c s z I,λz=>c (-s) z ?_⟩;unfold ab;split<;>split<;>lia
def TT.all{n:Nat}{t:gQ}(h:TT n t):t∈mh n n:=Na ⟨h.len,λx a=>h.sg a,(GH.mp h).2.2⟩
section
variable {n:Nat}{a:hX}(h:nh n a)
include h
theorem C1{v t:gQ}(hv:v∈T1 n a)(b:t∈T1 n a):CD v t∈T1 n a:=by have f:=kr h hv;have e:=kr h b;refine mB.mpr ⟨(f.CD e).all,kf.mpr λc d=>?_⟩;have hv:=rB<|kf.mp (mB.mp hv).2 c d;have b:=rB<|kf.mp (mB.mp b).2 _ hv;rw[Yy f e<|h.2.1.2 c d]at b;exact kM b
theorem LQ:st n∈T1 n a:=mB.mpr ⟨(D1 n).all,kf.mpr λc b=>by rw[SM<|h.2.1.2 c b,kM b]⟩
end
section
variable {n:Nat}{a:hX}{t u v w:gQ}
@[irreducible] def bkF(n:Nat)(t:gQ):List Int:=GR n t 2519
def oI(d:n<=5)(b:TT n t):BK n t (bkF n t):=by unfold bkF;refine⟨(oo b _).len,λs c=>?_⟩;have:=yy b 1 c 2519;rw[UE d b,qb c,Qc b]at this;exact this.symm
theorem Su{V:hX}(b:st n∈V)(c:∀v∈V,CD v t∈V):∀k,GR n t k∈V
 |0=>b
 |k+1=>c _ (Su b c k)
def Ys:t∈T1 n a↔TT n t/\∀c∈a,lc t c∈a:=by refine⟨λh=>⟨(sL (mB.mp h).1).tt,λc b=>rB<|kf.mp (mB.mp h).2 c b⟩,λh=>mB.mpr ⟨h.1.all,kf.mpr λc b=>kM<|h.2 c b⟩⟩
def Vf(h:nh n a)(b:u∈T1 n a)(c:BK n u w):w∈T1 n a:=by rw[BK.uniq (kr h b) c<|oI h.1<|kr h b];unfold bkF;exact Su (LQ h) (λv hv=>C1 h hv b) _
end
def ac(n:Nat)(t a:gQ):List Int:=Dp (bkF n t) a
section
variable {n:Nat}{c:hX}{t u v w a y:gQ}(b:n<=5)
include b
theorem Zc(d:TT n t)(e:BK n t w):ac n t a=Dp w a:=by unfold ac;rw[BK.uniq d e<|oI b d]
theorem OI(d:TT n t):lh n (ac n t a):=Np ((oI b d).tt d) a
theorem Hu(d:TT n t)(e:TT n u)(f:lh n a):ac n (CD t u) a=ac n u (ac n t a):=by unfold ac;rw[YB ((oI b d).tt d) ((oI b e).tt e) f,BK.CD d e (oI b d) (oI b e)<|oI b<|d.CD e]
theorem Tn(e:lh n a):ac n (st n) a=a:=by rw[Zc b (D1 n) (w:=st n) ⟨xb n,λs d=>by rw[qb d,qb d]⟩,YA e]
theorem Zd(d:TT n t)(f:BK n t w)(e:lh n a):ac n w (ac n t a)=a:=by rw[<-Hu b d (f.tt d) e,f.Ki d,Tn b e]
end
structure AY(n:Nat)(ks:hX)(a:gQ)(O:hX):Prop where
 nd:O.Nodup
 sr:DT O
 im:∀y,y∈O↔ ∃t∈T1 n ks,ac n t a=y
section
variable {n:Nat}{b O P:hX}{t u v w a y:gQ}(h:nh n b)
include h
theorem AY.ok(o:AY n b a O)(d:y∈O):lh n y:=by obtain⟨t,c,rfl⟩:=(o.im y).mp d;exact OI h.1<|kr h c
theorem AY.me(o:AY n b a O)(c:lh n a):a∈O:=(o.im a).mpr ⟨_,LQ h,Tn h.1 c⟩
theorem Y9(c:t∈T1 n b):∃w∈T1 n b,BK n t w:=⟨_,Vf h c<|oI h.1<|kr h c,oI h.1<|kr h c⟩
theorem AY.eq(o:AY n b a O)(p:AY n b y P)(e:lh n a)(j:y∈O):P=O:=by
 refine D2 ((List.perm_ext_iff_of_nodup p.nd o.nd).mpr λx=>?_) p.sr o.sr;rw[p.im,o.im];obtain⟨g,d,rfl⟩:=(o.im y).mp j;have g1:=kr h d;constructor
 .rintro⟨t,c,rfl⟩;exact⟨_,C1 h d c,Hu h.1 g1 (kr h c) e⟩
 rintro⟨t,c,rfl⟩;obtain⟨w,f,i⟩:=Y9 h d;refine⟨_,C1 h f c,?_⟩;rw[Hu h.1 (kr h f) (kr h c)<|OI h.1 g1,Zd h.1 g1 i e]
theorem Ve(e:t∈T1 n b):LR t b b:=by
 obtain⟨d,f⟩:=Ys.mp e;obtain⟨g,c,_⟩:=SH d h;have:=(Ez d h c).mpr f
 rwa [this]at c
theorem AY.kp(o:AY n b a O)(d:lh n a)(e:y∈O):b.all (kC y)=b.all (kC a):=by obtain⟨t,c,rfl⟩:=(o.im y).mp e;exact Wa (kr h c) (oI h.1<|kr h c) d h<|Ve h c
end
abbrev sT(V:hX):Sl:=J (.Sr .set []<|V.map cD,Y)
def acG(c:gQ)(V:hX):tE (cD c) (.Sr .set []<|V.map cD)=J (.bl (!decide (c∈V)),C):=by
 have h1:AK (cD c)=Y:=by have:=pZ [c];simpa using this
 unfold tE Vu M8;simp only;rw[hV ⟨pZ V,h1⟩,Hr];rfl
theorem Y8{f:F}{pre:Dn}(g:List Int->List Int):∀(l a:hX)(x:Sl),(∀t∈l,∃o,f (pre++[J (cD t,C)])=J ((cD<|g t,o),pre++[J (cD t,C)]))->(∀m:Nat,(((l.take m).map g).foldl ql a).length<500)->
  ∃b,jr (gP<|A1 pre) iZ (vn f) (l.map cD) (a.map cD) (pre++[x])=J (((l.map g).foldl ql a).map cD,pre++[b])
 |[],a,x,_,_=>⟨x,by kernel_rfl⟩
 |t::l,a,x,h,c=>by
  obtain⟨o,d⟩:=h t jF;obtain⟨b,e⟩:=Y8 g l (ql a<|g t) (J (cD t,C)) (λt j=>h t<|iY _ j) (λm=>by have:=c<|m+1;simpa using this);refine⟨b,?_⟩;have i:(A1 a)<500:=by have:=c 0;simpa using this
  have h1:AK (cD<|g t)=Y:=by have:=pZ [g t];simpa using this
  rw[jK,jr,show gP (A1 pre) (cD t) (pre++[x])=J (pre++[J (cD t,C)]) by unfold gP;simp];simp;unfold vn;rw[d];simp only[jH];rw[hV ⟨pZ a,h1,by simpa using i⟩];simp only[jH];rw[DC];exact e
section
variable {n:Nat}(b:n<=5)(h1:1<=n){L:hX}(c:∀t∈L,TT n t)(a:L.length<=3840)
include b h1 c a
end
def GX(R:List Int->List (List Int))(p:List D×List (List Int))(a:gQ):List D×List (List Int):=if a∈p.2 then p else(p.1++[.tup<|(R a).map cD],(R a).foldl ql p.2)
def GV(n:Nat)(V:hX):Prop:=V.Nodup/\∀v∈V,v∈jg n
def GV.fold{n:Nat}{V cs:hX}(h:GV n V)(a:∀c∈cs,c∈jg n):GV n (cs.foldl ql V):=⟨vY cs V h.1,λv hv=>((pN cs V v).mp hv).elim (h.2 v)<|a v⟩
def GV.len{n:Nat}(a:n<=5){V:hX}(h:GV n V):V.length<=32:=jW (mV V (jg n) h.1 h.2) (by rcases(show n=0\/n=1\/n=2\/n=3\/n=4\/n=5 by lia)with rfl|rfl|rfl|rfl|rfl|rfl<;>decide)
abbrev Rv:FS:=gW (nA<|EO 3<|jI 6) ir
section
variable {n:Nat}(b:n<=5)
include b
theorem SW(a d f i j k:Sl):∀(cs V:hX)(l:Sl),(∀c∈cs,c∈jg n)->GV n V->∃m,lJ (gP 6) Rv (cs.map cD) [a,d,f,sT V,i,j,l,k]=J (.nx [a,d,f,sT<|cs.foldl ql V,i,j,m,k])
 |[],V,l,_,_=>⟨l,rfl⟩
 |c::cs,V,l,h,g=>by
  obtain⟨m,e⟩:=SW a d f i j k cs (ql V c) (eN c) (λc o=>h c<|iY _ o) (g.fold (cs:=[c]) λx p=>by cases Aw.mp p;exact h c jF);refine⟨m,?_⟩;have h1:AK (cD c)=Y:=by have:=pZ [c];simpa using this
  have q:=g.len b
  have s1:Rv [a,d,f,sT V,i,j,eN c,k]=J (.nx [a,d,f,sT<|ql V c,i,j,eN c,k]):=by refine(gO<|ny (r:=(.T2,C)) (δ1:=[a,d,f,sT<|ql V c,i,j,eN c,k]) ?_).trans rfl;show(if(V.map cD).all AK=Y/\AK (cD c)=Y/\(V.map cD).length<500 then J ((D.T2,C),[a,d,f,J (D.Sr .set []<|nC (V.map cD)<|cD c,Y),i,j,eN c,k])else U)=_;rw[hV ⟨pZ V,h1,by simp;lia⟩,DC]
  show(Rv [a,d,f,sT V,i,j,eN c,k]).bind _=_;rw[s1];exact e
variable {L:hX}{R:List Int->List (List Int)}(d:∀a∈jg n,(∀c∈R a,c∈jg n)/\(R a).length<=100/\∃o,jD [enc a,(.lst<|L.map cD,AC)]=z8 ((.tup<|(R a).map cD,AC),o))
include d
abbrev VH:FS:=gW (AD (fT Tt) (gW (L8 5 [4,7] jD)<|gW Tp<|gW (nE (jd<|jI 5) (gP 6) Rv) ir) ir) ir
abbrev JD(a:Sl)(L:hX)(p:List D×List (List Int))(c e f:Sl):Dn:=[a,U,J (.lst p.1,Y),sT p.2,c,e,f,V0 L C]
theorem Rw(c:Sl){a:gQ}(s:a∈jg n)(p:List D×List (List Int))(g:GV n p.2)(v:(A1 p.1)<=1000)(j f:Sl):∃q m,VH (JD c L p (eN a) j f)=J (.nx<|JD c L (GX R p a) (eN a) q m):=by
 obtain⟨t,w,o,u⟩:=d a s;have k:fT Tt (JD c L p (eN a) j f)=J (!decide (a∈p.2),JD c L p (eN a) j f):=jx (o:=C)<|jO (acG a p.2) (jV I).r<|jR I;unfold GX;by_cases h:a∈p.2
 .rw[kM h]at k;rw[hV h];exact⟨j,f,(gO<|(mE k).trans I).trans I⟩
 rw[kN h]at k;rw[iC h];obtain⟨m,e⟩:=SW b c U (J (.lst<|p.1++[.tup<|(R a).map cD],Y)) (eN a) (J (.tup<|(R a).map cD,C)) (V0 L C) (R a) p.2 f t g;refine⟨J (.tup<|(R a).map cD,C),m,(gO<|(qw k).trans<|(gO (δ1:=JD c L p (eN a) (J (.tup<|(R a).map cD,C)) f) ?_).trans<|(gO<|ny<|qi (i:=2) (l0:=p.1) (l:=p.1) (r:=(.tup<|(R a).map cD,C)) (δ1:=JD c L p (eN a) (J (.tup<|(R a).map cD,C)) f) I I I<|vI<|by lia).trans<|(gO<|(kE (ds:=(R a).map cD) I).trans e).trans I).trans I⟩;unfold L8;rw[show jb (JD c L p (eN a) j f) (([4,7]:List Nat).map .slot)=J [enc a,(.lst<|L.map cD,C)]from I];simp only[jH];rw[hV ⟨rfl,show 5<8 by decide⟩,u];rfl
theorem Vd{p:List D×List (List Int)}{a:gQ}(c:a∈jg n)(g:GV n p.2):GV n (GX R p a).2/\(GX R p a).1.length<=A1 p.1+1:=by
 unfold GX;split
 .exact⟨g,by lia⟩
 exact⟨g.fold (d a c).1,by simp⟩
theorem S0(i:Sl):∀(as:hX)(p:List D×List (List Int))(j c f:Sl),(∀a∈as,a∈jg n)->GV n p.2->A1 p.1+A1 as<=1000->∃l k m,lJ (gP 4) VH (as.map cD) (JD i L p j c f)=J (.nx<|JD i L (as.foldl (GX R) p) l k m)
 |[],p,j,c,f,_,_,_=>⟨j,c,f,rfl⟩
 |a::as,p,j,c,f,h,g,u=>by have o:=h a jF;obtain⟨g1,g2⟩:=Vd b d o g;simp at u;obtain⟨q,r,s⟩:=Rw b d i o p g (by lia) c f;obtain⟨l,k,m,e⟩:=S0 i as (GX R p a) (eN a) q r (λa t=>h a<|iY _ t) g1 (by lia);refine⟨l,k,m,?_⟩;show(VH<|JD i L p (eN a) c f).bind _=_;rw[s];exact e
end
abbrev tK(K:hX):D:=.tup (K.map cD)
def MA(a:gQ):D.pr (cD a)=Y:=by simp[D.pr,pK]
def ltc{a b:gQ}(h1:CL (cD b) (cD a)=C)(d:a≠b):CL (cD a) (cD b)=Y:=by
 rw[OV]at h1;rw[OU]
 cases c:cT (cD a) (cD b)with
 |lt=>rfl
 |eq=>exact absurd (VY<|sJ _ _ (MA a) (MA b) c) d
 |gt=>exact absurd c h1
def ltr(x:D):CL x x=C:=by
 cases e:CL x x
 .rfl
 rw[V8 x x e]at e;cases e
def GQ(R:List Int->List (List Int))(a:gQ):Bool:=(R a).all λb=>!CL (cD b) (cD a)
section
variable {n:Nat}{ks:hX}{R:List Int->List (List Int)}{a b y:gQ}(h:nh n ks)(d:∀a∈jg n,AY n ks a<|R a)
include h d
theorem Ej(f:a∈jU n ks)(c:y∈R a):y∈jU n ks:=by obtain⟨h1,e⟩:=mB.mp f;have o:=d a h1;exact mB.mpr ⟨Fc.mpr<|o.ok h c,by rw[o.kp h (Fc.mp h1) c];exact e⟩
theorem Kq(c:a∈jg n)(e:y∈R a):R y=R a:=(d a c).eq h (d y<|Fc.mpr<|(d a c).ok h e) (Fc.mp c) e
theorem Jz(c:a∈jg n):a∈R a:=(d a c).me h<|Fc.mp c
theorem YD:(jU n ks).Pairwise λa b=>CL (cD b) (cD a)=C/\a≠b:=by
 have c:n<6:=by have:=h.1;lia
 exact((OC n c).filter _).and (Jd.mp<|(RY n c).filter _)
theorem SO:∀(k pre:hX)(p:List D×List (List Int)),pre++k=jU n ks->p.1=(pre.filter<|GQ R).map (λa=>tK<|R a)->(∀x,x∈p.2↔ ∃b∈pre,x∈R b)->(k.foldl (GX R) p).1=((jU n ks).filter<|GQ R).map λa=>tK<|R a
 |[],pre,p,e,h1,_=>by rw[rN]at e;rw[<-e];exact h1
 |a::k,pre,p,e,h1,l=>by
  have t:a∈jU n ks:=by rw[<-e];simp
  have r:=(mB.mp t).1;have u:=YD h d;rw[<-e,qz]at u;obtain⟨_,o,v⟩:=u;have o:=(A8.mp o).1;rw[uA]
  have key:(GX R p a).1=((pre++[a]).filter<|GQ R).map (λa=>tK<|R a)/\∀x,x∈(GX R p a).2↔ ∃b∈pre++[a],x∈R b:=by
   unfold GX;by_cases m:a∈p.2
   .rw[hV m];obtain⟨b,i,ab⟩:=(l a).mp m;have j:b∈jU n ks:=by rw[<-e];simp[i]
    have s:=Kq h d (mB.mp j).1 ab
    have:GQ R a=C:=by refine g7.mpr λq=>?_;have:=kf.mp q b (by rw[s];exact Jz h d (mB.mp j).1);obtain⟨w,A⟩:=v b i a jF;rw[ltc w A]at this;cases this
    refine⟨by rw[h1,yG];simp[this],λx=>(l x).trans ⟨λ⟨c,f,g⟩=>⟨c,by simp[f],g⟩,λ⟨c,f,g⟩=>?_⟩⟩;rcases nQ.mp f with f|f
    .exact⟨c,f,g⟩
    rw[Aw.mp f,s]at g;exact⟨b,i,g⟩
   rw[iC m]
   have:GQ R a=Y:=by
    refine kf.mpr λb i=>?_
    cases q:CL (cD b) (cD a)with
    |false=>rfl
    |true=>
     have j:=Ej h d t i;rw[<-e]at j;rcases nQ.mp j with z|z
     .exact absurd ((l a).mpr ⟨b,z,by rw[Kq h d r i];exact Jz h d r⟩) m
     rcases mP.mp z with rfl|z
     .rw[ltr]at q;cases q
     rw[(o b z).1]at q;cases q
   refine⟨by simp only;rw[h1,yG];simp[this],λx=>?_⟩;rw[pN,l];constructor
   .rintro(⟨c,f,g⟩|g)
    .exact⟨c,by simp[f],g⟩
    exact⟨a,by simp,g⟩
   rintro⟨c,f,g⟩;rcases nQ.mp f with f|f
   .exact .inl ⟨c,f,g⟩
   rw[Aw.mp f]at g;exact .inr g
  exact SO k (pre++[a]) _ (by simpa using e) key.1 key.2
theorem kHd(c:a∈jg n)(i:GQ R a=Y):∃r,R a=a::r:=by
 have me:=Jz h d c;have f:=(d a c).sr
 cases e:R a with
 |nil=>rw[e]at me;cases me
 |cons b r=>
  rw[e]at me f;refine⟨r,?_⟩;rcases mP.mp me with rfl|z
  .rfl
  have j:=(A8.mp f).1 a z;have g:=kf.mp i b (by rw[e];simp);by_cases q:b=a
  .rw[q]
  rw[ltc j q]at g;cases g
theorem kLs(f:a∈jg n):∃b∈R a,GQ R b=Y:=by
 have me:=Jz h d f;have g:=(d a f).sr
 cases e:R a with
 |nil=>rw[e]at me;cases me
 |cons b r=>
  rw[e]at g;refine⟨b,by simp,kf.mpr λy c=>?_⟩;rw[Kq h d f<|by rw[e];simp,e]at c;rcases mP.mp c with rfl|c
  .rw[ltr];rfl
  rw[(A8.mp g).1 y c];rfl
end
section
variable {n:Nat}{b:hX}{R:List Int->List (List Int)}(h:nh n b)(c:∀a∈jg n,AY n b a<|R a)
include h c
end
def XX{cs:hX}(a:(∀c∈cs,c≠[])\/(dd cs).length<=1)(f:(dd cs).length<=100):∃O:List (List Int),(∀c,c∈O↔c∈cs)/\O.Nodup/\DT O/\(A1 O)<=100/\kG (.Sr .set []<|(dd cs).map cD)=J (.lst<|O.map cD,Y):=by
 have d:∀c,c∈dd cs↔c∈cs:=λc=>by unfold dd;rw[pN];simp
 obtain⟨O,e,b⟩:=ve<|jL CL<|(dd cs).map cD;refine⟨O,λc=>b.mem_iff.trans<|d c,b.nodup_iff.mpr<|vY cs []<|by simp,?_,by rw[b.length_eq];exact f,?_⟩
 .have:=mT<|(dd cs).map cD;rw[e,nD]at this;exact this
 show(if((dd cs).map cD).all AK=Y then jw ((dd cs).map cD)else U)=_;rw[hV<|pZ _]
 have g:lF ((dd cs).map cD)=Y:=by
  rcases a with a|a
  .exact sV _ λc h=>a c<|(d c).mp h
  unfold lF;rw[jf,kM a];rfl
 unfold jw;rw[hV ⟨g,by rw[jQ];simp;lia⟩,e]
def Yv{n:Nat}(a:n<=5):(jg n).length<=32:=by rcases(show n=0\/n=1\/n=2\/n=3\/n=4\/n=5 by lia)with rfl|rfl|rfl|rfl|rfl|rfl<;>decide
section
variable {n:Nat}{ks:hX}(h:nh n ks)
include h
theorem Uo:∃R:List Int->List (List Int),∀a∈jg n,AY n ks a (R a)/\(R a).length<=100/\iE [enc a,(.lst<|(T1 n ks).map cD,C)]=J ((.lst<|(R a).map cD,Y),[eN a,V0 (T1 n ks) C])/\kG (.Sr .set []<|(dd<|(T1 n ks).map λt=>ac n t a).map cD)=J (.lst<|(R a).map cD,Y):=by
 have i:=h.1;refine(Classical.skolem (p:=λa O=>a∈jg n->AY n ks a O/\(A1 O)<=100/\iE [enc a,(.lst<|(T1 n ks).map cD,C)]=J ((.lst<|O.map cD,Y),[eN a,V0 (T1 n ks) C])/\kG (.Sr .set []<|(dd<|(T1 n ks).map λt=>ac n t a).map cD)=J (.lst<|O.map cD,Y))).mp λa=>?_;by_cases b:a∈jg n
 .have v:=Fc.mp b;have l:∀t∈T1 n ks,ac n t a∈jg n:=λt d=>Fc.mpr (OI i<|kr h d)
  have j:∀cs:List (List Int),(∀c∈cs,c∈jg n)->(dd cs).length<=(jg n).length:=λcs g=>mV _ (jg n) (vY cs []<|by simp) λc z=>by unfold dd at z;rw[pN]at z;exact z.elim (λz=>absurd z rg)<|g c
  have E:=Yv i;have k:∀c∈(T1 n ks).map λt=>ac n t a,c∈jg n:=λc g=>by obtain⟨t,d,rfl⟩:=ie g;exact l t d
  obtain⟨O,w,x,A,B,q⟩:=XX (cs:=(T1 n ks).map λt=>ac n t a) (by
   by_cases o:n=0
   .right;subst o;exact j _ k
   left;intro c g e;have:=(Fc.mp<|k c g).1;rw[e]at this;exact o this.symm) (by have:=j _ k;lia)
  refine⟨O,λ_=>⟨⟨x,A,λy=>by rw[w,rp]⟩,B,?_⟩⟩
  obtain⟨T,e⟩:=Y8 (f:=hU lj [gK 0,gK 1]) (pre:=[eN a]) (λt=>ac n t a) (T1 n ks) [] U (λt d=>⟨C,Am (Iy i (kr h d) (oI i<|kr h d) v) (jV I)<|jV I⟩) (λm=>by have:=j (((T1 n ks).take m).map λt=>ac n t a) (λc g=>by obtain⟨t,d,rfl⟩:=ie g;exact l t<|uB d);unfold dd at this;lia)
  have s:N1 [0] 1 mC (gP 1) iZ (vn Pe) [eN a,V0 (T1 n ks) C]=J ((.Sr .set []<|(dd<|(T1 n ks).map λt=>ac n t a).map cD,Y),[eN a,V0 (T1 n ks) C]):=by unfold N1 G9;rw[show mC [eN a,V0 (T1 n ks) C]=J ((T1 n ks).map cD,[eN a,V0 (T1 n ks) C])from I];simp only[jH];rw[show jb [eN a,V0 (T1 n ks) C] (([0]:List Nat).map .slot)=J [enc a]from I];simp only[jH];rw[hV (show(iu (([0]:List Nat).map .slot) [enc a]).Nodup by simp[iu])];have u:jr (gP 1) iZ (vn Pe) ((T1 n ks).map cD) [] (([enc a].map J)++ah 1 U)=J ((dd<|(T1 n ks).map λt=>ac n t a).map cD,[eN a,T]):=e;rw[u];rfl
  exact⟨AA (np:=2) ⟨rfl,by decide,rfl⟩ (δ:=[eN a,V0 (T1 n ks) C])<|jC q (jE s).r,q⟩
 exact⟨[],λz=>absurd z b⟩
theorem Up:∃R:List Int->List (List Int),∀a∈jg n,AY n ks a (R a)/\(R a).length<=100/\iE [enc a,(.lst<|(T1 n ks).map cD,C)]=J ((.lst<|(R a).map cD,Y),[eN a,V0 (T1 n ks) C]):=by obtain⟨R,c⟩:=Uo h;exact⟨R,λa b=>let⟨x,y,z,_⟩:=c a b;⟨x,y,z⟩⟩
theorem C0(δ:Dn){i:Nat}(a:δ[i]?=J (rS n ks)):hU jJ [gK i] δ=J ((.lst<|(T1 n ks).map cD,Y),δ):=J1 (abr h.1 h.2.1.2 h.2.2.2)<|jV a
variable {a:gQ}(b:a∈jg n)
include b
end
section
variable {n:Nat}{ks:hX}(h:nh n ks){R:List Int->List (List Int)}
 (d:∀a∈jg n,AY n ks a (R a)/\(R a).length<=100/\iE [enc a,(.lst<|(T1 n ks).map cD,AC)]=z8 ((.lst<|(R a).map cD,At),[eN a,V0 (T1 n ks) AC]))
include h d
theorem vT:sA [(AW n ks,C)]=J ((.lst<|((jU n ks).filter<|GQ R).map λa=>tK<|R a,Y),[rS n ks]):=by
 have j:=h.1;have g:∀a∈jg n,AY n ks a (R a):=λa f=>(d a f).1
 have u:∀a∈jg n,(∀c∈R a,c∈jg n)/\(R a).length<=100/\∃o,jD [enc a,(.lst<|(T1 n ks).map cD,C)]=J ((.tup<|(R a).map cD,C),o):=λa f=>⟨λc t=>Fc.mpr<|(g a f).ok h t,(d a f).2.1,[eN a,V0 (T1 n ks) C],AA (np:=2) ⟨rfl,by decide,rfl⟩ (δ:=[eN a,V0 (T1 n ks) C])<|jC (a:=.lst ((R a).map cD)) I (jE (b:=Y)<|Am (d a f).2.2 (jV I)<|jV I).r⟩
 have lk:(jU n ks).length<=32:=jW (pj _ _)<|Yv j;have s:=SO h g (jU n ks) [] ([],[]) I I (λx=>by simp);obtain⟨k,l,m,e⟩:=S0 j u (J (.lst<|(jU n ks).map cD,C)) (jU n ks) ([],[]) U U U (λa f=>(mB.mp f).1) ⟨mv,by simp⟩ (by simp;lia);rw[<-s];generalize (jU n ks).foldl (GX R) ([],[])=F at e
 have q:yB jD (sH (.lst<|(jU n ks).map cD,C) 5 [(.lst<|(T1 n ks).map cD,C)])=J (.rt (.lst F.1,Y) [J (.lst<|(jU n ks).map cD,C),U,U,sT F.2,k,l,m,V0 (T1 n ks) C]):=by refine(gO (δ1:=[J (.lst<|(jU n ks).map cD,C),U,J (.lst [],Y),U,U,U,U,V0 (T1 n ks) C])<|by simp[sH,jQ]).trans ((gO (δ1:=JD (J (.lst<|(jU n ks).map cD,C)) (T1 n ks) ([],[]) U U U) I).trans<|(gO<|(kE (ds:=(jU n ks).map cD) I).trans e).trans<|iW I)
 have p:oz [(AW n ks,C),(.lst<|(jU n ks).map cD,C)]=J ((.lst F.1,Y),[rS n ks,J (.lst<|(jU n ks).map cD,C)]):=by refine jG (δ:=[rS n ks,J (.lst<|(jU n ks).map cD,C),V0 (T1 n ks) C,U]) ⟨rfl,by decide,rfl⟩<|(gO<|iU (i:=2) (δ1:=[rS n ks,J (.lst<|(jU n ks).map cD,C),U,U]) (C0 h _ rfl) (show 2<4 by decide)).trans ?_;show D9 3 1 [2] 5 (yB jD) [rS n ks,J (.lst<|(jU n ks).map cD,C),V0 (T1 n ks) C,U]=_;unfold D9;rw[show jb [rS n ks,J (.lst<|(jU n ks).map cD,C),V0 (T1 n ks) C,U] (([1,2]:List Nat).map .slot)=J [(.lst<|(jU n ks).map cD,C),(.lst<|(T1 n ks).map cD,C)]from I];simp only[jH];rw[hV ⟨rfl,by decide,show 3<4 by decide⟩,q];rfl
 exact AA (np:=1) ⟨rfl,by decide,rfl⟩<|Am p (jV I)<|jE (b:=Y)<|J1 (Ar h)<|jV I
end
def xq{d:D}(h:d.dep<=50):D4 d d=J (.bl C,C):=by unfold D4;rw[hV ⟨h,h⟩,D.A0];rfl
def VS{d:D}(h:d.dep<=50):Ao d d=J (.bl Y,C):=by unfold Ao;rw[hV ⟨h,h⟩,D.A0]
theorem BD{b:Type}(f:b->List (List Int)):∀l:List b,D.Ms (l.map λa=>tK<|f a)<=2
 |[]=>by simp[D.Ms]
 |a::l=>by have:=BD f l;have:=tN<|f a;rw[jK,D.Ms,D.dep];lia
section
variable {n:Nat}{b:hX}(d:n<=4)(h:nh n b){R:List Int->List (List Int)}
 (c:∀a∈jg n,AY n b a (R a)/\(R a).length<=100/\iE [enc a,(.lst<|(T1 n b).map cD,AC)]=z8 ((.lst<|(R a).map cD,At),[eN a,V0 (T1 n b) AC]))
include d h c
end
def yD{c:Tg}{b:FS}{d:D}{l:List D}{e δ1 a:Dn}{r:Option Out}(h1:c d e=J δ1)(f:b δ1=J (.nx a))(g:lJ c b l a=r):lJ c b (d::l) e=r:=by unfold lJ;rw[h1];simp only[jH];rw[f];exact g
def RQ{c:Tg}{e:FT}{f:FB}{d:D}{l a:List D}{g δ1 b:Dn}{r:Option (List D×Dn)}(h1:c d g=J δ1)(h:e δ1=J (C,b))(i:jr c e f l a b=r):jr c e f (d::l) a g=r:=by rw[jr,h1];simp only[jH];rw[h];exact i
def RP{e:Tg}{g:FT}{f:F}{d:D}{l a:List D}{h δ1 b c:Dn}{z:D×Bool}{r:Option (List D×Dn)}(h1:e d h=J δ1)(i:g δ1=J (Y,b))(j:f b=J (z,c))(m:(A1 a)<=10000)(k:jr e g (ja f) l (a++[z.1]) c=r):jr e g (ja f) (d::l) a h=r:=by rw[jr,h1];simp only[jH];rw[i];show((f b).bind _).bind _=_;rw[j];simp only[jH];rw[hV<|vI m];exact k
def NA{f:F}{a δ1:Dn}{l:List D}{b:Bool}(h:f a=J ((.tup l,b),δ1)):jd f a=J (l,δ1):=by unfold jd;rw[h];rfl
def Rq{c:Tg}{b:FS}{d:D}{l:List D}{e δ1 a:Dn}{r:D×Bool}(h1:c d e=J δ1)(f:b δ1=J (.rt r a)):lJ c b (d::l) e=J (.rt r a):=by unfold lJ;rw[h1];simp only[jH];rw[f];rfl
def Pq{n:Nat}{t:gQ}(a:TT n t):tB n (cD t)=Y:=by rw[LO];show(((t.map D.int).all wh)&&decide (((t.map D.int).map λd=>ab<|B1 d).Perm<|st n))=Y;rw[kX,oM,jA];exact⟨kf.mpr λd hd=>by obtain⟨i,_,rfl⟩:=ie hd;rfl,a⟩
section
variable {n:Nat}{ks:hX}(h:nh n ks)
abbrev Ew(n:Nat)(B:hX)(t:gQ):Bool:=B.all<|Du<|bkF n t
structure acB(n:Nat)(ks:hX)(p:List Int×List Int):Prop where
 cl:Q2 n p.1
 li:p.2∈T1 n ks
 lo:Ew n (brk n ks p.1) p.2=At
include h
abbrev VJ:FS:=W4
theorem S6(b:Sl){B:hX}(i:∀a∈B,lh n a):∀(L:hX)(x:Sl),(∀t∈L,TT n t)->∃g,lJ (gP 2) VJ (L.map cD) [b,J (.lst<|B.map cD,C),x]=match L.find? (Ew n B)with
  |some t=>J<|.rt (enc t) [b,J (.lst<|B.map cD,C),g]
  |none=>J<|.nx [b,J (.lst<|B.map cD,C),g]
 |[],x,_=>⟨x,rfl⟩
 |t::L,x,j=>by
  have k:=j t jF;have f:fT (hU pQ [gK 2,gK 1]) [b,J (.lst<|B.map cD,C),eN t]=J (Ew n B t,[b,J (.lst<|B.map cD,C),eN t]):=jx (o:=C)<|Am (ado h.1 k (oI h.1 k) B i) (jV I)<|jV I
  cases c:Ew n B t with
  |true=>rw[c]at f;refine⟨eN t,?_⟩;have s1:VJ [b,J (.lst<|B.map cD,C),eN t]=J (.rt (enc t) [b,J (.lst<|B.map cD,C),eN t]):=iW<|(qw f).trans<|iW I;rw[List.find?_cons_of_pos c];exact Rq (δ1:=[b,J (.lst<|B.map cD,C),eN t]) (d:=cD t) I s1
  |false=>rw[c]at f;obtain⟨g,e⟩:=S6 b i L (eN t) λm l=>j m<|iY _ l;refine⟨g,?_⟩;have s1:VJ [b,J (.lst<|B.map cD,C),eN t]=J (.nx [b,J (.lst<|B.map cD,C),eN t]):=(gO<|(mE f).trans I).trans I;rw[List.find?_cons_of_neg<|by rw[c];exact ky];exact yD (δ1:=[b,J (.lst<|B.map cD,C),eN t]) (d:=cD t) I s1 e
def oD:Option (List Int)->D
 |some t=>cD t
 |none=>.T2
theorem Rt{B:hX}(d:∀a∈B,lh n a)(o:Bool):lu [(.lst<|(T1 n ks).map cD,o),(.lst<|B.map cD,C)]=J ((oD<|(T1 n ks).find?<|Ew n B,C),[J (.lst<|(T1 n ks).map cD,C),J (.lst<|B.map cD,C)]):=by
 obtain⟨i,e⟩:=S6 h (J (.lst<|(T1 n ks).map cD,C)) d (T1 n ks) U λt g=>kr h g;have s:zf [J (.lst<|(T1 n ks).map cD,o),J (.lst<|B.map cD,C),U]=J ((T1 n ks).map cD,[J (.lst<|(T1 n ks).map cD,C),J (.lst<|B.map cD,C),U]):=by cases o<;>rfl
 have c:∀x,iQ [(.lst<|(T1 n ks).map cD,o),(.lst<|B.map cD,C)] [J (.lst<|(T1 n ks).map cD,C),J (.lst<|B.map cD,C),x]=[J (.lst<|(T1 n ks).map cD,C),J (.lst<|B.map cD,C)]:=λx=>by cases o<;>rfl
 cases b:(T1 n ks).find? (Ew n B)with
 |some t=>
  rw[b]at e;have q:=jG (n:=3) (np:=2) (asg:=[2]) (f:=mI) (args:=[(.lst<|(T1 n ks).map cD,o),(.lst<|B.map cD,C)]) ⟨rfl,by decide,by cases o<;>rfl⟩<|iW<|(kE s).trans e
  rwa [c]at q
 |none=>
  rw[b]at e;have q:=jG (n:=3) (np:=2) (asg:=[2]) (f:=mI) (args:=[(.lst<|(T1 n ks).map cD,o),(.lst<|B.map cD,C)]) (r:=(.T2,C)) ⟨rfl,by decide,by cases o<;>rfl⟩<|(gO<|(kE s).trans e).trans<|iW I
  rwa [c]at q
end
section
variable {n:Nat}{a:hX}(h:nh n a){P:List (List Int×List Int)}(c:∀p∈P,acB n a p)(b:P.length<=30)
include h c b
end
def Rm(L:hX):Ao (.lst<|L.map cD) (.lst [])=J (.bl<|decide<|L=[],C):=by unfold Ao;rw[hV ⟨by rw[D.dep];have:=tN L;lia,by decide⟩];cases L<;>rfl
section
variable {n:Nat}{a:hX}(h:nh n a)
include h
end
abbrev JN(n:Nat)(L:hX)(a:gQ):Bool:=L.all λt=>!Du (bkF n t) a
def AX(n:Nat)(ks L:hX):List (List Int):=(jU n ks).filter<|JN n L
def Fs(n:Nat)(ks:hX)(R:List Int->List (List Int)):List (List Int):=(jU n ks).filter<|GQ R
section
variable {n:Nat}{ks L M:hX}{R:List Int->List (List Int)}{a:gQ}
def SF:a∈AX n ks L↔a∈jU n ks/\∀t∈L,Du (bkF n t) a=C:=by unfold AX;rw[mB,kf];refine and_congr_right λ_=>yH λt=>yH λ_=>?_;cases Du (bkF n t) a<;>simp
def Iu(h:∀t∈L,t∈M)(b:a∈AX n ks M):a∈AX n ks L:=SF.mpr ⟨(SF.mp b).1,λt c=>(SF.mp b).2 t<|h t c⟩
variable(h:nh n ks)(c:∀a∈jg n,AY n ks a<|R a)
include h c
theorem NV(d:∀t∈L,t∈T1 n ks)(f:a∈Fs n ks R):a∈AX n ks L:=by
 obtain⟨a1,b⟩:=mB.mp f;refine SF.mpr ⟨a1,λt g=>?_⟩;have:=kf.mp b (ac n t a)<|((c a (mB.mp a1).1).im _).mpr ⟨t,d t g,rfl⟩;unfold ac at this;unfold Du
 cases e:CL (cD<|Dp (bkF n t) a) (cD a)with
 |false=>rfl
 |true=>rw[e]at this;cases this
theorem Ni(b:∀t∈L,t∈T1 n ks):(AX n ks L).filter (GQ R)=Fs n ks R:=by
 unfold AX Fs;rw[List.filter_filter];refine BW λa d=>?_
 cases e:GQ R a
 .rfl
 rw[dN];exact(mB.mp<|NV h c b<|mB.mpr ⟨d,e⟩).2
theorem Iv(b:∀t∈L,t∈T1 n ks)(d:∀a∈AX n ks L,GQ R a=Y):AX n ks L=Fs n ks R:=by rw[<-Ni h c b,To.mpr d]
theorem Nh(b:∀t∈L,t∈T1 n ks)(d:(AX n ks L).length=(Fs n ks R).length):AX n ks L=Fs n ks R:=by refine Iv h c b ?_;rw[<-Ni h c b]at d;exact List.length_filter_eq_length_iff.mp d.symm
theorem Ex(f:a∈jg n)(d:GQ R a=C):∃t∈T1 n ks,Du (bkF n t) a=Y:=by
 unfold GQ at d;obtain⟨b,g,e⟩:=Wf.mp d;obtain⟨t,i,rfl⟩:=((c a f).im b).mp g;refine⟨t,i,?_⟩;unfold ac at e;unfold Du
 cases q:CL (cD<|Dp (bkF n t) a) (cD a)with
 |true=>rfl
 |false=>rw[q]at e;exact absurd I e
theorem Nj:AX n ks (T1 n ks)=Fs n ks R:=by
 refine Iv h c (λ_ z=>z) λa d=>?_;obtain⟨a1,b⟩:=SF.mp d
 cases e:GQ R a
 .obtain⟨t,f,q⟩:=Ex h c (mB.mp a1).1 e;rw[b t f]at q;cases q
 rfl
end
def eqN(i j:Nat):Ao (.int i) (.int j)=J (.bl<|decide<|i=j,C):=by rw[Mk,qk,decide_eq_decide.mpr (by omega:(i:Int)=j↔i=j)]
abbrev sqT(d:D)(L:hX):Prop:=d=.lst (L.map cD)\/d=.tup (L.map cD)
abbrev aaQ:FS:=Xa
def SU{d:D}{L:hX}(h:sqT d L){i:Nat}{δ:Dn}{b:Bool}(a:jI i δ=J ((d,C),δ.set i<|J (d,C))):jd (jI i) δ=J (L.map cD,δ.set i<|J (d,C)):=by rw[HU,a];rcases h with rfl|rfl<;>rfl
section
variable {n:Nat}{ks:hX}(h:nh n ks){d:D}{L:hX}
include h
theorem uU(u:sqT d L)(s:∀t∈L,TT n t)(B:(A1 L)<=10000)(b:Bool):ku [(AW n ks,C),(d,b)]=J ((.lst<|(AX n ks L).map cD,Y),[rS n ks,J (d,C)]):=by
 have m:=h.1
 let δ:Sl->Dn:=λx=>[rS n ks,J (d,C),x]
 have A:∀x:Sl,FJ ze (δ x) (.int n):=λx=>jE (b:=C)<|jO I (jV I).r (jE I).r
 obtain⟨_,⟨x,_,rfl⟩,e⟩:=yC (tg:=gP 2) (fb:=aaQ) (λl k=>∃x,(∀y∈l,∃t∈L,y=cD t)/\k=δ x) (λy l k T=>by
  obtain⟨x,h1,h⟩:=T
  subst h;obtain⟨t,g,rfl⟩:=h1 y jF;exact⟨_,_,rfl,(gO<|ny<|Am (Ak m<|s t g) (A<|eN t)<|jV I).trans I,_,λz w=>h1 z<|iY _ w,rfl⟩) (L.map cD) (δ U) ⟨U,λy j=>by obtain⟨t,g,rfl⟩:=ie j;exact⟨t,g,rfl⟩,rfl⟩
 have c:∀p:List Int->Bool,(L.map cD).all (λd=>p<|Ds d)=L.all p:=λp=>by rw[uF];congr 1;funext t;simp only[bI,kc]
 have q:=vf (caps:=[1]) (fi:=jd Tq) (f:=jI 1) (ti:=fT Xg) (δ:=δ x) (l:=(jU n ks).map cD) (args:=[d]) (λd=>d) (λy=>JN n L<|Ds y) (lM<|J1 (Ar h)<|jV I) I I (λy j=>by obtain⟨a,v,rfl⟩:=ie j;rw[kc];refine⟨jx (o:=C)<|(pT (caps:=[1]) (args:=[cD a]) (l:=L.map cD) (λy=>!Du (bkF n<|Ds y) a) (SU (b:=C) (i:=0) u I) I I (λy j=>?_)<|by simp;omega).trans<|by rw[c λt=>!Du (bkF n t) a];rfl,λ_=>⟨C,rfl⟩⟩;obtain⟨t,g,rfl⟩:=ie j;rw[kc];exact⟨C,Am (GB m (s t g) (oI m<|s t g)<|C4 v) (jV I)<|jV I⟩) (by have:=zL m ks;simp;omega)
 rw[pO]at q;simp only[kc]at q;exact(jG (n:=3) (np:=2) (asg:=[2]) (f:=IE) (args:=[(AW n ks,C),(d,b)]) (δ:=δ x) ⟨rfl,by decide,by cases b<;>rfl⟩<|(gO<|(kE<|SU (b:=b) (i:=1) u (by cases b<;>rfl)).trans e).trans<|iW<|kh q).trans (by cases b<;>rfl)
variable {R:List Int->List (List Int)}(m:∀a∈jg n,AY n ks a (R a)/\(R a).length<=100/\iE [enc a,(.lst<|(T1 n ks).map cD,AC)]=z8 ((.lst<|(R a).map cD,At),[eN a,V0 (T1 n ks) AC]))
include m
abbrev rW(R:List Int->List (List Int))(S:hX)(a:gQ):Bool:=(R a).any λb=>decide<|b∈S
omit h m in
theorem Df(a:n<=5):(Fs n ks R).length<=32:=jW (pj _ _)<|zL a ks
theorem IB{ti:FT}{q:List Int->Bool}{x:D}{w:Bool}(T:∀a∈Fs n ks R,ti [J (x,w),J (tK<|R a,C)]=J (q a,[J (x,w),J (tK<|R a,C)])){i:Nat}{δ δ1:Dn}{fi:AE}(h1:fi δ=J ((Fs n ks R).map λa=>tK<|R a,δ1))(p:δ1[i]?=J (J (x,w))):
  iR [i] 1 fi (gP 1) ti qv δ=J ((.lst<|((Fs n ks R).filter q).map λa=>tK<|R a,Y),δ1):=by
 have key:∀(l:hX)(c:List D)(y:Sl),(∀a∈l,a∈Fs n ks R)->A1 c+A1 l<=10000->∃g,jr (gP 1) ti qv (l.map λa=>tK<|R a) c [J (x,w),y]=J (c++(l.filter q).map λa=>tK<|R a,[J (x,w),g]):=by
  intro l
  induction l with
  |nil=>intro c y _ _;exact⟨y,by simp[jr]⟩
  |cons a l u=>
   intro c y t B;rw[mQ]at B;have e:=T a<|t a jF;have r:=λb (f:b∈l)=>t b<|iY _ f
   cases f:q a with
   |false=>rw[f]at e;obtain⟨g,o⟩:=u c (J (tK<|R a,C)) r (by lia);exact⟨g,by rw[wx<|by rw[f];exact ky];exact RQ (δ1:=[J (x,w),J (tK<|R a,C)]) I e o⟩
   |true=>rw[f]at e;obtain⟨g,o⟩:=u (c++[tK<|R a]) (J (tK<|R a,C)) r (by simp;lia);rw[oO]at o;exact⟨g,by rw[wy f];exact RP (δ1:=[J (x,w),J (tK<|R a,C)]) (z:=(tK<|R a,C)) I e I (by lia) o⟩
 obtain⟨g,e⟩:=key (Fs n ks R) [] U (λ_ z=>z) (by have:=Df (ks:=ks) (R:=R) h.1;simp;lia);have A:jb δ1 (([i]:List Nat).map .slot)=J [(x,w)]:=by simp[p]
 have v:i<(A1 δ1):=(ue.mp p).1;refine(pP (caps:=[i]) (k:=1) (args:=[(x,w)]) h1 A (by cases w<;>simp[iu]) e).trans ?_;rw[rq]
 have:δ1.set i (J (x,w))=δ1:=uE λj=>by
  by_cases s:j=i
  .subst s;rw[pz v,p]
  rw[lC<|pA s]
 cases w
 .rfl
 show J (_,δ1.set i<|J (x,Y))=_;rw[this]
theorem Nc(v:sqT d L)(p:∀t∈L,TT n t)(u:(A1 L)<=10000)(b:Bool):wc [(AW n ks,C),(d,b)]=J ((.lst<|((Fs n ks R).filter λa=>!(rW R (AX n ks L) a)).map λa=>tK<|R a,Y),[rS n ks,J (d,C)]):=by
 let S:=AX n ks L
 let δ:Dn:=[rS n ks,J (d,C),J (.lst<|S.map cD,Y)]
 have j:hU ku [gK 0,gK 1] [rS n ks,J (d,b),U]=J ((.lst<|S.map cD,Y),[rS n ks,J (d,C),U]):=(jl (δ1:=[rS n ks,J (d,b),U]) (os:=[.slot 0,.slot 1]) (args:=[(AW n ks,C),(d,b)]) I I (by cases b<;>simp[iu])<|uU h v p u b).trans (by cases b<;>rfl)
 have c:=IB h m (ti:=sv Xe) (q:=λa=>!(rW R S a)) (x:=.lst (S.map cD)) (λa s=>by
  obtain⟨z,e⟩:=xP Pb (λd=>.bl (decide<|Ds d∈S)) [J (.lst<|S.map cD,Y)] ((R a).map cD) [] U (λy w=>by obtain⟨c,_,rfl⟩:=ie w;rw[kc];exact⟨C,jO (NJ _ _) (jV I).r<|jR I⟩)<|yx (by have:=(m a (mB.mp (mB.mp s).1).1).2.1;simp;lia)
  rw[rq]at e
  have g:g1 Dd [.lst<|((R a).map cD).map λd=>.bl (decide<|Ds d∈S)]=J (.bl<|rW R S a,C):=by refine(Fb (λd=>decide<|Ds d∈S)<|(R a).map cD).trans ?_;rw[wO];simp only[qZ,kc]
  exact wa<|jx (o:=C)<|jM (oy<|iq<|pP (caps:=[0]) (k:=1) (l:=(R a).map cD) (δ1:=[J (.lst<|S.map cD,Y),J (tK<|R a,C)]) (args:=[(.lst<|S.map cD,Y)]) I I (He 0) e) I g) (i:=2) (δ:=δ) (δ1:=δ) (fi:=jd Pa) (lM<|J1 (vT h m)<|jV I) I
 exact(jG (n:=3) (np:=2) (asg:=[2]) (f:=De) (args:=[(AW n ks,C),(d,b)]) (δ:=δ) ⟨rfl,by decide,by cases b<;>rfl⟩<|(gO<|iU (i:=2) j (show 2<3 by decide)).trans<|iW<|kh c).trans (by cases b<;>rfl)
theorem CG(g:∀t∈L,t∈T1 n ks)(i:(A1 L)<=10000):mK [(AW n ks,C),(.tup<|L.map cD,C)]=J ((.bl<|decide<|(AX n ks L).length=(Fs n ks R).length,C),[rS n ks,J (.tup<|L.map cD,C)]):=by
 let δ:Dn:=[rS n ks,J (.tup<|L.map cD,C)]
 have c:=pT (caps:=[0]) (fi:=jd<|jI 1) (f:=hU lL [gK 0,gK 1]) (δ:=δ) (δ1:=δ) (l:=L.map cD) (args:=[AW n ks]) (λ_=>Y) I I I (λd hd=>by obtain⟨t,e,rfl⟩:=ie hd;have j:=g t e;have tt:=kr h j;have:=adz h (d:=cD t)<|Sz (by rw[tt.len];have:=h.1;lia);rw[liB,Pq tt,L6,(mB.mp j).2]at this;exact⟨C,Am this (jV I)<|jV I⟩) (by simpa using i)
 rw[show(L.map cD).all (λ_=>Y)=Y from kf.mpr λ_ _=>rfl]at c;have k:iB (g1 qJ) [Wu] δ=J ((.int (AX n ks L).length,C),δ):=jC (a:=.lst ((AX n ks L).map cD)) (by rw[xg,jf]) (jE (b:=Y)<|Am (uU h (.inr I) (λt e=>kr h<|g t e) i C) (jV I)<|jV I).r;have p:Pg δ=J ((.int (Fs n ks R).length,C),δ):=jC (a:=.lst ((Fs n ks R).map λa=>tK<|R a)) (by rw[xg,jf]) (jE (b:=Y)<|J1 (vT h m)<|jV I).r;refine jG (δ:=δ) ⟨rfl,by decide,rfl⟩<|(gO<|(mE (δ1:=δ)<|(Dj (δ1:=δ) I).trans<|wa (b:=Y)<|jx (o:=C) c).trans I).trans<|iW<|kh<|jO ?_ (jE (b:=C) k).r (jE (b:=C) p).r;exact eqN _ _
end
def Py{b c:FO}{a:Dn}{o o2:F2}{x:D}{i:Int}{z:D×Bool}(h1:b a=J (o,a))(e:c a=J (o2,a))(d:res a o2=J (.int i)/\res a o=J x)(f:JV (J i) U x=J z):By b c a=J (z,a):=by unfold By;rw[h1];simp only[jH];rw[e];simp only[jH];rw[d.1];simp only[jH];rw[d.2];simp only[jH];rw[f];rfl
abbrev fAk:F:=Xh
abbrev fFl:F:=WL
abbrev VM:FS:=gW (AD (fT fAk) (gW (nA<|ml 2 fFl) ir) ir) ir
abbrev YV:FS:=gW (nE TC (gP 4) VM) ir
structure RW(n:Nat)(ks L:hX):Prop where
 li:∀t∈L,t∈T1 n ks
 nd:L.Nodup
section
variable {n:Nat}{g:hX}(h:nh n g)
abbrev dE(n:Nat)(g L:hX)(o:Bool)(x3 a:Sl):Dn:=[rS n g,V0 (T1 n g) o,J (.lst<|L.map cD,Y),x3,a]
include h
theorem aaT{L:hX}(b:RW n g L)(o:Bool)(x3:Sl){a:gQ}(c:a∈jU n g):fAk (dE n g L o x3<|eN a)=J ((.bl<|JN n L a,C),dE n g L o x3<|eN a):=by
 have i:(A1 L)<=3840:=jW (mV _ _ b.nd b.li)<|oX h
 have q:=pT (caps:=[4]) (fi:=xy<|gK 2) (f:=hU kx [gK 0,gK 1]) (δ:=dE n g L o x3<|eN a) (δ1:=dE n g L o x3<|eN a) (l:=L.map cD) (args:=[cD a]) (λy=>!Du (bkF n<|Ds y) a) I I I (λy e=>by obtain⟨t,d,rfl⟩:=ie e;have tt:=kr h<|b.li t d;rw[kc];exact⟨C,Am (GB h.1 tt (oI h.1 tt)<|C4 c) (jV I)<|jV I⟩) (by simp;lia)
 rw[uF]at q;simp only[qZ,kc]at q;exact q
theorem VL{L:hX}(c:RW n g L)(o:Bool)(x3:Sl){a:gQ}(v:a∈jU n g)(s:∃t∈T1 n g,Du (bkF n t) a=Y):∃d Q,RW n g d/\(∀t∈L,t∈d)/\JN n d a=AC/\VM (dE n g L o x3<|eN a)=J (.nx<|dE n g d Q x3<|eN a):=by
 have f:=jx<|aaT h c o x3 v;have G:(A1 L)<=3840:=jW (mV _ _ c.nd c.li)<|oX h
 cases hk:JN n L a with
 |false=>rw[hk]at f;exact⟨L,o,c,λ_ z=>z,hk,(gO<|(mE f).trans I).trans I⟩
 |true=>
  rw[hk]at f;have E:∀b∈[a],lh n b:=λb N=>by cases Aw.mp N;exact C4 v
  obtain⟨w,k,B⟩:=s;obtain⟨t,j⟩:∃t,(T1 n g).find? (Ew n [a])=J t:=Kx.mp<|List.find?_isSome.mpr ⟨w,k,by show(Du (bkF n w) a&&Y)=Y;rw[B];rfl⟩;have T:=Lg j
  have A:Du (bkF n t) a=Y:=by
   have:(Du (bkF n t) a&&Y)=Y:=kl (p:=Ew n [a]) j
   rwa [Bool.and_true]at this
  have O:t∉L:=λz=>by have:=kf.mp hk t z;rw[A]at this;cases this
  have C:fFl (dE n g L o x3<|eN a)=J (enc t,dE n g L AC x3<|eN a):=by have q:=Rt h E o;rw[j]at q;exact(jl (δ1:=dE n g L o x3<|eN a) (os:=[.slot 1,.val (.lst<|[a].map cD,Y)]) (args:=[(.lst<|(T1 n g).map cD,o),(.lst<|[a].map cD,AC)]) (ox I<|iq I) I (by cases o<;>simp[iu]) q).trans (by cases o<;>rfl)
  refine⟨L++[t],AC,⟨λu m=>?_,?_⟩,λu m=>wY _ m,?_,?_⟩
  .rcases nQ.mp m with z|z
   .exact c.li u z
   rw[Aw.mp z];exact T
  .exact yk.mpr ⟨c.nd,by simp,λx s y M e=>O<|by rw[<-Aw.mp M,<-e];exact s⟩
  .show(L++[t]).all _=AC;rw[kv];show(_&&(!Du (bkF n t) a&&Y))=AC;rw[A];simp
  refine(gO<|(qw f).trans<|(gO<|ny<|qi (i:=2) (l0:=L.map cD) (l:=L.map cD) (r:=enc t) (δ1:=dE n g L AC x3<|eN a) I C I<|vI<|by simp;lia).trans I).trans ?_;show J (Out.nx [rS n g,V0 (T1 n g) AC,J (.lst<|L.map cD++[cD t],Y),x3,eN a])=_;rw[show L.map cD++[cD t]=(L++[t]).map cD by rw[nL];rfl]
theorem Iz{L b:hX}{a:gQ}(c:∀t∈L,t∈b)(hk:JN n L a=C):JN n b a=C:=by obtain⟨t,d,e⟩:=Wf.mp hk;exact Wf.mpr ⟨t,c t d,e⟩
theorem S7(x3:Sl):∀(as:hX)(L:hX)(o:Bool)(e:Sl),RW n g L->(∀a∈as,a∈jU n g/\∃t∈T1 n g,Du (bkF n t) a=Y)->∃c w v,RW n g c/\(∀t∈L,t∈c)/\(∀a∈as,JN n c a=C)/\lJ (gP 4) VM (as.map cD) (dE n g L o x3 e)=J (.nx<|dE n g c w x3 v)
 |[],L,o,e,f,_=>⟨L,o,e,f,λ_ z=>z,(λa z=>by cases z),rfl⟩
 |a::as,L,o,e,f,j=>by
  obtain⟨h1,q⟩:=j a jF;obtain⟨l,x,y,s1,s,m⟩:=VL h f o x3 h1 q;obtain⟨L2,o2,B,A,k,u,p⟩:=S7 x3 as l x (eN a) y λb i=>j b<|iY _ i;refine⟨L2,o2,B,A,λt r=>k t<|s1 t r,λb i=>?_,yD (d:=cD a) (δ1:=dE n g L o x3<|eN a) I m p⟩;rcases mP.mp i with z|z
  .rw[z];exact Iz h k s
  exact u b z
variable {R:List Int->List (List Int)}(j:∀a∈jg n,AY n g a (R a)/\(R a).length<=100/\iE [enc a,(.lst<|(T1 n g).map cD,AC)]=z8 ((.lst<|(R a).map cD,At),[eN a,V0 (T1 n g) AC]))
include j
theorem S8:∀(bs:hX)(L:hX)(o:Bool)(x3 i:Sl),RW n g L->(∀b∈bs,b∈Fs n g R)->∃m o' J' k5,RW n g m/\(∀t∈L,t∈m)/\(∀b∈bs,∀a∈R b,a≠b->JN n m a=AC)/\lJ (gP 3) YV (bs.map λb=>tK<|R b) (dE n g L o x3 i)=J (.nx<|dE n g m o' J' k5)
 |[],L,o,x3,i,u,_=>⟨L,o,x3,i,u,λ_ z=>z,(λb z=>by cases z),rfl⟩
 |b::bs,L,o,x3,i,u,E=>by
  have l:∀a∈jg n,AY n g a (R a):=λa k=>(j a k).1;obtain⟨B,G⟩:=mB.mp<|E b jF;have p:=(mB.mp B).1;obtain⟨r,er⟩:=kHd h l p G;have F:(R b).length<=100:=(j b p).2.1
  have Y:∀a∈r,a∈jU n g/\∃t∈T1 n g,Du (bkF n t) a=At:=λa k=>by
   have A:a∈R b:=by rw[er];exact iY _ k
   have H:=Ej h l B A;have y:=(mB.mp H).1;refine⟨H,Ex h l y ?_⟩
   cases q:GQ R a
   .rfl
   obtain⟨s,U⟩:=kHd h l y q;have e:=Kq h l p A;rw[U,er]at e;have I:=(l b p).nd;rw[er]at I;have:a=b:=(uz e).1;rw[this]at k;exact absurd k (yj.mp I).1
  obtain⟨x,O,T,V,s1,P,M⟩:=S7 h (J (tK<|R b,AC)) r L o i u Y;obtain⟨L2,o2,Z,z4,W,Q,S,N⟩:=S8 bs x O (J (tK<|R b,AC)) T V λc v=>E c<|iY _ v
  have X:TC (dE n g L o (J (tK<|R b,AC)) i)=J (r.map cD,dE n g L o (J (tK<|R b,AC)) i):=by
   have z:JV (J 1) z9 (tK<|R b)=J (.tup<|r.map cD,AC):=by rw[er];show J (D.tup<|PX.ye ((b::r).map cD) (J 1) z9,AC)=_;rw[aaR];rfl
   have f:By (gK 3) kZ (dE n g L o (J (tK<|R b,AC)) i)=J ((.tup<|r.map cD,AC),dE n g L o (J (tK<|R b,AC)) i):=by exact Py (o:=.slot 3) (o2:=.val (.int 1,AC)) AT AT ⟨rfl,rfl⟩ z
   exact NA f
  have s0:YV (dE n g L o (J (tK<|R b,AC)) i)=J (.nx<|dE n g x O (J (tK<|R b,AC)) T):=(gO<|(kE X).trans M).trans AT;refine⟨L2,o2,Z,z4,W,λt K=>Q t<|s1 t K,λc v a k C=>?_,yD (d:=tK<|R b) (δ1:=dE n g L o (J (tK<|R b,AC)) i) AT s0 N⟩;rcases mP.mp v with z|z
  .subst z;rw[er]at k;rcases mP.mp k with w|w
   .exact absurd w C
   exact Iz h Q (P a w)
  exact S c z a k C
theorem N5:∃L,RW n g L/\AX n g L=Fs n g R/\oE [(AW n g,C)]=J ((.lst<|L.map cD,Y),[rS n g]):=by
 have c:∀a∈jg n,AY n g a (R a):=λa l=>(j a l).1;obtain⟨L,o,x3,w,r,_,k,e⟩:=S8 h j (Fs n g R) [] Y U U ⟨(λt z=>by cases z),mv⟩ λb z=>z;refine⟨L,r,Iv h c r.li λa l=>?_,?_⟩
 .obtain⟨a1,s⟩:=mB.mp l
  cases q:GQ R a
  .have f:=(mB.mp a1).1;obtain⟨b,m,p⟩:=kLs h c f;have v:=Ej h c a1 m;have u:=Kq h c f m;have:=k b (mB.mpr ⟨v,p⟩) a (by rw[u];exact Jz h c f) (λz=>by rw[z,p]at q;cases q);rw[s]at this;cases this
  rfl
 let d:Dn:=[rS n g,U,U,U,U]
 let δ1:Dn:=[rS n g,V0 (T1 n g) Y,U,U,U]
 exact jG (n:=5) (np:=1) (asg:=[1,2,3,4]) (δ:=[rS n g,V0 (T1 n g) o,U,x3,w]) ⟨rfl,by decide,rfl⟩<|(gO<|iU (i:=1) (δ1:=d) (C0 h d I) (show 1<5 by decide)).trans<|(gO (δ1:=dE n g [] Y U U) I).trans<|(gO<|(kE<|lM<|J1 (vT h j)<|jV I).trans e).trans<|iW I
end
abbrev JC(W:hX)(r:gQ):List (List Int):=W.filter λt=>!decide (t=r)
abbrev VG:FS:=zC1
section
variable {n:Nat}{ks:hX}(h:nh n ks){R:List Int->List (List Int)}(hR:∀a∈jg n,AY n ks a (R a)/\(R a).length<=100/\iE [enc a,(.lst<|(T1 n ks).map cD,AC)]=z8 ((.lst<|(R a).map cD,At),[eN a,V0 (T1 n ks) AC]))
theorem RB{W:hX}{r t:gQ}(a:t∈JC W r):t∈W:=(mB.mp a).1
theorem RW.JC{W:hX}(a:RW n ks W)(r:gQ):RW n ks (PV.JC W r):=⟨λt b=>a.li t<|RB b,a.nd.filter _⟩
abbrev bad(n:Nat)(ks:hX)(R:List Int->List (List Int))(W:hX)(r:gQ):Prop:=(AX n ks<|JC W r).length≠(Fs n ks R).length
structure Kd(n:Nat)(ks:hX)(R:List Int->List (List Int))(rs W:hX):Prop where
 rw:RW n ks W
 ok:(AX n ks W).length=(Fs n ks R).length
 bd:∀r∈W,r∈rs\/bad n ks R W r
abbrev J3(n:Nat)(ks:hX)(R:List Int->List (List Int))(W:hX)(o:Bool)(x2 a b:Sl):Dn:=[rS n ks,ii (Fs n ks R).length,x2,V0 W o,a,b]
include h hR
theorem VF{H W:hX}{r:gQ}(s:Kd n ks R (r::H) W)(o:Bool)(x2 m:Sl):∃A N G,Kd n ks R H A/\VG (J3 n ks R W o x2 (eN r) m)=z8 (.nx<|J3 n ks R A N x2 (eN r) G):=by
 have C:∀a∈jg n,AY n ks a (R a):=λa v=>(hR a v).1;obtain⟨j,ok,B⟩:=s;have J:W.length<=3840:=jW (mV _ _ j.nd j.li)<|oX h
 let O:=JC W r
 have u:=j.JC r;have lo:(A1 O)<=3840:=jW (pj _ _) J
 have q:=vf (caps:=[4]) (fi:=jd<|jI 3) (f:=jI 1) (ti:=fT<|il D4 (gK 1)<|gK 0) (δ:=J3 n ks R W o x2 (eN r) m) (δ1:=J3 n ks R W AC x2 (eN r) m) (l:=W.map cD) (args:=[cD r]) (λd=>d) (λy=>!decide (Ds y=r)) (by cases o<;>rfl) AT AT (λy T=>by obtain⟨t,b,rfl⟩:=ie T;rw[kc];exact⟨jx (o:=AC)<|jO (Vx t r) (jV AT).r (jV AT).r,λ_=>⟨AC,rfl⟩⟩) (by simp;lia)
 rw[pO]at q;simp only[kc]at q
 let δ:Bool->Dn:=λp=>J3 n ks R W AC x2 (eN r)<|V0 O p
 have I:hU ku [gK 0,gK 5] (δ Y)=z8 ((.lst<|(AX n ks O).map cD,Y),δ AC):=(jl (δ1:=δ Y) (os:=[.slot 0,.slot 5]) (args:=[(AW n ks,AC),(.lst<|O.map cD,Y)]) AT AT (He 5)<|uU h (.inl AT) (λt b=>kr h<|u.li t b) (by lia) Y).trans AT;have L:iB (g1 qJ) [Wt] (δ Y)=z8 ((.int (AX n ks O).length,AC),δ AC):=jM (ds:=[.lst<|(AX n ks O).map cD]) (oy<|iq I) AT (show qJ (.lst<|(AX n ks O).map cD)=_ by rw[xg,jf]);have g:fT W3 (δ Y)=z8 (decide<|(AX n ks O).length=(Fs n ks R).length,δ AC):=jx (o:=AC)<|ji (o1:=.val (.int (AX n ks O).length,AC)) (o2:=.slot 1) (iq L) AT AT AT<|eqN _ _;have s0:VG (J3 n ks R W o x2 (eN r) m)=_:=gO<|iU (i:=5) q (show 5<6 by decide);by_cases k:(AX n ks O).length=(Fs n ks R).length
 .rw[kM k]at g;refine⟨O,AC,V0 O AC,⟨u,k,λc x=>?_⟩,s0.trans<|(gO<|(qw g).trans AT).trans AT⟩;obtain⟨M,E⟩:=mB.mp x;rcases B c M with z|z
  .rcases mP.mp z with w|w
   .rw[w]at E;simp at E
   exact .inl w
  refine .inr λe=>z ?_;have Q:=Nh h C (λt b=>(u.JC c).li t b) e;rw[Iv h C (λt b=>(j.JC c).li t b) λa v=>?_]
  have:a∈AX n ks (JC O c):=Iu (λt b=>by obtain⟨g,U⟩:=mB.mp b;exact mB.mpr ⟨(mB.mp g).1,U⟩) v
  rw[Q]at this;exact(mB.mp this).2
 rw[kN k]at g;refine⟨W,AC,V0 O AC,⟨j,ok,λc x=>?_⟩,s0.trans<|(gO<|(mE g).trans AT).trans AT⟩;rcases B c x with z|z
 .rcases mP.mp z with w|w
  .exact .inr (w▸k)
  exact .inl w
 exact .inr z
theorem SY(x2:Sl):∀(b W:hX)(o:Bool)(c a:Sl),Kd n ks R b W->∃e m k l,Kd n ks R [] e/\lJ (gP 4) VG (b.map cD) (J3 n ks R W o x2 c a)=J (.nx<|J3 n ks R e m x2 k l)
 |[],W,o,c,a,s=>⟨W,o,c,a,s,rfl⟩
 |r::b,W,o,c,a,s=>by obtain⟨f,p,u,s1,i⟩:=VF h hR s o x2 a;obtain⟨g,q,v,w,t,j⟩:=SY x2 b f p (eN r) u s1;exact⟨g,q,v,w,t,yD (d:=cD r) (δ1:=J3 n ks R W o x2 (eN r) a) I i j⟩
theorem Pr:∃W,Kd n ks R [] W/\nk [(AW n ks,C)]=J ((.tup<|W.map cD,C),[rS n ks]):=by
 obtain⟨L,d,f,e⟩:=N5 h hR
 let x2:Bool->Sl:=λo=>V0 L o
 obtain⟨W,o,k,l,s,c⟩:=SY h hR (x2 C) L L Y U U ⟨d,by rw[f],λr g=>.inl g⟩;have j:Pg [rS n ks,U,U,U,U,U]=J ((.int (Fs n ks R).length,C),[rS n ks,U,U,U,U,U]):=jC (a:=.lst ((Fs n ks R).map λa=>tK<|R a)) (by rw[xg,jf]) (jE (b:=Y)<|J1 (vT h hR)<|jV I).r;refine⟨W,s,jG (n:=6) (np:=1) (asg:=[1,2,3,4,5]) (δ:=J3 n ks R W o (x2 C) k l) ⟨rfl,by decide,rfl⟩<|(gO<|iU (i:=1) j (show 1<6 by decide)).trans<|(gO<|iU (i:=2) (δ1:=[rS n ks,ii (Fs n ks R).length,U,U,U,U]) (J1 e<|jV I) (show 2<6 by decide)).trans<|(gO (δ1:=J3 n ks R L Y (x2 Y) U U) I).trans<|(gO<|(kE (δ1:=J3 n ks R L Y (x2 C) U U) I).trans c).trans<|iW<|kh<|jC (Mi _)<|jR I⟩
end
section
variable {n:Nat}{ks:hX}(h:nh n ks){R:List Int->List (List Int)}(b:∀a∈jg n,AY n ks a<|R a)
include h b
theorem Sm:nV (.lst<|(Fs n ks R).map cD)=J (.lst<|(Fs n ks R).map cD,Y):=by
 have j:=Df (ks:=ks) (R:=R) h.1;have i:=(YD h b).filter<|GQ R
 have g:lF ((Fs n ks R).map cD)=Y:=by
  by_cases a:n=0
  .have:(Fs n ks R).length<=1:=by refine jW (pj _ _)<|jW (pj _ _) ?_;subst a;decide
   unfold lF;rw[jf,kM this];rfl
  refine sV _ λc d e=>a ?_;have:=(Fc.mp (mB.mp (mB.mp d).1).1).1;rw[e]at this;exact this.symm
 show jw ((Fs n ks R).map cD)=_;unfold jw;rw[hV ⟨g,by rw[jQ];simp;lia⟩];rw[<-PX.Kv (l:=(Fs n ks R).map cD) (m:=(Fs n ks R).map cD) (λx f=>by obtain⟨c,_,rfl⟩:=ie f;exact MA c) (rC _) (nD.mpr<|i.imp λz=>z.1)]
end
def Od(l:List D):PX.ye l U (J (-1))=l.dropLast:=by
 unfold PX.ye
 rw[show HT.IX (A1 l) 0 U=0 from I,lw,px,show HT.IX (A1 l) (A1 l) (J (-1))=A1 l-1 by show(if(-1:Int)<0 then((-1:Int)+((A1 l):Int)).toNat else min (-1:Int).toNat (A1 l))=_;rw[hV<|by decide];omega,List.dropLast_eq_take]
def Nn{W:hX}(c:W.Nodup)(a:W≠[]):∃r∈W,W.dropLast=JC W r:=by refine⟨W.getLast a,hE a,?_⟩;have e:=Fg a;generalize W.getLast a=r at e;rw[<-e]at c ⊢;have d:∀t∈W.dropLast,t≠r:=λt b q=>(yk.mp c).2.2 t b r (by simp) q;rw[List.dropLast_concat];unfold JC;rw[yG,To.mpr λt b=>by simp[d t b]];simp
abbrev fRs:F:=zC5
abbrev JJ(n:Nat)(ks:hX)(R:List Int->List (List Int))(o:Bool):Sl:=J (.lst<|(Fs n ks R).map λa=>tK<|R a,o)
abbrev LD(i j:Nat):F:=iR [i] 1 (jd<|jI j) (gP 1) Tv qv
abbrev fGn:F:=zC8
def Yp{i j:Nat}{A S:hX}(l:∀a∈A,a∈S)(n:(A1 A)<=1000){δ δ1:Dn}(h1:jd (jI j) δ=J (A.map cD,δ1))(b:δ1[i]?=J (V0 S Y)):LD i j δ=J ((.lst [],Y),δ1):=by
 obtain⟨s,e⟩:=V4 (f:=jI 1) (ti:=fT<|il nF (gK 1)<|gK 0) (g:=λd=>d) (p:=λ_=>C) (pre:=[V0 S Y]) (A.map cD) [] U (λd hd=>by obtain⟨a,m,rfl⟩:=ie hd;refine⟨jx (o:=C)<|jO ?_ (jV I).r<|jR I,λq=>by cases q⟩;rw[zG,kM<|l a m];rfl) (by rw[jQ];simp;lia)
 rw[OP.mpr λ_ _=>ky]at e;have h:i<(A1 δ1):=(ue.mp b).1;refine(pP (caps:=[i]) (k:=1) (args:=[(.lst<|S.map cD,Y)]) h1 (by simp[b]) (He i) e).trans ?_
 have:δ1.set i (V0 S Y)=δ1:=uE λj=>by
  by_cases c:j=i
  .subst c;rw[pz h,b]
  rw[lC<|pA c]
 show J (_,δ1.set i<|V0 S Y)=_;rw[this];rfl
section
variable {n:Nat}{ks:hX}(h:nh n ks)
include h
theorem Z3(a:Int)(b o:Bool)(i:Sl)(G:Dn):∃(A:Int)(L:hX),(∀t∈L,t∈T1 n ks)/\(A1 L)<=5/\fRs (W2 a b::i::V0 (T1 n ks) o::G)=z8 ((.lst<|L.map cD,Y),W2 A b::i::V0 (T1 n ks) o::G):=by
 obtain⟨v,a1,J,M,B⟩:=ni a b 6 (by lia) (by lia);obtain⟨m,rfl⟩:∃m:Nat,v=m:=⟨v.toNat,by lia⟩
 have Q:=oX h;have T:=Q6 h;have q:hU iG [gK 0,hG<|fC<|.int 6] (W2 a b::i::V0 (T1 n ks) o::G)=z8 ((.int m,AC),W2 a1 b::i::V0 (T1 n ks) o::G):=B _ _ (.val (.int 6,AC)) rfl rfl
 obtain⟨g,O,⟨c,L,x,r,s,l,rfl⟩,e⟩:=Om (tg:=gP 2) (f:=il A2 (gK 0) WT) (λu g δ=>∃(c:Int)(L:hX)(x:Sl),g=L.map cD/\(∀t∈L,t∈T1 n ks)/\(A1 L)+A1 u=m/\δ=[V0 (T1 n ks) o,W2 c b,x]) (λd u g δ a'=>by
  obtain⟨c,L,x,r,s,l,I'⟩:=a'
  subst I';subst r;obtain⟨w,p,N,U,C⟩:=sP c b (T1 n ks).length (by lia) (by lia);obtain⟨j,rfl⟩:∃j:Nat,w=j:=⟨w.toNat,by lia⟩
  have y:j<(T1 n ks).length:=by lia
  have E:hU iG [gK 1,Lu] [V0 (T1 n ks) o,W2 c b,z8 (d,AC)]=z8 ((.int j,AC),[V0 (T1 n ks) o,W2 p b,z8 (d,AC)]):=(jl (δ1:=[V0 (T1 n ks) o,W2 c b,z8 (d,AC)]) (os:=[.slot 1,.val (.int (T1 n ks).length,AC)]) (args:=[pS c b,pI (T1 n ks).length]) (ox I<|iq<|jC (a:=.lst ((T1 n ks).map cD)) (by rw[xg,jf])<|jR I) I (He 1) C).trans I;refine⟨[V0 (T1 n ks) o,W2 c b,z8 (d,AC)],cD (T1 n ks)[j],AC,[V0 (T1 n ks) o,W2 p b,z8 (d,AC)],rfl,ji (o1:=.slot 0) (o2:=.val (.int j,AC)) I (iq E) I I<|by simp[A2,GK,Dv,y],by simp at l ⊢;lia,p,L++[(T1 n ks)[j]],z8 (d,AC),by rw[nL];rfl,λt H=>?_,by simp at l ⊢;lia,rfl⟩;rcases nQ.mp H with z|z
  .exact s t z
  rw[Aw.mp z];exact wB y) (iI 0 m) [] [V0 (T1 n ks) o,W2 a1 b,z9] ⟨a1,[],z9,rfl,(λt z=>by cases z),by simp[iI],rfl⟩
 subst r;refine⟨c,L,s,by simp at l;lia,?_⟩;exact(pP (caps:=[2,0]) (k:=1) (args:=[(.lst<|(T1 n ks).map cD,o),pS a1 b]) (δ1:=W2 a1 b::i::V0 (T1 n ks) o::G) (tj (n:=m) (o:=.val (.int m,AC)) (iq q) I<|by lia) I (by cases o<;>simp[iu]) e).trans (by cases o<;>rfl)
variable {R:List Int->List (List Int)}(g:∀a∈jg n,AY n ks a (R a)/\(R a).length<=100/\iE [enc a,(.lst<|(T1 n ks).map cD,AC)]=z8 ((.lst<|(R a).map cD,At),[eN a,V0 (T1 n ks) AC]))
include g
theorem Bl{L:hX}(d:∀t∈L,t∈T1 n ks):(Fs n ks R).filter (λa=>!(rW R (AX n ks L) a))=[]:=by have c:∀a∈jg n,AY n ks a (R a):=λa b=>(g a b).1;refine OP.mpr λa b=>?_;have:rW R (AX n ks L) a=Y:=Hx.mpr ⟨a,Jz h c (mB.mp (mB.mp b).1).1,kM<|NV h c d b⟩;rw[this];simp
theorem YZ{S:hX}{δ δ1:Dn}(h1:A9 δ=J ((Fs n ks R).map λa=>tK<|R a,δ1))(i:δ1[8]?=J (V0 S C)):fGn δ=J ((.lst<|((Fs n ks R).filter λa=>!(rW R S a)).map λa=>tK<|R a,Y),δ1):=by
 refine IB h g (w:=C) (q:=λa=>!(rW R S a)) (x:=.lst (S.map cD)) (λa e=>?_) h1 i;have k:=(g a (mB.mp (mB.mp e).1).1).2.1
 have q:=vf (caps:=[0]) (fi:=jd<|jI 1) (f:=jI 1) (ti:=fT Pb) (δ:=[V0 S C,J (tK<|R a,C)]) (δ1:=[V0 S C,J (tK<|R a,C)]) (l:=(R a).map cD) (args:=[.lst<|S.map cD]) (λd=>d) (λy=>decide<|Ds y∈S) I I I (λy j=>by obtain⟨c,_,rfl⟩:=ie j;rw[kc];exact⟨jx (o:=C)<|jO (NJ _ _) (jV I).r<|jR I,λ_=>⟨C,rfl⟩⟩) (by simp;lia)
 rw[pO]at q;simp only[kc]at q;refine(jx (o:=C)<|jO (Rm _) (jE q).r (jE (b:=Y) I).r).trans ?_
 have:decide ((R a).filter (λt=>decide<|t∈S)=[])=!(rW R S a):=by unfold rW;rw[uo,oM,OP,d0,Fm]
 rw[this]
theorem PM(a:Int)(b o c e:Bool):∃C',mJ [pS a b,(AW n ks,C),(.lst<|(T1 n ks).map cD,o),(.lst<|(Fs n ks R).map λa=>tK<|R a,c),(.lst<|(Fs n ks R).map cD,e)]=z8 ((.bl At,C),[W2 C' b,rS n ks,V0 (T1 n ks) o,JJ n ks R C,V0 (Fs n ks R) C]):=by
 have w:=h.1;have J:∀a∈jg n,AY n ks a (R a):=λa j=>(g a j).1;have W:=Df (ks:=ks) (R:=R) w;obtain⟨a1,L,v,ll,H⟩:=Z3 h a b o (rS n ks) [JJ n ks R c,V0 (Fs n ks R) e,z9,z9,z9,z9,z9];obtain⟨d,u,N,G⟩:=zk a1 b n w;have Y:=Pm N
 let S:=AX n ks L
 let M:=L++[u]
 let T:=AX n ks M
 have s:∀t∈L,TT n t:=λt k=>kr h<|v t k
 have B:∀t∈M,TT n t:=λt k=>by
  rcases nQ.mp k with z|z
  .exact s t z
  rw[Aw.mp z];exact Y
 have Z:(A1 T)<=32:=jW (pj _ _)<|zL w ks
 let δ:Int->Bool->Bool->Sl->Sl->Sl->Sl->Sl->Dn:=λa c e F K x7 P V=>[W2 a b,rS n ks,V0 (T1 n ks) o,JJ n ks R c,V0 (Fs n ks R) e,F,K,x7,P,V]
 have I:hU ku [gK 1,gK 5] (δ a1 c e (V0 L At) z9 z9 z9 z9)=z8 ((.lst<|S.map cD,At),δ a1 c e (V0 L C) z9 z9 z9 z9):=(jl (δ1:=δ a1 c e (V0 L At) z9 z9 z9 z9) (os:=[.slot 1,.slot 5]) (args:=[(AW n ks,C),(.lst<|L.map cD,At)]) AT AT (He 5)<|uU h (.inl AT) s (by lia) At).trans AT
 have U:fT WS (δ a1 c e (V0 L C) (V0 S At) z9 z9 z9)=z8 (C,δ a1 c e (V0 L C) (V0 S At) z9 z9 z9):=by have q:=Nc h g (.inl AT) s (by lia) C;rw[Bl h g v]at q;exact jx (o:=C)<|jO (a:=.lst []) (b:=.lst []) (xq<|by decide) (jE (b:=At)<|Am q (jV AT)<|jV AT).r (jE (b:=At) AT).r
 have E:LD 6 4 (δ a1 c e (V0 L C) (V0 S At) z9 z9 z9)=z8 ((.lst [],At),δ a1 c C (V0 L C) (V0 S At) z9 z9 z9):=Yp (A:=Fs n ks R) (S:=S) (λa j=>NV h J v j) (by lia) (by cases e<;>rfl) AT;have y:fT (il D4 (hG<|LD 6 4) xR) (δ a1 c e (V0 L C) (V0 S At) z9 z9 z9)=z8 (C,δ a1 c C (V0 L C) (V0 S At) z9 z9 z9):=jx (o:=C)<|ji (o1:=.val (.lst [],At)) (o2:=.val (.lst [],At)) (iq E) AT AT AT<|xq (by decide)
 have O:il nG (gK 5) W7 (δ a1 c C (V0 L C) (V0 S At) z9 z9 z9)=z8 ((.lst<|M.map cD,At),δ d c C (V0 L C) (V0 S At) z9 z9 z9):=by have q:hU ke [gK 0,Wx] (δ a1 c C (V0 L C) (V0 S At) z9 z9 z9)=z8 (enc u,δ d c C (V0 L C) (V0 S At) z9 z9 z9):=(jl (δ1:=δ a1 c C (V0 L C) (V0 S At) z9 z9 z9) (os:=[.slot 0,.val (.int n,C)]) (args:=[pS a1 b,pI n]) (ox AT<|iq<|jO AT (jV AT).r (jE AT).r) AT (He 0) G).trans AT;refine ji (o1:=.slot 5) (o2:=.val (.lst [cD u],At)) AT (iq<|Ry (os:=[.val<|enc u]) (oy<|iq q) AT<|yx<|by simp) AT AT ?_;rw[aaU (by simp;lia)<|by simp,nL];rfl
 have Q:hU ku [gK 1,gK 7] (δ d c C (V0 L C) (V0 S At) (V0 M At) z9 z9)=z8 ((.lst<|T.map cD,At),δ d c C (V0 L C) (V0 S At) (V0 M C) z9 z9):=(jl (δ1:=δ d c C (V0 L C) (V0 S At) (V0 M At) z9 z9) (os:=[.slot 1,.slot 7]) (args:=[(AW n ks,C),(.lst<|M.map cD,At)]) AT AT (He 7)<|uU h (.inl AT) B (by simp[M];lia) At).trans AT;have l:LD 6 8 (δ d c C (V0 L C) (V0 S At) (V0 M C) (V0 T At) z9)=z8 ((.lst [],At),δ d c C (V0 L C) (V0 S At) (V0 M C) (V0 T C) z9):=Yp (A:=T) (S:=S) (λa j=>Iu (λt k=>wY _ k) j) (by lia) AT AT;have x:fT (il D4 (hG<|LD 6 8) xR) (δ d c C (V0 L C) (V0 S At) (V0 M C) (V0 T At) z9)=z8 (C,δ d c C (V0 L C) (V0 S At) (V0 M C) (V0 T C) z9):=jx (o:=C)<|ji (o1:=.val (.lst [],At)) (o2:=.val (.lst [],At)) (iq l) AT AT AT<|xq (by decide);have m:fGn (δ d c C (V0 L C) (V0 S At) (V0 M C) (V0 T C) z9)=z8 ((.lst<|((Fs n ks R).filter λa=>!(rW R T a)).map λa=>tK<|R a,At),δ d C C (V0 L C) (V0 S At) (V0 M C) (V0 T C) z9):=YZ h g (S:=T) (by cases c<;>rfl) AT
 let X:Sl:=z8 (.lst<|((Fs n ks R).filter λa=>!(rW R T a)).map λa=>tK<|R a,At)
 have p:il Ao Ws (gK 9) (δ d C C (V0 L C) (V0 S At) (V0 M C) (V0 T C) X)=z8 ((.bl At,C),δ d C C (V0 L C) (V0 S At) (V0 M C) (V0 T C) X):=
  jO (VS<|by rw[D.dep];exact jW (ka<|BD R _)<|by decide) (jE (b:=At)<|Am (Nc h g (L:=M) (.inl AT) B (by simp[M];lia) C) (jV AT)<|jV AT).r (jR AT)
 refine⟨d,(jG (n:=10) (np:=5) (asg:=[5,6,7,8,9]) (f:=mH) (δ:=δ d C C (V0 L C) (V0 S At) (V0 M C) (V0 T C) X) ⟨rfl,by decide,by cases o<;>cases c<;>cases e<;>rfl⟩ ?_).trans (by cases o<;>cases c<;>cases e<;>rfl)⟩;refine(gO<|iU (i:=5) H (show 5<10 by decide)).trans ((gO<|iU (i:=6) I (show 6<10 by decide)).trans ?_);refine(gO<|(mE (δ1:=δ a1 c C (V0 L C) (V0 S At) z9 z9 z9)<|(Dj U).trans y).trans AT).trans ?_;refine(gO<|iU (i:=7) O (show 7<10 by decide)).trans ((gO<|iU (i:=8) Q (show 8<10 by decide)).trans ?_);refine(gO<|(mE (δ1:=δ d c C (V0 L C) (V0 S At) (V0 M C) (V0 T C) z9) x).trans AT).trans ?_;exact(gO<|iU (i:=9) m (show 9<10 by decide)).trans (iW<|kh p)
end
abbrev fFs:F:=W6
abbrev fT1:FT:=zC4
abbrev fT2:FT:=Xo
abbrev fT3:FT:=zC6
abbrev fT4:FT:=Xq
abbrev fT5:FT:=W0
abbrev Tb:FS:=gW WG<|gW WX<|gW (jy 4<|hU jJ [gK 3])<|gW (jy 5<|hU sA [gK 3])<|gW (jy 6 fFs)<|gW (jy 7<|hU nk [gK 3])<|gW (AD fT1 tR ir)<|gW (AD fT2 tR ir)<|gW (AD fT3 tR ir)<|gW (AD fT4 tR ir)<|gW (AD fT5 tR ir) ir
def Pz{b c:FO}{a:Dn}{o o2:F2}{x:D}{i:Int}{z:D×Bool}(h1:b a=J (o,a))(e:c a=J (o2,a))(d:res a o2=J (.int i)/\res a o=J x)(f:JV U (J i) x=J z):uj b c a=J (z,a):=by unfold uj;rw[h1];simp only[jH];rw[e];simp only[jH];rw[d.1];simp only[jH];rw[d.2];simp only[jH];rw[f];rfl
def Vw(W:hX):D4 (.tup<|W.map cD) (.tup [])=J (.bl<|decide<|W≠[],C):=by unfold D4;rw[hV ⟨by rw[D.dep];have:=tN W;lia,by decide⟩];cases W<;>rfl
def ES{f g:FT}{a δ1:Dn}(h:f a=J (Y,δ1)):sy f g a=g δ1:=by unfold sy;rw[h];rfl
def ET{f g:FT}{a δ1:Dn}(h:f a=J (C,δ1)):sy f g a=J (C,δ1):=by unfold sy;rw[h];rfl
section
variable {n:Nat}{ks:hX}(h:nh n ks){R:List Int->List (List Int)}(f:∀a∈jg n,AY n ks a (R a)/\(R a).length<=100/\iE [enc a,(.lst<|(T1 n ks).map cD,AC)]=z8 ((.lst<|(R a).map cD,At),[eN a,V0 (T1 n ks) AC]))
 {W:hX}(s:Kd n ks R [] W)(e c:Sl)
abbrev D5(n:Nat)(ks:hX)(R:List Int->List (List Int))(W:hX)(e c a:Sl)(b d g:Bool):Dn:=[e,c,a,rS n ks,V0 (T1 n ks) b,JJ n ks R d,V0 (Fs n ks R) g,J (.tup<|W.map cD,C)]
include h f s
theorem XU(d:Sl)(g i j:Bool):fT1 (D5 n ks R W e c d g i j)=J (C,D5 n ks R W e c d g i j):=by have p:∀a∈jg n,AY n ks a (R a):=λa q=>(f a q).1;have t:=oX h;have u:W.length<=3840:=jW (mV _ _ s.rw.nd s.rw.li) t;have k:=CG h f (L:=T1 n ks) (λ_ z=>z) (by lia);rw[Nj h p,kM I]at k;have l:=CG h f s.rw.li (by lia);rw[kM s.ok]at l;have a1:fT Xd (D5 n ks R W e c d g i j)=J (C,D5 n ks R W e c d g i j):=jx (o:=C)<|jO (a:=.bl Y) (b:=.bl Y) I (jE (b:=C)<|Am k (jV I)<|jE (b:=C)<|jC (Mi _)<|jR I).r (jE I).r;have m:fT WW (D5 n ks R W e c d g i j)=J (C,D5 n ks R W e c d g i j):=jx (o:=C)<|jO (a:=.bl Y) (b:=.bl Y) I (jE (b:=C)<|Am l (jV I)<|jV I).r (jE I).r;exact(Dj a1).trans m
theorem XT(g:Sl)(i j k:Bool):fT2 (D5 n ks R W e c g i j k)=J (C,D5 n ks R W e c g i j k):=by have l:∀a∈jg n,AY n ks a (R a):=λa v=>(f a v).1;have x:W.length<=3840:=jW (mV _ _ s.rw.nd s.rw.li)<|oX h;have m:∀t∈W,TT n t:=λt w=>kr h<|s.rw.li t w;have p:=uU h (d:=.tup (W.map cD)) (.inr I) m (by lia) C;rw[Nh h l s.rw.li s.ok]at p;have q:=Nc h f (d:=.tup (W.map cD)) (.inr I) m (by lia) C;rw[Bl h f s.rw.li]at q;have a1:fT W5 (D5 n ks R W e c g i j k)=J (C,D5 n ks R W e c g i j k):=jx (o:=C)<|jO (xq<|IQ _) (jE (b:=Y)<|Am p (jV I)<|jV I).r (jE (b:=Y)<|jC (Sm h l)<|jR I).r;have u:fT WR (D5 n ks R W e c g i j k)=J (C,D5 n ks R W e c g i j k):=jx (o:=C)<|jO (a:=.lst []) (b:=.lst []) (xq<|by decide) (jE (b:=Y)<|Am q (jV I)<|jV I).r (jE (b:=Y) I).r;exact(Dj a1).trans u
theorem XR(d:Sl)(g i j:Bool):fT3 (D5 n ks R W e c d g i j)=J (C,D5 n ks R W e c d g i j):=by
 have v:W.length<=3840:=jW (mV _ _ s.rw.nd s.rw.li)<|oX h;have a1:fT (il D4 (gK 7)<|hG<|vb []) (D5 n ks R W e c d g i j)=J (decide<|W≠[],D5 n ks R W e c d g i j):=jx (o:=C)<|jO (Vw W) (jV I).r (jE (b:=C) I).r;by_cases k:W=[]
 .rw[kN<|by simpa using k]at a1;exact ET a1
 rw[kM k]at a1;obtain⟨r,m,er⟩:=Nn s.rw.nd k;have l:bad n ks R W r:=(s.bd r m).resolve_left (by simp);have q:=CG h f (L:=W.dropLast) (λt p=>s.rw.li t<|Kz _ p) (by rw[KA];omega);rw[er,kN l,<-er]at q
 have u:uj (gK 7) Tz (D5 n ks R W e c d g i j)=J ((.tup<|W.dropLast.map cD,C),D5 n ks R W e c d g i j):=Pz (o:=.slot 7) (o2:=.val (.int (-1),C)) I I ⟨rfl,rfl⟩ (by show J (D.tup<|PX.ye (W.map cD) U<|J (-1),C)=_;rw[Od,List.map_dropLast])
 exact(ES a1).trans (jx (o:=C)<|jO (a:=.bl C) (b:=.bl C) I (jE (b:=C)<|Am q (jV I)<|jE (b:=C) u).r (jE I).r)
theorem XQ(i:Sl)(g j k:Bool):∃l,fT4 (D5 n ks R W e c i g j k)=J (C,D5 n ks R W e c i l j k):=by
 have m:∀a∈jg n,AY n ks a (R a):=λa v=>(f a v).1;have x:=oX h;have a1:fT WU (D5 n ks R W e c i g j k)=J (decide<|((T1 n ks).length:Int)<41,D5 n ks R W e c i g j k):=jx (o:=C)<|jO (Ur _ _) (jE (b:=C)<|jC (a:=.lst ((T1 n ks).map cD)) (by rw[xg,jf])<|jR I).r (jE (b:=C) I).r;by_cases p:((T1 n ks).length:Int)<41
 .rw[kM p]at a1;have q:=uU h (d:=.lst ((T1 n ks).map cD)) (.inl I) (λt w=>kr h w) (by lia) g;rw[Nj h m]at q;have u:hU ku [gK 3,gK 4] (D5 n ks R W e c i g j k)=J ((.lst<|(Fs n ks R).map cD,Y),D5 n ks R W e c i C j k):=(jl (δ1:=D5 n ks R W e c i g j k) (os:=[.slot 3,.slot 4]) (args:=[(AW n ks,C),(.lst<|(T1 n ks).map cD,g)]) I I (by cases g<;>simp[iu]) q).trans (by cases g<;>rfl);exact⟨C,(ES a1).trans<|jx (o:=C)<|ji (o1:=.val (.lst<|(Fs n ks R).map cD,Y)) (o2:=.val (.lst<|(Fs n ks R).map cD,Y)) (iq u) (iq<|jC (Sm h m)<|jR I) I I<|xq<|IQ _⟩
 rw[kN p]at a1;exact⟨g,ET a1⟩
end
def NZ(A:gQ)(k:Nat)(y z x w m h:Sl):∃Q T G J' M N,Tb [J (.lst<|A.map .int,AC),ii k,y,z,x,w,m,h]=J (.nx [J (.lst<|A.map .int,AC),ii k,Q,T,G,J',M,N]):=by
 let c:Sl:=J (.lst<|A.map .int,AC)
 let e:Sl:=ii k
 obtain⟨a,b,U⟩:=aep A k;obtain⟨a1,n,ks,j,_,h4,Y⟩:=adP a b 0 4 (by lia) (by lia);obtain⟨R,t⟩:=Up j;have K:∀a∈jg n,AY n ks a (R a):=λa u=>(t a u).1;obtain⟨W,s,F⟩:=Pr j t;have Z:=Df (ks:=ks) (R:=R) j.1;obtain⟨p,B⟩:=XQ j t s c e (W2 a1 b) At AC At;obtain⟨H,C⟩:=PM j t a1 b p AC At
 let δ:Sl->Bool->Bool->Bool->Dn:=λy p P S=>D5 n ks R W c e y p P S
 have X:fFs [c,e,W2 a1 b,rS n ks,V0 (T1 n ks) At,JJ n ks R At,m,h]=J ((.lst<|(Fs n ks R).map cD,At),[c,e,W2 a1 b,rS n ks,V0 (T1 n ks) At,JJ n ks R AC,m,h]):=by
  let g:D->D:=λd=>match A2 d (.int 0)with
   |some r=>r.1
   |none=>.T2
  have E:∀a∈Fs n ks R,A2 (tK<|R a) (.int 0)=J (cD a,AC):=λa u=>by obtain⟨I,O⟩:=mB.mp u;obtain⟨r,er⟩:=kHd j K (mB.mp I).1 O;rw[er];exact(ixt (L:=(a::r).map cD) (v:=0) (by lia)<|by simp).trans AT
  have q:=Ah (caps:=[]) (fi:=jd<|jI 5) (f:=il A2 (gK 0) oT) (δ:=[c,e,W2 a1 b,rS n ks,V0 (T1 n ks) At,JJ n ks R At,m,h]) (δ1:=[c,e,W2 a1 b,rS n ks,V0 (T1 n ks) At,JJ n ks R AC,m,h]) (l:=(Fs n ks R).map λa=>tK<|R a) (args:=[]) g AT AT AT (λd hd=>by
   obtain⟨a,u,rfl⟩:=ie hd;refine⟨AC,?_⟩;have:g (tK<|R a)=cD a:=by simp only[g];rw[E a u]
   rw[this];exact jO (E a u) (jV AT).r (jE AT).r) (by simp;lia)
  refine q.trans ?_;rw[jA]
  have:(Fs n ks R).map (g∘λa=>tK<|R a)=(Fs n ks R).map cD:=lX λa u=>by simp only[bI,g];rw[E a u]
  rw[this]
 have V:fT5 (δ (W2 a1 b) p AC At)=J (AC,δ (W2 H b) p AC AC):=wa (b:=At)<|jx (o:=AC)<|(jl (δ1:=δ (W2 a1 b) p AC At) (os:=[.slot 2,.slot 3,.slot 4,.slot 5,.slot 6]) (args:=[pS a1 b,(AW n ks,AC),(.lst<|(T1 n ks).map cD,p),(.lst<|(Fs n ks R).map λa=>tK<|R a,AC),(.lst<|(Fs n ks R).map cD,At)]) AT AT (by cases p<;>simp[iu]) C).trans (by cases p<;>rfl);refine⟨W2 H b,rS n ks,V0 (T1 n ks) p,JJ n ks R AC,V0 (Fs n ks R) AC,J (.tup<|W.map cD,AC),?_⟩;refine(gO<|iU (i:=2) (δ1:=[c,e,y,z,x,w,m,h]) (Am U (jV AT)<|jV AT) (show 2<8 by decide)).trans ?_;refine(gO<|iU (i:=3) (δ1:=[c,e,W2 a1 b,z,x,w,m,h]) ((jl (δ1:=[c,e,W2 a b,z,x,w,m,h]) (os:=[.slot 2,.val (.int 0,AC),.val (.int 4,AC)]) (args:=[pS a b,pI (0:Nat),pI (4:Nat)]) AT AT (He 2) Y).trans AT) (show 3<8 by decide)).trans ?_;refine(gO<|iU (i:=4) (δ1:=[c,e,W2 a1 b,rS n ks,x,w,m,h]) (C0 j _ rfl) (show 4<8 by decide)).trans ?_;refine(gO<|iU (i:=5) (δ1:=[c,e,W2 a1 b,rS n ks,V0 (T1 n ks) At,w,m,h]) (J1 (vT j t)<|jV AT) (show 5<8 by decide)).trans ?_;refine(gO<|iU (i:=6) X (show 6<8 by decide)).trans ?_;refine(gO<|iU (i:=7) (δ1:=[c,e,W2 a1 b,rS n ks,V0 (T1 n ks) At,JJ n ks R AC,V0 (Fs n ks R) At,h]) (J1 F<|jV AT) (show 7<8 by decide)).trans ?_;refine(no (δ:=δ (W2 a1 b) At AC At) _ (XU j t s c e _ _ _ _)).trans ((no (δ:=δ (W2 a1 b) At AC At) _ (XT j t s c e _ _ _ _)).trans<|(no (δ:=δ (W2 a1 b) At AC At) _ (XR j t s c e _ _ _ _)).trans ?_);exact(gO<|(mE B).trans AT).trans ((gO<|(mE V).trans AT).trans AT)
def Wj(a:gQ)(y:(A1 a)<=63):∃o b,uk [(.lst<|a.map .int,C)]=J ((.bl Y,o),b):=by
 let c:Sl:=J (.lst<|a.map .int,C)
 let N:Nat:=if 1<min (A1 a) 4 then min (A1 a) 4 else 1
 obtain⟨n,_,e⟩:=yC (tg:=gP 1) (fb:=Tb) (λds δ=>∃p f g i j l m,(∀d∈ds,∃k:Nat,d=.int k)/\δ=[c,p,f,g,i,j,l,m]) (λd ds δ T=>by
  obtain⟨p,f,g,i,j,l,m,h1,h⟩:=T
  subst h;obtain⟨k,rfl⟩:=h1 d jF;obtain⟨g2,s,t,u,v,w,e⟩:=NZ a k f g i j l m
  exact⟨_,_,rfl,e,_,_,_,_,_,_,_,λx r=>h1 x<|iY _ r,rfl⟩) (iI 0 N) [c,U,U,U,U,U,U,U] ⟨_,_,_,_,_,_,_,λd hd=>by obtain⟨k,_,rfl⟩:=rp.mp hd;exact⟨k,by simp⟩,rfl⟩
 refine⟨C,_,jG (δ:=n) ⟨rfl,by decide,rfl⟩ ?_⟩;refine(gO<|(kE (ds:=iI 0 N) (δ1:=[c,U,U,U,U,U,U,U]) ?_).trans e).trans (iW I);refine tj (o:=.val (.int N,C)) (iq ?_) I (by simp only[N];split<;>omega)
 have q:(N:Int)=if(if(4:Int)<(A1 a)then 4 else((A1 a):Int))>1 then(if(4:Int)<(A1 a)then 4 else((A1 a):Int))else 1:=by simp only[N];split<;>split<;>split<;>omega
 rw[q];simp[c]
end PV
def K55.main(b:gQ)(c:(A1 b)<=63):∃o a,PV.uk [(.lst<|b.map .int,C)]=J ((.bl Y,o),a):=PV.Wj b c
structure PySem.W.Fast:Prop where(tw7727590377779614861 tw8937707027268028420 tw14991275986639133865 tw14847403974004976098 tw6758477829636800200 tw6838105314760479859 tw2843556614225213625 tw1633345994888813115 tw9854856871478968123 tw8897541191326001658 tw17788922019924307854 tw1699262958689307777 tw2828225869976286343 tw10504474212786641983 tw11143681086202497982 tw8876558579458749903 tw12841393312139483045 tw6599136211102605178 tw7082222443245525615 tw8497569805437173601 tw12796754338277414936 tw11195557597186647464 tw5863996108027462996 tw5421154215051986081 tw12946368613631490077 tw18065776329579186785 tw3026844220283674750 tw2291412919594866499 tw14708143713589379054 tw1413573750002051160 tw3410680239704360017 tw897727253288971013 tw2764335630758934149 tw8175029309115247978 tw10427238858611453824 tw3061746416125190812 tw301693160517916240 tw14682283069297122165 tw6904234734045126064 tw1622514218788686777 tw5598245359890479448 tw15364032986834153397 tw13434423792975661675 tw15177180991824798179 tw17305242802425216498 tw10376851029568819807 tw5339275266628834483 tw6142758977480184639 tw18414494501515715763 tw5379679558469073547 tw758357049648366490 tw10299170540537418850 tw14283992656773880130 tw15834125201960733292 tw12004125467366416415 tw3006711267127424440 tw1121230048085301231 tw9635361300018200852 tw9501131863111942856 tw3439065031726305786 tw10781791251435135397 tw7267780608863026992 tw2314127086477468859 tw17584436199214567323 tw14243716537403342764 tw13739325501174292590 tw12781657152708951019 tw17239187479927278778 tw11951294121855699816 tw3618567964443724257 tw1437389995184546810 tw3762802003924015897 tw4631879887305261492 tw14712655009432896218 tw12402220857555321916 tw11330714799287701216 tw17953287222343545657 tw4640456586381510585 tw10935207740767516399 tw5850380274812769979 tw10531456505156946833 tw5422124363976801200 tw9637377553946188517 tw5308099275815882132 tw13826337616634585939 tw11137655585091542394 tw12893385638365686776 tw3139258667941120322 tw9334388502073037447 tw17095268656714828789 tw6064757276804613605 tw13045635358137239831 tw4111285633841714413 tw4416034166193386984 tw12690577076364918601 tw9054691044475576833 tw3894773779359143354 tw3707825479605708759 tw11121140030862640600 tw9312318276681924073 tw3193581618918372982 tw1787899782430539422 tw12557505267705103076 tw16555328392974537987 tw6380969579022566708 tw6959544197314801714 tw8810019896566445098 tw1705082935399536842 tw11414931931457819452:True)
open PySem PySem.W PyProof.Rows PX
set_option maxRecDepth 100000 in
set_option maxHeartbeats 0 in
theorem PySem.Challenge.cw_twinriddles_k55_whole_rows_holds : PySem.Challenge.rw_twinriddles_k55_whole_rows.Holds := by
  w_on; o_law; k_head; (case hw => w_witness2)
  k_fill
  refine walkT (TB := K55.TB55) (l := PySem.Challenge.rw_twinriddles_k55_whole_rows) (LV := 15) (x := "_law_script") ⟨rfl, by decide, by decide, rfl⟩ rfl rfl (fun w h Y => km_in_of Y) (fun w h Y => aC (km_tabs_of Y _ List.mem_cons_self) aN) (fun w => aC ?K aN) (by decide) ?F K55.main
  case K => show List.lookup 197 _ = none; kernel_rfl
  case F =>
   intro w mg fa h KX G hmg
   refine' K55.all_mk hmg (txK KX G ?_ ?_ ?_ ?_ ?_ ?_ ?_ ?_ ?_ ?_ ?_ ?_ ?_ ?_ ?_ ?_) ?_ ?_ ?_ ?_ ?_ ?_ ?_ ?_ ?_ ?_ ?_ ?_ ?_ ?_ ?_ ?_ ?_ ?_ ?_ ?_ ?_ ?_ ?_ ?_ ?_ ?_ (fzT KX G ?_ ?_ ?_ ?_ ?_) ?_ ?_ ?_ ?_ ?_ ?_ ?_ ?_ ?_ ?_ ?_ ?_ ?_ ?_ ?_ ?_ ?_ ?_ ?_ ?_<;>try first|refine' fz KX G ?_ ?_ ?_ ?_<;>try k_is|k_is|kernel_rfl
