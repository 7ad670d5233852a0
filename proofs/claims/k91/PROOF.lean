import PyProof.Rows.All
import Wide.All
import OpenK.AllK
import Wide.FinOn
import PyProof.EqAt
import PyProof.EqKinds
import PyProof.TupleCall
import Lean
import PySem.Challenge.RW_twinriddles_k91_texts_written_and_read
set_option Elab.async false
set_option linter.all false
set_option maxRecDepth 100000
set_option maxHeartbeats 8000000
set_option compiler.extract_closed false
set_option backward.eqns.nonrecursive false
noncomputable section
section
open PySem PySem.Spec PyProof.Rows
abbrev gm:=Value->Shared->Prop
abbrev gc:=List (Addr×Obj)
abbrev fO:=PySem.W.Frag
abbrev iq:=List (List Int)
abbrev fN:=List Int
abbrev gH:=List Value
abbrev jY:=Str->Option Value
abbrev hV:=List Nat
abbrev qD:=Array (Int×Value)
abbrev lq:=Array Value
abbrev fV:=List Str
abbrev hW:=List Expr
abbrev oU:=Bool->Shared->Prop
abbrev G5:=Option Value->Shared->Prop
abbrev vE:=Value->Value->Sem Value
abbrev sP:=Array (Option Nat)
abbrev sO:=Array (Option Value)
abbrev jy:=List (Str×Addr)
abbrev nr:=List Comprehension
abbrev yZ:=Array Keyed
abbrev gR:=Nat->Prop
abbrev ig:=List Addr
abbrev eZ:=Shared
abbrev fS:=Program
abbrev fQ:=Around
abbrev fL:=World
abbrev oT:=SortSt
abbrev ke:=SetTable
abbrev fI:=Value
abbrev oE:=Comprehension
abbrev kO:=FuncData
abbrev hJ:=Scope
abbrev fw:=Expr
abbrev fP:=Heap
abbrev eX:=Addr
end
section
open PySem PySem.Spec PyProof.Rows PySem.SeqAt
def eY:=@wpAny_bind
def fH:=@wpAny_pure
theorem fJ:type_of% @if_pos:=@if_pos
theorem fR:type_of% @if_neg:=@if_neg
theorem gy:type_of% @Option.bind_some:=@Option.bind_some
theorem gJ:type_of% @Nat.le_refl:=@Nat.le_refl
theorem gP:type_of% @List.map_cons:=@List.map_cons
def ie:=@Heap.lt_size
def ik:=@Heap.get?_push_of_some
theorem ir:type_of% @List.getElem?_eq_getElem:=@List.getElem?_eq_getElem
theorem kx:type_of% @List.mem_map:=@List.mem_map
theorem gr:type_of% @List.size_toArray:=@List.size_toArray
theorem gv:type_of% @Bool.false_eq_true:=@Bool.false_eq_true
theorem gA:type_of% @sizeLine_eq:=@sizeLine_eq
theorem iY:type_of% @List.mem_cons:=@List.mem_cons
def gE:=@Nat.ne_of_lt
theorem gO:type_of% @if_false:=@if_false
theorem gW:type_of% @List.length_map:=@List.length_map
def gY:=@List.mem_cons_self
def gX:=@List.mem_cons_of_mem
def iz:=@Option.some.inj
theorem iw:type_of% @Array.length_toList:=@Array.length_toList
theorem iu:type_of% @if_true:=@if_true
def iK:=@Heap.get?_push_size
theorem jb:type_of% @List.length_cons:=@List.length_cons
theorem ja:type_of% @List.map_map:=@List.map_map
def je:=@Bool.false_ne_true
theorem sN:type_of% @List.getElem?_eq_some_iff:=@List.getElem?_eq_some_iff
theorem nF:type_of% @List.mem_append:=@List.mem_append
theorem jD:type_of% @List.not_mem_nil:=@List.not_mem_nil
theorem jU:type_of% @List.getElem?_map:=@List.getElem?_map
def jT:=@Array.getElem?_toList
def ku:=@wpAny_holding
theorem kB:type_of% @Bool.and_eq_true:=@Bool.and_eq_true
def kA:=@Nat.zero_le
theorem kz:type_of% @List.nodup_nil:=@List.nodup_nil
theorem kS:type_of% @decide_eq_false:=@decide_eq_false
def kR:=@Ne.symm
def kQ:=@wpAny_newObj_type
theorem my:type_of% @List.all_eq_true:=@List.all_eq_true
theorem kP:type_of% @or_false:=@or_false
def lu:=@List.getElem?_set_ne
theorem lr:type_of% @List.length_append:=@List.length_append
def lI:=@Nat.lt_of_lt_of_le
def lH:=@congrArg
def lG:=@List.mem_of_getElem?
def lF:=@PySem.W.mg_none_of
def rA:=@List.pairwise_append
def mH:=@Nat.le_trans
theorem mG:type_of% @List.map_nil:=@List.map_nil
theorem mF:type_of% @List.lookup_cons:=@List.lookup_cons
theorem mE:type_of% @List.append_assoc:=@List.append_assoc
def mD:=@Array.getElem?_eq_getElem
def mC:=@List.map_congr_left
theorem nE:type_of% @Nat.lt_irrefl:=@Nat.lt_irrefl
theorem qE:type_of% @List.mem_range:=@List.mem_range
def nD:=@Nat.ne_of_gt
def nC:=@List.mem_append_right
def nB:=@List.getElem?_append_right
def nA:=@wpAny_call_entry
theorem ny:type_of% @decide_eq_true:=@decide_eq_true
theorem nv:type_of% @not_or:=@not_or
theorem nu:type_of% @Bool.not_true:=@Bool.not_true
def oH:=@wpAny_mono
def oG:=@Heap.size_push
theorem oF:type_of% @List.length_nil:=@List.length_nil
def oY:=@List.getElem?_set_self
theorem oX:type_of% @Int.toNat_natCast:=@Int.toNat_natCast
def oW:=@codeAny_builtin
def oV:=@wpAny_of_eq
def CM:=@List.pairwise_cons
theorem qU:type_of% @List.length_take:=@List.length_take
def qT:=@List.getElem?_append_left
def qR:=@eq_of_beq
def qQ:=@Heap.get?_update_self
theorem qP:type_of% @List.length_set:=@List.length_set
def qO:=@Around.under_plainId
def qN:=@Obj.data_mapFields
def qM:=@Nat.pow_succ
def qL:=@wpAny_setState_of
theorem qK:type_of% @List.map_append:=@List.map_append
def tJ:=@List.filterMap_cons
def tH:=@wpAny_truthy_bool
def G7:=@Option.isSome_iff_exists
def tE:=@wpAny_field
def tD:=@wpAny_typeOf
theorem tw:type_of% @bne_self_eq_false:=@bne_self_eq_false
def tu:=@List.getElem?_of_mem
def tq:=@Prod.mk.inj
def tj:=@Nat.lt_succ_self
def tf:=@PySem.W.kia_one
def sZ:=@PySem.W.kia_tup
def sY:=@Heap.SameBut.update
def G6:=@Array.getElem?_eq_some_iff
def sV:=@wpAny_forIn_list
def sU:=@Nat.mul_assoc
theorem sQ:type_of% @List.nil_append:=@List.nil_append
theorem yC:type_of% @beq_eq_false_iff_ne:=@beq_eq_false_iff_ne
def vG:=@PySem.mem_of_lookup
def vF:=@wpAny_callSpecial?_slot
def pE:=@call_meets
def Ez:=@List.mem_singleton
theorem pD:type_of% @bind_assoc:=@bind_assoc
def pB:=@wpAny_rule
def pA:=@Nat.lt_succ_of_lt
theorem pz:type_of% @List.foldl_cons:=@List.foldl_cons
theorem pv:type_of% @decide_eq_true_eq:=@decide_eq_true_eq
def pk:=@plainId_quiet
def pj:=@wpAny_seqItems
def ph:=@List.exists_cons_of_length_pos
def pe:=@List.cons.inj
theorem pd:type_of% @List.zip_cons_cons:=@List.zip_cons_cons
def oZ:=@wpAny_specialOf
def HJ:=@PySem.F.called_set
def rP:=@wpAny_passesOwn
def rO:=@codeAny_mono
theorem Ax:type_of% @List.nodup_cons:=@List.nodup_cons
def rN:=@List.getElem?_set
def rM:=@List.drop_eq_getElem_cons
def rL:=@List.drop_eq_nil_of_le
theorem rK:type_of% @List.any_cons:=@List.any_cons
def rJ:=@wpAny_setField
def rH:=@List.take_append_drop
def rG:=@List.Perm.refl
def yD:=@List.pairwise_map
def rF:=@Nat.mul_add
theorem rE:type_of% @Array.getD_eq_getD_getElem?:=@Array.getD_eq_getD_getElem?
def rC:=@List.length_eraseIdx
def rB:=@List.map_id
def va:=@Paired.length
def uZ:=@Nat.le_of_lt
def uY:=@wpAny_standAt
def uX:=@wpAny_load
def uW:=@boot_range
def uV:=@List.take_sublist
def yE:=@PyProof.Rows.slot_tuple_getitem
def uU:=@Heap.get?_update_other
def uT:=@wpAny_askSetting
def uS:=@wpAny_attempt
def uR:=@wpAny_isInstance
theorem Dz:type_of% @List.pairwise_reverse:=@List.pairwise_reverse
theorem uQ:type_of% @List.getD_eq_getElem?_getD:=@List.getD_eq_getElem?_getD
def uP:=@List.mem_of_mem_take
theorem uO:type_of% @Nat.add_assoc:=@Nat.add_assoc
def Lb:=@List.length_pos_iff
def uN:=@Bool.or_eq_true
def uM:=@Nat.mul_comm
def uL:=@Nat.mul_one
def uK:=@Nat.mod_lt
def La:=@List.length_eq_zero_iff
theorem uJ:type_of% @List.find?_cons:=@List.find?_cons
theorem uI:type_of% @List.mem_flatMap:=@List.mem_flatMap
theorem uH:type_of% @List.cons_append:=@List.cons_append
def wN:=@Int.mul_one
def wM:=@wpAny_pyIter_list
def wK:=@List.append_nil
def wJ:=@IsTup.new
def wI:=@typeIs_str
def wH:=@List.length_singleton
def wG:=@codeAny_of_tree
def wF:=@wpAny_setField_rec
def wD:=@List.reverse_perm
def wC:=@List.eq_nil_of_length_eq_zero
theorem wB:type_of% @Nat.min_eq_left:=@Nat.min_eq_left
def wA:=@Nat.pow_le_pow_right
theorem wz:type_of% @List.getElem?_cons_succ:=@List.getElem?_cons_succ
def Ey:=@PySem.F.slot_tuple_hash
def za:=@PySem.F.slot_dict_keyiterator_next
def wy:=@PySem.strLen_append
def Aw:=@List.mem_append_left
def Av:=@PyProof.Rows.callWith_type1
def Au:=@wpAny_Call_Name_kw
def As:=@PySem.W.cellsFrom_some
def Ar:=@concat_meets
def Aq:=@Nat.le_succ
def Ap:=@Nat.lt_trans
def Ao:=@Heap.SameBut.refl
theorem CJ:type_of% @List.getElem?_zip_eq_some:=@List.getElem?_zip_eq_some
def An:=@List.any_map
def Am:=@List.ext_getElem?
def Al:=@wpAny_runValue
def Ak:=@Obj.isFreed_of_fields
def Aj:=@Obj.cls_mapFields
def Ai:=@wpAny_onRaise
def K0:=@List.perm_middle
theorem Ah:type_of% @List.extract_eq_take_drop:=@List.extract_eq_take_drop
def Ag:=@List.mem_of_mem_drop
def Af:=@AutoSeq1.sub_tuple_tuple
def Ae:=@richCompare_meets_room
def Ad:=@Nat.add_mul
def Ac:=@Nat.mul_left_comm
theorem FN:type_of% @Option.map_eq_some_iff:=@Option.map_eq_some_iff
theorem Ab:type_of% @Array.getElem?_setIfInBounds:=@Array.getElem?_setIfInBounds
theorem Aa:type_of% @Array.getElem?_eq_none:=@Array.getElem?_eq_none
def zZ:=@wpAny_isSame_ref_self
theorem zY:type_of% @List.getElem?_cons_zero:=@List.getElem?_cons_zero
def zW:=@Array.forIn_toList
def zV:=@isSubtype_type
def zU:=@PySem.F.plain_list_iadd
def zT:=@wpAny_updateSeq
def zS:=@List.mem_map_of_mem
def zR:=@List.getElem_mem
def zQ:=@wpAny_typeNameOfWhole_keyiter
def zP:=@F.slot_str_split
def zO:=@List.mem_of_mem_eraseIdx
def Dy:=@wpAny_pyHash_int
def Dx:=@wpAny_execs_nil
def Dw:=@wpAny_pyIter_tuple
def Dv:=@List.of_mem_zip
def Du:=@List.getElem?_take_of_lt
def Dt:=@noFill_tuple_add
def Ds:=@seq_tuple_add
def Dr:=@PySem.F.slot_tuple_add
def Dq:=@PySem.F.entry_tuple_add
def Dp:=@PySem.F.args_tuple_add_2
def Dm:=@seqIndex_of
def Dl:=@seqIndex_neg
def Dk:=@Nat.lt_asymm
def Dj:=@wpAny_comprehension_free
def Di:=@List.ext_getElem
def Dh:=@PySem.F.plainAttrs_list
def K9:=@F.called_tuple
def Dg:=@wpAny_handled
def Df:=@wpAny_throw
def De:=@isSubtype_stop
def Dd:=@Nat.add_sub_cancel_left
def K8:=@List.pairwise_iff_getElem
def Dc:=@List.getElem_of_mem
def C9:=@List.drop_sublist
def C8:=@List.take_succ
def C7:=@listUpdate_at
def C6:=@get?_update_seq
def C5:=@seqEpoch_at
def C4:=@Nat.one_mul
def C3:=@Nat.mul_zero
def C2:=@Int.emod_lt_of_pos
def C1:=@Int.emod_nonneg
def C0:=@List.mem_erase_of_ne
def CZ:=@wpAny_pyIter_slot
def CY:=@wpAny_setEntries_of
def CW:=@PyProof.Rows.F.plain_set_update_loop
def CV:=@wpAny_dictEntries
def CU:=@wpAny_dictEpoch
def CT:=@PySem.W.mg_of
def CS:=@F.entry_str_split
def CQ:=@F.args_str_split_2
def CP:=@ne_true_of_eq_false
def CO:=@F.plainAttrs_str
def CN:=@List.nodup_append
def HI:=@Calls.Name_function_global
def HH:=@entry_tuple_getitem
def HG:=@subscriptTail_builtinR
def HF:=@F.entry_list_append
def HE:=@F.args_list_append_2
def HD:=@List.getElem?_zipIdx
def HC:=@F.slot_tuple_iterator_next
def HB:=@wpAny_updateSeq_pair
def HA:=@List.length_reverse
def Hz:=@List.pairwise_singleton
def Hy:=@List.eq_nil_or_concat
def Hx:=@List.concat_eq_append
def M6:=@List.perm_append_comm
def Hw:=@Heap.get?_update_ne
def Qe:=@List.pairwise_lt_range
def Hv:=@List.filterMap_append
def Hu:=@List.perm_append_singleton
def Ht:=@Array.getElem?_replicate
def Qd:=@Array.mem_toList_iff
def Hs:=@builtinLookup_eq_fast
def Hr:=@List.Perm.append_left
def Hq:=@PySem.F.slot_set_iter
def Ho:=@PySem.F.entry_proto_collect
def Hn:=@PySem.F.plain_proto_collect
def Hm:=@PySem.F.entry_list_iadd
def Hl:=@PySem.F.plain_extend_loop
def Hk:=@codeAny_extend_loopS
def Hj:=@PyProof.Rows.F.entry_set_update_loop
def Hh:=@PySem.F.plain_set_new
def Qc:=@Array.toList_eq_nil_iff
def Hg:=@PySem.F.slot_dict_iter
def Hf:=@PySem.F.entry_dict_keyiterator_next
def He:=@PySem.F.args_dict_keyiterator_next_1
def Hd:=@wpAny_isOneOf_keyiter
def Qb:=@List.getElem?_eq_none_iff
def Hc:=@F.slot_str_partition
def Qa:=@List.mem_iff_getElem?
def Hb:=@List.perm_cons_erase
def Ha:=@List.dropLast_concat_getLast
def G9:=@StrLaws.join_length_le
def G8:=@List.eraseIdx_sublist
end
namespace TT
open PySem
noncomputable def adv(mask:Nat)(p:SetTable.Probe):SetTable.Probe:=
 if p.more>0 then {p with j:=p.j+1,more:=p.more-1} else
 {p with j:=(SetTable.leap mask p.i p.perturb).1,more:=SetTable.runEnd mask (SetTable.leap mask p.i p.perturb).1-(SetTable.leap mask p.i p.perturb).1,i:=(SetTable.leap mask p.i p.perturb).1,perturb:=(SetTable.leap mask p.i p.perturb).2}
noncomputable def stt(mask:Nat)(h:Int):SetTable.Probe:={j:=SetTable.bits h%(mask+1),more:=SetTable.runEnd mask (SetTable.bits h%(mask+1))-SetTable.bits h%(mask+1),i:=SetTable.bits h%(mask+1),perturb:=SetTable.bits h,dummy:=none}
noncomputable def pr(mask:Nat)(h:Int):Nat->SetTable.Probe
 |0=>stt mask h
 |n+1=>adv mask (pr mask h n)
structure TabOk(hs:fN)(t:ke):Prop where
 pow: ∃k,3<=k/\k<=11/\t.mask+1=2^k
 dum:t.dummies= #[]
 len:t.place.size=hs.length
 room:5*hs.length<3*t.mask
 ris:t.place.toList.Pairwise (· < ·)
 bd: ∀j∈t.place.toList,j<=t.mask
 road: ∀(i:Nat) (h:Int) (j:Nat),hs[i]?=some h->t.place[i]?=some j-> ∃n,(pr t.mask h n).j=j/\ ∀m,m<n->(pr t.mask h m).j∈t.place.toList
end TT
namespace L2
open PySem PySem.Spec PyProof.Rows
abbrev Key:=Sum Int Str
noncomputable def xQ:Key->Value->Bool
 | .inl k,v=>Value.isInt k v
 | .inr x,v=>Value.isStrOf x v
noncomputable def T4(w:fL):Key->Int
 | .inl k=>hashInt k
 | .inr x=>hashStr w x
theorem iL: ∀{k:Key} {v:fI},xQ k v=true->(∃i t,k=Sum.inl i/\v=Value.int i t)\/(∃x t,k=Sum.inr x/\v=Value.str x t)
 | .inl i,v,h=>by
  obtain⟨t,e⟩:=Value.isInt_shape (k:=i) (v:=v) h;exact .inl ⟨i,t,rfl,e⟩
 | .inr x,v,h=>by
  obtain⟨t,e⟩:=Value.isStrOf_shape (x:=x) (v:=v) h;exact .inr ⟨x,t,rfl,e⟩
theorem GC(i:Int)(t:Tok):xQ (.inl i) (.int i t)=true:=by simp[xQ,Value.isInt]
theorem GB(x:Str)(t:Tok):xQ (.inr x) (.str x t)=true:=by simp[xQ,Value.isStrOf]
theorem JZ(a b:Int):decide ((Sum.inl a:Key)=Sum.inl b)=(a==b):=by
 by_cases e:a=b
 ·subst e;simp
 ·have h: ¬(Sum.inl a:Key)=Sum.inl b:=fun q=>e (Sum.inl.inj q);rw[kS h];exact(yC.mpr e).symm
theorem JW(a b:Str):decide ((Sum.inr a:Key)=Sum.inr b)=decide (a=b):=by
 by_cases e:a=b
 ·subst e;simp
 ·have h: ¬(Sum.inr a:Key)=Sum.inr b:=fun q=>e (Sum.inr.inj q);rw[kS h,kS e]
theorem JY(a:Int)(b:Str):decide ((Sum.inl a:Key)=Sum.inr b)=false:=kS (fun q=>nomatch q)
theorem JX(a:Str)(b:Int):decide ((Sum.inr a:Key)=Sum.inl b)=false:=kS (fun q=>nomatch q)
noncomputable def jr(prog:fS)(w:fL):PySem.KeyKind prog w Key where
 is:=xQ
 hash:=T4 w
 inj:=fun v a b ha hb=>by
  rcases iL ha with⟨i,t,rfl,rfl⟩|⟨x,t,rfl,rfl⟩
  ·rcases iL hb with⟨j,u,rfl,e⟩|⟨y,u,rfl,e⟩
   ·injection e with e1 _;rw[e1]
   ·exact nomatch e
  ·rcases iL hb with⟨j,u,rfl,e⟩|⟨y,u,rfl,e⟩
   ·exact nomatch e
   ·injection e with e1 _;rw[e1]
 byValue:=fun k v h=>by
  rcases iL h with⟨i,t,rfl,rfl⟩|⟨x,t,rfl,rfl⟩<;>rfl
 pyHash:=fun hv h=>by
  rcases iL hv with⟨i,t,rfl,rfl⟩|⟨x,t,rfl,rfl⟩
  ·exact Dy h
  ·exact wpAny_pyHash_str h
 eqBool:=fun hu hv h=>by
  rcases iL hu with⟨i,t,rfl,rfl⟩|⟨x,t,rfl,rfl⟩
  ·rcases iL hv with⟨j,u,rfl,rfl⟩|⟨y,u,rfl,rfl⟩
   ·rw[JZ] at h;exact wpAny_eqBool_int h
   ·rw[JY] at h;exact SeqAt.EqAt.int_str i t y u _ _ _ _ h
  ·rcases iL hv with⟨j,u,rfl,rfl⟩|⟨y,u,rfl,rfl⟩
   ·rw[JX] at h;exact SeqAt.EqAt.str_int x t j u _ _ _ _ h
   ·rw[JW] at h;exact wpAny_eqBool_str h
 «strs»:=fun k x t v h=>by
  rcases iL h with⟨i,u,rfl,e⟩|⟨y,u,rfl,e⟩
  ·exact nomatch e
  ·injection e with e1 _
   subst e1;cases v<;>rfl
theorem B9(prog:fS)(w:fL)(i:Int)(t:Tok):(jr prog w).is (.inl i) (.int i t)=true:=GC i t
theorem B8(prog:fS)(w:fL)(x:Str)(t:Tok):(jr prog w).is (.inr x) (.str x t)=true:=GB x t
inductive V where
 |non|bl(b:Bool)|int(i:Int)|str(x:Str)|byt(b:Array UInt8)|flt(b:UInt64)|ref(a:eX)|ty(n:String)
 deriving DecidableEq
def RelV:V->Value->Prop
 | .non,u=>u=Value.none
 | .bl b,u=>u=Value.bool b
 | .int i,u=> ∃t,u=Value.int i t
 | .str x,u=> ∃t,u=Value.str x t
 | .byt b,u=> ∃t,u=Value.bytes b t
 | .flt b,u=> ∃t,u=Value.float b t
 | .ref a,u=>u=Value.ref a
 | .ty n,u=>u=Value.type n
abbrev Vals:List V->List Value->Prop:=Paired RelV
theorem Vals.length{xs:List V}{us:gH}(r:Vals xs us):xs.length=us.length:=va r
theorem Vals.get{xs:List V}{us:gH}{i:Nat}{x:V}(h:Vals xs us)(e:xs[i]?=some x): ∃u,us[i]?=some u/\RelV x u:=by
 induction h generalizing i with
 |nil=>simp at e
 |cons r t ih=>
  cases i with
  |zero=>simp at e;subst e;exact⟨_,rfl,r⟩
  |succ i=>simpa using ih (by simpa using e)
theorem Vals.set{x:V}{u:fI}(r:RelV x u): ∀{xs:List V} {us:gH} (i:Nat),Vals xs us->Vals (xs.set i x) (us.set i u)
 |_,_,_,.nil=> .nil
 |_,_,0,.cons _ t=> .cons r t
 |_,_,i+1,.cons q t=> .cons q (Vals.set r i t)
theorem Vals.append{xs ys:List V}{us ws:gH}(h:Vals xs us)(s:Vals ys ws):Vals (xs++ys) (us++ws):=by
 induction h with
 |nil=>exact s
 |cons r t ih=>exact .cons r ih
theorem Vals.take: ∀{xs:List V} {us:gH} (n:Nat),Vals xs us->Vals (xs.take n) (us.take n)
 |_,_,0,_=> .nil
 |_,_,_+1,.nil=> .nil
 |_,_,n+1,.cons r t=> .cons r (Vals.take n t)
theorem Vals.drop: ∀{xs:List V} {us:gH} (n:Nat),Vals xs us->Vals (xs.drop n) (us.drop n)
 |_,_,0,r=>r
 |_,_,_+1,.nil=> .nil
 |_,_,n+1,.cons _ t=>Vals.drop n t
def RelO:Option V->Option Value->Prop
 |some v,some u=>RelV v u
 |none,none=>True
 |_,_=>False
def KV{κ:Type}:List (κ×V)->List (κ×Value)->Prop:=Paired fun(p:κ×V) (q:κ×Value)=>p.1=q.1/\RelV p.2 q.2
noncomputable def kV:Key->V
 | .inl i=> .int i
 | .inr x=> .str x
inductive HO where
 /-- a list -/
 |lst(xs:List V)
 /-- a tuple(never changes) -/
 |tup(xs:List V)
 /-- a dict whose keys are ints and texts;one whose keys are tuples of ints and texts(the empty one is both) -/
 |dK(kvs:List (Key×V))|dT(kvs:List (List Key×V))
 /-- a set of ints:b6 members,b6 size -/
 |set (S:Int->Bool) (n:Nat)
 |stt (zs:List (Int×V))
 /-- an instance of the class at C,b6 dict at dx,b6 attributes -/
 |ins (C dx:eX) (fs:List (Str×V))
 /-- the dict of the instance at x -/
 |own (x:eX)
 /-- the dict of an exception -/
 |xd (fs:List (Str×V))
 /-- a bound method,f of x -/
 |met (f x:eX)
 /-- a range object lo,lo+1,.. below hi -/
 |rng (lo hi:Int)
 /-- a thing that is known to the object (the script;a dict while a loop walks it):read,never written while it is so -/
 |frz (o:Obj) (u:HO)
 /-- a code object's table -/
 |tbl (ps:lq)
 /-- any other thing,by what is true of b6 one object (a def of one's own:SetO a S n:=HO.ext fun h=> ..) -/
 |ext (φ:Heap->Prop)
abbrev Hp:=Addr->Option HO
noncomputable def upd(H:Hp)(a:eX)(o:HO):Hp:=fun b=>if b=a then some o else H b
theorem fX{H:Hp}{a:eX}{o:HO}:upd H a o a=some o:=by unfold upd;rw[fJ rfl]
theorem gi{H:Hp}{a b:eX}{o:HO}(h:b≠a):upd H a o b=H b:=by unfold upd;rw[fR h]
theorem EF{H:Hp}{a:eX}{o u:HO}:upd (upd H a o) a u=upd H a u:=by
 funext b;unfold upd;split<;>rfl
theorem Nk{H:Hp}{a b:eX}{o u:HO}(h:H a=some o)(h':H b=some u)(d:o≠u):a≠b:=by
 intro e;subst e;rw[h] at h';exact d (iz h')
theorem kr{H:Hp}{a b:eX}{o:HO}(h:H a=some o)(h':H b=none):a≠b:=by
 intro e;subst e;rw[h] at h';cases h'
section
variable(P:fS)(w:fL)
def ObjOk(H:Hp)(h:fP)(a:eX):HO->Prop
 | .lst xs=>xs.length<=sizeLine/\ ∃(b6:gH) (n:Nat),Vals xs b6/\h.get? a=some {cls:= .type "list",data:= .seq b6.toArray n}
 | .tup xs=>xs.length<=sizeLine/\ ∃b6:List Value,Vals xs b6/\IsTup h a b6.toArray
 | .dK kvs=>kvs.length<=sizeLine/\(a==sysModules)=false/\ ∃vs,KV kvs vs/\h.DictOf (jr P w) a vs
 | .dT kvs=>kvs.length<=sizeLine/\(a==sysModules)=false/\ ∃xs:List (List Key×Addr×Value),
   Paired (fun(p:List Key×V) (q:List Key×Addr×Value)=>p.1=q.1/\H q.2.1=some (.tup (p.1.map kV))/\RelV p.2 q.2.2) kvs xs/\
   ∃o es ep,h.get? a=some o/\o.ExactDict/\o.data= .dict es ep/\es.toList=xs.map (entryOfKey (tupleKind (jr P w)))/\(xs.map (·.1)).Nodup
 | .set S n=>h.SetOf (intKind P w) a S n
 | .stt zs=> ∃(es:qD) (n:Nat) (t:ke),h.get? a=some {cls:= .type "set",data:= .set es n t}/\Paired (fun(z:Int×V) (e:Int×Value)=>z.1=e.1/\RelV z.2 e.2) zs es.toList/\
   TT.TabOk (zs.map (·.1)) t/\t.plain=true/\t.led=!w.params.followText "set-order"
 | .ins C dx fs=>H dx=some (.own a)/\fs.length<=1000/\dx≠a/\h.get? a=some (PySem.W.instObj C dx)/\
   ∃mA,h.Ns1 dx mA/\(∀f,RelO (fs.lookup f) (mA f))/\PySem.Within mA (fs.map (·.1))
 | .own _=> ∃o,h.get? a=some o
 | .xd fs=> ∃mA,h.Ns1 a mA/\ ∀f,RelO (fs.lookup f) (mA f)
 | .rng lo hi=> ∃t u v,h.get? a=some {cls:= .type "range",data:= .fields #[.int lo t,.int hi u,.int 1 v]}
 | .frz o u=>h.get? a=some o/\ObjOk H h a u
 | .tbl ps=> ∃q t qs,ps[0]?=some (.str q t)/\h.get? a=some {cls:= .none,data:= .fields qs}/\TriplesOk qs.toList/\ ∀pos cv,codeAmong pos qs.toList=some cv-> ∃c ob u vs t,cv= .ref c/\H c=some (.frz ob u)/\ob.data= .fields vs/\vs[1]?=some (.str q t)
 | .met f x=>h.get? a=some (PySem.W.methodObj (.ref f) (.ref x))
 | .ext φ=>φ h/\(∃o,h.get? a=some o)/\ ∀h1 h2:Heap,φ h1->(∀o,h1.get? a=some o->h2.get? a=some o)->φ h2
def HOk(H:Hp)(h:fP):Prop:= ∀a o,H a=some o->ObjOk P w H h a o
end
section
variable {P:fS}{w:fL}{H H':Hp}{h h':fP}{a:eX}{o:HO}
theorem ObjOk.lt(x:ObjOk P w H h a o):a<h.objs.size:=by
 cases o with
 |lst xs=>obtain⟨_,_,_,_,e⟩:=x;exact ie e
 |tup xs=>obtain⟨_,_,_,p⟩:=x;exact p.lt
 |dK kvs=>obtain⟨_,_,_,_,o,_,_,e,_⟩:=x;exact ie e
 |dT kvs=>obtain⟨_,_,_,_,o,_,_,e,_⟩:=x;exact ie e
 |set S n=>obtain⟨o,_,_,_,e,_⟩:=x;exact ie e
 |stt zs=>obtain⟨_,_,_,e,_⟩:=x;exact ie e
 |ins C dx fs=>obtain⟨_,_,_,e,_⟩:=x;exact ie e
 |own y=>obtain⟨_,e⟩:=x;exact ie e
 |xd fs=>obtain⟨_,⟨_,_,_,e,_⟩,_⟩:=x;exact ie e
 |rng lo hi=>obtain⟨_,_,_,e⟩:=x;exact ie e
 |frz ob u=>obtain⟨e,_⟩:=x;exact ie e
 |tbl ps=>obtain⟨_,_,_,_,e,_⟩:=x;exact ie e
 |met f y=>exact ie (show h.get? a=some _ from x)
 |ext φ=>obtain⟨_,⟨_,e⟩,_⟩:=x;exact ie e
theorem Paired.mapP{α β:Type}{F G:α->β->Prop}{l₁:List α}{l₂:List β}(h:Paired F l₁ l₂)(f: ∀a b,F a b->G a b):Paired G l₁ l₂:=by
 induction h with
 |nil=>exact .nil
 |cons r t ih=>exact .cons (f _ _ r) ih
theorem ObjOk.stay(x:ObjOk P w H h a o)(k: ∀b u,(b=a\/H b=some (.own a))->h.get? b=some u->h'.get? b=some u)
  (ho: ∀b,H b=some (.own a)->H' b=some (.own a))(ht: ∀b xs,H b=some (.tup xs)->H' b=some (.tup xs))(hz: ∀b ob u,H b=some (.frz ob u)->H' b=some (.frz ob u):=by exact fun _ _ _ q=>q):ObjOk P w H' h' a o:=by
 induction o with
 |lst xs=>obtain⟨z,b6,n,r,e⟩:=x;exact⟨z,b6,n,r,k _ _ (.inl rfl) e⟩
 |tup xs=>obtain⟨z,b6,r,ob,e,c⟩:=x;exact⟨z,b6,r,ob,k _ _ (.inl rfl) e,c⟩
 |dK kvs=>obtain⟨z,y,vs,r,ob,es,ep,e,c⟩:=x;exact⟨z,y,vs,r,ob,es,ep,k _ _ (.inl rfl) e,c⟩
 |dT kvs=>
  obtain⟨z,y,xs,r,ob,es,ep,e,c⟩:=x;exact⟨z,y,xs,Paired.mapP r fun p q z=>⟨z.1,ht _ _ z.2.1,z.2.2⟩,ob,es,ep,k _ _ (.inl rfl) e,c⟩
 |set S n=>obtain⟨ob,es,ep,t,e,c⟩:=x;exact⟨ob,es,ep,t,k _ _ (.inl rfl) e,c⟩
 |stt zs=>obtain⟨es,n,t,e,c⟩:=x;exact⟨es,n,t,k _ _ (.inl rfl) e,c⟩
 |ins C dx fs=>
  obtain⟨d,z,ne,e,mA,⟨od,es,ep,e2,c⟩,r⟩:=x;exact⟨ho _ d,z,ne,k _ _ (.inl rfl) e,mA,⟨od,es,ep,k _ _ (.inr d) e2,c⟩,r⟩
 |own y=>obtain⟨ob,e⟩:=x;exact⟨ob,k _ _ (.inl rfl) e⟩
 |xd fs=>obtain⟨mA,⟨od,es,ep,e,c⟩,r⟩:=x;exact⟨mA,⟨od,es,ep,k _ _ (.inl rfl) e,c⟩,r⟩
 |rng lo hi=>obtain⟨t,u,v,e⟩:=x;exact⟨t,u,v,k _ _ (.inl rfl) e⟩
 |frz ob u ih=>obtain⟨e,q⟩:=x;exact⟨k _ _ (.inl rfl) e,ih q⟩
 |tbl ps=>obtain⟨q,t,qs,e0,e,tr,m⟩:=x;exact⟨q,t,qs,e0,k _ _ (.inl rfl) e,tr,fun pos cv z=>let⟨c,ob,u,vs,t,h1,h2,h3⟩:=m pos cv z;⟨c,ob,u,vs,t,h1,hz _ _ _ h2,h3⟩⟩
 |met f y=>
  have e:h.get? a=some (PySem.W.methodObj (.ref f) (.ref y)):=x;show h'.get? a=some (PySem.W.methodObj (.ref f) (.ref y));exact k a _ (.inl rfl) e
 |ext φ=>obtain⟨p,⟨o,e⟩,st⟩:=x;exact⟨st _ _ p fun o q=>k _ _ (.inl rfl) q,⟨o,k _ _ (.inl rfl) e⟩,st⟩
theorem HOk.lt(x:HOk P w H h)(e:H a=some o):a<h.objs.size:=(x a o e).lt
theorem HOk.fresh(x:HOk P w H h)(e:h.objs.size<=a):H a=none:=by
 cases q:H a with
 |none=>rfl
 |some u=>exact absurd (lI (x.lt q) e) (nE _)
theorem HOk.kept(x:HOk P w H h)(k: ∀b u,h.get? b=some u->h'.get? b=some u):HOk P w H h':=fun a o e=>
 (x a o e).stay (fun b u _ q=>k b u q) (fun _ q=>q) fun _ _ q=>q
theorem HOk.laid(x:HOk P w H h)(k: ∀b u,h.get? b=some u->h'.get? b=some u)(hp:h.objs.size<=a)(new:ObjOk P w (upd H a o) h' a o):HOk P w (upd H a o) h':=fun b u e=>by
 have hn:=x.fresh hp;by_cases hb:b=a
 ·subst hb;rw[fX] at e;cases e;exact new
 ·rw[gi hb] at e;exact(x b u e).stay (fun c v _ q=>k c v q) (fun c q=>by rw[gi (kr q hn)];exact q) (fun c xs q=>by rw[gi (kr q hn)];exact q) fun c _ _ q=>by rw[gi (kr q hn)];exact q
end
def Rd(H:Hp)(a:eX)(u:HO):Prop:=H a=some u\/ ∃o,H a=some (.frz o u)
theorem Rd.ok{P:fS}{w:fL}{H:Hp}{h:fP}{a:eX}{u:HO}(r:Rd H a u)(x:HOk P w H h):ObjOk P w H h a u:=by
 rcases r with r|⟨o,r⟩
 ·exact x a u r
 ·obtain⟨_,q⟩:=x a _ r;exact q
def Mut:Option HO->Prop
 |some (.lst _)=>True
 |some (.dK _)=>True
 |some (.dT _)=>True
 |some (.set _ _)=>True
 |some (.stt _)=>True
 |some (.ins _ _ _)=>True
 |some (.ext _)=>True
 |_=>False
section
variable {P:fS}{w:fL}{H:Hp}{h h':fP}{x e:eX}{o':HO}
theorem HOk.write(ok:HOk P w H h)(mu:Mut (H x))(he:e=x\/H e=some (.own x))(k: ∀b u,b≠e->h.get? b=some u->h'.get? b=some u)(bW: ∃u,h'.get? e=some u)
  (new:ObjOk P w (upd H x o') h' x o'):HOk P w (upd H x o') h':=fun b u q=>by
 have nown: ∀c y,H c=some (.own y)->c≠x:=fun c y r z=>by subst z;rw[r] at mu;exact mu
 have ntup: ∀c xs,H c=some (.tup xs)->c≠x:=fun c xs r z=>by subst z;rw[r] at mu;exact mu
 by_cases hb:b=x
 ·subst hb;rw[fX] at q;cases q;exact new
 ·rw[gi hb] at q;by_cases bK:b=e
  ·have q':H b=some (.own x):=by
    rcases he with z|z
    ·exact absurd (bK.trans z) hb
    ·rw[bK];exact z
   rw[q] at q';cases q';obtain⟨v,hv⟩:=bW;exact⟨v,by rw[bK];exact hv⟩
  ·refine(ok b u q).stay (fun c v hc r=>k c v ?_ r) (fun c r=>by rw[gi (nown c b r)];exact r) (fun c xs r=>by rw[gi (ntup c xs r)];exact r) fun c _ _ r=>by rw[gi (fun z=>by subst z;rw[r] at mu;exact mu)];exact r
   rcases hc with rfl|hc
   ·exact bK
   ·rintro rfl;rcases he with z|z
    ·exact nown c b hc z
    ·rw[hc] at z;cases z;exact hb rfl
end
structure Un(fs ex:ig)(H H':Hp)(h h':fP):Prop where
 keep: ∀b o,h.get? b=some o->H b=none->b∉fs->b∉ex->h'.get? b=some o
 slot: ∀b o,h.get? b=some o->H b=none->b∈fs->b∉ex-> ∃sl,h'.get? b=some {o with slots:=sl}
 free: ∀b o,h.get? b=some o->H b=none->b∉ex->H' b=none
 there: ∀b o,h.get? b=some o->b∉ex-> ∃o',h'.get? b=some o'
 tups: ∀b xs,H b=some (.tup xs)->H' b=some (.tup xs)
 frzs: ∀b o u,H b=some (.frz o u)->H' b=some (.frz o u)
 tbls: ∀b ps,H b=some (.tbl ps)-> ∃more,H' b=some (.tbl (ps++more))
section
variable {fs eI ex ex':ig}{H H1 H2:Hp}{h h1 h2 h':fP}{a x e:eX}{o:HO}
theorem Un.any(u:Un fs ex H H1 h h1){b:eX}{ob:Obj}(q:h.get? b=some ob)(n:H b=none)(hx:b∉ex): ∃sl,h1.get? b=some {ob with slots:=sl}:=by
 by_cases hb:b∈fs
 ·exact u.slot b ob q n hb hx
 ·exact⟨ob.slots,u.keep b ob q n hb hx⟩
theorem Un.kept(k: ∀b u,h.get? b=some u->h'.get? b=some u):Un fs ex H H h h':=
 ⟨fun b ob q _ _ _=>k b ob q,fun b ob q _ _ _=>⟨ob.slots,k b ob q⟩,fun _ _ _ n _=>n,fun b ob q _=>⟨ob,k b ob q⟩,fun _ _ q=>q,fun _ _ _ q=>q,fun _ ps q=>⟨#[],by rw[q];simp⟩⟩
theorem Un.refl:Un fs ex H H h h:=Un.kept fun _ _ q=>q
theorem Un.laid(k: ∀b u,h.get? b=some u->h'.get? b=some u)(hp:h.objs.size<=a)(hn:H a=none):Un fs ex H (upd H a o) h h' where
 keep:=fun b u q _ _ _=>k b u q
 slot:=fun b u q _ _ _=>⟨u.slots,k b u q⟩
 free:=fun b u q n _=>by rw[gi (gE (lI (ie q) hp))];exact n
 there:=fun b u q _=>⟨u,k b u q⟩
 tups:=fun b xs q=>by rw[gi (kr q hn)];exact q
 frzs:=fun b u xs q=>by rw[gi (kr q hn)];exact q
 tbls:=fun b ps q=>⟨#[],by rw[gi (kr q hn),q];simp⟩
theorem Un.write(mu:Mut (H x))(he:e=x\/H e=some (.own x))(k: ∀b u,b≠e->h.get? b=some u->h'.get? b=some u)(bW: ∃u,h'.get? e=some u):Un fs ex H (upd H x o) h h':=by
 have hx: ∀b,H b=none->b≠x:=fun b n z=>by subst z;rw[n] at mu;exact mu
 have hb: ∀b,H b=none->b≠e:=fun b n z=>by
  subst z;rcases he with r|r
  ·exact hx b n r
  ·rw[n] at r;cases r
 have hm: ∀b u,H b=some u-> ¬Mut (some u)->b≠x:=fun b u q nm z=>by subst z;rw[q] at mu;exact nm mu
 refine⟨fun b u q n _ _=>k b u (hb b n) q,fun b u q n _ _=>⟨u.slots,k b u (hb b n) q⟩,fun b u q n _=>by rw[gi (hx b n)];exact n,fun b u q _=>?_,
  fun b xs q=>by rw[gi (hm b _ q fun z=>z)];exact q,fun b u xs q=>by rw[gi (hm b _ q fun z=>z)];exact q,fun b ps q=>⟨#[],by rw[gi (hm b _ q fun z=>z),q];simp⟩⟩
 by_cases bK:b=e
 ·subst bK;exact bW
 ·exact⟨u,k b u bK q⟩
end
noncomputable def trk(h:fP)(H:Hp):List Addr:=(List.range h.objs.size).filter fun a=>(H a).isSome
noncomputable def Bc(h:fP)(H:Hp):Heap:=PySem.W.hideAll h (trk h H)
theorem GI(h:fP)(H:Hp):(Bc h H).objs.size=h.objs.size:=PySem.W.hideAll_size _ _
theorem Ke{h:fP}{H:Hp}{b:eX}{o:Obj}(e:h.get? b=some o)(n:H b=none):(Bc h H).get? b=some o:=
 PySem.W.hideAll_get _ e fun hm=>by
  have q:(H b).isSome=true:=(List.mem_filter.mp hm).2;rw[n] at q;simp at q
theorem Mq{h:fP}{H:Hp}{b:eX}{o:Obj}(e:(Bc h H).get? b=some o):h.get? b=some o/\H b=none:=by
 have e':h.get? b=some o:=PySem.W.of_hideAll (trk h H) e;refine⟨e',?_⟩
 cases q:H b with
 |none=>rfl
 |some x=>
  have hm:b∈trk h H:=List.mem_filter.mpr ⟨qE.mpr (ie e'),by simp[q]⟩;have z:(Bc h H).get? b=none:=PySem.W.hideAll_none (trk h H) hm;rw[z] at e;cases e
noncomputable def MW(g h:fP)(L:eX):List (Addr×Obj):=(List.range h.objs.size).filterMap fun a=>if a=L\/(g.get? a).isSome=true then none else(h.get? a).map fun o=>(a,o)
noncomputable def fY(g h:fP)(L d:eX):List (Addr×Obj):=(MW g h L).filter fun p=>decide (p.1≠d)
structure Mod(K:fO)(mg:jY)(base:fP):Prop where
 kin:K.In base
 glob:base.Ns mainGlobals mg
 blt: ∃mb,base.Ns builtinsNs mb/\ ∀x:Str,x≠"__name__"->mb x=bootBuiltins x
 nolimit:base.NoLimit
structure Cx where
 prog:Program
 w:World
 K:PySem.W.Frag
 mg:Str->Option Value
 base:Heap
 A:Around
 N:List Str
 s₀:Shared
 H₀:Hp
 env:Env
 outer:List Env
 stack:List Env
 ex:List Addr
 fn:Str->Bool
 calm:Bool
 pn:List (Addr×Obj)
 xe:Value->Shared->Prop
noncomputable def frs(l:List Env):List Addr:=l.filterMap (·.frame)
abbrev Cx.fs(X:Cx):List Addr:=frs X.outer
def Vis(sc:hJ)(x:Str):Prop:=sc.names.lookup x=some .local\/sc.names.lookup x=some .cell\/sc.names.lookup x=some .free
def Loc(sc:hJ)(x:Str):Prop:=sc.names.lookup x=some .local\/sc.names.lookup x=some .cell
def Uk(env:Env)(h:fP)(m:jY)(x:Str)(u:fI):Prop:=
 (env.kindOf x=some .local/\m x=some u)\/((env.kindOf x=some .cell\/env.kindOf x=some .free)/\ ∃c,env.cells.lookup x=some c/\h.IsCell c (some u))
structure Cx.Ok(X:Cx):Prop where
 mod:Mod X.K X.mg X.base
 kind:X.env.scope.kind= .function
 glob:X.env.globals=mainGlobals
 blt:X.env.builtins=builtinsNs
 above:X.s₀.heap.objs.size<=X.env.locals
 inj: ∀x y c,X.env.cells.lookup x=some c->X.env.cells.lookup y=some c->x=y
 has: ∀x,(X.env.kindOf x=some .cell\/X.env.kindOf x=some .free)-> ∃c,X.env.cells.lookup x=some c
 cab: ∀x c,X.fn x=true->X.env.cells.lookup x=some c->X.s₀.heap.objs.size<=c
 hd:X.calm=true->X.A.handled=none
 frames:X.A.frames=some X.stack
 stk:X.stack=X.outer\/(X.stack=X.env::X.outer/\X.env.frame=some X.env.locals)
 exf: ∀b∈X.ex,b≠X.env.locals/\ ∀x c,X.env.cells.lookup x=some c->c≠b
 bs: ∀b o,X.base.get? b=some o->X.s₀.heap.get? b=some o/\X.H₀ b=none
 bsz:X.base.objs.size<=X.s₀.heap.objs.size
 noex: ∀b o,X.base.get? b=some o->b∉X.ex
 exfs: ∀b∈X.ex,b∉X.fs
 funs:X.s₀.heap.FunFrames X.base X.outer
 frf: ∀b∈X.fs,X.H₀ b=none
structure Inv(X:Cx)(pins:gc)(σ:List (Option V))(H:Hp)(s:eZ):Prop where
 ok:X.Ok
 os:s.os=X.s₀.os
 bare:AllBare s.gens
 base:Un X.fs X.ex X.H₀ H X.s₀.heap s.heap
 loc: ∃m,s.heap.Ns X.env.locals m/\ ∀(i:Nat) (x:Str) (v:V),X.N[i]?=some x->σ[i]?=some (some v)->Vis X.env.scope x-> ∃u,RelV v u/\Uk X.env s.heap m x u
 cell: ∀x c,X.env.cells.lookup x=some c-> ∃v,s.heap.IsCell c v
 free:H X.env.locals=none
 freeC: ∀x c,X.env.cells.lookup x=some c->H c=none
 pin: ∀p∈X.pn++pins,s.heap.get? p.1=some p.2/\H p.1=none/\p.1≠X.env.locals/\p.1∉X.fs/\ ∀v,p.2.data≠ .cell v
 hok:HOk X.prog X.w H s.heap
 len:σ.length=X.N.length
section
variable {X:Cx}{pins:gc}{σ:List (Option V)}{H H':Hp}{s:eZ}{h':fP}
theorem Cx.Ok.nofr(ok:X.Ok){b:eX}{o:Obj}(e:X.base.get? b=some o):b∉X.fs:=fun hb=>by
 have:=(ok.funs.mem hb).1;rw[e] at this;cases this
theorem Inv.bs(I:Inv X pins σ H s): ∀b o,X.base.get? b=some o->s.heap.get? b=some o/\H b=none:=fun b o e=>
 ⟨I.base.keep b o (I.ok.bs b o e).1 (I.ok.bs b o e).2 (I.ok.nofr e) (I.ok.noex b o e),I.base.free b o (I.ok.bs b o e).1 (I.ok.bs b o e).2 (I.ok.noex b o e)⟩
theorem Inv.bk(I:Inv X pins σ H s): ∀b o,X.base.get? b=some o->s.heap.get? b=some o:=fun b o e=>(I.bs b o e).1
theorem Inv.mod(I:Inv X pins σ H s):Mod X.K X.mg X.base:=I.ok.mod
theorem Inv.kIn(I:Inv X pins σ H s):X.K.In s.heap:=I.ok.mod.kin.keeps I.bk
theorem Inv.lt(I:Inv X pins σ H s):X.env.locals<s.heap.objs.size:=let⟨_,hn,_⟩:=I.loc;hn.lt
theorem Inv.sz(I:Inv X pins σ H s):X.s₀.heap.objs.size<=s.heap.objs.size:=mH I.ok.above (uZ I.lt)
theorem Inv.nofs(I:Inv X pins σ H s){a:eX}(h:s.heap.objs.size<=a):a∉X.fs:=fun hb=>by
 obtain⟨_,o,ho,_⟩:=I.ok.funs.mem hb;exact absurd (lI (ie ho) (mH I.sz h)) (nE _)
theorem Inv.cne(I:Inv X pins σ H s): ∀x c,X.env.cells.lookup x=some c->c≠X.env.locals:=fun x c e z=>by
 obtain⟨v,o,ho,hd⟩:=I.cell x c e;obtain⟨m,⟨o',es,ep,s9,bH,_⟩,_⟩:=I.loc;rw[z,s9] at ho;cases ho;rw[bH] at hd;cases hd
theorem Inv.funs(I:Inv X pins σ H s):s.heap.FunFrames X.base X.outer:=by
 have all: ∀(l:List Env),(∀b∈frs l,b∈X.fs)->X.s₀.heap.FunFrames X.base l->s.heap.FunFrames X.base l:=by
  intro l
  induction l with
  |nil=>intro _ _;trivial
  |cons env r ih=>
   intro hs hl;obtain⟨hk,⟨L,o,hf,hn,ho,hd⟩,hr⟩:=hl;have hL:L∈X.fs:=hs L (by unfold frs;rw[tJ,hf];exact gY);obtain⟨sl,e⟩:=I.base.slot L o ho (I.ok.frf L hL) hL fun z=>I.ok.exfs L z hL;exact⟨hk,⟨L,_,hf,hn,e,hd⟩,ih (fun b hb=>hs b (by unfold frs;rw[tJ,hf];exact gX _ hb)) hr⟩
 exact all X.outer (fun _ hb=>hb) I.ok.funs
theorem Inv.stack(I:Inv X pins σ H s):s.heap.FunFrames X.base X.stack:=by
 rcases I.ok.stk with e|⟨e,hf⟩
 ·rw[e];exact I.funs
 ·rw[e];obtain⟨m,hn,_⟩:=I.loc;refine .cons (by rw[I.ok.kind];decide) hf hn ?_ I.funs;exact Heap.get?_none_of_le (mH I.ok.bsz I.ok.above)
theorem Inv.stkSub(I:Inv X pins σ H s): ∀b∈frs X.stack,b∈X.env.locals::X.fs:=fun b hb=>by
 rcases I.ok.stk with e|⟨e,hf⟩
 ·rw[e] at hb;exact gX _ hb
 ·rw[e] at hb;unfold frs at hb;rw[tJ,hf] at hb;exact hb
theorem Inv.stkFree(I:Inv X pins σ H s): ∀b∈frs X.stack,H b=none:=fun b hb=>by
 rcases iY.mp (I.stkSub b hb) with e|hb
 ·rw[e];exact I.free
 ·obtain⟨_,o,ho,_⟩:=I.ok.funs.mem hb;exact I.base.free b o ho (I.ok.frf b hb) fun z=>I.ok.exfs b z hb
theorem Inv.step{g':Array GenState}{t':Nat}{d':Drawn}{ch:ig}(I:Inv X pins σ H s)
  (aE: ∀b∈ch,(b∈X.ex\/X.s₀.heap.objs.size<=b)/\b≠X.env.locals/\(∀x c,X.env.cells.lookup x=some c->c≠b)/\ ∀p∈X.pn++pins,p.1≠b)
  (keep: ∀b o,b≠X.env.locals->b∉X.fs->b∉ch->s.heap.get? b=some o->H b=none->h'.get? b=some o)
  (slot: ∀b o,b≠X.env.locals->b∈X.fs->b∉ch->s.heap.get? b=some o->H b=none-> ∃sl,h'.get? b=some {o with slots:=sl})(free: ∀b o,b∉ch->s.heap.get? b=some o->H b=none->H' b=none)
  (there: ∀b o,b∉ch->s.heap.get? b=some o-> ∃o',h'.get? b=some o')
  (tups: ∀b xs,H b=some (.tup xs)->H' b=some (.tup xs))(frzs: ∀b o u,H b=some (.frz o u)->H' b=some (.frz o u))(tbls: ∀b ps,H b=some (.tbl ps)-> ∃more,H' b=some (.tbl (ps++more)))
  (ns: ∀m,s.heap.Ns X.env.locals m->h'.Ns X.env.locals m)(hok:HOk X.prog X.w H' h')(hg:AllBare g'):
  Inv X pins σ H' {s with heap:=h',gens:=g',drawn:=d',toks:=t'}:=by
 have neL: ∀b o,X.s₀.heap.get? b=some o->b≠X.env.locals:=fun b o e=>gE (lI (ie e) I.ok.above)
 have cZ: ∀b o,X.s₀.heap.get? b=some o->b∉X.ex->b∉ch:=fun b o e hx hb=>by
  rcases(aE b hb).1 with z|z
  ·exact hx z
  ·exact absurd (lI (ie e) z) (nE _)
 have cellK: ∀x c,X.env.cells.lookup x=some c-> ∀v,s.heap.IsCell c v->h'.IsCell c v:=fun x c e v ⟨o,ho,hd⟩=>by
  have ae:c∉ch:=fun z=>(aE c z).2.2.1 x c e rfl;by_cases hc:c∈X.fs
  ·obtain⟨sl,q⟩:=slot c o (I.cne x c e) hc ae ho (I.freeC x c e);exact⟨_,q,hd⟩
  ·exact⟨o,keep c o (I.cne x c e) hc ae ho (I.freeC x c e),hd⟩
 refine⟨I.ok,I.os,hg,⟨fun b o e n hb hx=>?_,fun b o e n hb hx=>?_,fun b o e n hx=>?_,fun b o e hx=>?_,fun b xs e=>tups b xs (I.base.tups b xs e),fun b o xs e=>frzs b o xs (I.base.frzs b o xs e),fun b ps e=>?_⟩,?_,fun x c e=>?_,?_,fun x c e=>?_,fun p hp=>?_,hok,I.len⟩
 ·exact keep b o (neL b o e) hb (cZ b o e hx) (I.base.keep b o e n hb hx) (I.base.free b o e n hx)
 ·obtain⟨sl,e1⟩:=I.base.slot b o e n hb hx;obtain⟨sl',e2⟩:=slot b _ (neL b o e) hb (cZ b o e hx) e1 (I.base.free b o e n hx);exact⟨sl',e2⟩
 ·obtain⟨o',e1⟩:=I.base.there b o e hx;exact free b o' (cZ b o e hx) e1 (I.base.free b o e n hx)
 ·obtain⟨o',e1⟩:=I.base.there b o e hx;exact there b o' (cZ b o e hx) e1
 ·obtain⟨m1,e1⟩:=I.base.tbls b ps e;obtain⟨m2,e2⟩:=tbls b _ e1;exact⟨m1++m2,by rw[e2,Array.append_assoc]⟩
 ·obtain⟨m,hn,hl⟩:=I.loc;refine⟨m,ns m hn,fun i x v e1 e2 e3=>?_⟩;obtain⟨u,r,l⟩:=hl i x v e1 e2 e3;refine⟨u,r,?_⟩;rcases l with l|⟨k,c,e,z⟩
  ·exact .inl l
  ·exact .inr ⟨k,c,e,cellK x c e _ z⟩
 ·obtain⟨v,z⟩:=I.cell x c e;exact⟨v,cellK x c e v z⟩
 ·obtain⟨m,⟨o,_,_,ho,_⟩,_⟩:=I.loc;exact free _ o (fun z=>(aE _ z).2.1 rfl) ho I.free
 ·obtain⟨v,o,ho,hd⟩:=I.cell x c e;exact free c o (fun z=>(aE c z).2.2.1 x c e rfl) ho (I.freeC x c e)
 ·obtain⟨e,n,ne,nf,d⟩:=I.pin p hp;have ae:p.1∉ch:=fun z=>(aE p.1 z).2.2.2 p hp rfl;exact⟨keep p.1 p.2 ne nf ae e n,free p.1 p.2 ae e n,ne,nf,d⟩
theorem Inv.un{t':Nat}(I:Inv X pins σ H s)(u:Un X.fs [] H H' s.heap h')(hok:HOk X.prog X.w H' h'):Inv X pins σ H' {s with heap:=h',toks:=t'}:=by
 obtain⟨m,⟨o,es,ep,ho,r⟩,_⟩:=id I.loc;obtain⟨sl,hL⟩:=u.any ho I.free (by simp)
 exact I.step (g':=s.gens) (d':=s.drawn) (ch:=[]) (fun _ z=>nomatch z) (fun b o _ hb _ e n=>u.keep b o e n hb (by simp)) (fun b o _ hb _ e n=>u.slot b o e n hb (by simp)) (fun b o _ e n=>u.free b o e n (by simp)) (fun b o _ e=>u.there b o e (by simp)) u.tups u.frzs u.tbls (fun m' hm=>by
  obtain⟨o',es',eL,s9,r'⟩:=hm;rw[ho] at s9;cases s9;exact⟨_,es',eL,hL,r'⟩) hok I.bare
theorem Inv.call{g':Array GenState}{t':Nat}{d':Drawn}{ch:ig}(I:Inv X pins σ H s)(u:Un (frs X.stack) ch H H' s.heap h')(hok:HOk X.prog X.w H' h')(hg:AllBare g')
  (aE: ∀b∈ch,(b∈X.ex\/X.s₀.heap.objs.size<=b)/\b≠X.env.locals/\(∀x c,X.env.cells.lookup x=some c->c≠b)/\ ∀p∈X.pn++pins,p.1≠b):
  Inv X pins σ H' {s with heap:=h',gens:=g',drawn:=d',toks:=t'}:=by
 obtain⟨m,⟨o,es,ep,ho,r⟩,_⟩:=id I.loc;obtain⟨sl,hL⟩:=u.any ho I.free fun z=>(aE _ z).2.1 rfl
 exact I.step (ch:=ch) aE (fun b o hL hb hc e n=>u.keep b o e n (fun z=>(iY.mp (I.stkSub b z)).elim hL hb) hc) (fun b o _ _ hc e n=>u.any e n hc) (fun b o hc e n=>u.free b o e n hc) (fun b o hc e=>u.there b o e hc) u.tups u.frzs u.tbls (fun m' hm=>by
  obtain⟨o',es',eL,s9,r'⟩:=hm;rw[ho] at s9;cases s9;exact⟨_,es',eL,hL,r'⟩) hok hg
theorem Inv.turned{t':Nat}{it:eX}(I:Inv X pins σ H s)(k: ∀b o,b≠it->s.heap.get? b=some o->h'.get? b=some o)(hn:H it=none)(hL:it≠X.env.locals)
  (h1:it∈X.ex\/X.s₀.heap.objs.size<=it)(h2: ∀x c,X.env.cells.lookup x=some c->c≠it)(h3: ∀p∈X.pn++pins,p.1≠it):Inv X pins σ H {s with heap:=h',toks:=t'}:=by
 have nit: ∀b u,H b=some u->b≠it:=fun b u e z=>by rw[z,hn] at e;cases e
 refine I.step (g':=s.gens) (d':=s.drawn) (ch:=[it]) (fun b hb=>?_) (fun b o _ _ hc e _=>k b o (fun z=>hc (by simp[z])) e) (fun b o _ _ hc e _=>⟨o.slots,k b o (fun z=>hc (by simp[z])) e⟩) (fun _ _ _ _ n=>n)
  (fun b o hc e=>⟨o,k b o (fun z=>hc (by simp[z])) e⟩) (fun _ _ e=>e) (fun _ _ _ e=>e) (fun b ps e=>⟨#[],by rw[e];simp⟩) (fun m hm=>?_) (fun b u e=>?_) I.bare
 ·have e:b=it:=by simpa using hb
  subst e;exact⟨h1,hL,h2,h3⟩
 ·obtain⟨o,es,ep,ho,r⟩:=hm;exact⟨o,es,ep,k _ o (kR hL) ho,r⟩
 ·refine(I.hok b u e).stay (fun c v hc q=>k c v ?_ q) (fun _ q=>q) fun _ _ q=>q;rcases hc with z|z
  ·rw[z];exact nit b u e
  ·exact nit c _ z
theorem Inv.tok(I:Inv X pins σ H s)(t:Nat):Inv X pins σ H {s with toks:=t}:=I.un (h':=s.heap) (t':=t) Un.refl I.hok
theorem Inv.kept{t':Nat}(I:Inv X pins σ H s)(k: ∀b u,s.heap.get? b=some u->h'.get? b=some u):Inv X pins σ H {s with heap:=h',toks:=t'}:=I.un (Un.kept k) (I.hok.kept k)
theorem Inv.laid{a:eX}{o:HO}{t':Nat}(I:Inv X pins σ H s)(k: ∀b u,s.heap.get? b=some u->h'.get? b=some u)(hp:s.heap.objs.size<=a)(new:ObjOk X.prog X.w (upd H a o) h' a o):
  Inv X pins σ (upd H a o) {s with heap:=h',toks:=t'}:=I.un (Un.laid k hp (I.hok.fresh hp)) (I.hok.laid k hp new)
theorem Inv.write{x e:eX}{o:HO}{t':Nat}(I:Inv X pins σ H s)(mu:Mut (H x))(he:e=x\/H e=some (.own x))(k: ∀b u,b≠e->s.heap.get? b=some u->h'.get? b=some u)(bW: ∃u,h'.get? e=some u)
  (new:ObjOk X.prog X.w (upd H x o) h' x o):Inv X pins σ (upd H x o) {s with heap:=h',toks:=t'}:=I.un (Un.write mu he k bW) (I.hok.write mu he k bW new)
theorem Inv.pins_of{pins':gc}(I:Inv X pins σ H s)(h: ∀p∈pins',s.heap.get? p.1=some p.2/\H p.1=none/\p.1≠X.env.locals/\p.1∉X.fs/\ ∀v,p.2.data≠ .cell v):Inv X pins' σ H s:=
 ⟨I.ok,I.os,I.bare,I.base,I.loc,I.cell,I.free,I.freeC,fun p hp=>(nF.mp hp).elim (fun z=>I.pin p (Aw _ z)) (h p),I.hok,I.len⟩
theorem B7{N:fV}(hN:N.Nodup){i j:Nat}{x:Str}(a:N[i]?=some x)(b:N[j]?=some x):i=j:=by
 obtain⟨h1,e1⟩:=sN.mp a;obtain⟨h2,e2⟩:=sN.mp b;exact(List.getElem_inj hN).mp (e1.trans e2.symm)
theorem FY{M:Model}{A:fQ}{E:gm}{i:Nat}{x:Str}{v:V}{u:fI}{Q:Unit->Shared->Prop}(I:Inv X pins σ H s)(hN:X.N.Nodup)(hi:X.N[i]?=some x)(hx:Loc X.env.scope x)(r:RelV v u)
  (h: ∀s',Inv X pins (σ.set i (some v)) H s'->(∃a,Heap.SameBut a s.heap s'.heap/\(a=X.env.locals\/X.env.cells.lookup x=some a))->Q () s')(hf:X.fn x=true\/X.env.scope.names.lookup x=some .local:=by first|exact .inl rfl|exact .inr rfl|assumption):wpAny M A (storeName X.env x u) Q E s:=by
 obtain⟨m,hn,hl⟩:=id I.loc;have hcls:(X.env.scope.kind== .class||(X.env.scope.kind== .module&&X.env.locals !=X.env.globals))=false:=by rw[I.ok.kind];rfl
 have hiσ:i<σ.length:=by rw[I.len];exact(sN.mp hi).1
 have cne:=I.cne
 have tracked: ∀{a:eX} {h':fP},(∃o,s.heap.get? a=some o/\H a=none)->Heap.SameBut a s.heap h'->HOk X.prog X.w H h':=fun {a h'} ha hs b ob e=>by
  obtain⟨_,_,l6⟩:=ha;refine(I.hok b ob e).stay (fun c w' hc q=>(hs.2 c ?_).trans q) (fun _ q=>q) fun _ _ q=>q;rintro rfl;rcases hc with rfl|hc
  ·rw[l6] at e;cases e
  ·rw[l6] at hc;cases hc
 rcases hx with hk|hk
 ·refine wpAny_storeName_local hk hn (fun h' cE hs=>?_) hcls;obtain⟨oL,_,_,hoL,_⟩:=id hn;refine h _ ⟨I.ok,I.os,I.bare,⟨fun b o e n hb hx=>?_,fun b o e n hb hx=>?_,I.base.free,fun b o e hx=>?_,I.base.tups,I.base.frzs,I.base.tbls⟩,⟨_,cE,fun j y v' e1 e2 e3=>?_⟩,fun y c e=>?_,I.free,I.freeC,fun p hp=>?_,tracked ⟨oL,hoL,I.free⟩ hs,by simpa using I.len⟩ ⟨_,hs,.inl rfl⟩
  ·exact(hs.2 b (gE (lI (ie e) I.ok.above))).trans (I.base.keep b o e n hb hx)
  ·obtain⟨sl,e1⟩:=I.base.slot b o e n hb hx;exact⟨sl,(hs.2 b (gE (lI (ie e) I.ok.above))).trans e1⟩
  ·obtain⟨o',e1⟩:=I.base.there b o e hx;exact⟨o',(hs.2 b (gE (lI (ie e) I.ok.above))).trans e1⟩
  ·by_cases hj:j=i
   ·subst hj;rw[hi] at e1;cases e1;rw[oY hiσ] at e2;cases e2;exact⟨u,r,.inl ⟨hk,by simp⟩⟩
   ·rw[lu (kR hj)] at e2;obtain⟨u',r',q⟩:=hl j y v' e1 e2 e3;refine⟨u',r',?_⟩;rcases q with⟨k,e⟩|⟨k,c,e,z⟩
    ·refine .inl ⟨k,?_⟩;have:y≠x:=fun e=>hj (B7 hN e1 (e▸hi));simp[this,e]
    ·exact .inr ⟨k,c,e,z.sameBut hs (cne y c e)⟩
  ·obtain⟨w',z⟩:=I.cell y c e;exact⟨w',z.sameBut hs (cne y c e)⟩
  ·obtain⟨e,n,ne,nf,d⟩:=I.pin p hp;exact⟨(hs.2 p.1 ne).trans e,n,ne,nf,d⟩
 ·have eu:X.fn x=true:=by
   rcases hf with z|z
   ·exact z
   ·rw[z] at hk;cases hk
  obtain⟨c,hc⟩:=I.ok.has x (.inl hk);obtain⟨w',z⟩:=I.cell x c hc;refine wpAny_storeName_cell I.ok.kind hk hc z (fun h' bJ hs=>?_);obtain⟨oc,hoc,hocd⟩:=id z;refine h {s with heap:=h'} ⟨I.ok,I.os,I.bare,⟨fun b o e n hb hx=>?_,fun b o e n hb hx=>?_,I.base.free,fun b o e hx=>?_,I.base.tups,I.base.frzs,I.base.tbls⟩,⟨m,hn.sameBut hs (kR (cne x c hc)),fun j y v' e1 e2 e3=>?_⟩,fun y c' e=>?_,I.free,I.freeC,fun p hp=>?_,tracked ⟨oc,hoc,I.freeC x c hc⟩ hs,by simpa using I.len⟩ ⟨c,hs,.inr hc⟩
  ·exact(hs.2 b (gE (lI (ie e) (I.ok.cab x c eu hc)))).trans (I.base.keep b o e n hb hx)
  ·obtain⟨sl,e1⟩:=I.base.slot b o e n hb hx;exact⟨sl,(hs.2 b (gE (lI (ie e) (I.ok.cab x c eu hc)))).trans e1⟩
  ·obtain⟨o',e1⟩:=I.base.there b o e hx;exact⟨o',(hs.2 b (gE (lI (ie e) (I.ok.cab x c eu hc)))).trans e1⟩
  ·by_cases hj:j=i
   ·subst hj;rw[hi] at e1;cases e1;rw[oY hiσ] at e2;cases e2;exact⟨u,r,.inr ⟨.inl hk,c,hc,bJ⟩⟩
   ·rw[lu (kR hj)] at e2;obtain⟨u',r',q⟩:=hl j y v' e1 e2 e3;refine⟨u',r',?_⟩;rcases q with q|⟨k,c',e,z'⟩
    ·exact .inl q
    ·refine .inr ⟨k,c',e,z'.sameBut hs ?_⟩;rintro rfl;exact hj (B7 hN e1 (I.ok.inj _ _ _ e hc▸hi))
  ·by_cases hcc:c'=c
   ·subst hcc;exact⟨_,bJ⟩
   ·obtain⟨w2,z2⟩:=I.cell y c' e;exact⟨w2,z2.sameBut hs hcc⟩
  ·obtain⟨e,n,ne,nf,d⟩:=I.pin p hp;refine⟨(hs.2 p.1 ?_).trans e,n,ne,nf,d⟩;intro q;rw[q,hoc] at e;have q':oc=p.2:=iz e;exact d w' (by rw[<-q'];exact hocd)
theorem BG{M:Model}{A:fQ}{E:gm}{i:Nat}{x:Str}{v:V}{u:fI}{Q:Unit->Shared->Prop}(I:Inv X pins σ H s)(hN:X.N.Nodup)(hi:X.N[i]?=some x)(hx:Loc X.env.scope x)(r:RelV v u)
  (h: ∀s',Inv X pins (σ.set i (some v)) H s'->Q () s')(hf:X.fn x=true\/X.env.scope.names.lookup x=some .local:=by first|exact .inl rfl|exact .inr rfl|assumption):wpAny M A (storeName X.env x u) Q E s:=
 FY I hN hi hx r (fun s' I' _=>h s' I') hf
theorem Inv.call'{s':eZ}{ch:ig}(I:Inv X pins σ H s)(ho:s'.os=s.os)(u:Un (frs X.stack) ch H H' s.heap s'.heap)(hok:HOk X.prog X.w H' s'.heap)(hg:AllBare s'.gens)
  (aE: ∀b∈ch,(b∈X.ex\/X.s₀.heap.objs.size<=b)/\b≠X.env.locals/\(∀x c,X.env.cells.lookup x=some c->c≠b)/\ ∀p∈X.pn++pins,p.1≠b):Inv X pins σ H' s':=by
 obtain⟨h',g',d',t',o'⟩:=s';have e:o'=s.os:=ho;subst e;exact I.call (g':=g') (t':=t') (d':=d') u hok hg aE
end
abbrev XK:=Value->Option Addr->Hp->Prop
abbrev St:=List (Option V)
abbrev VK:=V->Hp->Prop
abbrev TE:=St->Hp->VK->Prop
abbrev TT:=St->Hp->(Bool->Hp->Prop)->Prop
abbrev TA:=St->Hp->(List V->Hp->Prop)->Prop
structure Ends where
 nx:St->Hp->Prop
 rt:VK
 bk:St->Hp->Prop:=fun _ _=>False
 ct:St->Hp->Prop:=fun _ _=>False
abbrev TS:=Ends->St->Hp->Prop
def EP(X:Cx)(pins:gc)(σ:St)(Q:VK)(u:fI)(s':eZ):Prop:= ∃v H',Inv X pins σ H' s'/\RelV v u/\Q v H'
def TP(X:Cx)(pins:gc)(σ:St)(Q:Bool->Hp->Prop)(b:Bool)(s':eZ):Prop:= ∃H',Inv X pins σ H' s'/\Q b H'
def AP(X:Cx)(pins:gc)(σ:St)(Q:List V->Hp->Prop)(us:gH)(s':eZ):Prop:= ∃vs H',Inv X pins σ H' s'/\Vals vs us/\Q vs H'
def SP(X:Cx)(pins:gc)(D:Ends)(f:Flow)(s':eZ):Prop:=
 match f with
 | .next=> ∃σ' H',Inv X pins σ' H' s'/\D.nx σ' H'
 | .brk=> ∃σ' H',Inv X pins σ' H' s'/\D.bk σ' H'
 | .cont=> ∃σ' H',Inv X pins σ' H' s'/\D.ct σ' H'
 | .ret u=> ∃v σ' H',Inv X pins σ' H' s'/\RelV v u/\D.rt v H'
def PE(X:Cx)(e:fw)(t:TE):Prop:=
 ∀(pins:gc) (s:eZ) (σ:St) (H:Hp) (Q:VK),Inv X pins σ H s->t σ H Q->wpAny (model X.prog X.w) X.A (eval e X.env) (EP X pins σ Q) X.xe s
def PT(X:Cx)(e:fw)(t:TT):Prop:=
 ∀(pins:gc) (s:eZ) (σ:St) (H:Hp) (Q:Bool->Hp->Prop),Inv X pins σ H s->t σ H Q->wpAny (model X.prog X.w) X.A (isTrue e X.env (eval e X.env)) (TP X pins σ Q) X.xe s
def PW(X:Cx)(e:fw)(t:TT):Prop:=
 ∀(whole:Sem Value) (pins:gc) (s:eZ) (σ:St) (H:Hp) (Q:Bool->Hp->Prop),Inv X pins σ H s->t σ H Q->wpAny (model X.prog X.w) X.A (isTrue e X.env whole) (TP X pins σ Q) X.xe s
theorem PW.pt{X:Cx}{e:fw}{t:TT}(h:PW X e t):PT X e t:=h _
def PA(X:Cx)(es:hW)(t:TA):Prop:=
 ∀(pos:Pos) (pins:gc) (s:eZ) (σ:St) (H:Hp) (Q:List V->Hp->Prop),Inv X pins σ H s->t σ H Q->wpAny (model X.prog X.w) X.A (spliced (backTo pos (starEach es X.env))) (AP X pins σ Q) X.xe s
def PS(X:Cx)(st:Stmt)(t:TS):Prop:=
 ∀(pins:gc) (s:eZ) (σ:St) (H:Hp) (D:Ends),Inv X pins σ H s->t D σ H->wpAny (model X.prog X.w) X.A (exec st X.env) (SP X pins D) X.xe s
def PSs(X:Cx)(st:List Stmt)(t:TS):Prop:=
 ∀(pins:gc) (s:eZ) (σ:St) (H:Hp) (D:Ends),Inv X pins σ H s->t D σ H->wpAny (model X.prog X.w) X.A (execs st X.env) (SP X pins D) X.xe s
theorem thn{α:Type}{t:Sem α}{Q Q':α->Shared->Prop}{M:Model}{A:fQ}{E:gm}{s:eZ}(h:wpAny M A t Q E s)(hQ: ∀a s,Q a s->Q' a s):wpAny M A t Q' E s:=oH h hQ fun _ _ x=>x
section
variable {X:Cx}
def SD(i:Nat):TE:=fun σ H Q=> ∃v,σ[i]?=some (some v)/\Q v H
noncomputable def tC(v:V):TE:=fun _ H Q=>Q v H
theorem DV{i:Nat}{x:Str}{pos:Pos}(hN:X.N[i]?=some x)(hv:Vis X.env.scope x)(hd:(x==("__debug__":Str))=false:=by decide)(q9:(x==("__classdict__":Str))=false:=by decide):PE X (.Name x pos) (SD i):=by
 intro pins s σ H Q I h;obtain⟨v,e,h⟩:=h;obtain⟨m,hn,hl⟩:=I.loc;obtain⟨u,r,l⟩:=hl i x v hN e hv;have fin:EP X pins σ Q u s:=⟨v,H,I,r,h⟩
 rcases l with⟨hk,hm⟩|⟨hk,c,hc,l7⟩
 ·exact wpAny_Name (wpAny_loadName_local I.ok.kind hk hn hm fin) hd
 ·rcases hk with hk|hk
  ·exact wpAny_Name (wpAny_loadName_cell I.ok.kind hk hc l7 fin) hd
  ·exact wpAny_Name (wpAny_loadName_free I.ok.kind hk hc l7 fin q9) hd
theorem OU{i j pos}:PE X (.Constant (.int i) j pos) (tC (.int i)):=fun _ _ _ H _ I h=>wpAny_Constant_int ⟨.int i,H,I.tok _,⟨_,rfl⟩,h⟩
theorem Rh{b j pos}:PE X (.Constant (.bool b) j pos) (tC (.bl b)):=fun _ _ _ H _ I h=>Constant_bool ⟨.bl b,H,I,rfl,h⟩
theorem OS{j pos}:PE X (.Constant .none j pos) (tC .non):=fun _ _ _ H _ I h=>Constant_none ⟨.non,H,I,rfl,h⟩
theorem AO{x j pos}:PE X (.Constant (.str x) j pos) (tC (.str x)):=fun _ _ _ H _ I h=>Calls.Constant_str ⟨.str x,H,I.tok _,⟨_,rfl⟩,h⟩
def Gl(X:Cx)(x:Str):Prop:=X.env.kindOf x=some .globalImplicit
theorem Fh{E:gm}{pins:gc}{s:eZ}{σ:St}{H:Hp}{x:Str}{u:fI}{pos:Pos}{Q:gm}(I:Inv X pins σ H s)(hg:Gl X x)(hm:X.mg x=some u)(h:Q u s)
  (hd:(x==("__debug__":Str))=false:=by decide):wpAny (model X.prog X.w) X.A (eval (.Name x pos) X.env) Q E s:=
 HI I.ok.kind hg (Calls.loadGlobal_global (by rw[I.ok.glob];exact I.mod.glob.keeps I.bk) hm h) hd
theorem vp{E:gm}{pins:gc}{s:eZ}{σ:St}{H:Hp}{x:Str}{u:fI}{pos:Pos}{Q:gm}(I:Inv X pins σ H s)(hg:Gl X x)(hm:X.mg x=none)(hv:bootBuiltins x=some u)(h:Q u s)
  (hn:x≠"__name__":=by decide)(hd:(x==("__debug__":Str))=false:=by decide):wpAny (model X.prog X.w) X.A (eval (.Name x pos) X.env) Q E s:=by
 obtain⟨mb,h1,h2⟩:=I.mod.blt;exact HI I.ok.kind hg (Calls.loadGlobal_builtin (by rw[I.ok.glob];exact I.mod.glob.keeps I.bk) hm (by rw[I.ok.blt];exact h1.keeps I.bk) ((h2 x hn).trans hv) h) hd
theorem E5{x:Str}{v:V}{u:fI}{pos:Pos}(hg:Gl X x)(hm:X.mg x=some u)(r:RelV v u)(hd:(x==("__debug__":Str))=false:=by decide):PE X (.Name x pos) (tC v):=
 fun _ _ _ H _ I h=>Fh I hg hm ⟨v,H,I,r,h⟩ hd
theorem AQ{x:Str}{v:V}{u:fI}{pos:Pos}(hg:Gl X x)(hm:X.mg x=none)(hv:bootBuiltins x=some u)(r:RelV v u)(hn:x≠"__name__":=by decide)(hd:(x==("__debug__":Str))=false:=by decide):PE X (.Name x pos) (tC v):=
 fun _ _ _ H _ I h=>vp I hg hm hv ⟨v,H,I,r,h⟩ hn hd
def t2I(ta tb:TE)(k:Int->Int->Hp->Prop):St->Hp->Prop:=fun σ H=>ta σ H fun x H1=>tb σ H1 fun y H2=> ∃i j,x= .int i/\y= .int j/\k i j H2
variable {a b:fw}{ta tb:TE}{pos:Pos}
noncomputable def tCmp(p:Int->Int->Bool)(ta tb:TE):TE:=fun σ H Q=>t2I ta tb (fun i j H2=>Q (.bl (p i j)) H2) σ H
noncomputable def tB(t:TE):TT:=fun σ H Q=>t σ H fun x H1=> ∃c,x= .bl c/\Q c H1
theorem OE{e:fw}{t:TE}(h:PE X e t)(he: ∀whole,isTrue e X.env whole=(do let v <-whole;standAt e.pos;holding [v] (truthy v)):=by intro _;rfl):PT X e (tB t):=by
 intro pins s σ H Q I hw;refine isTrue_plain (thn (h pins s σ H _ I hw) fun v s1 ⟨x,H1,I1,r1,q1⟩=>?_) (he _);obtain⟨d,rfl,q⟩:=q1;cases r1;exact tH ⟨H1,I1,q⟩
variable {tA tB':TT}{fY:hW}
noncomputable def tOr(t u:TT):TT:=fun σ H Q=>t σ H fun c H1=>if c=true then Q true H1 else u σ H1 Q
noncomputable def tNot(t:TT):TT:=fun σ H Q=>t σ H fun c H1=>Q (!c) H1
theorem OC(ha:PT X a tA):PW X (.BoolOp .Or [a] pos) tA:=by
 intro wh pins s σ H Q I h;refine isTrue_or (thn (ha pins s σ H Q I h) fun c s1 e=>?_)
 cases c with
 |false=>exact isTrue_or_nil e
 |true=>exact e
theorem Ra(ha:PT X a tA)(hb:PW X (.BoolOp .Or (b::fY) pos) tB'):PW X (.BoolOp .Or (a::b::fY) pos) (tOr tA tB'):=by
 intro wh pins s σ H Q I h;refine isTrue_or (thn (ha pins s σ H _ I h) fun c s1 ⟨H1,I1,q1⟩=>?_)
 cases c with
 |true=>exact⟨H1,I1,q1⟩
 |false=>exact hb wh pins s1 σ H1 Q I1 q1
theorem OF(ha:PT X a tA):PT X (.UnaryOp .Not a pos) (tNot tA):=by
 intro pins s σ H Q I h;exact isTrue_not (ha pins s σ H (fun c H1=>Q (!c) H1) I h)
def QD(ta tb:TE):TE:=fun σ H Q=>ta σ H fun x H1=> ∃c,x= .bl c/\if c=true then tb σ H1 Q else Q (.bl false) H1
def Qs(ta:TE):TE:=fun σ H Q=>ta σ H fun x H1=> ∃c,x= .bl c/\Q (.bl (!c)) H1
theorem OQ{op}{t:TE}(h:PE X a t):PE X (.BoolOp op [a] pos) t:=fun pins s σ H Q I hw=>BoolOp_one (h pins s σ H Q I hw)
theorem OV(ha:PE X a ta)(hb:PE X (.BoolOp .And (b::fY) pos) tb):PE X (.BoolOp .And (a::b::fY) pos) (QD ta tb):=by
 intro pins s σ H Q I h;refine BoolOp_and (thn (ha pins s σ H _ I h) fun v s1 ⟨x,H1,I1,r1,q1⟩=>?_);obtain⟨c,rfl,q1⟩:=q1;cases r1;refine tH ?_
 cases c with
 |true=>exact hb pins s1 σ H1 Q I1 q1
 |false=>exact⟨.bl false,H1,I1,rfl,q1⟩
theorem OR(ha:PE X a ta):PE X (.UnaryOp .Not a pos) (Qs ta):=by
 intro pins s σ H Q I h;refine UnaryOp_ (thn (ha pins s σ H _ I h) fun v s1 ⟨x,H1,I1,r1,q1⟩=>?_);obtain⟨c,rfl,q1⟩:=q1;cases r1;exact not_of (tH ⟨.bl (!c),H1,I1,rfl,q1⟩)
noncomputable def tIf(t:TT)(ta tb:TE):TE:=fun σ H Q=>t σ H fun c H1=>if c=true then ta σ H1 Q else tb σ H1 Q
theorem Jt{c:fw}(hc:PT X c tA)(ha:PE X a ta)(hb:PE X b tb):PE X (.IfExp c a b pos) (tIf tA ta tb):=by
 intro pins s σ H Q I h;refine wpAny_IfExp (thn (hc pins s σ H _ I h) fun d s1 ⟨H1,I1,q1⟩=>?_)
 cases d with
 |true=>exact ha pins s1 σ H1 Q I1 q1
 |false=>exact hb pins s1 σ H1 Q I1 q1
end
def SqL(K:fO)(H:Hp)(a:eX)(xs:List V):Prop:=
 Rd H a (.lst xs)\/
  ∃(o:Obj) (b6:lq) (n:Nat),K.lookup a=some o/\o.cls= .type "list"/\o.dict=none/\o.data= .seq b6 n/\b6.size<=sizeLine/\Vals xs b6.toList
def SqT(K:fO)(H:Hp)(a:eX)(xs:List V):Prop:=
 Rd H a (.tup xs)\/
  ∃(o:Obj) (b6:lq) (n:Nat),K.lookup a=some o/\o.cls= .type "tuple"/\o.data= .seq b6 n/\b6.size<=sizeLine/\Vals xs b6.toList
noncomputable def Ug:Value->Option V
 | .none=>some .non
 | .bool b=>some (.bl b)
 | .int i _=>some (.int i)
 | .str x _=>some (.str x)
 | .bytes b _=>some (.byt b)
 | .float b _=>some (.flt b)
 | .ref a=>some (.ref a)
 | .type n=>some (.ty n)
 |_=>none
theorem RelV.abs{x:V}{u:fI}(r:RelV x u):Ug u=some x:=by
 cases x with
 |non=>cases r;rfl
 |bl _=>cases r;rfl
 |int _=>obtain⟨t,rfl⟩:=r;rfl
 |str _=>obtain⟨t,rfl⟩:=r;rfl
 |byt _=>obtain⟨t,rfl⟩:=r;rfl
 |flt _=>obtain⟨t,rfl⟩:=r;rfl
 |ref _=>cases r;rfl
 |ty _=>cases r;rfl
theorem RelV.inj{x y:V}{u:fI}(r:RelV x u)(q:RelV y u):x=y:=iz (r.abs.symm.trans q.abs)
theorem Vals.inj{xs ys:List V}{us:gH}(h:Vals xs us)(q:Vals ys us):xs=ys:=by
 induction h generalizing ys with
 |nil=>cases q;rfl
 |cons r t ih=>obtain _|⟨r',t'⟩:=q;rw[r.inj r',ih t']
section
variable {X:Cx}{pins:gc}{σ:St}{H:Hp}{s:eZ}{a:eX}{xs ys:List V}
theorem SqL.of{K:fO}(h:H a=some (.lst xs)):SqL K H a xs:= .inl (.inl h)
theorem Inv.list(I:Inv X pins σ H s)(h:SqL X.K H a xs): ∃b6:List Value,Vals xs b6/\PlainL s.heap a b6.toArray/\xs.length<=sizeLine:=by
 rcases h with h|⟨o,b6,n,hk,hc,hd,hs,hz,r⟩
 ·obtain⟨z,b6,n,r,e⟩:=h.ok I.hok;exact⟨b6,r,⟨_,n,e,rfl,rfl,rfl⟩,z⟩
 ·refine⟨b6.toList,r,⟨o,n,I.kIn a o hk,hc,hd,by simpa using hs⟩,?_⟩;have e:=r.length;simp only[iw] at e
  lia
theorem Inv.tuple(I:Inv X pins σ H s)(h:SqT X.K H a xs): ∃b6:List Value,Vals xs b6/\IsTup s.heap a b6.toArray/\xs.length<=sizeLine:=by
 rcases h with h|⟨o,b6,n,hk,hc,hs,hz,r⟩
 ·obtain⟨z,b6,r,p⟩:=h.ok I.hok;exact⟨b6,r,p,z⟩
 ·refine⟨b6.toList,r,⟨o,I.kIn a o hk,hc,n,by simpa using hs⟩,?_⟩;have e:=r.length;simp only[iw] at e
  lia
theorem Inv.list_inj(I:Inv X pins σ H s)(h:SqL X.K H a xs)(h':SqL X.K H a ys):xs=ys:=by
 obtain⟨b6,r,⟨o,n,e,_,_,d⟩,_⟩:=I.list h;obtain⟨its',r',⟨o',n',e',_,_,d'⟩,_⟩:=I.list h';rw[e] at e';cases e';rw[d] at d';injection d' with d1 _
 have:b6=its':=by simpa using lH Array.toList d1
 subst this;exact r.inj r'
theorem Inv.tuple_inj(I:Inv X pins σ H s)(h:SqT X.K H a xs)(h':SqT X.K H a ys):xs=ys:=by
 obtain⟨b6,r,⟨o,e,_,n,d⟩,_⟩:=I.tuple h;obtain⟨its',r',⟨o',e',_,n',d'⟩,_⟩:=I.tuple h';rw[e] at e';cases e';rw[d] at d';injection d' with d1 _
 have:b6=its':=by simpa using lH Array.toList d1
 subst this;exact r.inj r'
end
noncomputable abbrev Cx.wish(X:Cx)(E:gm):Cx:={X with xe:=E}
noncomputable abbrev Cx.nox(X:Cx):Cx:=X.wish fun _ _=>False
theorem Cx.Ok.wish{X:Cx}(ok:X.Ok)(E:gm):(X.wish E).Ok:=
 ⟨ok.mod,ok.kind,ok.glob,ok.blt,ok.above,ok.inj,ok.has,ok.cab,ok.hd,ok.frames,ok.stk,ok.exf,ok.bs,ok.bsz,ok.noex,ok.exfs,ok.funs,ok.frf⟩
theorem Cx.Ok.unwish{X:Cx}{E:gm}(ok:(X.wish E).Ok):X.Ok:=
 ⟨ok.mod,ok.kind,ok.glob,ok.blt,ok.above,ok.inj,ok.has,ok.cab,ok.hd,ok.frames,ok.stk,ok.exf,ok.bs,ok.bsz,ok.noex,ok.exfs,ok.funs,ok.frf⟩
section
variable {X:Cx}{pins:gc}{σ:St}{H:Hp}{s:eZ}{E:gm}
theorem Inv.wish(I:Inv X pins σ H s)(E:gm):Inv (X.wish E) pins σ H s:=⟨I.ok.wish E,I.os,I.bare,I.base,I.loc,I.cell,I.free,I.freeC,I.pin,I.hok,I.len⟩
theorem Inv.unwish(I:Inv (X.wish E) pins σ H s):Inv X pins σ H s:=⟨I.ok.unwish,I.os,I.bare,I.base,I.loc,I.cell,I.free,I.freeC,I.pin,I.hok,I.len⟩
theorem SP.unwish{D:Ends}{f:Flow}{s':eZ}(h:SP (X.wish E) pins D f s'):SP X pins D f s':=by
 cases f with
 |next=>obtain⟨σ',H',I,q⟩:=h;exact⟨σ',H',I.unwish,q⟩
 |brk=>obtain⟨σ',H',I,q⟩:=h;exact⟨σ',H',I.unwish,q⟩
 |cont=>obtain⟨σ',H',I,q⟩:=h;exact⟨σ',H',I.unwish,q⟩
 |ret u=>obtain⟨v,σ',H',I,r,q⟩:=h;exact⟨v,σ',H',I.unwish,r,q⟩
theorem PSs.nox{st:List Stmt}{t:TS}(h:PSs X.nox st t):PSs X st t:=fun pins s σ H D I hw=>
 oH (h pins s σ H D (I.wish _) hw) (fun _ _ q=>q.unwish) fun _ _ z=>False.elim z
end
section
variable {X:Cx}{st:Stmt}{fY:List Stmt}{t u:TS}{e:fw}{te:TE}{pos:Pos}
noncomputable def Qt:TS:=fun D σ H=>D.nx σ H
noncomputable def SH(t u:TS):TS:=fun D σ H=>t {D with nx:=u D} σ H
theorem L4:PSs X [] Qt:=fun _ _ σ H _ I h=>Dx ⟨σ,H,I,h⟩
theorem I9(h1:PS X st t)(h2:PSs X fY u):PSs X (st::fY) (SH t u):=by
 intro pins s σ H D I h;refine wpAny_execs_cons (thn (h1 pins s σ H {D with nx:=u D} I h) fun f s1 q=>?_)
 cases f with
 |next=>
  obtain⟨σ',H',I',q⟩:=q;exact h2 pins s1 σ' H' D I' q
 |ret v=>exact q
 |brk=>exact q
 |cont=>exact q
theorem Inv.quiet{pins:gc}{σ:St}{H:Hp}{s:eZ}(I:Inv X pins σ H s):interactive X.env=false:=by simp[interactive,I.ok.kind]
noncomputable def Qv(te:TE):TS:=fun D σ H=>te σ H fun _ H1=>D.nx σ H1
theorem L5(he:PE X e te)(hs:swapsWith e none pos.line X.env=pure false:=by rfl):PS X (.Expr e pos) (Qv te):=by
 intro pins s σ H D I h;exact wpAny_Expr_any (thn (he pins s σ H _ I h) fun v s1 ⟨x,H1,I1,r1,q1⟩=>⟨σ,H1,I1,q1⟩) I.quiet hs
noncomputable def SJ(te:TE):TS:=fun D σ H=>te σ H D.rt
theorem Jc(he:PE X e te):PS X (.Return (some e) pos) (SJ te):=by
 intro pins s σ H D I h;exact wpAny_Return_some (thn (he pins s σ H _ I h) fun v s1 ⟨x,H1,I1,r1,q1⟩=>⟨x,σ,H1,I1,r1,q1⟩)
noncomputable def SO(c:TT)(t u:TS):TS:=fun D σ H=>c σ H fun b H1=>if b=true then t D σ H1 else u D σ H1
theorem Rc{c:fw}{a b:List Stmt}{tc:TT}(hc:PT X c tc)(ha:PSs X a t)(hb:PSs X b u):PS X (.If c a b pos) (SO tc t u):=by
 intro pins s σ H D I h;refine wpAny_If (thn (hc pins s σ H _ I h) fun d s1 ⟨H1,I1,q1⟩=>?_)
 cases d with
 |true=>exact ha pins s1 σ H1 D I1 q1
 |false=>exact hb pins s1 σ H1 D I1 q1
end
abbrev TG:=V->St->Hp->(St->Hp->Prop)->Prop
abbrev TGs:=List V->St->Hp->(St->Hp->Prop)->Prop
def PG(X:Cx)(target:fw)(t:TG):Prop:=
 ∀(pins:gc) (s:eZ) (σ:St) (H:Hp) (v:V) (u:fI) (Q:St->Hp->Prop),Inv X pins σ H s->RelV v u->t v σ H Q->
  wpAny (model X.prog X.w) X.A (assign target X.env u) (fun _ s'=> ∃σ' H',Inv X pins σ' H' s'/\Q σ' H') X.xe s
def PGs(X:Cx)(ts:hW)(t:TGs):Prop:=
 ∀(pins:gc) (s:eZ) (σ:St) (H:Hp) (vs:List V) (us:gH) (Q:St->Hp->Prop),Inv X pins σ H s->Vals vs us->t vs σ H Q->
  wpAny (model X.prog X.w) X.A (assignInOrder ((assignEach ts X.env).map (·.2)) us) (fun _ s'=> ∃σ' H',Inv X pins σ' H' s'/\Q σ' H') X.xe s
abbrev M4:=V->V->V->Hp->(Hp->Prop)->Prop
def P4(X:Cx)(t:M4):Prop:=
 ∀(pins:gc) (s:eZ) (σ:St) (H:Hp) (o i v:V) (ov iv u:fI) (Q:Hp->Prop),Inv X pins σ H s->RelV o ov->RelV i iv->RelV v u->t o i v H Q->
  wpAny (model X.prog X.w) X.A (setItem ov iv u) (fun _ s'=> ∃H',Inv X pins σ H' s'/\Q H') X.xe s
section
variable {X:Cx}{pos:Pos}
noncomputable def Co(i:Nat):TG:=fun v σ H Q=>Q (σ.set i (some v)) H
theorem EZ{i:Nat}{x:Str}(hN:X.N.Nodup)(hi:X.N[i]?=some x)(hx:Loc X.env.scope x)(hf:X.fn x=true\/X.env.scope.names.lookup x=some .local:=by first|exact .inl rfl|exact .inr rfl|assumption):PG X (.Name x pos) (Co i):=by
 intro pins s σ H v u Q I r h;exact wpAny_assign_Name (BG I hN hi hx r (fun s' I'=>⟨_,H,I',h⟩) hf)
noncomputable def Ub:TGs:=fun vs σ H Q=>vs=[]/\Q σ H
def RF(t:TG)(u:TGs):TGs:=fun vs σ H Q=> ∃v r,vs=v::r/\t v σ H fun σ' H'=>u r σ' H' Q
theorem Mc:PGs X [] Ub:=by
 intro pins s σ H vs us Q I r h;obtain⟨e,h⟩:=h;subst e;cases r;exact assignInOrder_nil ⟨σ,H,I,h⟩
theorem Jn{e:fw}{es:hW}{t:TG}{u:TGs}(h1:PG X e t)(h2:PGs X es u)
  (hs:(assignEach (e::es) X.env).map (·.2)=assign e X.env::(assignEach es X.env).map (·.2):=by rfl):PGs X (e::es) (RF t u):=by
 intro pins s σ H vs us Q I r h;obtain⟨v,vr,e1,h⟩:=h;subst e1
 cases r with
 |cons r rr=>
  rw[hs];refine assignInOrder_cons (thn (h1 pins s σ H _ _ _ I r h) fun _ s1 ⟨σ1,H1,I1,q1⟩=>?_);exact h2 pins s1 σ1 H1 _ _ Q I1 rr q1
def Ua(K:fO)(n:Nat)(t:TGs):TG:=fun v σ H Q=> ∃a xs,v= .ref a/\SqT K H a xs/\xs.length=n/\t xs σ H Q
theorem OP{es:hW}{k:Nat}{t:TGs}{n:Nat}(hc:X.calm=true)(h:PGs X es t)
  (hn:(assignEach es X.env).length=n:=by rfl)(l5:(assignEach es X.env).findIdx? (·.1)=none:=by rfl):PG X (.Tuple es k pos) (Ua X.K n t):=by
 intro pins s σ H v u Q I r hw;obtain⟨a,xs,e1,hq,hl,hw⟩:=hw;subst e1;cases r;obtain⟨b6,rv,ht,hz⟩:=I.tuple hq;refine assign_Tuple_tuple (I.ok.hd hc) ht (by simp[hn,<-hl,rv.length]) l5 fun h' hx=>?_;have I1:Inv X pins σ H {s with heap:=h'}:=I.kept (t':=s.toks) fun b o e=>hx b o (gE (ie e)) e;exact h pins _ σ H xs _ Q I1 (by simpa using rv) hw
noncomputable def gSub(to ti:TE)(t:M4):TG:=fun v σ H Q=>to σ H fun o H1=>ti σ H1 fun i H2=>t o i v H2 fun H3=>Q σ H3
theorem Jo{o i:fw}{to ti:TE}{t:M4}(ho:PE X o to)(hi:PE X i ti)(hs:P4 X t)
  (ha: ∀v,assign (.Subscript o i pos) X.env v=(do
   let ov <-holding [v] (eval o X.env)
   let iv <-holding [v,ov] (eval i X.env)
   standAt pos
   holding [v,ov,iv] (setItem ov iv v)
   release [v,ov,iv] []):=by intro _;rfl):PG X (.Subscript o i pos) (gSub to ti t):=by
 intro pins s σ H v u Q I r h;rw[ha];refine eY (ku (thn (ho pins s σ H _ I h) fun ov s1 ⟨x,H1,I1,r1,q1⟩=>?_));refine eY (ku (thn (hi pins s1 σ H1 _ I1 q1) fun iv s2 ⟨y,H2,I2,r2,q2⟩=>?_));refine eY (uY (eY (ku (thn (hs pins s2 σ H2 x y v ov iv u _ I2 r1 r2 r q2) fun _ s3 ⟨H3,I3,q3⟩=>?_))));exact wpAny_release ⟨σ,H3,I3,q3⟩
noncomputable def NO(te:TE)(g:TG):TS:=fun D σ H=>te σ H fun x H1=>g x σ H1 D.nx
theorem DR{tg e:fw}{te:TE}{g:TG}(he:PE X e te)(hg:PG X tg g)(hs:swapsWithSole [tg] e pos.line X.env=pure false:=by rfl)(hw:swappedStores [tg] e X.env=pure none:=by rfl)
  (h1:(assignEach [tg] X.env).map (·.2)=[assign tg X.env]:=by rfl):PS X (.Assign [tg] e pos) (NO te g):=by
 intro pins s σ H D I h;refine wpAny_Assign_stores (thn (he pins s σ H _ I h) fun v s1 ⟨x,H1,I1,r1,q1⟩=>?_) hs hw;rw[h1];exact thn (hg pins s1 σ H1 x v _ I1 r1 q1) fun _ s2 q=>q
theorem Jb{i:Nat}{x:Str}{e:fw}{te:TE}{pos':Pos}(hN:X.N.Nodup)(hi:X.N[i]?=some x)(hx:Loc X.env.scope x)(he:PE X e te)(hs:swapsWith e (some (.Name x pos')) pos.line X.env=pure false:=by rfl)(hf:X.fn x=true\/X.env.scope.names.lookup x=some .local:=by first|exact .inl rfl|exact .inr rfl|assumption):
  PS X (.Assign [.Name x pos'] e pos) (NO te (Co i)):=by
 intro pins s σ H D I h;refine wpAny_Assign_Name (thn (he pins s σ H _ I h) fun v s1 ⟨y,H1,I1,r1,q1⟩=>?_) hs;exact BG I1 hN hi hx r1 (fun s2 I2=>⟨_,H1,I2,q1⟩) hf
def NK(c:TT)(tb:TS):TS:=fun D σ H=> ∃W:Nat->St->Hp->Prop,(∃m,W m σ H)/\ ∀m σ H,W m σ H->
 c σ H fun b H1=>if b=true then ∃N:St->Hp->Prop,(∀σ' H',N σ' H'-> ∃m',m'<m/\W m' σ' H')/\tb {D with nx:=N,ct:=N,bk:=D.nx} σ H1 else D.nx σ H1
theorem Ja{c:fw}{body:List Stmt}{tc:TT}{tb:TS}(hp:PassesOwn (model X.prog X.w) X.A X.env X.xe)(hc:PT X c tc)(hb:PSs X body tb):PS X (.While c body [] pos) (NK tc tb):=by
 intro pins s σ H D I h;obtain⟨W,⟨m0,w0⟩,turn⟩:=h;refine wpAny_While (codeAny_whileLoop (fun n s'=> ∃σ' H',Inv X pins σ' H' s'/\W n σ' H') ?_ m0 ⟨σ,H,I,w0⟩);rintro n s1 ⟨σ1,H1,I1,w1⟩;refine rP hp (thn (hc pins s1 σ1 H1 _ I1 (turn n σ1 H1 w1)) fun b s2 ⟨H2,I2,q2⟩=>?_)
 cases b with
 |true=>
  obtain⟨N,hN,q2⟩:=q2;rw[fJ rfl];refine rP hp (thn (hb pins s2 σ1 H2 _ I2 q2) fun f s3 q3=>?_)
  cases f with
  |next=>
   obtain⟨σ3,H3,I3,n3⟩:=q3;obtain⟨m',hm,w3⟩:=hN σ3 H3 n3;exact⟨m',hm,σ3,H3,I3,w3⟩
  |cont=>
   obtain⟨σ3,H3,I3,n3⟩:=q3;obtain⟨m',hm,w3⟩:=hN σ3 H3 n3;exact⟨m',hm,σ3,H3,I3,w3⟩
  |brk=>exact q3
  |ret v=>exact q3
 |false=>
  rw[fR je];exact Dx ⟨σ1,H2,I2,q2⟩
end
structure It where
 go:Nat->Hp->Prop
 yld:Nat->Hp->V->Hp->Prop
 stop:Nat->Hp->Prop
def qi(X:Cx)(pins:gc)(H:Hp)(b:eX):Prop:=
 H b=none/\b≠X.env.locals/\b∉X.fs/\(b∈X.ex\/X.s₀.heap.objs.size<=b)/\(∀x c,X.env.cells.lookup x=some c->c≠b)/\ ∀p∈X.pn++pins,p.1≠b
theorem Inv.fpOk{X:Cx}{pins:gc}{σ:St}{H H':Hp}{s:eZ}{b:eX}(I:Inv X pins σ H s)(hb:s.heap.objs.size<=b)(hn:H' b=none):qi X pins H' b:=by
 refine⟨hn,nD (lI I.lt hb),I.nofs hb,.inr (mH I.sz hb),fun x c e z=>?_,fun p hp z=>?_⟩
 ·obtain⟨v,q⟩:=I.cell x c e;exact absurd (lI q.lt (by rw[z];exact hb)) (nE _)
 ·exact absurd (lI (ie (I.pin p hp).1) (by rw[z];exact hb)) (nE _)
structure Turn(P:fS)(w:fL)(K:fO)(tg:fw)(J:It)(fp:ig)(it:eX)(tn:Nat->Heap->Prop):Prop where
 mem:it∈fp
 obj: ∀i h,tn i h-> ∀b∈fp,∃o,h.get? b=some o/\ ∀v,o.data≠ .cell v
 keep: ∀i h h',tn i h->(∀b∈fp,∀o,h.get? b=some o->h'.get? b=some o)->tn i h'
 item: ∀(X:Cx),X.prog=P->X.w=w->X.K=K->X.calm=true-> ∀(i:Nat) (pins:gc) (s:eZ) (σ:St) (H:Hp) (E:gm),Inv X pins σ H s->(∀b∈fp,qi X pins H b)->tn i s.heap->J.go i H->
  wpAny (model P w) X.A (pyNext (.ref it)) (fun r s1=> ∃u,r=some u/\
   wpAny (model P w) X.A (letOwnedTupleGo tg (.ref it) u) (fun _ s2=> ∃x H',Inv X pins σ H' s2/\RelV x u/\J.yld i H x H'/\tn (i+1) s2.heap/\ ∀b∈fp,H' b=none) E s1) E s
 done: ∀(X:Cx),X.prog=P->X.w=w->X.K=K->X.calm=true-> ∀(i:Nat) (pins:gc) (s:eZ) (σ:St) (H:Hp) (E:gm),Inv X pins σ H s->(∀b∈fp,qi X pins H b)->tn i s.heap->J.stop i H->
  wpAny (model P w) X.A (pyNext (.ref it)) (fun r s1=>r=none/\Inv X pins σ H s1) E s
 self: ∀(A:fQ) (i:Nat) (s:eZ) (Q:gm) (E:gm),tn i s.heap->Q (.ref it) s->wpAny (model P w) A (pyIter (.ref it)) Q E s
abbrev TI:=St->Hp->(It->Hp->Prop)->Prop
def PIE(X:Cx)(pins:gc)(σ:St)(tg:fw)(R:It->Hp->Prop)(cw:fI)(s2:eZ):Prop:=
 ∃(it:eX) (fp:ig) (tn:Nat->Heap->Prop) (J:It) (H':Hp),cw= .ref it/\Inv X pins σ H' s2/\Turn X.prog X.w X.K tg J fp it tn/\tn 0 s2.heap/\(∀b∈fp,qi X pins H' b)/\R J H'
def PI(X:Cx)(tg iter:fw)(wi:TI):Prop:=
 ∀(pins:gc) (s:eZ) (σ:St) (H:Hp) (R:It->Hp->Prop),Inv X pins σ H s->wi σ H R->
  wpAny (model X.prog X.w) X.A (eval iter X.env) (fun v s1=>wpAny (model X.prog X.w) X.A (pyIter v) (PIE X pins σ tg R) X.xe s1) X.xe s
theorem Kg{M:Model}{A:fQ}{E:gm}{s:eZ}{tg:fw}{it:eX}{u:fI}{o:Obj}{n:String}{vs:lq}{Q:Unit->Shared->Prop}(ho:s.heap.get? it=some o)(hc:o.cls= .type n)(hd:o.data= .fields vs)
  (hn:["enumerate","zip","dict_itemiterator","dict_reverseitemiterator","odict_iterator","itertools.zip_longest","itertools.pairwise"].contains n=false)(hQ:Q () s):wpAny M A (letOwnedTupleGo tg (.ref it) u) Q E s:=by
 unfold letOwnedTupleGo
 cases tg<;>first
  |exact fH hQ
  |(cases u<;>first
    |exact fH hQ
    |(
      refine eY (uX ho ?_);rw[hc,hd];show wpAny M A (if(["enumerate","zip","dict_itemiterator","dict_reverseitemiterator","odict_iterator","itertools.zip_longest","itertools.pairwise"].contains n&&vs[0]?==some (rawInt _))=true then _ else _) Q E s;rw[fR (by intro h;rw[hn,Bool.false_and] at h;cases h)];exact fH hQ))
noncomputable def Itl(K:fO)(a:eX):It:=
 ⟨fun i H=> ∃xs x,SqL K H a xs/\xs[i]?=some x,fun i H x H'=>H'=H/\ ∀xs,SqL K H a xs->xs[i]?=some x,fun i H=> ∃xs,SqL K H a xs/\xs.length<=i⟩
noncomputable def Itt(K:fO)(a:eX):It:=
 ⟨fun i H=> ∃xs x,SqT K H a xs/\xs[i]?=some x,fun i H x H'=>H'=H/\ ∀xs,SqT K H a xs->xs[i]?=some x,fun i H=> ∃xs,SqT K H a xs/\xs.length<=i⟩
noncomputable def Itr(lo:Int)(n:Nat):It:=⟨fun i _=>i<n,fun i H x H'=>H'=H/\x= .int (lo+i),fun i _=>n<=i⟩
theorem FW{P:fS}{w:fL}{K:fO}{tg:fw}(a it:eX):Turn P w K tg (Itl K a) [it] it (fun i h=>h.IsListIter it a i) where
 mem:=by simp
 obj:=fun i h st b hb=>by
  have e:b=it:=by simpa using hb
  subst e;obtain⟨o,e,c,d⟩:=st;exact⟨o,e,fun v z=>by rw[d] at z;cases z⟩
 keep:=fun i h h' st k=>st.at fun o e=>k it (by simp) o e
 item:=by
  intro X hP hw hK hc i pins s σ H E I hf st hg;subst hP hw hK;obtain⟨xs,x,hq,hx⟩:=hg;obtain⟨b6,rv,p,hz⟩:=I.list hq;obtain⟨u,hu,ru⟩:=rv.get hx;obtain⟨f0,f1,f2,f3,f4,f5⟩:=hf it (by simp);refine wpAny_pyNext_list_item st p.isList (x:=u) (by simpa using hu) fun h' d9 sb=>?_;have I1:Inv X pins σ H {s with heap:=h'}:=I.turned (t':=s.toks) (fun b o hb e=>(sb.2 b hb).trans e) f0 f1 f3 f4 f5;obtain⟨o,e,c,d⟩:=id d9;exact⟨u,rfl,Kg (s:={s with heap:=h'}) e c d (by decide) ⟨x,H,I1,ru,⟨rfl,fun ys hy=>by rw[I.list_inj hy hq];exact hx⟩,d9,fun b hb=>(hf b hb).1⟩⟩
 done:=by
  intro X hP hw hK hc i pins s σ H E I hf st hg;subst hP hw hK;obtain⟨xs,hq,hx⟩:=hg;obtain⟨b6,rv,p,hz⟩:=I.list hq;obtain⟨f0,f1,f2,f3,f4,f5⟩:=hf it (by simp);have hl:=rv.length;exact wpAny_pyNext_list_end (I.ok.hd hc) st p.isList (by simp;lia) fun h' eb=>⟨rfl,I.turned (t':=s.toks) (fun b o hb e=>eb b o hb e) f0 f1 f3 f4 f5⟩
 self:=fun _ _ _ _ _ st h=>wpAny_pyIter_listiter st h
theorem DC{P:fS}{w:fL}{K:fO}{tg:fw}(a it:eX):Turn P w K tg (Itt K a) [it] it (fun i h=>h.IsTupleIter it a i) where
 mem:=by simp
 obj:=fun i h st b hb=>by
  have e:b=it:=by simpa using hb
  subst e;obtain⟨o,e,c,d⟩:=st;exact⟨o,e,fun v z=>by rw[d] at z;cases z⟩
 keep:=fun i h h' st k=>st.at fun o e=>k it (by simp) o e
 item:=by
  intro X hP hw hK hc i pins s σ H E I hf st hg;subst hP hw hK;obtain⟨xs,x,hq,hx⟩:=hg;obtain⟨b6,rv,p,hz⟩:=I.tuple hq;obtain⟨u,hu,ru⟩:=rv.get hx;obtain⟨f0,f1,f2,f3,f4,f5⟩:=hf it (by simp);refine wpAny_pyNext_tuple_item st (show s.heap.IsTuple a b6.toArray from p) (x:=u) (by simpa using hu) fun h' d9 sb=>?_;have I1:Inv X pins σ H {s with heap:=h'}:=I.turned (t':=s.toks) (fun b o hb e=>(sb.2 b hb).trans e) f0 f1 f3 f4 f5;obtain⟨o,e,c,d⟩:=id d9;exact⟨u,rfl,Kg (s:={s with heap:=h'}) e c d (by decide) ⟨x,H,I1,ru,⟨rfl,fun ys hy=>by rw[I.tuple_inj hy hq];exact hx⟩,d9,fun b hb=>(hf b hb).1⟩⟩
 done:=by
  intro X hP hw hK hc i pins s σ H E I hf st hg;subst hP hw hK;obtain⟨xs,hq,hx⟩:=hg;obtain⟨b6,rv,p,hz⟩:=I.tuple hq;obtain⟨f0,f1,f2,f3,f4,f5⟩:=hf it (by simp);have hl:=rv.length;exact wpAny_pyNext_tuple_end (I.ok.hd hc) st (show s.heap.IsTuple a b6.toArray from p) (by simp;lia) fun h' eb=>⟨rfl,I.turned (t':=s.toks) (fun b o hb e=>eb b o hb e) f0 f1 f3 f4 f5⟩
 self:=fun _ _ _ _ _ st h=>wpAny_pyIter_tupleiter st h
theorem DD{P:fS}{w:fL}{K:fO}{tg:fw}(it:eX)(lo:Int)(n:Nat):Turn P w K tg (Itr lo n) [it] it (fun i h=>IsRangeIter h it (lo+(i:Nat)*1) ((n:Int)-(i:Nat)) 1) where
 mem:=by simp
 obj:=fun i h st b hb=>by
  have e:b=it:=by simpa using hb
  subst e
  exact⟨_,st,fun v z=>by
   have z':Data.fields _=Data.cell v:=z;cases z'⟩
 keep:=fun i h h' st k=>k it (by simp) _ st
 item:=by
  intro X hP hw hK hc i pins s σ H E I hf st hg;subst hP hw hK;obtain⟨f0,f1,f2,f3,f4,f5⟩:=hf it (by simp);have W:=Walks.range (prog:=X.prog) (w:=X.w) (I.ok.hd hc) it lo 1 n;refine W.item i s _ _ hg st fun v h' tk hv d9 kk=>?_;obtain⟨t,rfl⟩:=hv;have I1:Inv X pins σ H {s with heap:=h',toks:=tk}:=I.turned (fun b o hb e=>kk b o (by simpa using hb) e) f0 f1 f3 f4 f5;refine⟨_,rfl,Kg (s:={s with heap:=h',toks:=tk}) (n:="range_iterator") d9 rfl rfl (by decide) ⟨.int (lo+i),H,I1,⟨t,?_⟩,⟨rfl,rfl⟩,d9,fun b hb=>(hf b hb).1⟩⟩;rw[wN]
 done:=by
  intro X hP hw hK hc i pins s σ H E I hf st hg;subst hP hw hK;obtain⟨f0,f1,f2,f3,f4,f5⟩:=hf it (by simp);exact wpAny_pyNext_range_end (I.ok.hd hc) st (by have:n<=i:=hg;lia) fun h' eb=>⟨rfl,I.turned (t':=s.toks) (fun b o hb e=>eb b o hb e) f0 f1 f3 f4 f5⟩
 self:=fun _ _ _ _ _ st h=>wpAny_pyIter_rangeiter st h
section
variable {X:Cx}{tg:fw}
def RB(K:fO)(tl:TE):TI:=fun σ H R=>tl σ H fun x H1=> ∃a,x= .ref a/\(∃xs,SqL K H1 a xs)/\R (Itl K a) H1
def T9(K:fO)(tl:TE):TI:=fun σ H R=>tl σ H fun x H1=> ∃a,x= .ref a/\(∃xs,SqT K H1 a xs)/\R (Itt K a) H1
theorem Ma{l:fw}{tl:TE}(hl:PE X l tl):PI X tg l (RB X.K tl):=by
 intro pins s σ H R I h;refine thn (hl pins s σ H _ I h) fun v s1 ⟨x,H1,I1,r1,q1⟩=>?_;obtain⟨a,e,⟨xs,hq⟩,q⟩:=q1;subst e;cases r1;obtain⟨b6,rv,p,hz⟩:=I1.list hq;refine wM p.isList ?_;refine⟨s1.heap.objs.size,[s1.heap.objs.size],_,_,H1,rfl,I1.kept (t':=s1.toks) fun b o e=>ik _ e,FW a _,⟨_,iK _ rfl,rfl,rfl⟩,fun b hb=>?_,q⟩;have e:b=s1.heap.objs.size:=by simpa using hb
 subst e;exact I1.fpOk (gJ _) (I1.hok.fresh (gJ _))
theorem ON{l:fw}{tl:TE}(hl:PE X l tl):PI X tg l (T9 X.K tl):=by
 intro pins s σ H R I h;refine thn (hl pins s σ H _ I h) fun v s1 ⟨x,H1,I1,r1,q1⟩=>?_;obtain⟨a,e,⟨xs,hq⟩,q⟩:=q1;subst e;cases r1;obtain⟨b6,rv,p,hz⟩:=I1.tuple hq;refine Dw (show s1.heap.IsTuple a b6.toArray from p) ?_;refine⟨s1.heap.objs.size,[s1.heap.objs.size],_,_,H1,rfl,I1.kept (t':=s1.toks) fun b o e=>ik _ e,DC a _,⟨_,iK _ rfl,rfl,rfl⟩,fun b hb=>?_,q⟩;have e:b=s1.heap.objs.size:=by simpa using hb
 subst e;exact I1.fpOk (gJ _) (I1.hok.fresh (gJ _))
theorem BU{pins:gc}{σ:St}{H:Hp}{s:eZ}{R:It->Hp->Prop}{E:gm}{lo hi:Int}{t u v:Tok}{tk:Nat}(I:Inv X pins σ H s)(h1: -(2^62)<=lo)(h2:lo<2^62)(h3: -(2^62)<=hi)(h4:hi<2^62)
  (q:R (Itr lo (hi-lo).toNat) H):wpAny (model X.prog X.w) X.A (pyIter (.ref s.heap.objs.size)) (PIE X pins σ tg R) E {s with heap:=s.heap.push {cls:= .type "range",data:= .fields #[.int lo t,.int hi u,.int 1 v]},toks:=tk}:=by
 refine wpAny_pyIter_range (IsRange.new ..) (small_one h1 h2 h3 h4) ?_;have I1:Inv X pins σ H {s with heap:=s.heap.push {cls:= .type "range",data:= .fields #[.int lo t,.int hi u,.int 1 v]},toks:=tk}:=I.kept fun b o e=>ik _ e
 refine⟨(s.heap.push {cls:= .type "range",data:= .fields #[.int lo t,.int hi u,.int 1 v]}).objs.size,[(s.heap.push {cls:= .type "range",data:= .fields #[.int lo t,.int hi u,.int 1 v]}).objs.size],_,_,H,rfl,
  I1.kept (t':=tk) fun b o e=>ik _ e,DD _ lo (hi-lo).toNat,?_,fun b hb=>?_,q⟩
 ·have e1:lo+((0:Nat):Int)*1=lo:=by simp
  have e2:(((hi-lo).toNat:Nat):Int)-((0:Nat):Int)=Builtin.Range.rangeSize lo hi 1:=by rw[rangeSize_one];split<;>lia
  show IsRangeIter _ _ (lo+((0:Nat):Int)*1) ((((hi-lo).toNat:Nat):Int)-((0:Nat):Int)) 1;rw[e1,e2];exact iK _ rfl
 ·have e:b=(s.heap.push {cls:= .type "range",data:= .fields #[.int lo t,.int hi u,.int 1 v]}).objs.size:=by simpa using hb
  subst e;exact I1.fpOk (gJ _) (I1.hok.fresh (gJ _))
def RA(ta:TA):TI:=fun σ H R=>ta σ H fun vs H1=> ∃j:Int,vs=[.int j]/\ -(2^62)<=j/\j<2^62/\R (Itr 0 j.toNat) H1
def Rz(ta:TA):TI:=fun σ H R=>ta σ H fun vs H1=> ∃i j:Int,vs=[.int i,.int j]/\(-(2^62)<=i/\i<2^62/\ -(2^62)<=j/\j<2^62)/\R (Itr i (j-i).toNat) H1
theorem Gm{a:fw}{ta:TA}{p pos:Pos}(hg:Gl X "range")(hm:X.mg "range"=none)(ha:PA X [a] ta)(hs:starEach [a] X.env=[(false,eval a X.env)]:=by rfl):PI X tg (.Call (.Name "range" p) [a] [] pos) (RA ta):=by
 intro pins s σ H R I h;refine Call_ (vp I hg hm uW (Av (thn (ha pos pins s σ H _ I h) fun us s1 ⟨vs,H1,I1,r1,q1⟩=>?_) hs rfl));obtain⟨j,e,q1,q2,q⟩:=q1;subst e
 cases r1 with
 |cons r rr=>
  cases rr;obtain⟨t,rfl⟩:=r;exact call_range_1 (BU I1 (by lia) (by lia) q1 q2 (by simpa using q))
theorem Gk{a b:fw}{ta:TA}{p pos:Pos}(hg:Gl X "range")(hm:X.mg "range"=none)(ha:PA X [a,b] ta)(hs:starEach [a,b] X.env=[(false,eval a X.env),(false,eval b X.env)]:=by rfl)(t8:starEach [b] X.env=[(false,eval b X.env)]:=by rfl):
  PI X tg (.Call (.Name "range" p) [a,b] [] pos) (Rz ta):=by
 intro pins s σ H R I h;refine Call_ (vp I hg hm uW (Av (thn (ha pos pins s σ H _ I h) fun us s1 ⟨vs,H1,I1,r1,q1⟩=>?_) (by rw[hs,t8]) (by rw[t8];rfl)));obtain⟨i,j,e,⟨q1,q2,q3,q4⟩,q⟩:=q1;subst e
 cases r1 with
 |cons r rr=>
  cases rr with
  |cons r' rr=>
   cases rr;obtain⟨t,rfl⟩:=r;obtain⟨t',rfl⟩:=r';exact call_range_2 (BU I1 q1 q2 q3 q4 q)
def SQ(wi:TI)(g:TG)(tb:TS):TS:=fun D σ H=>wi σ H fun J H1=> ∃W:Nat->Nat->St->Hp->Prop,(∃m,W 0 m σ H1)/\ ∀i m σ H,W i m σ H->
 (J.stop i H/\D.nx σ H)\/(J.go i H/\ ∃N:St->Hp->Prop,(∀σ' H',N σ' H'-> ∃m',m'<m/\W (i+1) m' σ' H')/\ ∀x H',J.yld i H x H'->g x σ H' fun σ2 H2=>tb {D with nx:=N,ct:=N,bk:=D.nx} σ2 H2)
noncomputable def xl(fp:ig)(h:fP):List (Addr×Obj):=fp.filterMap fun b=>(h.get? b).map fun o=>(b,o)
theorem oh{fp:ig}{h:fP}{b:eX}{o:Obj}(hb:b∈fp)(e:h.get? b=some o):(b,o)∈xl fp h:=List.mem_filterMap.mpr ⟨b,hb,by rw[e];rfl⟩
theorem Gu{fp:ig}{h:fP}{p:Addr×Obj}(hp:p∈xl fp h):p.1∈fp/\h.get? p.1=some p.2:=by
 obtain⟨b,hb,e⟩:=List.mem_filterMap.mp hp
 cases q:h.get? b with
 |none=>rw[q] at e;cases e
 |some o=>
  rw[q] at e;have e':(b,o)=p:=iz e;subst e';exact⟨hb,q⟩
theorem Inv.pinned{pins:gc}{σ:St}{H:Hp}{s:eZ}{fp:ig}(I:Inv X pins σ H s)(hf: ∀b∈fp,qi X pins H b)(ho: ∀b∈fp,∃o,s.heap.get? b=some o/\ ∀v,o.data≠ .cell v):Inv X (pins++xl fp s.heap) σ H s:=
 I.pins_of fun p hp=>(nF.mp hp).elim (fun z=>I.pin p (nC _ z)) fun z=>by
  obtain⟨hb,e⟩:=Gu z;obtain⟨f0,f1,f2,_⟩:=hf p.1 hb;obtain⟨o,e',d⟩:=ho p.1 hb;rw[e] at e';cases e';exact⟨e,f0,f1,f2,d⟩
theorem Inv.unpinned{pins pl:gc}{σ:St}{H:Hp}{s:eZ}(I:Inv X (pins++pl) σ H s):Inv X pins σ H s:=I.pins_of fun p hp=>I.pin p (nC _ (Aw _ hp))
theorem OI{iter:fw}{body:List Stmt}{wi:TI}{g:TG}{tb:TS}{pos:Pos}(hp:PassesOwn (model X.prog X.w) X.A X.env X.xe)(hc:X.calm=true)(hi:PI X tg iter wi)(hg:PG X tg g)(hb:PSs X body tb)
  (hs: ∀x,foldedSetIterable iter X.env x=pure x:=by intro _;rfl):PS X (.For tg iter body [] pos) (SQ wi g tb):=by
 intro pins s σ H D I h;refine wpAny_For (thn (hi pins s σ H _ I h) fun v s1 h1=>thn h1 fun cw s2 h2=>?_) hs;obtain⟨it,fp,tn,J,H2,e,I2,T,v9,f2,W,⟨m0,w0⟩,turn⟩:=h2;subst e;have r9: ∀{H':Hp},(∀b∈fp,H' b=none)-> ∀b∈fp,qi X pins H' b:=fun hn b hb=>⟨hn b hb,(f2 b hb).2⟩
 refine codeAny_forLoop_any (fun n s'=> ∃i σ' H',Inv X pins σ' H' s'/\tn i s'.heap/\(∀b∈fp,H' b=none)/\W i n σ' H') ?_ m0 ⟨0,σ,H2,I2,v9,fun b hb=>(f2 b hb).1,w0⟩;rintro n s3 ⟨i,σ3,H3,I3,cp,bZ,w3⟩;rcases turn i n σ3 H3 w3 with⟨stop,qn⟩|⟨go,N,hN,step⟩
 ·refine rP hp (thn (T.done X rfl rfl rfl hc i pins s3 σ3 H3 X.xe I3 (r9 bZ) cp stop) fun r s4 ⟨hr,I4⟩=>?_);subst hr;exact Dx ⟨σ3,H3,I4,qn⟩
 ·refine rP hp (thn (T.item X rfl rfl rfl hc i pins s3 σ3 H3 X.xe I3 (r9 bZ) cp go) fun r s4 ⟨u,hr,h4⟩=>?_);subst hr;refine rP hp (thn h4 fun _ s5 ⟨x,H5,I5,r5,y5,aY,eJ⟩=>?_);have eT:=I5.pinned (r9 eJ) (T.obj _ _ aY);refine rP hp (thn (hg _ s5 σ3 H5 x u _ eT r5 (step x H5 y5)) fun _ s6 ⟨σ6,H6,I6,q6⟩=>?_);refine rP hp (thn (hb _ s6 σ6 H6 _ I6 q6) fun f s7 q7=>?_)
  have again: ∀{σ7:St} {H7:Hp},Inv X (pins++xl fp s5.heap) σ7 H7 s7->N σ7 H7-> ∃m,m<n/\ ∃i σ' H',Inv X pins σ' H' s7/\tn i s7.heap/\(∀b∈fp,H' b=none)/\W i m σ' H':=fun {σ7 H7} I7 n7=>by
   obtain⟨m',hm,w7⟩:=hN σ7 H7 n7;refine⟨m',hm,i+1,σ7,H7,I7.unpinned,T.keep _ _ _ aY fun b hb o e=>(I7.pin (b,o) (nC _ (nC _ (oh hb e)))).1,fun b hb=>?_,w7⟩;obtain⟨o,e,d⟩:=T.obj _ _ aY b hb;exact(I7.pin (b,o) (nC _ (nC _ (oh hb e)))).2.1
  cases f with
  |next=>obtain⟨σ7,H7,I7,n7⟩:=q7;exact again I7 n7
  |cont=>obtain⟨σ7,H7,I7,n7⟩:=q7;exact again I7 n7
  |brk=>obtain⟨σ7,H7,I7,q7⟩:=q7;exact⟨σ7,H7,I7.unpinned,q7⟩
  |ret v=>obtain⟨x7,σ7,H7,I7,r7,q7⟩:=q7;exact⟨x7,σ7,H7,I7.unpinned,r7,q7⟩
end
abbrev R2:=V->V->Hp->VK->Prop
def OpR(X:Cx)(f:vE)(r:R2):Prop:=
 ∀(pins:gc) (s:eZ) (σ:St) (H:Hp) (x y:V) (v u:fI) (Q:VK),Inv X pins σ H s->RelV x v->RelV y u->r x y H Q->
  wpAny (model X.prog X.w) X.A (f v u) (EP X pins σ Q) X.xe s
def UnR(X:Cx)(f:Value->Sem Value)(r:V->Hp->VK->Prop):Prop:=
 ∀(pins:gc) (s:eZ) (σ:St) (H:Hp) (x:V) (v:fI) (Q:VK),Inv X pins σ H s->RelV x v->r x H Q->
  wpAny (model X.prog X.w) X.A (f v) (EP X pins σ Q) X.xe s
def hX(X:Cx)(f:fI)(r:List V->Hp->VK->Prop):Prop:=
 ∀(pins:gc) (s:eZ) (σ:St) (H:Hp) (xs:List V) (us:gH) (Q:VK),Inv X pins σ H s->Vals xs us->r xs H Q->
  wpAny (model X.prog X.w) X.A (call f us) (EP X pins σ Q) X.xe s
def Uh(X:Cx)(r:V->Hp->(Bool->Hp->Prop)->Prop):Prop:=
 ∀(pins:gc) (s:eZ) (σ:St) (H:Hp) (x:V) (v:fI) (Q:Bool->Hp->Prop),Inv X pins σ H s->RelV x v->r x H Q->
  wpAny (model X.prog X.w) X.A (truthy v) (TP X pins σ Q) X.xe s
noncomputable def tOp(r:R2)(ta tb:TE):TE:=fun σ H Q=>ta σ H fun x H1=>tb σ H1 fun y H2=>r x y H2 Q
def tUn(r:V->Hp->VK->Prop)(ta:TE):TE:=fun σ H Q=>ta σ H fun x H1=>r x H1 Q
def rI(C:Int->Int->Prop)(g:Int->Int->V):R2:=fun x y H Q=> ∃i j,x= .int i/\y= .int j/\C i j/\Q (g i j) H
def rI0(g:Int->Int->V):R2:=fun x y H Q=> ∃i j,x= .int i/\y= .int j/\Q (g i j) H
def rU(g:Int->V):V->Hp->VK->Prop:=fun x H Q=> ∃i,x= .int i/\Q (g i) H
section
variable {X:Cx}{a b c:fw}{ta tb tc:TE}{pos:Pos}
theorem PU(ha:PE X a ta)(hb:PE X b tb){pins:gc}{s:eZ}{σ:St}{H:Hp}{R:V->V->Hp->Prop}(I:Inv X pins σ H s)
  (h:ta σ H fun x H1=>tb σ H1 fun y H2=>R x y H2){Q:gm}{f:vE}
  (hf: ∀v u s2 x y H2,Inv X pins σ H2 s2->RelV x v->RelV y u->R x y H2->wpAny (model X.prog X.w) X.A (f v u) Q X.xe s2):
  wpAny (model X.prog X.w) X.A (eval a X.env) (fun v s₁=>wpAny (model X.prog X.w) X.A (eval b X.env) (fun u s₂=>wpAny (model X.prog X.w) X.A (f v u) Q X.xe s₂) X.xe s₁) X.xe s:=by
 refine thn (ha pins s σ H _ I h) fun v s1 ⟨x,H1,I1,r1,q1⟩=>?_;refine thn (hb pins s1 σ H1 _ I1 q1) fun u s2 ⟨y,H2,I2,r2,q2⟩=>?_;exact hf v u s2 x y H2 I2 r1 r2 q2
theorem Rg{op:Operator}{r:R2}(ho:OpR X (binaryOp op) r)(ha:PE X a ta)(hb:PE X b tb):PE X (.BinOp a op b pos) (tOp r ta tb):=by
 intro pins s σ H Q I h;exact wpAny_BinOp (PU ha hb I h fun v u s2 x y H2 I2 rx ry q=>ho pins s2 σ H2 x y v u Q I2 rx ry q)
theorem Rf{op:UnaryOp}{r:V->Hp->VK->Prop}(ho:UnR X (unaryOp op) r)(ha:PE X a ta):PE X (.UnaryOp op a pos) (tUn r ta):=by
 intro pins s σ H Q I h;exact UnaryOp_ (thn (ha pins s σ H _ I h) fun v s1 ⟨x,H1,I1,r1,q1⟩=>ho pins s1 σ H1 x v Q I1 r1 q1)
theorem opI{f:vE}{C:Int->Int->Prop}{g:Int->Int->Int}
  (rule: ∀(i j:Int) (t u:Tok) (s:eZ) (Q:gm) (E:gm),C i j->Q (.int (g i j) s.toks) {s with toks:=s.toks+1}->wpAny (model X.prog X.w) X.A (f (.int i t) (.int j u)) Q E s):
  OpR X f (rI C fun i j=> .int (g i j)):=by
 intro pins s σ H x y v u Q I rx ry h;obtain⟨i,j,rfl,rfl,hc,q⟩:=h;obtain⟨t,rfl⟩:=rx;obtain⟨t',rfl⟩:=ry;exact rule i j t t' s _ _ hc ⟨.int (g i j),H,I.tok _,⟨_,rfl⟩,q⟩
theorem Rq{f:vE}{g:Int->Int->Int}
  (rule: ∀(i j:Int) (t u:Tok) (s:eZ) (Q:gm) (E:gm),Q (.int (g i j) s.toks) {s with toks:=s.toks+1}->wpAny (model X.prog X.w) X.A (f (.int i t) (.int j u)) Q E s):
  OpR X f (rI0 fun i j=> .int (g i j)):=by
 intro pins s σ H x y v u Q I rx ry h;obtain⟨i,j,rfl,rfl,q⟩:=h;obtain⟨t,rfl⟩:=rx;obtain⟨t',rfl⟩:=ry;exact rule i j t t' s _ _ ⟨.int (g i j),H,I.tok _,⟨_,rfl⟩,q⟩
theorem Mm{f:vE}{g:Int->Int->Bool}
  (rule: ∀(i j:Int) (t u:Tok) (s:eZ) (Q:gm) (E:gm),Q (.bool (g i j)) s->wpAny (model X.prog X.w) X.A (f (.int i t) (.int j u)) Q E s):
  OpR X f (rI0 fun i j=> .bl (g i j)):=by
 intro pins s σ H x y v u Q I rx ry h;obtain⟨i,j,rfl,rfl,q⟩:=h;obtain⟨t,rfl⟩:=rx;obtain⟨t',rfl⟩:=ry;exact rule i j t t' s _ _ ⟨.bl (g i j),H,I,rfl,q⟩
def G3(i j:Int):Prop:=0<j/\j<1073741824
def Bu(i j:Int):Prop:=0<=j/\j<=1000000/\i.natAbs<2^64
def CMul(i j:Int):Prop:=(-(2^64)<i/\i<2^64)\/(-(2^64)<j/\j<2^64)
theorem CMul.ok{i j:Int}(h:CMul i j):IntMulOk i j:=by
 rcases h with⟨h1,h2⟩|⟨h1,h2⟩
 ·exact .of_left (intBits_le_64 h1 h2)
 ·exact .of_right (intBits_le_64 h1 h2)
theorem Pc:OpR X (binaryOp .Add) (rI0 fun i j=> .int (i+j)):=Rq fun _ _ _ _ _ _ _ q=>add_int q
theorem OW:OpR X (binaryOp .Sub) (rI0 fun i j=> .int (i-j)):=Rq fun _ _ _ _ _ _ _ q=>sub_int q
theorem OZ:OpR X (binaryOp .Mult) (rI CMul fun i j=> .int (i*j)):=opI fun _ _ _ _ _ _ _ hc q=>mul_int q hc.ok
theorem Mk:OpR X (binaryOp .FloorDiv) (rI G3 fun i j=> .int (i / j)):=opI fun i j _ _ _ _ _ hc q=>by
 have h1:(0:Int)<j:=hc.1;have h2:j<1073741824:=hc.2;exact floordiv_int (by lia) (by rw[Int.fdiv_eq_ediv_of_nonneg i (by lia)];exact q) (.inl (PyProof.noPylong_small (by lia)))
theorem Pa:OpR X (binaryOp .Mod) (rI (fun _ j=>0<j) fun i j=> .int (i%j)):=opI fun i j _ _ _ _ _ hc q=>by
 have h1:(0:Int)<j:=hc;exact mod_int' (by lia) (by rw[Int.fmod_eq_emod_of_nonneg i (by lia)];exact q)
theorem OX:OpR X (binaryOp .Pow) (rI Bu fun i j=> .int (i^j.toNat)):=opI fun _ _ _ _ _ _ _ hc q=>pow_int_small hc.1 hc.2.1 hc.2.2 q
theorem unI{f:Value->Sem Value}{g:Int->Int}
  (rule: ∀(i:Int) (t:Tok) (s:eZ) (Q:gm) (E:gm),Q (.int (g i) s.toks) {s with toks:=s.toks+1}->wpAny (model X.prog X.w) X.A (f (.int i t)) Q E s):
  UnR X f (rU fun i=> .int (g i)):=by
 intro pins s σ H x v Q I rx h;obtain⟨i,rfl,q⟩:=h;obtain⟨t,rfl⟩:=rx;exact rule i t s _ _ ⟨.int (g i),H,I.tok _,⟨_,rfl⟩,q⟩
theorem NH:UnR X (unaryOp .USub) (rU fun i=> .int (-i)):=unI fun _ _ _ _ _ q=>neg_int q
theorem Rk:OpR X (compareOp .Lt) (rI0 fun i j=> .bl (decide (i<j))):=Mm fun _ _ _ _ _ _ _ q=>lt_int q
theorem Rl:OpR X (compareOp .LtE) (rI0 fun i j=> .bl (decide (i<=j))):=Mm fun _ _ _ _ _ _ _ q=>le_int q
theorem Rm:OpR X (compareOp .Gt) (rI0 fun i j=> .bl (decide (j<i))):=Mm fun _ _ _ _ _ _ _ q=>gt_int q
theorem Ro:OpR X (compareOp .GtE) (rI0 fun i j=> .bl (decide (j<=i))):=Mm fun _ _ _ _ _ _ _ q=>ge_int q
theorem JH(b:fw){op:CmpOp}(h:op≠ .In:=by decide)(h2:op≠ .NotIn:=by decide):behindInMarks op b=false:=by
 have e1:(op==CmpOp.In)=false:=by cases op<;>first|rfl|exact absurd rfl h
 have e2:(op==CmpOp.NotIn)=false:=by cases op<;>first|rfl|exact absurd rfl h2
 cases b<;>simp[behindInMarks,e1,e2]
theorem Md{op:CmpOp}{r:R2}(ho:OpR X (compareOp op) r)(ha:PE X a ta)(hb:PE X b tb)(hm:behindInMarks op b=false):PE X (.Compare a [op] [b] pos) (tOp r ta tb):=by
 intro pins s σ H Q I h;exact wpAny_Compare1 (PU ha hb I h fun v u s2 x y H2 I2 rx ry q=>ho pins s2 σ H2 x y v u Q I2 rx ry q) hm
def Nc(t:TE):TT:=fun σ H Q=>t σ H fun x H'=> ∃k,x= .bl k/\Q k H'
theorem LX{op:CmpOp}{r:R2}(ho:OpR X (compareOp op) r)(ha:PE X a ta)(hb:PE X b tb)(hm:behindInMarks op b=false):PT X (.Compare a [op] [b] pos) (Nc (tOp r ta tb)):=by
 intro pins s σ H Q I h;refine wpAny_isTrue_Compare1 (thn (ha pins s σ H _ I h) fun v s1 hZ=>?_) hm;obtain⟨x,H1,I1,r1,q1⟩:=hZ;refine thn (hb pins s1 σ H1 _ I1 q1) fun u s2 hZ=>?_;obtain⟨y,H2,I2,r2,q2⟩:=hZ;refine thn (ho pins s2 σ H2 x y v u _ I2 r1 r2 q2) fun c s3 hZ=>?_;obtain⟨z,H3,I3,r3,k,e,q3⟩:=hZ;subst e;cases r3;exact tH ⟨H3,I3,q3⟩
def DE(r r':R2)(ta tb tc:TE):TE:=fun σ H Q=>ta σ H fun x H1=>tb σ H1 fun y H2=>r x y H2 fun z H3=> ∃k,z= .bl k/\
 (if k=true then tc σ H3 fun w' H4=>r' y w' H4 Q else Q (.bl false) H3)
theorem Jv{op k7:CmpOp}{r r':R2}(ho:OpR X (compareOp op) r)(s9:OpR X (compareOp k7) r')(ha:PE X a ta)(hb:PE X b tb)(hc:PE X c tc)
  (hm:lastMarks [op,k7] [b,c]=false:=by with_unfolding_all rfl):PE X (.Compare a [op,k7] [b,c] pos) (DE r r' ta tb tc):=by
 intro pins s σ H Q I h;refine Compare_chain (thn (ha pins s σ H _ I h) fun v s1 hZ=>?_) hm;obtain⟨x,H1,I1,r1,q1⟩:=hZ;refine chain_link (thn (hb pins s1 σ H1 _ I1 q1) fun u s2 hZ=>?_);obtain⟨y,H2,I2,r2,q2⟩:=hZ;refine thn (ho pins s2 σ H2 x y v u _ I2 r1 r2 q2) fun d s3 hZ=>?_;obtain⟨z,H3,I3,r3,k,e,q3⟩:=hZ;subst e;cases r3;refine tH ?_
 cases k with
 |false=>exact ite_ff ⟨.bl false,H3,I3,rfl,q3⟩
 |true=>exact ite_tt (chain_last (thn (hc pins s3 σ H3 _ I3 q3) fun w' s4 ⟨z',H4,I4,r4,q4⟩=>s9 pins s4 σ H4 y z' u w' Q I4 r2 r4 q4))
theorem IU{op k7:CmpOp}{r r':R2}(ho:OpR X (compareOp op) r)(s9:OpR X (compareOp k7) r')(ha:PE X a ta)(hb:PE X b tb)(hc:PE X c tc)
  (hm:lastMarks [op,k7] [b,c]=false:=by with_unfolding_all rfl):PT X (.Compare a [op,k7] [b,c] pos) (Nc (DE r r' ta tb tc)):=by
 intro pins s σ H Q I h;refine isTrue_chain (thn (ha pins s σ H _ I h) fun v s1 hZ=>?_) hm;obtain⟨x,H1,I1,r1,q1⟩:=hZ;refine test_link (thn (hb pins s1 σ H1 _ I1 q1) fun u s2 hZ=>?_);obtain⟨y,H2,I2,r2,q2⟩:=hZ;refine thn (ho pins s2 σ H2 x y v u _ I2 r1 r2 q2) fun d s3 hZ=>?_;obtain⟨z,H3,I3,r3,k,e,q3⟩:=hZ;subst e;cases r3;refine tH ?_
 cases k with
 |false=>
  obtain⟨k',e',q'⟩:=q3;cases e';exact ite_ff ⟨H3,I3,q'⟩
 |true=>
  refine ite_tt (test_last (thn (hc pins s3 σ H3 _ I3 q3) fun w' s4 hZ=>?_));obtain⟨z',H4,I4,r4,q4⟩:=hZ;refine thn (s9 pins s4 σ H4 y z' u w' _ I4 r2 r4 q4) fun d' s5 hZ=>?_;obtain⟨z2,H5,I5,r5,k2,e2,q5⟩:=hZ;subst e2;cases r5;exact tH ⟨H5,I5,q5⟩
def R3(K:fO)(x:V)(H:Hp)(k:Bool):Prop:=
 match x with
 | .non=>k=false
 | .bl b=>k=b
 | .int i=>k=(i !=0)
 | .str y=>y.length<=sizeLine/\k=((y.length:Int) !=0)
 | .byt y=>y.size<=sizeLine/\k=((y.size:Int) !=0)
 | .ref p=>(∃xs,SqL K H p xs/\k=!xs.isEmpty)\/(∃xs,SqT K H p xs/\k=!xs.isEmpty)\/ ∃kvs,H p=some (.dK kvs)/\k=!kvs.isEmpty
 |_=>False
theorem Ed{κ:Type}{kvs:List (κ×V)}{vs:List (κ×Value)}(r:KV kvs vs):(!vs.isEmpty)=!kvs.isEmpty:=by
 cases r<;>rfl
theorem xS{xs:List V}{b6:gH}(r:Vals xs b6):(!b6.toArray.isEmpty)=!xs.isEmpty:=by
 cases r<;>simp
theorem xP:(sizeLine:Nat)<2^63:=by rw[gA];decide
theorem NJ:Uh X (fun x H Q=> ∃k,R3 X.K x H k/\Q k H):=by
 intro pins s σ H x v Q I rx h;obtain⟨k,e,q⟩:=h;have hl:=xP;have hs:sizeLine=16777216:=gA
 cases x with
 |non=>
  cases rx;have e':k=false:=e;subst e';exact truthy_none ⟨H,I,q⟩
 |bl b=>
  cases rx;have e':k=b:=e;subst e';exact tH ⟨H,I,q⟩
 |int i=>
  obtain⟨t,rfl⟩:=rx;have e':k=(i !=0):=e;subst e';exact PySem.P.truthy_int ⟨H,I,q⟩
 |str y=>
  obtain⟨t,rfl⟩:=rx;obtain⟨hy,e'⟩:y.length<=sizeLine/\k=((y.length:Int) !=0):=e;subst e';exact PySem.P.truthy_str (by lia) ⟨H,I.tok _,q⟩
 |byt y=>
  obtain⟨t,rfl⟩:=rx;obtain⟨hy,e'⟩:y.size<=sizeLine/\k=((y.size:Int) !=0):=e;subst e';exact PySem.W.truthy_bytes (by lia) ⟨H,I.tok _,q⟩
 |ref p=>
  cases rx;have e':(∃xs,SqL X.K H p xs/\k=!xs.isEmpty)\/(∃xs,SqT X.K H p xs/\k=!xs.isEmpty)\/ ∃kvs,H p=some (.dK kvs)/\k=!kvs.isEmpty:=e;rcases e' with⟨xs,hx,e'⟩|⟨xs,hx,e'⟩|⟨kvs,hx,e'⟩
  ·subst e';obtain⟨b6,r,pl,hz⟩:=I.list hx;have hlen:=r.length;exact wpAny_truthy_list pl.isList (by simp only[gr];lia) ⟨H,I.tok _,by rw[xS r];exact q⟩
  ·subst e';obtain⟨b6,r,pl,hz⟩:=I.tuple hx;have hlen:=r.length;exact truthy_tuple pl (by simp only[gr];lia) ⟨H,I.tok _,by rw[xS r];exact q⟩
  ·subst e';obtain⟨hz,hS,vs,r,m⟩:kvs.length<=sizeLine/\(p==sysModules)=false/\ ∃vs,KV kvs vs/\s.heap.DictOf (jr X.prog X.w) p vs:=I.hok p _ hx;have hlen:kvs.length=vs.length:=va r;exact wpAny_truthy_dict hS m (by lia) ⟨H,I.tok _,by rw[Ed r];exact q⟩
 |_=>exact(show False from e).elim
theorem IT(ha:PE X a ta)(he: ∀whole,isTrue a X.env whole=(do let v <-whole;standAt a.pos;holding [v] (truthy v))):
  PT X a (fun σ H Q=>ta σ H fun x H'=> ∃k,R3 X.K x H' k/\Q k H'):=by
 intro pins s σ H Q I h;exact isTrue_plain (thn (ha pins s σ H _ I h) fun v s1 ⟨x,H1,I1,r1,q1⟩=>NJ pins s1 σ H1 x v Q I1 r1 q1) (he _)
theorem D1:OpR X (binaryOp .Add) (fun x y H Q=> ∃i j,x= .str i/\y= .str j/\i.length+j.length<=sizeLine/\Q (.str (i++j)) H):=by
 intro pins s σ H x y v u Q I rx ry h;obtain⟨i,j,rfl,rfl,hz,q⟩:=h;obtain⟨t,rfl⟩:=rx;obtain⟨t',rfl⟩:=ry;exact add_str (fun t' tk=>⟨.str (i++j),H,I.tok _,⟨_,rfl⟩,q⟩) hz
theorem lJ{x:V}{us:gH}(r:Vals [x] us): ∃u,us=[u]/\RelV x u:=by
 cases r with
 |cons r1 r2=>cases r2;exact⟨_,rfl,r1⟩
theorem wV{x y:V}{us:gH}(r:Vals [x,y] us): ∃u w',us=[u,w']/\RelV x u/\RelV y w':=by
 cases r with
 |cons r1 r2=>
  cases r2 with
  |cons r3 r4=>cases r4;exact⟨_,_,rfl,r1,r3⟩
theorem KD:hX X (.builtin "abs") (fun xs H Q=> ∃i,xs=[.int i]/\Q (.int (if i<0 then -i else i)) H):=by
 intro pins s σ H xs us Q I r h;obtain⟨i,rfl,q⟩:=h;obtain⟨u,rfl,t,rfl⟩:=lJ r;exact call_abs_int fun u tk=>⟨.int (if i<0 then -i else i),H,I.tok _,⟨_,rfl⟩,q⟩
theorem GW(hc:X.calm=true):hX X (.builtin "max") (fun xs H Q=> ∃i j,xs=[.int i,.int j]/\Q (.int (if j>i then j else i)) H):=by
 intro pins s σ H xs us Q I r h;obtain⟨i,j,rfl,q⟩:=h;obtain⟨u,w',rfl,⟨t,rfl⟩,⟨t',rfl⟩⟩:=wV r;refine max_two_ints (I.ok.hd hc) fun h' tk k=>⟨_,H,I.kept k,?_,q⟩
 by_cases hj:j>i
 ·rw[fJ hj,fJ hj];exact⟨_,rfl⟩
 ·rw[fR hj,fR hj];exact⟨_,rfl⟩
theorem GV(hc:X.calm=true):hX X (.builtin "min") (fun xs H Q=> ∃i j,xs=[.int i,.int j]/\Q (.int (if j<i then j else i)) H):=by
 intro pins s σ H xs us Q I r h;obtain⟨i,j,rfl,q⟩:=h;obtain⟨u,w',rfl,⟨t,rfl⟩,⟨t',rfl⟩⟩:=wV r;refine min_two_ints (I.ok.hd hc) fun h' tk k=>⟨_,H,I.kept k,?_,q⟩
 by_cases hj:j<i
 ·rw[fJ hj,fJ hj];exact⟨_,rfl⟩
 ·rw[fR hj,fR hj];exact⟨_,rfl⟩
theorem zI:hX X (.type "int") (fun xs H Q=>(∃i,xs=[.int i]/\Q (.int i) H)\/ ∃k,xs=[.bl k]/\Q (.int (if k then 1 else 0)) H):=by
 intro pins s σ H xs us Q I r h;rcases h with⟨i,rfl,q⟩|⟨k,rfl,q⟩
 ·obtain⟨u,rfl,t,rfl⟩:=lJ r;exact call_int_int ⟨.int i,H,I,⟨_,rfl⟩,q⟩
 ·obtain⟨u,rfl,r1⟩:=lJ r;cases r1;exact call_int_bool ⟨.int (if k then 1 else 0),H,I.tok _,⟨_,rfl⟩,q⟩
theorem Bo:hX X (.type "str") (fun xs H Q=> ∃i,xs=[.int i]/\i.natAbs.log2<1920/\Q (.str (toString i)) H):=by
 intro pins s σ H xs us Q I r h;obtain⟨i,rfl,hz,q⟩:=h;obtain⟨u,rfl,t,rfl⟩:=lJ r;exact PySem.P.str_of_int hz ⟨.str _,H,I.tok _,⟨_,rfl⟩,q⟩
end
section
variable {prog:fS}{w:fL}{A:fQ}{E:gm}{s:eZ}{K:fO}{x dx C f:eX}{mA:jY}{name:Str}{v:fI}
end
theorem RelO.some_of{v:V}{o:Option Value}(r:RelO (some v) o): ∃u,o=some u/\RelV v u:=by
 cases o with
 |none=>exact(show False from r).elim
 |some u=>exact⟨u,rfl,r⟩
section
variable {P:fS}{w:fL}{H H':Hp}{h h':fP}{a C dx:eX}{fs eI:List (Str×V)}
end
section
variable {X:Cx}{pins:gc}{σ:St}{H:Hp}{s:eZ}{a C dx:eX}{fs:List (Str×V)}{f:Str}{v:V}{A:fQ}{E:gm}
end
section
variable {X:Cx}{o e value:fw}{f:Str}{pos pos' n6:Pos}{ta tv:TE}
end
section
variable {X:Cx}{pins:gc}{σ:St}{H:Hp}{s:eZ}{A:fQ}{E:gm}{Q:gm}{c:fI}{b:Bool}
end
structure Room(k:Nat)(A:fQ):Prop where
 hd:A.handled=none
 dp:A.depth+3*k+5<recursionLimit
 un:A.units+16*k+200<cLine
 gd:A.guards=some []:=by rfl
theorem Room.mono{j k:Nat}{A:fQ}(r:Room k A)(h:j<=k):Room j A:=⟨r.hd,by have:=r.dp;lia,by have:=r.un;lia,r.gd⟩
theorem Room.deeper{k:Nat}{A:fQ}(r:Room (k+1) A)(env:Env):Room k (A.deeper env):=
 ⟨r.hd,by have:=r.dp;show A.depth+1+3*k+5<_;lia,by have:=r.un;show A.units+3+16*k+200<_;lia,r.gd⟩
theorem Room.depth{k:Nat}{A:fQ}(r:Room k A):A.depth<recursionLimit:=by have:=r.dp;lia
noncomputable def SM:TA:=fun _ H Q=>Q [] H
noncomputable def Qw(ta:TE)(tr:TA):TA:=fun σ H Q=>ta σ H fun x H1=>tr σ H1 fun xs H2=>Q (x::xs) H2
section
variable {X:Cx}{e:fw}{es:hW}{te:TE}{t:TA}{pos:Pos}
theorem ko:PA X [] SM:=fun _ _ _ _ H Q I h=>Calls.spliced_nil ⟨[],H,I,.nil,h⟩
theorem iX(ha:PE X e te)(hr:PA X es t)(hs:starEach (e::es) X.env=(false,eval e X.env)::starEach es X.env:=by rfl):PA X (e::es) (Qw te t):=by
 intro pos pins s σ H Q I h;rw[hs];show wpAny _ _ (spliced ((false,eval e X.env)::backTo pos (starEach es X.env))) _ _ s;refine Calls.spliced_cons (thn (ha pins s σ H _ I h) fun u s1 ⟨x,H1,I1,r1,q1⟩=>?_);exact thn (hr pos pins s1 σ H1 _ I1 q1) fun us s2 ⟨xs,H2,I2,r2,q2⟩=>⟨x::xs,H2,I2,.cons r1 r2,q2⟩
noncomputable def SF(t:TA):TE:=fun σ H Q=>t σ H fun xs H1=>xs.length<=sizeLine/\ ∀p,H1 p=none->Q (.ref p) (upd H1 p (.tup xs))
noncomputable def SN(t:TA):TE:=fun σ H Q=>t σ H fun xs H1=>xs.length<=sizeLine/\ ∀p,H1 p=none->Q (.ref p) (upd H1 p (.lst xs))
theorem Jq{x1}(h:PA X es t):PE X (.Tuple es x1 pos) (SF t):=by
 intro pins s σ H Q I hq;refine wpAny_Tuple_spliced (thn (h pos pins s σ H _ I hq) fun us s1 ⟨xs,H1,I1,r,z,q⟩=>⟨by rw[<-r.length];exact z,?_⟩);have hf:H1 s1.heap.objs.size=none:=I1.hok.fresh (gJ _);refine⟨.ref s1.heap.objs.size,upd H1 s1.heap.objs.size (.tup xs),I1.laid (t':=s1.toks) (fun b u e=>ik _ e) (gJ _) ?_,rfl,q _ hf⟩;exact⟨z,us,r,⟨_,iK _ rfl,rfl,_,rfl⟩⟩
theorem OT(h:PA X es t):PE X (.List es pos) (SN t):=by
 intro pins s σ H Q I hq;refine wpAny_List_spliced (thn (h pos pins s σ H _ I hq) fun us s1 ⟨xs,H1,I1,r,z,q⟩=>⟨by rw[<-r.length];exact z,?_⟩);have hf:H1 s1.heap.objs.size=none:=I1.hok.fresh (gJ _);refine⟨.ref s1.heap.objs.size,upd H1 s1.heap.objs.size (.lst xs),I1.laid (t':=s1.toks) (fun b u e=>ik _ e) (gJ _) ?_,rfl,q _ hf⟩;exact⟨z,us,0,r,iK _ rfl⟩
end
abbrev Sp:=List V->Hp->VK->XK->Prop
abbrev CXT:=List Env->Hp->Shared->XK->Value->Shared->Prop
structure Env0(P:fS)(w:fL)(K:fO)(mg:jY)(base:fP)(A:fQ)(outer:List Env)(s:eZ)(H:Hp):Prop where
 frames:A.frames=some outer
 mod:Mod K mg base
 bs: ∀b o,base.get? b=some o->s.heap.get? b=some o/\H b=none
 bsz:base.objs.size<=s.heap.objs.size
 funs:s.heap.FunFrames base outer
 frf: ∀b∈frs outer,H b=none
 hok:HOk P w H s.heap
 bare:AllBare s.gens
def CE(outer:List Env)(P:fS)(w:fL)(H:Hp)(s:eZ)(Q:VK)(u:fI)(s':eZ):Prop:=
 ∃v H',s'.os=s.os/\AllBare s'.gens/\Un (frs outer) [] H H' s.heap s'.heap/\HOk P w H' s'.heap/\RelV v u/\Q v H'
def CR(CX:CXT)(outer:List Env)(P:fS)(w:fL)(H:Hp)(s:eZ)(Q:VK)(E:XK)(r:Result)(s':eZ):Prop:=
 match r with
 | .ok (.ret u)=>CE outer P w H s Q u s'
 | .ok _=>False
 | .error e=>CX outer H s E e s'
structure FnOk(P:fS)(w:fL)(K:fO)(mg:jY)(base:fP)(CX:CXT)(k:Nat)(f:eX)(fd:kO)(ps:fV)(sp:Sp):Prop where
 len: ∀vs H Q E,sp vs H Q E->vs.length=ps.length
 run: ∀(A:fQ) (outer:List Env) (s:eZ) (H:Hp) (args:Args) (us:gH) (vs:List V) (Q:VK) (E:XK),Room k A->Env0 P w K mg base A outer s H->BindsTo s fd args (ps.zip us)->Vals vs us->sp vs H Q E->
  codeAny (model P w) A (.call (.ref f) args) (CR CX outer P w H s Q E) s
theorem FnOk.mono{P:fS}{w:fL}{K:fO}{mg:jY}{base:fP}{CX:CXT}{j k:Nat}{f:eX}{fd:kO}{ps:fV}{sp:Sp}(F:FnOk P w K mg base CX j f fd ps sp)(h:j<=k):
  FnOk P w K mg base CX k f fd ps sp:=⟨F.len,fun A outer s H args us vs Q E hr=>F.run A outer s H args us vs Q E (hr.mono h)⟩
section
variable {X:Cx}{pins:gc}{σ:St}{H:Hp}{s s':eZ}
theorem Inv.env0(I:Inv X pins σ H s):Env0 X.prog X.w X.K X.mg X.base X.A X.stack s H:=
 ⟨I.ok.frames,I.ok.mod,I.bs,mH I.ok.bsz I.sz,I.stack,I.stkFree,I.hok,I.bare⟩
theorem Inv.after{Q:VK}{u:fI}(I:Inv X pins σ H s)(h:CE X.stack X.prog X.w H s Q u s'):EP X pins σ Q u s':=by
 obtain⟨v,H',os,bare,un,hok,r,q⟩:=h;obtain⟨hh,g,d,t,bf⟩:=s';obtain rfl:bf=s.os:=os;exact⟨v,H',I.call (h':=hh) (g':=g) (d':=d) (t':=t) (ch:=[]) un hok bare (fun b z=>absurd z (by simp)),r,q⟩
end
noncomputable def Qx(sp:Sp)(aV:List V)(E:XK)(t:TA):TE:=fun σ H Q=>t σ H fun vs H1=>sp (vs++aV) H1 Q E
def Binds(K:fO)(fd:kO)(ps:fV)(ds:gH):Prop:=
 ∀(s:eZ) (us:gH),K.In s.heap->(us++ds).length=ps.length->BindsTo s fd ⟨us,[]⟩ (ps.zip (us++ds))
theorem Binds.all{K:fO}{fd:kO}{ps:fV}(h: ∀us:List Value,us.length=ps.length->bindArgs fd ⟨us,[]⟩=pure (ps.zip us)):Binds K fd ps []:=fun s us _ hl=>by
 rw[wK] at hl ⊢;exact .of_eq (h us hl)
def Ex(CX:CXT)(X:Cx)(E:XK):Prop:= ∀(pins:gc) (σ:St) (H:Hp) (s:eZ) (e:fI) (s':eZ),Inv X pins σ H s->CX X.stack H s E e s'->X.xe e s'
section
variable {X:Cx}{CX:CXT}{k:Nat}{f C:eX}{fd:kO}{ps:fV}{sp:Sp}{aV:List V}{ds:gH}{E:XK}{x m:Str}{p pos apos:Pos}{e o:fw}{es:hW}{ta:TE}{t:TA}
theorem N1{pins:gc}{σ:St}{H:Hp}{s:eZ}{Q:VK}{us:gH}{vs:List V}(F:FnOk X.prog X.w X.K X.mg X.base CX k f fd ps sp)(hr:Room k X.A)(hb:Binds X.K fd ps ds)(hd:Vals aV ds)(hx:Ex CX X E)
  (I:Inv X pins σ H s)(r:Vals vs us)(h:sp (vs++aV) H Q E):wpAny (model X.prog X.w) X.A (call (.ref f) us) (EP X pins σ Q) X.xe s:=by
 have r2:Vals (vs++aV) (us++ds):=r.append hd;have hl:(us++ds).length=ps.length:=by rw[<-r2.length];exact F.len _ _ _ _ h
 refine wpAny_call (rO (F.run X.A X.stack s H ⟨us,[]⟩ (us++ds) (vs++aV) Q E hr I.env0 (hb s us I.kIn hl) r2 h) fun r s' hq=>?_)
 cases r with
 |error e=>exact hx pins σ H s e s' I hq
 |ok fl=>
  cases fl with
  |ret u=>exact I.after hq
  |next=>exact False.elim hq
  |brk=>exact False.elim hq
  |cont=>exact False.elim hq
theorem Me(F:FnOk X.prog X.w X.K X.mg X.base CX k f fd ps sp)(hr:Room k X.A)(hg:Gl X x)(hm:X.mg x=some (.ref f))(hk:PySem.W.keepIn X.K (.ref f)=true)(hb:Binds X.K fd ps ds)(hd:Vals aV ds)(hx:Ex CX X E)
  (ha:PA X (e::es) t)(j6:(x==("__debug__":Str))=false:=by decide)(he:starEach (e::es) X.env=(false,eval e X.env)::starEach es X.env:=by rfl)(h9:(backTo pos (starEach es X.env)).any (·.1)=false:=by rfl):
  PE X (.Call (.Name x p) (e::es) [] pos) (Qx sp aV E t):=by
 intro pins s σ H Q I h;refine Au (Fh I hg hm ?_ j6);refine PySem.W.callWith_K (h₀:=X.base) I.ok.mod.kin hk (thn (ha pos pins s σ H _ I h) fun us s1 ⟨vs,H1,I1,r,q⟩=>⟨I1.kIn,?_⟩) he h9;exact N1 F hr hb hd hx I1 r q
end
section
variable {X:Cx}{CX:CXT}{k:Nat}{f C:eX}{fd:kO}{ps ks:fV}{sp:Sp}{E:XK}{x m:Str}{p pos apos kpos:Pos}{e o:fw}{es:hW}{kws:List Keyword}{te ta:TE}{t tk:TA}{nm:Option Str}
variable {g:List Value->List Value->List Value}{gV:List V->List V->List V}
end
structure FnScope(N P:fV)(sc:hJ):Prop where
 kind:sc.kind= .function
 co:sc.isCoroutine=false
 gen:sc.isGenerator=false
 nd:N.Nodup
 pre:N.take P.length=P
 par: ∀x∈P,sc.names.lookup x=some .local\/sc.names.lookup x=some .cell
 nofree: ∀y∈sc.names,y.2≠ .free
theorem zJ{kindOf:Str->Option NameKind}{x:Str}: ∀{binds:List (Str×Value)} {m:jY},(∀v,(x,v)∉binds)->bindL kindOf binds m x=m x
 |[],_,_=>rfl
 |(n,v)::r,m,h=>by
  unfold bindL;rw[zJ fun w hw=>h w (gX _ hw)];split
  ·have:x≠n:=by rintro rfl;exact h v gY
   simp[this]
  ·rfl
theorem zL{kindOf:Str->Option NameKind}{x:Str}: ∀{binds:List (Str×Value)} {m:jY},(∀v,(x,v)∉binds)->bindC kindOf binds m x=m x
 |[],_,_=>rfl
 |(n,v)::r,m,h=>by
  unfold bindC;rw[zL fun w hw=>h w (gX _ hw)];split
  ·rfl
  ·have:x≠n:=by rintro rfl;exact h v gY
   simp[this]
theorem zK{kindOf:Str->Option NameKind}{x:Str}{v:fI}: ∀{P:fV} {vs:gH} {i:Nat} {m:jY},P.Nodup->P[i]?=some x->vs[i]?=some v->kindOf x=some .local->
  bindL kindOf (P.zip vs) m x=some v
 |[],_,_,_,_,h,_,_=>by simp at h
 |_::_,[],_,_,_,_,h,_=>by simp at h
 |p::P,w::vs,0,m,nd,h1,h2,hk=>by
  simp at h1 h2;subst h1;subst h2;show bindL kindOf ((p,w)::P.zip vs) m p=_;unfold bindL;rw[zJ fun v hv=>(Ax.mp nd).1 (Dv hv).1,fJ hk];simp
 |p::P,w::vs,i+1,m,nd,h1,h2,hk=>by
  show bindL kindOf ((p,w)::P.zip vs) m x=_;unfold bindL;exact zK (i:=i) (Ax.mp nd).2 (by simpa using h1) (by simpa using h2) hk
theorem zM{kindOf:Str->Option NameKind}{x:Str}{v:fI}: ∀{P:fV} {vs:gH} {i:Nat} {m:jY},P.Nodup->P[i]?=some x->vs[i]?=some v->kindOf x≠some .local->
  bindC kindOf (P.zip vs) m x=some v
 |[],_,_,_,_,h,_,_=>by simp at h
 |_::_,[],_,_,_,_,h,_=>by simp at h
 |p::P,w::vs,0,m,nd,h1,h2,hk=>by
  simp at h1 h2;subst h1;subst h2;show bindC kindOf ((p,w)::P.zip vs) m p=_;unfold bindC;rw[zL fun v hv=>(Ax.mp nd).1 (Dv hv).1,fR hk];simp
 |p::P,w::vs,i+1,m,nd,h1,h2,hk=>by
  show bindC kindOf ((p,w)::P.zip vs) m x=_;unfold bindC;exact zM (i:=i) (Ax.mp nd).2 (by simpa using h1) (by simpa using h2) hk
noncomputable def oP(N:fV)(vs:List V):St:=vs.map some++List.replicate (N.length-vs.length) none
noncomputable def Cv(CX:CXT)(P:fS)(w:fL)(K:fO)(mg:jY)(base:fP)(N:fV)(qual:Str)(scope:hJ)(f:eX)(cd:fI)(A:fQ)(outer:List Env)(s:eZ)(H:Hp)(E:XK):Cx where
 prog:=P
 w:=w
 K:=K
 mg:=mg
 base:=base
 A:=A.deeper (envOfC qual scope s.heap.objs.size f cd)
 N:=N
 s₀:=s
 H₀:=H
 env:=envOfC qual scope s.heap.objs.size f cd
 outer:=outer
 stack:=envOfC qual scope s.heap.objs.size f cd::outer
 ex:=[]
 calm:=true
 fn:=fun _=>true
 pn:=[]
 xe:=fun e s'=>wpAny (model P w) (A.deeper (envOfC qual scope s.heap.objs.size f cd)) (leaving (envOfC qual scope s.heap.objs.size f cd) e) (fun _ aQ=>CX outer H s E e aQ) (fun e' aQ=>CX outer H s E e' aQ) s'
theorem CC{sc:hJ}{n:Nat}{x:Str}(h:sc.names.lookup x=some .cell): ∃c,(cellsFrom n sc.names []).lookup x=some c:=by
 have q:=As sc.names n [] (.inl h);exact G7.mp q
theorem GG{CX:CXT}{P:fS}{w:fL}{K:fO}{mg:jY}{base:fP}{N ps:fV}{qual:Str}{scope:hJ}{f:eX}{cd:fI}{A:fQ}{outer:List Env}{s s1:eZ}{H:Hp}{E:XK}{us:gH}{vs:List V}
  (S:FnScope N ps scope)(hd:A.handled=none)(e0:Env0 P w K mg base A outer s H)(hl:vs.length=ps.length)(r:Vals vs us)
  (x:InCallC s s.heap.objs.size (bindL (envOfC qual scope s.heap.objs.size f cd).kindOf (ps.zip us) fun _=>none) (cellsFrom (s.heap.objs.size+1) scope.names []) (bindC (envOfC qual scope s.heap.objs.size f cd).kindOf (ps.zip us) fun _=>none) s1):
  Inv (Cv CX P w K mg base N qual scope f cd A outer s H E) [] (oP N vs) H s1:=by
 have h9:ps.length<=N.length:=by have:=lH List.length S.pre;rw[qU] at this;lia
 obtain⟨h1,tk,rfl,hk⟩:=x.done;have cq: ∀b:Addr,b∉(Cv CX P w K mg base N qual scope f cd A outer s H E).ex:=fun b z=>absurd (show b∈([]:List Addr) from z) (by simp)
 refine⟨⟨e0.mod,S.kind,rfl,rfl,gJ _,fun y z c h1 h2=>?_,fun y hy=>?_,fun y c _ h=>?_,fun _=>hd,Around.frames_deeper e0.frames,.inr ⟨rfl,rfl⟩,fun b z=>absurd z (cq b),e0.bs,e0.bsz,fun b _ _=>cq b,fun b z=>absurd z (cq b),e0.funs,e0.frf⟩,
  rfl,e0.bare,Un.kept hk,⟨_,x.toInCall.ns,fun i y v h1 h2 h3=>?_⟩,fun y c h=>⟨_,x.cell y c h⟩,e0.hok.fresh (gJ _),fun y c h=>?_,fun p hp=>absurd (show p∈([]:List (Addr×Obj)) from hp) (by simp),e0.hok.kept hk,?_⟩
 ·exact name_of_addr x.apart (vG h1) (vG h2)
 ·have hy:scope.names.lookup y=some .cell\/scope.names.lookup y=some .free:=hy;rcases hy with hy|hy
  ·exact CC hy
  ·exact absurd rfl (S.nofree _ (vG hy))
 ·exact uZ (x.above y c (vG h))
 ·have hi:i<vs.length:=by
   unfold oP at h2;by_cases hi:i<vs.length
   ·exact hi
   ·rw[nB (by simpa using hi)] at h2;rw[List.getElem?_replicate] at h2;split at h2<;>cases h2
  have ha:vs[i]?=some v:=by
   unfold oP at h2;rw[qT (by simpa using hi),jU] at h2
   cases e:vs[i]? with
   |none=>rw[e] at h2;cases h2
   |some a=>rw[e] at h2;cases h2;rfl
  obtain⟨u,hu,rv⟩:=r.get ha
  have hp:ps[i]?=some y:=by
   rw[<-S.pre,Du (by lia)];exact h1
  have ndP:ps.Nodup:=by rw[<-S.pre];exact S.nd.sublist (uV _ _)
  refine⟨u,rv,?_⟩;rcases S.par y (lG hp) with k|k
  ·exact .inl ⟨k,zK ndP hp hu k⟩
  ·obtain⟨c,e⟩:=CC (n:=s.heap.objs.size+1) k;refine .inr ⟨.inl k,c,e,?_⟩;have q:=x.cell y c e;rw[zM ndP hp hu (by show scope.names.lookup y≠_;rw[k];decide)] at q;exact q
 ·exact e0.hok.fresh (uZ (x.above y c (vG h)))
 ·unfold oP;show _=N.length;rw[lr,gW,List.length_replicate]
  lia
theorem RK{CX:CXT}{P:fS}{w:fL}{K:fO}{mg:jY}{base:fP}{k:Nat}{f:eX}{name qual:Str}{params:Arguments}{body:List Stmt}{scope:hJ}{dV kV doc pm f6 ct oc:fI}{an od:Option Addr}
  {aa:sO}{N ps:fV}{sp:Sp}(lk:K.lookup f=some ⟨oc,od,.func (PySem.W.fnOf name qual params body scope dV kV doc pm an f6 ct),aa⟩)(q9:PySem.W.codeIn K f6 qual=true)(S:FnScope N ps scope)
  (len: ∀vs H Q E,sp vs H Q E->vs.length=ps.length)
  (r0: ∀(A:fQ) (outer:List Env) (s:eZ) (H:Hp) (vs:List V) (Q:VK) (E:XK),Room k (A.deeper (envOfC qual scope s.heap.objs.size f f6))->sp vs H Q E->
   ∃t,PSs (Cv CX P w K mg base N qual scope f f6 A outer s H E) body t/\t {nx:=fun _ H'=>Q .non H',rt:=Q} (oP N vs) H):
  FnOk P w K mg base CX (k+1) f (PySem.W.fnOf name qual params body scope dV kV doc pm an f6 ct) ps sp:=by
 refine⟨len,fun A outer s H args us vs Q E hr e0 hb r aR=>?_⟩;have hl:=len _ _ _ _ aR;have KX:K.In s.heap:=e0.mod.kin.keeps fun b o e=>(e0.bs b o e).1;have lim:s.heap.NoLimit:=e0.mod.nolimit.keeps fun b o e=>(e0.bs b o e).1
 have hkind: ∀y∈ps.zip us,scope.names.lookup y.1=some .local\/(scope.names.lookup y.1=some .cell/\((cellsFrom (s.heap.objs.size+1) scope.names []).lookup y.1).isSome=true):=fun⟨n,v⟩ hy=>by
  rcases S.par n (Dv hy).1 with q|q
  ·exact .inl q
  ·exact .inr ⟨q,As _ _ _ (.inl q)⟩
 refine codeAny_call_function hr.depth (KX _ _ lk) rfl S.co S.gen rfl (PySem.W.codeRec_of KX q9) (hb _ _ _ _ ?_);refine wpAny_newFunctionEnv_cells S.kind hkind fun env he s1 x=>?_;subst he;refine⟨lim.keeps x.toInCall.keep,codeAny_func ?_⟩;obtain⟨t,ht,hq⟩:=r0 A outer s H vs Q E (hr.deeper _) aR;have I:Inv (Cv CX P w K mg base N qual scope f f6 A outer s H E) [] (oP N vs) H s1:=GG S hr.hd e0 hl r x;refine oH (ht [] s1 (oP N vs) H _ I hq) (fun fl s' hs=>?_) fun e s' hs=>hs
 have fin: ∀{σ':St} {H':Hp} {v:V} {u:fI},Inv (Cv CX P w K mg base N qual scope f f6 A outer s H E) [] σ' H' s'->RelV v u->Q v H'->CE outer P w H s Q u s':=
  fun {σ' H' v u} J rv q=>⟨v,H',J.os,J.bare,J.base,J.hok,rv,q⟩
 cases fl with
 |ret u=>
  obtain⟨v,σ',H',J,rv,q⟩:=hs;exact fin J rv q
 |next=>
  obtain⟨σ',H',J,q⟩:=hs;exact fin (v:=V.non) (u:=Value.none) J rfl q
 |brk=>
  obtain⟨_,_,_,q⟩:=hs;exact False.elim q
 |cont=>
  obtain⟨_,_,_,q⟩:=hs;exact False.elim q
section
variable {X:Cx}{x:Str}{p pos:Pos}{e:fw}{es:hW}{t:TA}{id T:String}{r:List V->Hp->VK->Prop}
def tCB(r:List V->Hp->VK->Prop)(t:TA):TE:=fun σ H Q=>t σ H fun vs H1=>r vs H1 Q
theorem tV(hc:hX X (.builtin id) r)(hg:Gl X x)(hm:X.mg x=none)(hv:bootBuiltins x=some (.builtin id))(ha:PA X (e::es) t)(hn:x≠"__name__":=by decide)(j6:(x==("__debug__":Str))=false:=by decide)
  (he:starEach (e::es) X.env=(false,eval e X.env)::starEach es X.env:=by rfl)(h9:(backTo pos (starEach es X.env)).any (·.1)=false:=by rfl):PE X (.Call (.Name x p) (e::es) [] pos) (tCB r t):=by
 intro pins s σ H Q I h;refine Au (vp I hg hm hv ?_ hn j6);exact PyProof.Rows.callWith_builtin1 (thn (ha pos pins s σ H _ I h) fun us s1 ⟨vs,H1,I1,r1,q1⟩=>hc pins s1 σ H1 vs us Q I1 r1 q1) he h9
theorem jN(hc:hX X (.type T) r)(hg:Gl X x)(hm:X.mg x=none)(hv:bootBuiltins x=some (.type T))(ha:PA X (e::es) t)(hn:x≠"__name__":=by decide)(j6:(x==("__debug__":Str))=false:=by decide)
  (he:starEach (e::es) X.env=(false,eval e X.env)::starEach es X.env:=by rfl)(h9:(backTo pos (starEach es X.env)).any (·.1)=false:=by rfl):PE X (.Call (.Name x p) (e::es) [] pos) (tCB r t):=by
 intro pins s σ H Q I h;refine Au (vp I hg hm hv ?_ hn j6);exact Av (thn (ha pos pins s σ H _ I h) fun us s1 ⟨vs,H1,I1,r1,q1⟩=>hc pins s1 σ H1 vs us Q I1 r1 q1) he h9
end
end L2
namespace HT
open PySem PyProof.Rows
section
open PySem.SeqAt
open PySem.AutoSeq1 (wpAny_loadPart')
open PySem.MeetsSeq PySem.MeetsSeq2 PySem.MeetsSeq3
end
section
variable {prog:fS}{w:fL}{A:fQ}{E:gm}{s:eZ}
theorem RW{t b:eX}{vs ws:gH}{Q:gm}(ht:IsTup s.heap t vs.toArray)(hb:IsTup s.heap b ws.toArray)(hv:vs≠[])
  (h1:ws=[]->Q (.ref t) s)(h2:ws≠[]->Q (.ref s.heap.objs.size) {s with heap:=s.heap.push {cls:= .type "tuple",data:= .seq (vs++ws).toArray}})
  (hsz:vs.length+ws.length<=sizeLine):wpAny (model prog w) A (binaryOp .Add (.ref t) (.ref b)) Q E s:=by
 obtain⟨⟨cls,dd,data,sl⟩,ho,hc,n,hd⟩:=id ht;obtain⟨⟨bP,o9,data2,n8⟩,m8,v8,n2,hd2⟩:=id hb;simp only at hc hd v8 hd2;subst hc hd v8 hd2;have e:vs.toArray++ws.toArray=(vs++ws).toArray:=by simp
 by_cases hw:ws=[]
 ·exact Ar ⟨_,ho,rfl⟩ ⟨_,m8,rfl⟩ Dt Ds Dr Dq (Dp _ _)
   (tuple_addW1 t b vs.toArray ws.toArray n n2 dd o9 sl n8 (by simpa using hv) (by simp[hw])) ⟨ho,m8,h1 hw⟩
 ·refine Ar ⟨_,ho,rfl⟩ ⟨_,m8,rfl⟩ Dt Ds Dr Dq (Dp _ _)
   (tuple_addW2 t b vs.toArray ws.toArray n n2 dd o9 sl n8 (by simpa using hv) (by simpa using hw) (by rw[gr,gr];exact hsz)) ⟨ho,m8,?_⟩
  rw[e];exact h2 hw
noncomputable def sIx(n d:Nat):Option Int->Nat
 |none=>d
 |some v=>if v<0 then(v+(n:Int)).toNat else min v.toNat n
theorem Nd(n d:Nat):sIx n d none=d:=rfl
theorem NZ(n d k:Nat):sIx n d (some (k:Int))=min k n:=by
 show(if(k:Int)<0 then((k:Int)+(n:Int)).toNat else min (k:Int).toNat n)=min k n;rw[fR (by lia),oX]
theorem N0(n d:Nat)(hd:d<=n)(o:Option Int):sIx n d o<=n:=by
 cases o with
 |none=>exact hd
 |some v=>
  show(if v<0 then(v+(n:Int)).toNat else min v.toNat n)<=n;by_cases hv:v<0
  ·rw[fJ hv];lia
  ·rw[fR hv];exact Nat.min_le_right _ _
theorem Fx(v:Int)(n d:Nat):(if v<0 then max (v+(n:Int)) 0 else min v (n:Int))=((sIx n d (some v):Nat):Int):=by
 show(if v<0 then max (v+(n:Int)) 0 else min v (n:Int))=(((if v<0 then(v+(n:Int)).toNat else min v.toNat n):Nat):Int)
 by_cases hv:v<0
 ·simp only[fJ hv];lia
 ·simp only[fR hv];lia
theorem Eu(lo hi:Option Int)(n:Nat):Builtin.Slice.sliceAdjust lo hi 1 (n:Int)=(((sIx n 0 lo:Nat):Int),((sIx n n hi:Nat):Int)):=by
 have h1: ¬((1:Int)<0):=by lia
 unfold Builtin.Slice.sliceAdjust;simp only[h1,gO];refine Prod.ext ?_ ?_
 ·cases lo with
  |none=>rfl
  |some v=>exact Fx v n 0
 ·cases hi with
  |none=>rfl
  |some v=>exact Fx v n n
theorem DS(i j:Nat):Builtin.Slice.slicePlaces (i:Int) (j:Int) 1=j-i:=by
 unfold Builtin.Slice.slicePlaces;have h1:(1:Int)>0:=by lia
 simp only[h1,iu,Int.ediv_one];split<;>lia
theorem xa{v:fI}{o:Option Int}{Q:Option Int->Shared->Prop}(p:IsPart v o)(h:Q o s):wpAny (model prog w) A (Builtin.Slice.slicePartIndex v) Q E s:=by
 cases p with
 |none=>exact slicePart_none h
 |int i t=>exact slicePart_int h
theorem nJ{sl:eX}{vl vu:fI}{lo hi:Option Int}{n:Nat}{Q:Int×Int×Nat->Shared->Prop}(hs:s.heap.IsSliceOf sl vl vu .none)(pl:IsPart vl lo)(pu:IsPart vu hi)
  (h:Q (((sIx n 0 lo:Nat):Int),1,sIx n n hi-sIx n 0 lo) s):wpAny (model prog w) A (Builtin.Slice.sliceApplied (.ref sl) (pure (n:Int))) Q E s:=by
 obtain⟨os,aA,bI,cJ⟩:=id hs;unfold Builtin.Slice.sliceApplied Builtin.Slice.sliceFields;refine eY (eY (tE aA cJ (x:=vl) rfl (eY (tE aA cJ (x:=vu) rfl (eY (tE aA cJ (x:= .none) rfl (fH ?_)))))));refine eY (slicePart_none ?_);show wpAny _ _ (if((1:Int)==0)=true then _ else _) _ _ s;rw[fR (by decide)];refine eY (xa pl (eY (xa pu (eY (fH ?_)))));show wpAny _ _ (match Builtin.Slice.sliceAdjust lo hi 1 (n:Int) with|(lo,hi)=>pure (lo,(1:Int),Builtin.Slice.slicePlaces lo hi 1)) _ _ s;rw[Eu lo hi n];show wpAny _ _ (pure (((sIx n 0 lo:Nat):Int),(1:Int),Builtin.Slice.slicePlaces ((sIx n 0 lo:Nat):Int) ((sIx n n hi:Nat):Int) 1)) _ _ s;rw[DS];exact fH h
theorem Jl(xs:lq)(i k:Nat):((List.range k).filterMap fun(m:Nat)=>xs[((i:Int)+(m:Int)*1).toNat]?).toArray=((xs.toList.drop i).take k).toArray:=by
 have e:(fun(m:Nat)=>xs[((i:Int)+(m:Int)*1).toNat]?)=fun m=>xs[i+m]?:=by
  funext m;have:((i:Int)+(m:Int)*1).toNat=i+m:=by lia
  rw[this]
 rw[e];have:=pick_run xs i k;rw[List.filterMap_map] at this;have e2:((fun x=>xs[x]?)∘fun x=>i+x)=fun m=>xs[i+m]?:=rfl;rw[e2] at this;rw[this]
theorem Ee{t sl:eX}{items:lq}{vl vu:fI}{lo hi:Option Int}{Q:gm}(ht:IsTup s.heap t items)(hs:s.heap.IsSliceOf sl vl vu .none)(pl:IsPart vl lo)(pu:IsPart vu hi)
  (hw: ¬(sIx items.size 0 lo=0/\sIx items.size items.size hi=items.size))
  (h:Q (.ref s.heap.objs.size) {s with heap:=s.heap.push {cls:= .type "tuple",data:= .seq ((items.toList.drop (sIx items.size 0 lo)).take (sIx items.size items.size hi-sIx items.size 0 lo)).toArray}})
  (hsz:items.size<=sizeLine):wpAny (model prog w) A (getItem (.ref t) (.ref sl)) Q E s:=by
 have t7:sizeOk (.seq ((items.toList.drop (sIx items.size 0 lo)).take (sIx items.size items.size hi-sIx items.size 0 lo)).toArray):=by
  show((items.toList.drop (sIx items.size 0 lo)).take (sIx items.size items.size hi-sIx items.size 0 lo)).toArray.size<=sizeLine;rw[gr,qU,List.length_drop,iw];omega
 have hj:sIx items.size items.size hi<=items.size:=N0 _ _ (gJ _) hi;obtain⟨os,aA,bI,cJ⟩:=id hs;have eD:s.TypeIs (.ref sl) "slice":=⟨os,aA,bI⟩
 unfold getItem
 try with_reducible refine ku ?_
 first|refine eY (fH ?_)|skip
 refine eY (wpAny_sequenceKey ht.typeIs (by decide) ?_)
 refine eY (vF (name:=Str.ofString "__getitem__") ht.typeIs yE
  (nA yE ht.typeIs HH ?_ (args_tuple_getitem _ _)))
 show wpAny _ _ (Builtin.Tuple.tupleItemsOf (.ref t)>>=_) _ _ s;refine eY (tupleItemsOf_ ht ?_);refine eY (tD eD ?_);rw[fJ (by decide)];refine eY (nJ hs pl pu ?_)
 have aS: ¬((((sIx items.size 0 lo:Nat):Int)==0&&(1:Int)==1&&(sIx items.size items.size hi-sIx items.size 0 lo)==items.size)=true):=by
  intro q;rw[kB,kB] at q;have q1:((sIx items.size 0 lo:Nat):Int)=0:=qR q.1.1;have q2:sIx items.size items.size hi-sIx items.size 0 lo=items.size:=qR q.2;exact hw ⟨by omega,by omega⟩
 show wpAny _ _ (if(((sIx items.size 0 lo:Nat):Int)==0&&(1:Int)==1&&(sIx items.size items.size hi-sIx items.size 0 lo)==items.size)=true then _ else _) _ _ s;rw[fR aS,Jl]
 first
  |exact eY (m:=Builtin.Tuple.tupleExact _) (kQ (fH ⟨_,rfl,fH h⟩) t7)
  |exact eY (m:=Builtin.Tuple.tupleExact _) (kQ (eY (fH (fH ⟨_,rfl,fH h⟩))) t7)
  |exact eY (eY (m:=Builtin.Tuple.tupleExact _) (kQ (fH (fH ⟨_,rfl,fH h⟩)) t7))
  |exact eY (eY (m:=Builtin.Tuple.tupleExact _) (kQ (fH ⟨_,rfl,fH h⟩) t7))
end
end HT
namespace L2
open PySem PySem.Spec PyProof.Rows
abbrev TO:=St->Hp->(Option Int->Hp->Prop)->Prop
def PO(X:Cx)(e:Option Expr)(t:TO):Prop:=
 ∀(pins:gc) (s:eZ) (σ:St) (H:Hp) (Q:Option Int->Hp->Prop),Inv X pins σ H s->t σ H Q->
  wpAny (model X.prog X.w) X.A (evalPart e X.env) (fun u s'=> ∃o H',Inv X pins σ H' s'/\IsPart u o/\Q o H') X.xe s
noncomputable def Li:TO:=fun _ H Q=>Q none H
def Qr(t:TE):TO:=fun σ H Q=>t σ H fun x H1=> ∃i,x= .int i/\Q (some i) H1
section
variable {X:Cx}{e:fw}{te:TE}{lo hi:Option Expr}{tl th:TO}{pos p2:Pos}
theorem EY:PO X none Li:=by
 intro pins s σ H Q I h;rw[evalPart_none];exact fH ⟨none,H,I,.none,h⟩
theorem EX(h:PE X e te):PO X (some e) (Qr te):=by
 intro pins s σ H Q I hw;rw[evalPart_some];refine thn (h pins s σ H _ I hw) fun u s1 ⟨x,H1,I1,r1,q1⟩=>?_;obtain⟨i,rfl,q⟩:=q1;obtain⟨t,rfl⟩:=r1;exact⟨some i,H1,I1,.int i t,q⟩
def SlR(X:Cx)(r:V->Option Int->Option Int->Hp->VK->Prop):Prop:=
 ∀(pins:gc) (s:eZ) (σ:St) (H:Hp) (x:V) (v vl vu:fI) (lo hi:Option Int) (sl:eX) (Q:VK),Inv X pins σ H s->RelV x v->s.heap.IsSliceOf sl vl vu .none->IsPart vl lo->IsPart vu hi->r x lo hi H Q->
  ∃T id,typeLookup (.type T) "__getitem__"=pure (some (.builtin id))/\s.TypeIs v T/\wpAny (model X.prog X.w) X.A (getItem v (.ref sl)) (EP X pins σ Q) X.xe s
def tSl(r:V->Option Int->Option Int->Hp->VK->Prop)(te:TE)(tl th:TO):TE:=fun σ H Q=>te σ H fun x H1=>tl σ H1 fun l H2=>th σ H2 fun u H3=>r x l u H3 Q
theorem BX{r:V->Option Int->Option Int->Hp->VK->Prop}(hr:SlR X r)(he:PE X e te)(hl:PO X lo tl)(hu:PO X hi th):PE X (.Subscript e (.Slice lo hi none p2) pos) (tSl r te tl th):=by
 intro pins s σ H Q I h;refine Subscript_ (thn (he pins s σ H _ I h) fun v s1 ⟨x,H1,I1,r1,q1⟩=>?_);refine wpAny_Slice (thn (hl pins s1 σ H1 _ I1 q1) fun vl s2 ⟨l,H2,I2,pl,q2⟩=>thn (hu pins s2 σ H2 _ I2 q2) fun vu s3 ⟨u,H3,I3,pu,q3⟩=>?_);rw[evalPart_none];refine fH ?_;have I4:Inv X pins σ H3 {s3 with heap:=s3.heap.push {cls:= .type "slice",data:= .fields #[vl,vu,.none]}}:=I3.kept (t':=s3.toks) fun b ob q=>ik _ q;obtain⟨T,id,hT,ht,hg⟩:=hr pins {s3 with heap:=s3.heap.push {cls:= .type "slice",data:= .fields #[vl,vu,.none]}} σ H3 x v vl vu l u s3.heap.objs.size Q I4 r1 (Heap.IsSliceOf.new ..) pl pu q3;show wpAny (model X.prog X.w) X.A (subscriptTail e (.Slice lo hi none p2) v (.ref s3.heap.objs.size)) (EP X pins σ Q) X.xe {s3 with heap:=s3.heap.push {cls:= .type "slice",data:= .fields #[vl,vu,.none]}};exact tail_any (ops:=[.ref s3.heap.objs.size,v]) ht hT hg (by with_unfolding_all rfl)
noncomputable def Cw(xs:List V)(lo hi:Option Int):List V:=(xs.drop (HT.sIx xs.length 0 lo)).take (HT.sIx xs.length xs.length hi-HT.sIx xs.length 0 lo)
theorem vQ(xs:List V)(lo hi:Option Int):(Cw xs lo hi).length<=xs.length:=by
 unfold Cw;rw[qU,List.length_drop]
 lia
def TQ(K:fO):V->Option Int->Option Int->Hp->VK->Prop:=fun x lo hi H Q=> ∃a xs,x= .ref a/\SqT K H a xs/\
 ¬(HT.sIx xs.length 0 lo=0/\HT.sIx xs.length xs.length hi=xs.length)/\ ∀p,H p=none->Q (.ref p) (upd H p (.tup (Cw xs lo hi)))
theorem NV:SlR X (TQ X.K):=by
 intro pins s σ H x v vl vu lo hi sl Q I rx hs pl pu h;obtain⟨a,xs,rfl,hx,hw,q⟩:=h;cases rx;obtain⟨b6,r,ht,hz⟩:=I.tuple hx;have hlen:b6.toArray.size=xs.length:=by rw[gr];exact r.length.symm
 refine⟨"tuple",_,yE.lookup,ht.typeIs,?_⟩;refine HT.Ee ht hs pl pu (by rw[hlen];exact hw) ?_ (by rw[hlen];exact hz);rw[hlen];refine⟨.ref s.heap.objs.size,_,I.laid (t':=s.toks) (o:= .tup (Cw xs lo hi)) (fun b ob q=>ik _ q) (gJ _) ?_,rfl,q _ (I.hok.fresh (gJ _))⟩;exact⟨mH (vQ xs lo hi) hz,_,(r.drop (HT.sIx xs.length 0 lo)).take (HT.sIx xs.length xs.length hi-HT.sIx xs.length 0 lo),wJ _ _⟩
def Q6(K:fO):R2:=fun x y H Q=> ∃a b xs ys,x= .ref a/\y= .ref b/\SqT K H a xs/\SqT K H b ys/\xs≠[]/\xs.length+ys.length<=sizeLine/\
 (ys=[]->Q (.ref a) H)/\(ys≠[]-> ∀p,H p=none->Q (.ref p) (upd H p (.tup (xs++ys))))
theorem Vals.nil_iff{xs:List V}{us:gH}(r:Vals xs us):us=[]↔xs=[]:=by
 cases r with
 |nil=>simp
 |cons _ _=>simp
theorem Ml:OpR X (binaryOp .Add) (Q6 X.K):=by
 intro pins s σ H x y v u Q I rx ry h;obtain⟨a,b,xs,ys,rfl,rfl,ha,hb,hx,hz,q1,q2⟩:=h;cases rx;cases ry;obtain⟨b6,r1,p1,_⟩:=I.tuple ha;obtain⟨b9,r2,p2,_⟩:=I.tuple hb;refine HT.RW p1 p2 (fun z=>hx (r1.nil_iff.mp z)) (fun z=>⟨.ref a,H,I,rfl,q1 (r2.nil_iff.mp z)⟩) (fun z=>?_) (by rw[<-r1.length,<-r2.length];exact hz);refine⟨.ref s.heap.objs.size,_,I.laid (t':=s.toks) (o:= .tup (xs++ys)) (fun b ob q=>ik _ q) (gJ _) ?_,rfl,q2 (fun w=>z (r2.nil_iff.mpr w)) _ (I.hok.fresh (gJ _))⟩;exact⟨by rw[lr];exact hz,_,r1.append r2,wJ _ _⟩
end
noncomputable def ixN(n:Nat)(i:Int):Option Nat:=if 0<=i then(if i<n then some i.toNat else none) else if -(n:Int)<=i then some (i+n).toNat else none
noncomputable def atI{α:Type}(xs:List α)(i:Int):Option α:=(ixN xs.length i).bind fun j=>xs[j]?
theorem Ba{n:Nat}{i:Int}{j:Nat}(h:ixN n i=some j):seqIndex? i n=some j/\j<n/\ -(n:Int)<=i/\i<n:=by
 unfold ixN at h;by_cases h0:0<=i
 ·rw[fJ h0] at h;by_cases h1:i<n
  ·rw[fJ h1] at h;have e:i.toNat=j:=iz h;exact⟨by rw[Dm h0 h1,e],by lia,by lia,h1⟩
  ·rw[fR h1] at h;cases h
 ·rw[fR h0] at h;by_cases h1: -(n:Int)<=i
  ·rw[fJ h1] at h;have e:(i+n).toNat=j:=iz h;exact⟨by rw[Dl (by lia) h1,e],by lia,h1,by lia⟩
  ·rw[fR h1] at h;cases h
theorem FH{α:Type}{xs:List α}{i:Int}{v:α}(h:atI xs i=some v): ∃j,seqIndex? i xs.length=some j/\xs[j]?=some v/\j<xs.length/\ -(xs.length:Int)<=i/\i<xs.length:=by
 unfold atI at h
 cases e:ixN xs.length i with
 |none=>rw[e] at h;cases h
 |some j=>
  rw[e] at h;obtain⟨h1,h2,h3,h4⟩:=Ba e;exact⟨j,h1,h,h2,h3,h4⟩
def uG(b:fw):Prop:= ∀o i,subscripted b false o i=operate [o,i] (getItem o i)
def IxR(X:Cx)(r:R2):Prop:=
 ∀(value slice:fw) (pins:gc) (s:eZ) (σ:St) (H:Hp) (x y:V) (v u:fI) (Q:VK),Inv X pins σ H s->RelV x v->RelV y u->r x y H Q->
  subscripted slice false v u=operate [v,u] (getItem v u)->wpAny (model X.prog X.w) X.A (subscriptTail value slice v u) (EP X pins σ Q) X.xe s
def MtR(X:Cx)(id:String)(r:V->List V->Hp->VK->Prop):Prop:=
 ∀(pins:gc) (s:eZ) (σ:St) (H:Hp) (x:V) (xs:List V) (v:fI) (us:gH) (Q:VK),Inv X pins σ H s->RelV x v->Vals xs us->r x xs H Q->
  wpAny (model X.prog X.w) X.A (call (.builtin id) (v::us)) (EP X pins σ Q) X.xe s
section
variable {X:Cx}{a b:fw}{ta tb:TE}{pos:Pos}
theorem Nj{r:R2}(hr:IxR X r)(ha:PE X a ta)(hb:PE X b tb)(hs:uG b):PE X (.Subscript a b pos) (tOp r ta tb):=by
 intro pins s σ H Q I h;exact Subscript_ (PU ha hb I h fun v u s2 x y H2 I2 rx ry q=>hr a b pins s2 σ H2 x y v u Q I2 rx ry q (hs _ _))
def TX(K:fO):R2:=fun x y H Q=> ∃p xs i v,x= .ref p/\y= .int i/\SqL K H p xs/\atI xs i=some v/\Q v H
def TV(K:fO):R2:=fun x y H Q=> ∃p xs i v,x= .ref p/\y= .int i/\SqT K H p xs/\atI xs i=some v/\Q v H
theorem MC:IxR X (TX X.K):=by
 intro value slice pins s σ H x y v u Q I rx ry h hs;obtain⟨p,xs,i,z,rfl,rfl,hq,he,q⟩:=h;cases rx;obtain⟨t,rfl⟩:=ry;obtain⟨b6,r,pl,hz⟩:=I.list hq;obtain⟨j,h1,h2,h3,h4,h5⟩:=FH he;obtain⟨w,ew,p8⟩:=r.get h2;have hl:=r.length;have hn:=xP;have fin:EP X pins σ Q w s:=⟨z,H,I,p8,q⟩
 by_cases h0:0<=i
 ·have hj:i.toNat=j:=by
   rw[Dm h0 h5] at h1;exact iz h1
  exact item_listR pl.isList h0 (by lia) (by rw[hj];simpa using ew) fin hs
 ·have hj:(i+(b6.toArray.size:Int)).toNat=j:=by
   rw[Dl (by lia) h4] at h1;rw[gr,<-hl];exact iz h1
  exact HG (x:=w) pl.isList.typeIs slot_list_getitem.lookup
   (wpAny_getItem_list_neg (Q:=fun r s'=>r=w/\EP X pins σ Q r s') pl.isList (by lia) (by rw[gr]<;>lia) (by lia) (by rw[hj];simpa using ew) ⟨rfl,fin⟩) hs
theorem Pk:IxR X (TV X.K):=by
 intro value slice pins s σ H x y v u Q I rx ry h hs;obtain⟨p,xs,i,z,rfl,rfl,hq,he,q⟩:=h;cases rx;obtain⟨t,rfl⟩:=ry;obtain⟨b6,r,pl,hz⟩:=I.tuple hq;obtain⟨j,h1,h2,h3,h4,h5⟩:=FH he;obtain⟨w,ew,p8⟩:=r.get h2;have hl:=r.length;have hn:=xP;have fin:EP X pins σ Q w s:=⟨z,H,I,p8,q⟩
 exact HG (x:=w) pl.typeIs slot_tuple_getitem.lookup
  (getItem_tuple (j:=j) (Q:=fun r s'=>r=w/\EP X pins σ Q r s') pl (by lia) (by lia) (by rw[gr,<-hl];exact h1) (by simpa using ew) ⟨rfl,fin⟩) hs
theorem D6(b6:gH)(n j:Nat)(u:fI):Obj.mapSeq (·.setIfInBounds j u) {cls:= .type "list",data:= .seq b6.toArray n}={cls:= .type "list",data:= .seq (b6.set j u).toArray n}:=by
 simp[Obj.mapSeq]
theorem Inv.lst{pins:gc}{σ:St}{H:Hp}{s:eZ}{p:eX}{xs:List V}(I:Inv X pins σ H s)(h:H p=some (.lst xs)):
  ∃(b6:gH) (n:Nat),Vals xs b6/\s.heap.get? p=some {cls:= .type "list",data:= .seq b6.toArray n}/\xs.length<=sizeLine:=by
 obtain⟨z,b6,n,r,e⟩:=I.hok p _ h;exact⟨b6,n,r,e,z⟩
theorem Inv.lstUpd{pins:gc}{σ:St}{H:Hp}{s:eZ}{p:eX}{xs ys:List V}{b6 its':gH}{n n':Nat}{f:Obj->Obj}(I:Inv X pins σ H s)(h:H p=some (.lst xs))
  (ho:s.heap.get? p=some {cls:= .type "list",data:= .seq b6.toArray n})(hf:f {cls:= .type "list",data:= .seq b6.toArray n}={cls:= .type "list",data:= .seq its'.toArray n'})(r:Vals ys its')(hz:ys.length<=sizeLine)(t:Nat):
  Inv X pins σ (upd H p (.lst ys)) {s with heap:=s.heap.update p f,toks:=t}:=by
 have e:(s.heap.update p f).get? p=some {cls:= .type "list",data:= .seq its'.toArray n'}:=by
  rw[qQ f ho (by rw[hf]<;>rfl),hf]
 refine I.write (x:=p) (e:=p) (by rw[h];trivial) (.inl rfl) (fun b u hb q=>(uU _ _ (kR hb)).trans q) ⟨_,e⟩ ?_;exact⟨hz,its',n',r,e⟩
def QZ:V->V->V->Hp->(Hp->Prop)->Prop:=fun o i v H Q=> ∃p xs k j,o= .ref p/\i= .int k/\H p=some (.lst xs)/\ixN xs.length k=some j/\Q (upd H p (.lst (xs.set j v)))
theorem Iq:P4 X QZ:=by
 intro pins s σ H o i v ov iv u Q I ro ri rv h;obtain⟨p,xs,k,j,rfl,rfl,hp,hj,q⟩:=h;cases ro;obtain⟨t,rfl⟩:=ri;obtain⟨b6,n,r,ho,hz⟩:=I.lst hp;obtain⟨h1,h2,h3,h4⟩:=Ba hj;have hl:=r.length;have hn:=xP
 have I':Inv X pins σ (upd H p (.lst (xs.set j v))) {s with heap:=s.heap.update p (Obj.mapSeq (·.setIfInBounds j u))}:=
  I.lstUpd hp ho (D6 b6 n j u) (r.set rv j) (by rw[qP];exact hz) s.toks
 by_cases h0:0<=k
 ·have hk:k.toNat=j:=by
   rw[Dm h0 h4] at h1;exact iz h1
  exact PySem.W.ki_setAt ho h0 (by lia) (by rw[gr,<-hl];exact h4) (by rw[hk];exact⟨_,I',q⟩)
 ·have hk:(k+(b6.toArray.size:Int)).toNat=j:=by
   rw[Dl (by lia) h3] at h1;rw[gr,<-hl];exact iz h1
  exact PySem.W.ki_setBack ho (by lia) (by rw[gr,<-hl];exact h3) (by lia) (by rw[hk];exact⟨_,I',q⟩)
theorem AF(lo hi:Option Int)(n:Nat):(sliceBounds lo hi none n).1=((HT.sIx n 0 lo:Nat):Int)/\(sliceBounds lo hi none n).2.1=((HT.sIx n n hi:Nat):Int)/\(sliceBounds lo hi none n).2.2=1:=by
 refine⟨?_,?_,rfl⟩
 ·cases lo with
  |none=>simp[sliceBounds,HT.sIx]
  |some i=>
   simp only[sliceBounds,HT.sIx,Option.getD_none,show(1:Int)>0 by decide,iu];by_cases h:i<0
   ·simp only[h,iu]<;>lia
   ·simp only[h,gO]<;>lia
 ·cases hi with
  |none=>simp[sliceBounds,HT.sIx]
  |some i=>
   simp only[sliceBounds,HT.sIx,Option.getD_none,show(1:Int)>0 by decide,iu];by_cases h:i<0
   ·simp only[h,iu]<;>lia
   ·simp only[h,gO]<;>lia
theorem yH(b6:gH)(lo hi:Option Int):slicePick b6.toArray lo hi none=((b6.drop (HT.sIx b6.length 0 lo)).take (HT.sIx b6.length b6.length hi-HT.sIx b6.length 0 lo)).toArray:=by
 obtain⟨h1,h2,h3⟩:=AF lo hi b6.toArray.size;unfold slicePick;rw[h1,h2,h3];simp only[sliceRange_one,pick_run,gr]<;>rfl
def TR(K:fO):V->Option Int->Option Int->Hp->VK->Prop:=fun x lo hi H Q=> ∃a xs,x= .ref a/\SqL K H a xs/\ ∀p,H p=none->Q (.ref p) (upd H p (.lst (Cw xs lo hi)))
theorem Lm:SlR X (TR X.K):=by
 intro pins s σ H x v vl vu lo hi sl Q I rx hs pl pu h;obtain⟨a,xs,rfl,hx,q⟩:=h;cases rx;obtain⟨b6,r,ht,hz⟩:=I.list hx;have hlen:=r.length;refine⟨"list",_,slot_list_getitem.lookup,ht.isList.typeIs,?_⟩;refine wpAny_getItem_list_slice ht.isList hs pl pu .none (by simp) ?_ (by rw[gr]<;>lia);rw[yH,<-hlen];refine⟨.ref s.heap.objs.size,_,I.laid (t':=s.toks) (o:= .lst (Cw xs lo hi)) (fun b ob q=>ik _ q) (gJ _) ?_,rfl,q _ (I.hok.fresh (gJ _))⟩;exact⟨mH (vQ xs lo hi) hz,_,0,(r.drop (HT.sIx xs.length 0 lo)).take (HT.sIx xs.length xs.length hi-HT.sIx xs.length 0 lo),iK _ rfl⟩
noncomputable def Nn:V->Bool
 | .non=>true
 | .bl _=>true
 | .int _=>true
 | .str _=>true
 |_=>false
noncomputable def eqV:V->V->Bool
 | .non,.non=>true
 | .bl a,.bl b=>a==b
 | .bl a,.int b=>(if a then 1 else 0)==b
 | .int a,.bl b=>a==(if b then 1 else 0)
 | .int a,.int b=>a==b
 | .str a,.str b=>a==b
 |_,_=>false
theorem kd{A:fQ}{s:eZ}{y x:V}{u v:fI}(ry:RelV y u)(rx:RelV x v)(fy:Nn y=true)(fx:Nn x=true):SeqAt.EqAt A s u v (eqV y x):=by
 cases y with
 |non=>
  cases ry
  cases x with
  |non=>cases rx;exact SeqAt.EqAt.same _
  |bl b=>cases rx;exact SeqAt.EqAt.none_bool b
  |int b=>obtain⟨t,rfl⟩:=rx;exact SeqAt.EqAt.none_int b t
  |str b=>obtain⟨t,rfl⟩:=rx;exact SeqAt.EqAt.none_str b t
  |_=>exact absurd (show false=true from fx) je
 |bl a=>
  cases ry
  cases x with
  |non=>cases rx;exact SeqAt.EqAt.bool_none a
  |bl b=>cases rx;exact SeqAt.EqAt.bool_bool a b
  |int b=>obtain⟨t,rfl⟩:=rx;exact SeqAt.EqAt.bool_int a b t
  |str b=>obtain⟨t,rfl⟩:=rx;exact SeqAt.EqAt.bool_str a b t
  |_=>exact absurd (show false=true from fx) je
 |int a=>
  obtain⟨t',rfl⟩:=ry
  cases x with
  |non=>cases rx;exact SeqAt.EqAt.int_none a t'
  |bl b=>cases rx;exact SeqAt.EqAt.int_bool a t' b
  |int b=>obtain⟨t,rfl⟩:=rx;exact SeqAt.EqAt.int_int a t' b t
  |str b=>obtain⟨t,rfl⟩:=rx;exact SeqAt.EqAt.int_str a t' b t
  |_=>exact absurd (show false=true from fx) je
 |str a=>
  obtain⟨t',rfl⟩:=ry
  cases x with
  |non=>cases rx;exact SeqAt.EqAt.str_none a t'
  |bl b=>cases rx;exact SeqAt.EqAt.str_bool a t' b
  |int b=>obtain⟨t,rfl⟩:=rx;exact SeqAt.EqAt.str_int a t' b t
  |str b=>obtain⟨t,rfl⟩:=rx;exact SeqAt.EqAt.str_str a t' b t
  |_=>exact absurd (show false=true from fx) je
 |_=>exact absurd (show false=true from fy) je
theorem uy:hX X (.builtin "len") (fun xs H Q=> ∃p ys,xs=[.ref p]/\(SqL X.K H p ys\/SqT X.K H p ys)/\Q (.int ys.length) H):=by
 intro pins s σ H xs us Q I r h;obtain⟨p,ys,rfl,hq,q⟩:=h;obtain⟨u,rfl,rx⟩:=lJ r;cases rx;have hn:=xP;rcases hq with hq|hq
 ·obtain⟨b6,r',pl,hz⟩:=I.list hq;have hlen:=r'.length;exact Calls.call_len_list pl.isList (by simp only[gr]<;>lia) ⟨.int ys.length,H,I.tok _,⟨s.toks+1,by rw[gr,hlen]⟩,q⟩
 ·obtain⟨b6,r',pl,hz⟩:=I.tuple hq;have hlen:=r'.length;exact len_tuple pl (by simp only[gr]<;>lia) ⟨.int ys.length,H,I.tok _,⟨s.toks+1,by rw[gr,hlen]⟩,q⟩
theorem ux:hX X (.type "list") (fun xs H Q=> ∃p ys,xs=[.ref p]/\(SqL X.K H p ys\/SqT X.K H p ys)/\ ∀l,H l=none->Q (.ref l) (upd H l (.lst ys))):=by
 intro pins s σ H xs us Q I r h;obtain⟨p,ys,rfl,hq,q⟩:=h;obtain⟨u,rfl,rx⟩:=lJ r;cases rx
 have fin: ∀(b6:gH),Vals ys b6->ys.length<=sizeLine-> ∀(h':fP) (c':Nat),(∀b o',s.heap.get? b=some o'->h'.get? b=some o')->
   h'.get? s.heap.objs.size=some {cls:= .type "list",dict:=none,data:= .seq b6.toArray c',slots:= #[]}->EP X pins σ Q (.ref s.heap.objs.size) {s with heap:=h'}:=fun b6 r' hz h' c' kp e=>
  ⟨.ref s.heap.objs.size,_,I.laid (t':=s.toks) kp (gJ _) (show ObjOk X.prog X.w _ h' _ (.lst ys) from⟨hz,b6,c',r',e⟩),rfl,q _ (I.hok.fresh (gJ _))⟩
 rcases hq with hq|hq
 ·obtain⟨b6,r',pl,hz⟩:=I.list hq;have hlen:=r'.length;obtain⟨o,ho,hc,n,hd⟩:=pl.isList;exact call_list_seq p (.inl rfl) ho hc hd (fun h' c' kp e=>fin b6 r' hz h' c' kp e) (by simp only[gr]<;>omega)
 ·obtain⟨b6,r',pl,hz⟩:=I.tuple hq;have hlen:=r'.length;obtain⟨o,ho,hc,n,hd⟩:=pl;exact call_list_seq p (.inr rfl) ho hc hd (fun h' c' kp e=>fin b6 r' hz h' c' kp e) (by simp only[gr]<;>omega)
theorem rq:hX X (.type "tuple") (fun xs H Q=> ∃p ys,xs=[.ref p]/\((SqL X.K H p ys/\ ∀l,H l=none->Q (.ref l) (upd H l (.tup ys)))\/(SqT X.K H p ys/\Q (.ref p) H))):=by
 intro pins s σ H xs us Q I r h;obtain⟨p,ys,rfl,h⟩:=h;obtain⟨u,rfl,rx⟩:=lJ r;cases rx;rcases h with⟨hq,q⟩|⟨hq,q⟩
 ·obtain⟨b6,r',pl,hz⟩:=I.list hq;have hlen:=r'.length;refine call_tuple_list pl.isList (fun h' kp=>?_) (by simp only[gr]<;>lia);have I1:Inv X pins σ H {s with heap:=h'}:=I.kept (t':=s.toks) kp
  have I2:Inv X pins σ (upd H h'.objs.size (.tup ys)) {s with heap:=h'.push {cls:= .type "tuple",data:= .seq b6.toArray}}:=
   I1.laid (t':=s.toks) (fun b o e=>ik _ e) (gJ _) (show ObjOk X.prog X.w _ _ _ (.tup ys) from⟨hz,b6,r',wJ _ _⟩)
  exact⟨.ref h'.objs.size,_,I2,rfl,q _ (I1.hok.fresh (gJ _))⟩
 ·obtain⟨b6,r',pl,hz⟩:=I.tuple hq;exact call_tuple_same pl ⟨.ref p,H,I,rfl,q⟩
def tyV(K:fO)(T:String)(x:V)(H:Hp):Prop:=match x with
 | .str _=>T="str"
 | .int _=>T="int"
 | .ref p=>(T="list"/\ ∃xs,SqL K H p xs)\/(T="tuple"/\ ∃o,K.lookup p=some o/\o.cls= .type "tuple"/\o.dict=none)\/
   (T="dict"/\((∃kvs,H p=some (.dK kvs))\/ ∃kvs,H p=some (.dT kvs)))\/(T="set"/\ ∃S n,H p=some (.set S n))
 |_=>False
theorem NI{pins:gc}{σ:St}{H:Hp}{s:eZ}{T:String}{x:V}{v:fI}(I:Inv X pins σ H s)(r:RelV x v)(ty:tyV X.K T x H):
  s.TypeIs v T/\ ∀a,v= .ref a-> ∃ob,s.heap.get? a=some ob/\ob.dict=none:=by
 cases x with
 |str z=>
  obtain⟨t,rfl⟩:=r;cases(show T="str" from ty);exact⟨wI s z t,fun _ e=>nomatch e⟩
 |int i=>
  obtain⟨t,rfl⟩:=r;cases(show T="int" from ty);exact⟨typeIs_int s i t,fun _ e=>nomatch e⟩
 |ref p=>
  cases r;rcases ty with⟨rfl,xs,hq⟩|⟨rfl,o,hk,hc,hd⟩|⟨rfl,hk⟩|⟨rfl,S,n,hk⟩
  ·obtain⟨b6,_,pl,_⟩:=I.list hq;refine⟨pl.isList.typeIs,fun a e=>?_⟩;cases e;obtain⟨o,n,e,c,hd,_⟩:=pl;exact⟨o,e,hd⟩
  ·refine⟨⟨o,I.kIn p o hk,hc⟩,fun a e=>?_⟩;cases e;exact⟨o,I.kIn _ o hk,hd⟩
  ·have z: ∃o,s.heap.get? p=some o/\o.ExactDict:=by
    rcases hk with⟨kvs,hk⟩|⟨kvs,hk⟩
    ·obtain⟨_,_,_,_,o,_,_,e,ex,_⟩:=I.hok p _ hk;exact⟨o,e,ex⟩
    ·obtain⟨_,_,_,_,o,_,_,e,ex,_⟩:=I.hok p _ hk;exact⟨o,e,ex⟩
   obtain⟨o,e,ex⟩:=z;refine⟨⟨o,e,ex.1⟩,fun a e2=>?_⟩;cases e2;exact⟨o,e,ex.2.1⟩
  ·obtain⟨o,_,_,_,e,ex,_⟩:=I.hok p _ hk;refine⟨⟨o,e,ex.1⟩,fun a e2=>?_⟩;cases e2;exact⟨o,e,ex.2.1⟩
 |_=>exact False.elim ty
def tBM(K:fO)(T:String)(r:V->List V->Hp->VK->Prop)(to:TE)(t:TA):TE:=fun σ H Q=>to σ H fun x H1=>tyV K T x H1/\t σ H1 fun xs H2=>r x xs H2 Q
variable {o e:fw}{es:hW}{to:TE}{t:TA}{name:Str}{apos d8:Pos}{T id:String}{r:V->List V->Hp->VK->Prop}
theorem zi(pa:PlainAttrs T)(slot:Slot T name id)(hty:typeOf (.builtin id)=pure (.type "method_descriptor"))(hm:MtR X id r)(ho:PE X o to)(ha:PA X (e::es) t)
  (i5:attributeBase o name X.env (eval o X.env)=eval o X.env:=by rfl)
  (j2:((backTo d8 (starEach (e::es) X.env)).all (fun x=>!x.1)&&(backToKw d8 (keywordEach [] X.env)).all (fun x=>x.1.isSome)
   &&decide ((e::es).length+([]:List Keyword).length+(if([]:List Keyword).isEmpty then 0 else 1)<30))=true:=by rfl)
  (i4:(apos.endLine==d8.line)=true:=by rfl)(hs:starEach (e::es) X.env=(false,eval e X.env)::starEach es X.env:=by rfl)(g0:(backTo d8 (starEach es X.env)).any (·.1)=false:=by rfl):
  PE X (.Call (.Attribute o name apos) (e::es) [] d8) (tBM X.K T r to t):=by
 intro pins s σ H Q I h;refine wpAny_Call_method_late i5 j2 i4 rfl (thn (ho pins s σ H _ I h) fun v s1 ⟨x,H1,I1,r1,ty,q1⟩=>?_);obtain⟨h1,h2⟩:=NI I1 r1 ty;refine⟨T,id,pa,slot,hty,h1,h2,?_⟩;have hA:=ha d8 pins s1 σ H1 _ I1 q1;rw[hs] at hA ⊢;refine Calls.callWith_builtin (by show(false||(backTo d8 (starEach es X.env)).any (·.1))=false;rw[g0]<;>rfl) (Calls.evalArgs_plain ?_);exact thn hA fun us s2 ⟨vs,H2,I2,r2,q2⟩=>hm pins s2 σ H2 x vs v us Q I2 r1 r2 q2
end
def MtM(X:Cx)(id:String)(r:V->List V->Hp->VK->Prop):Prop:=
 ∀(pins:gc) (s:eZ) (σ:St) (H:Hp) (x:V) (xs:List V) (v:fI) (us:gH) (Q:VK),Inv X pins σ H s->RelV x v->Vals xs us->r x xs H Q->
  wpAny (model X.prog X.w) X.A (call (.builtin id) (v::us)) (EP X pins σ Q) X.xe s
theorem Vals.one{x:V}{us:gH}:Vals [x] us-> ∃u,us=[u]/\RelV x u:=lJ
theorem Vals.eraseIdx: ∀{xs:List V} {us:gH} (i:Nat),Vals xs us->Vals (xs.eraseIdx i) (us.eraseIdx i)
 |_,_,_,.nil=> .nil
 |_,_,0,.cons _ t=>t
 |_,_,i+1,.cons r t=> .cons r (Vals.eraseIdx i t)
theorem zt{α:Type}: ∀(l:List α) (i:Nat),(l.eraseIdx i).length<=l.length
 |[],_=>gJ _
 |_::_,0=>Aq _
 |_::r,i+1=>Nat.succ_le_succ (zt r i)
section
variable {X:Cx}{pins:gc}{σ:St}{H:Hp}{s:eZ}{l b:eX}{xs ys zs:List V}
theorem Inv.lset{b6 its':gH}{n:Nat}{f:Array Value->Array Value}{t':Nat}(I:Inv X pins σ H s)(hH:H l=some (.lst xs))
  (e:s.heap.get? l=some {cls:= .type "list",data:= .seq b6.toArray n})(hf:f b6.toArray=its'.toArray)(hv:Vals ys its')(hz:ys.length<=sizeLine):
  Inv X pins σ (upd H l (.lst ys)) {s with heap:=s.heap.update l (Obj.mapSeq f),toks:=t'}:=by
 have q:=PySem.IsL.update e f;rw[hf] at q;refine I.write (x:=l) (e:=l) (by rw[hH];exact trivial) (.inl rfl) (fun b' u hb hu=>(uU s.heap (Obj.mapSeq f) (kR hb)).trans hu) ⟨_,q⟩ ?_;exact⟨hz,its',_,hv,q⟩
theorem Inv.lnew{b6:gH}{t':Nat}(I:Inv X pins σ H s)(hv:Vals ys b6)(hz:ys.length<=sizeLine):
  Inv X pins σ (upd H s.heap.objs.size (.lst ys)) {s with heap:=s.heap.push {cls:= .type "list",data:= .seq b6.toArray},toks:=t'}:=
 I.laid (fun _ _ q=>ik _ q) (gJ _) ⟨hz,b6,0,hv,iK _ rfl⟩
theorem Inv.fresh(I:Inv X pins σ H s):H s.heap.objs.size=none:=I.hok.fresh (gJ _)
theorem Inv.lstM(I:Inv X pins σ H s)(hH:H l=some (.lst xs)):xs.length<=sizeLine/\ ∃(b6:gH) (n:Nat),Vals xs b6/\xs.length=b6.length/\s.heap.get? l=some {cls:= .type "list",data:= .seq b6.toArray n}:=by
 obtain⟨z,b6,n,r,e⟩:=I.hok l _ hH;exact⟨z,b6,n,r,r.length,e⟩
theorem JF{n:Nat}(h:n<=sizeLine):Builtin.List.listTooLong n=false:=by
 unfold Builtin.List.listTooLong;exact kS (by lia)
end
section
variable {X:Cx}
def Lz:V->List V->Hp->VK->Prop:=fun x vs H Q=> ∃l xs y,x= .ref l/\vs=[y]/\H l=some (.lst xs)/\xs.length<sizeLine/\Q .non (upd H l (.lst (xs++[y])))
theorem Gy:MtM X "list.append" Lz:=by
 intro pins s σ H x vs v us Q I rx rv h;obtain⟨l,xs,y,rfl,rfl,hH,hz,q⟩:=h;cases rx;obtain⟨u,rfl,ru⟩:=rv.one;obtain⟨z,b6,n,r,hl,e⟩:=I.lstM hH;refine pE F.slot_list_append ⟨_,e,rfl⟩ HF (HE _ _) (PySem.list_append l b6.toArray n u (by rw[gr];lia)) ⟨e,?_⟩;refine⟨.non,_,I.lset (its':=b6++[u]) hH e (by simp) (r.append (.cons ru .nil)) ?_,rfl,q⟩;rw[lr,wH]
 lia
def Ly:V->List V->Hp->VK->Prop:=fun x vs H Q=> ∃l b xs zs,x= .ref l/\vs=[.ref b]/\H l=some (.lst xs)/\H b=some (.lst zs)/\xs.length+zs.length<=sizeLine/\Q .non (upd H l (.lst (xs++zs)))
theorem Gx:MtM X "list.extend" Ly:=by
 intro pins s σ H x vs v us Q I rx rv h;obtain⟨l,b,xs,zs,rfl,rfl,hH,hB,hz,q⟩:=h;cases rx;obtain⟨u,rfl,ru⟩:=rv.one;cases ru;obtain⟨z,b6,n,r,hl,e⟩:=I.lstM hH;obtain⟨z2,b9,n2,r2,aU,e2⟩:=I.lstM hB;have hsz:b6.toArray.size+b9.toArray.size<=sizeLine:=by rw[gr,gr];lia
 have hlong: ¬(!b6.toArray.isEmpty&&Builtin.List.listTooLong (b6.toArray.size+b9.toArray.size))=true:=by
  rw[JF hsz,Bool.and_false];exact je
 refine pE F.slot_list_extend ⟨_,e,rfl⟩ F.entry_list_extend (F.args_list_extend_2 _ _)
  (AutoSeq1.list_extend_list_list_0 l b6.toArray n b b9.toArray n2 hlong (by rw[gr];lia) (by lia)) ⟨e,e2,?_⟩
 refine⟨.non,_,I.lset (its':=b6++b9) hH e (by simp) (r.append r2) ?_,rfl,q⟩;rw[lr]
 lia
def Ob:V->List V->Hp->VK->Prop:=fun x vs H Q=> ∃l xs i k y,x= .ref l/\vs=[.int i]/\H l=some (.lst xs)/\ -(2^63)<=i/\i<2^63/\seqIndex? i xs.length=some k/\xs[k]?=some y/\Q y (upd H l (.lst (xs.eraseIdx k)))
theorem JK:MtM X "list.pop" Ob:=by
 intro pins s σ H x vs v us Q I rx rv h;obtain⟨l,xs,i,k,y,rfl,rfl,hH,h1,h2,hk,hy,q⟩:=h;cases rx;obtain⟨u,rfl,ru⟩:=rv.one;obtain⟨t,rfl⟩:=ru;obtain⟨z,b6,n,r,hl,e⟩:=I.lstM hH;obtain⟨w,hw,p8⟩:=r.get hy
 refine pE F.slot_list_pop ⟨_,e,rfl⟩ F.entry_list_pop (F.args_list_pop_2 _ _)
  (MeetsSeq.list_pop_at l b6.toArray n i t k w (fitsIndex_both h1 h2) (by rw[gr,<-hl];exact hk) (by rw[<-jT];exact hw) (by rw[gr];lia)) ⟨e,?_⟩
 refine⟨y,_,I.lset (its':=b6.eraseIdx k) hH e ?_ (r.eraseIdx k) ?_,p8,q⟩
 ·show b6.toArray.eraseIdxIfInBounds k=(b6.eraseIdx k).toArray;rw[List.eraseIdxIfInBounds_toArray]
 ·have:=zt xs k
  lia
end
section
variable {prog:fS}{w:fL}{A:fQ}{E:gm}{s:eZ}
end
section
variable {X:Cx}
end
end L2
namespace Att
open PySem PySem.W PySem.Calls PyProof.Rows
theorem vY{P:Params}{h:fP}: ∀(ns:fN) (vs:gH),WellAll P h vs (ns.map WData.int)->IntsAre vs ns:=by
 intro ns
 induction ns with
 |nil=>
  intro vs w;rw[mG] at w;cases w;exact .nil
 |cons n ns ih=>
  intro vs w;rw[gP] at w
  cases w with
  |cons a b=>
   cases a;exact .cons _ _ (ih _ b)
theorem F5{l:OpenLaw}{n:Nat}(hn:l.most=some n){P:Params}{h:fP}{args:List WData}{vals:gH}
  (u7:l.row.toRowW.claim.pre args=true)(dU:WellAll P h vals args):
  ∃a vs ns,vals=[Value.ref a]/\args=[WData.list (ns.map WData.int)]/\h.get? a=some {cls:= .type "list",data:= .seq vs.toArray}/\IntsAre vs ns/\ns.length<=n:=by
 have dk:WShape.hasAll [] args [.list .int]=true:=(pre_splitW u7).1;have hc:l.pre.holds [] {args:=args}=true:=(pre_splitW u7).2;obtain⟨d,r,rfl,h1,h2⟩:=hasAllW_cons dk;obtain rfl:=hasAllW_nil h2;obtain⟨xs,rfl,h3⟩:=hasW_list h1;obtain⟨ns,rfl⟩:=items_int h3
 have hlen:ns.length<=n:=by
  unfold OpenLaw.pre at hc
  have h4:(WTm.not (.lt (.lit (.int (n:Int))) (.len (.arg 0)))).holds [] {args:=[.list (ns.map .int)]}=true:=by
   have h4:=(holds_andW hc).1;rw[hn] at h4;exact h4
  have h5:=condW_of h4 (w_not (w_lt w_lit (w_len_list (w_arg rfl))));rw[gW] at h5;refine Nat.le_of_not_lt fun q=>?_;have q':(n:Int)<((ns.length:Nat):Int):=by omega
  first
   |(rw[ny q'] at h5;exact absurd h5 (by decide))
   |(simp at h5;omega)
 cases dU with
 |cons w1 w2=>
  cases w2
  cases w1 with
  |list ho hall=>exact⟨_,_,ns,rfl,rfl,ho,vY ns _ hall,hlen⟩
theorem Gj(l:OpenLaw)(args:List WData):l.row.toRowW.claim.post args (.bool true) args=true:=
 postW_of (r:=l.row.toRowW) (X:=(true==true))
  (show WShape.has [] (.bool true) .bool=true by first|rfl|decide|simp[WShape.has,WShape.arms,WShape.armsAll])
  (show(WTm.eq .res (.lit (.bool true))).value [] {args:=args,res:=some (.bool true),after:=args}=some (.bool (true==true)) from w_eq_bool (w_res rfl) w_lit) rfl
theorem MU{l:OpenLaw}{n:Nat}{q:fS}{loose:fV}{XP:(Str->Option Value)->Heap->Prop}{YP:World->Heap->Prop}{d:DefRec}
  (hn:l.most=some n)(cK:d.params.defaults=[])
  (call: ∀(w:fL) (s₀ s₁:eZ) (mg mb:jY) (fa:eX) (o:Obj) (pm cd doc:fI) (a:eX) (vs:gH) (ns:fN),
   Ground q loose [] XP w s₀ mg mb s₁.heap->YP w s₁.heap->
   s₁.heap.get? fa=some o->o.data= .func (docDef d.name d.params d.body d.scope pm cd doc)->s₁.heap.CodeRec cd d.name->mg d.name=some (.ref fa)->
   s₁.heap.get? a=some {cls:= .type "list",data:= .seq vs.toArray}->IntsAre vs ns->ns.length<=n->s₁.gens= #[]->
   codeAny (model l.prog w) callerA (.call (.ref fa) ⟨[.ref a],[]⟩) (fun r s'=>r= .ok (.ret (.bool true))/\OldK s₁.heap s'.heap/\s'.os=s₁.os/\AllBare s'.gens) s₁):
  WalkO q loose XP YP l.row.toRowW d [] (fun f vs=>PySem.call f vs):=by
 intro w s₀ s₁ mg mb G Y fa o pm cd doc dV kV ho hd q9 hD hmg hg args vals as u7 hlay hrd dU hlo;obtain rfl:dV= .none:=Dflts.none hD cK;obtain rfl:kV= .none:=Dflts.noKw hD;obtain⟨a,vs,ns,rfl,rfl,bx,hints,hlen⟩:=F5 hn u7 dU;refine enter_call (rO (call w s₀ s₁ mg mb fa o pm cd doc a vs ns G Y ho (fd_plain hd) q9 hmg bx hints hlen hg) fun r s' hq=>?_);obtain⟨rfl,h2,h3,h4⟩:=hq;exact⟨.inl ⟨.bool true,.bool true,[],rfl,fun _=>rfl,.bool true,Gj l _,fun _=>⟨List.Pairwise.nil,fun _ hm=>(nomatch hm)⟩⟩,h2,h3,h4⟩
section
variable {prog:fS}{w:fL}{A:fQ}{E:gm}{s:eZ}{K:Frag}
end
end Att
namespace L2
open PySem PySem.Spec PyProof.Rows
theorem FR{vs:gH}{ns:fN}(h:IntsAre vs ns):Vals (ns.map V.int) vs:=by
 induction h with
 |nil=>exact .nil
 |cons n t h ih=>exact .cons ⟨t,rfl⟩ ih
def P5(H:Hp):Prop:= ∀b,H b=none\/ ∃o xs,H b=some (.frz o (.lst xs))
theorem JV{P:fS}{w:fL}{K:fO}{mg mb:jY}{CX:CXT}{k:Nat}{fa a:eX}{fd:kO}{x:Str}{sp:Sp}{s₁:eZ}{vs:gH}{ns:fN}
  (KX:K.In s₁.heap)(bU:s₁.heap.Ns mainGlobals mg)(hb:s₁.heap.Ns builtinsNs mb)(hbb: ∀x:Str,x≠"__name__"->mb x=bootBuiltins x)(hlim:s₁.heap.NoLimit)(hg:s₁.gens= #[])
  (ha:s₁.heap.get? a=some {cls:= .type "list",data:= .seq vs.toArray})(hi:IntsAre vs ns)(hl:ns.length<=sizeLine)(hr:Room k callerA)
  (F: ∀base:Heap,K.In base->base.Ns mainGlobals mg->FnOk P w K mg base CX k fa fd [x] sp)(hbind: ∀(s:eZ) (u:fI),BindsTo s fd ⟨[u],[]⟩ [(x,u)])
  (aR: ∀H:Hp,P5 H->SqL K H a (ns.map V.int)->sp [.ref a] H (fun v _=>v= .bl true) fun _ _ _=>False)
  (eF: ∀H e s',CX [] H s₁ (fun _ _ _=>False) e s'->False):
  codeAny (model P w) callerA (.call (.ref fa) ⟨[.ref a],[]⟩) (fun r s'=>r= .ok (.ret (.bool true))/\OldK s₁.heap s'.heap/\s'.os=s₁.os/\AllBare s'.gens) s₁:=by
 have rv:=FR hi;have lenV:=hi.length
 have core: ∀H:Hp,P5 H->SqL K H a (ns.map V.int)->HOk P w H s₁.heap->(∀b,H b≠none->b=a)->(H a≠none->K.lookup a=none)->
   codeAny (model P w) callerA (.call (.ref fa) ⟨[.ref a],[]⟩) (fun r s'=>r= .ok (.ret (.bool true))/\OldK s₁.heap s'.heap/\s'.os=s₁.os/\AllBare s'.gens) s₁:=by
  intro H hO hS hok hA hK;have base_of: ∀{b:eX} {o:Obj},s₁.heap.get? b=some o->H b=none->(Bc s₁.heap H).get? b=some o:=fun e n=>Ke e n
  have cq: ∀{b:eX} {o:Obj} {es:Array DictEntry} {ep:Nat},s₁.heap.get? b=some o->o.data= .dict es ep->H b=none:=fun {b o es ep} e d=>by
   cases q:H b with
   |none=>rfl
   |some u=>
    have e':b=a:=hA b (by rw[q];simp);subst e';rw[ha] at e;cases e;have d':Data.seq vs.toArray _=Data.dict es ep:=d;cases d'
  have cY: ∀{b:eX} {m:jY},s₁.heap.Ns b m->(Bc s₁.heap H).Ns b m:=fun {b m} ⟨o,es,ep,e,d,r⟩=>⟨o,es,ep,base_of e (cq e d),d,r⟩
  have hKb:K.In (Bc s₁.heap H):=fun b o e=>base_of (KX b o e) (by
   cases q:H b with
   |none=>rfl
   |some u=>
    have e':b=a:=hA b (by rw[q];simp);subst e';rw[hK (by rw[q];simp)] at e;cases e)
  have hM:Mod K mg (Bc s₁.heap H):=⟨hKb,cY bU,⟨mb,cY hb,hbb⟩,let⟨mc,h1,h2⟩:=hlim;⟨mc,cY h1,h2⟩⟩
  have e0:Env0 P w K mg (Bc s₁.heap H) callerA [] s₁ H:=⟨rfl,hM,fun b o e=>Mq e,Nat.le_of_eq (GI _ _),trivial,fun b hb=>absurd (show b∈([]:List Addr) from hb) (by simp),hok,.of_eq hg⟩
  refine rO ((F _ hKb (cY bU)).run callerA [] s₁ H ⟨[.ref a],[]⟩ [.ref a] [.ref a] _ _ hr e0 (hbind s₁ (.ref a)) (.cons rfl .nil) (aR H hO hS)) fun r s' h=>?_
  cases r with
  |error e=>exact(eF H e s' h).elim
  |ok fl=>
   cases fl with
   |next=>exact False.elim h
   |brk=>exact False.elim h
   |cont=>exact False.elim h
   |ret u=>
    obtain⟨v,H',os,bare,un,hok',r',q⟩:=h;have q':v= .bl true:=q;subst q';obtain rfl:u=Value.bool true:=r';refine⟨rfl,OldK.of_keep fun b o e=>?_,os,bare⟩
    cases q:H b with
    |none=>exact un.keep b o e q (by intro z;exact absurd (show b∈([]:List Addr) from z) (by simp)) (by simp)
    |some u=>
     rcases hO b with z|⟨ob,xs,z⟩
     ·rw[q] at z;cases z
     ·have z2:=un.frzs b ob _ z;obtain⟨e1,_⟩:=hok b _ z;obtain⟨e2,_⟩:=hok' b _ z2;rw[e] at e1;cases e1;exact e2
 cases hk:K.lookup a with
 |some o=>
  have e:=KX a o hk;rw[ha] at e;cases e;refine core (fun _=>none) (fun _=> .inl rfl) (.inr ⟨_,vs.toArray,_,hk,rfl,rfl,rfl,by rw[gr,lenV];exact hl,by simpa using rv⟩) (fun b u z=>by have z':(none:Option HO)=some u:=z;cases z') (fun b z=>absurd rfl z) fun z=>absurd rfl z
 |none=>
  refine core (fun b=>if b=a then some (.frz {cls:= .type "list",data:= .seq vs.toArray} (.lst (ns.map V.int))) else none) (fun b=>?_) (.inl (.inr ⟨{cls:= .type "list",data:= .seq vs.toArray},fJ rfl⟩)) (fun b u z=>?_) (fun b z=>?_) fun _=>hk
  ·by_cases hb:b=a
   ·exact .inr ⟨_,_,fJ hb⟩
   ·exact .inl (fR hb)
  ·by_cases hb:b=a
   ·have z':=(fJ hb).symm.trans z;cases z';subst hb;exact⟨ha,by rw[gW];exact hl,vs,_,rv,ha⟩
   ·have z':=(fR hb).symm.trans z;cases z'
  ·by_cases hb:b=a
   ·exact hb
   ·exact absurd (fR hb) z
theorem Ql{l:PySem.W.OpenLaw}{n k:Nat}{q:fS}{loose:fV}{XP:(Str->Option Value)->Heap->Prop}{YP:World->Heap->Prop}{d:DefRec}{K:Params->PySem.W.Frag}{CX:World->CXT}{sp:World->Sp}{x:Str}
  (hn:l.most=some n)(hn2:n<=sizeLine)(cK:d.params.defaults=[])(hr:Room k callerA)
  (hY: ∀(w:fL) (h:fP),YP w h->(K w.params).In h)
  (F: ∀(w:fL) (mg:jY) (fa:eX) (h:fP),(K w.params).In h->h.Ns mainGlobals mg->mg d.name=some (.ref fa)->
   ∃fd:FuncData,(∀(s:eZ) (u:fI),BindsTo s fd ⟨[u],[]⟩ [(x,u)])/\
    ∀base:Heap,(K w.params).In base->base.Ns mainGlobals mg->FnOk l.prog w (K w.params) mg base (CX w) k fa fd [x] (sp w))
  (aR: ∀(w:fL) (H:Hp) (a:eX) (ns:fN),ns.length<=n->P5 H->SqL (K w.params) H a (ns.map V.int)->sp w [.ref a] H (fun v _=>v= .bl true) fun _ _ _=>False)
  (eF: ∀(w:fL) (H:Hp) (s:eZ) (e:fI) (s':eZ),CX w [] H s (fun _ _ _=>False) e s'->False):
  PySem.W.WalkO q loose XP YP l.row.toRowW d [] (fun f vs=>PySem.call f vs):=by
 refine Att.MU hn cK fun w s₀ s₁ mg mb fa o pm cd doc a vs ns G Y ho hd q9 hmg bx hints hlen hg=>?_;have KX:=hY w _ Y;obtain⟨fd,hb,hF⟩:=F w mg fa _ KX G.T.g hmg;exact JV KX G.T.g G.T.b G.T.builtins G.T.nolimit hg bx hints (mH hlen hn2) hr hF hb (fun H hO hS=>aR w H a ns hlen hO hS) fun H e s'=>eF w H s₁ e s'
noncomputable def qA(s:Stmt):Arguments:=match s with
 | .FunctionDef _ a _ _ _ _ _ _ _ _=>a
 |_=>{posonlyargs:=[],args:=[],vararg:=none,kwonlyargs:=[],kw_defaults:=[],kwarg:=none,defaults:=[]}
noncomputable def lR(s:Stmt):List Stmt:=match s with
 | .FunctionDef _ _ b _ _ _ _ _ _ _=>b
 |_=>[]
noncomputable def fA(s:Stmt):Scope:=match s with
 | .FunctionDef _ _ _ _ _ _ sc _ _ _=>sc
 |_=>{kind:= .function,names:=[],isGenerator:=false,isCoroutine:=false}
abbrev CX0:CXT:=fun _ _ _ _ _ _=>False
abbrev E0:XK:=fun _ _ _=>False
theorem Rj{X:Cx}:Ex CX0 X E0:=fun _ _ _ _ _ _ _ h=>h.elim
structure Fun(K:fO)(x qual:Str)(st:Stmt)(f:eX)(fd:kO):Prop where
 ex: ∃(oc:fI) (od:Option Addr) (kV doc pm:fI) (an:Option Addr) (f6 ct:fI) (aa:sO),
  fd=PySem.W.fnOf x qual (qA st) (lR st) (fA st) .none kV doc pm an f6 ct/\K.lookup f=some ⟨oc,od,.func fd,aa⟩/\PySem.W.codeIn K f6 qual=true
 kp:PySem.W.keepIn K (.ref f)=true
section
variable {P:fS}{w:fL}{K:fO}{mg:jY}{base:fP}
theorem Fun.ok{x qual:Str}{st:Stmt}{f:eX}{fd:kO}{N ps:fV}{k:Nat}{sp:Sp}(F:Fun K x qual st f fd)(S:FnScope N ps (fA st))(len: ∀vs H Q E,sp vs H Q E->vs.length=ps.length)
  (r0: ∀(f6:fI) (A:fQ) (outer:List Env) (s:eZ) (H:Hp) (vs:List V) (Q:VK) (E:XK),Room k (A.deeper (envOfC qual (fA st) s.heap.objs.size f f6))->sp vs H Q E->
   ∃t,PSs (Cv CX0 P w K mg base N qual (fA st) f f6 A outer s H E).nox (lR st) t/\t {nx:=fun _ H'=>Q .non H',rt:=Q} (oP N vs) H):FnOk P w K mg base CX0 (k+1) f fd ps sp:=by
 obtain⟨oc,od,kV,doc,pm,an,f6,ct,aa,rfl,lk,q9⟩:=F.ex;refine RK lk q9 S len fun A outer s H vs Q E hr aR=>?_;obtain⟨t,h,q⟩:=r0 f6 A outer s H vs Q E hr aR;exact⟨t,h.nox,q⟩
theorem Fun.binds{x qual:Str}{st:Stmt}{f:eX}{fd:kO}{ps:fV}(F:Fun K x qual st f fd)
  (h: ∀(kV doc pm:fI) (an:Option Addr) (f6 ct:fI) (us:gH),us.length=ps.length->bindArgs (PySem.W.fnOf x qual (qA st) (lR st) (fA st) .none kV doc pm an f6 ct) ⟨us,[]⟩=pure (ps.zip us)):Binds K fd ps []:=by
 obtain⟨oc,od,kV,doc,pm,an,f6,ct,aa,rfl,lk,q9⟩:=F.ex;exact .all (h kV doc pm an f6 ct)
theorem Pr{x qual:Str}{st:Stmt}{f:eX}{oc:fI}{od an:Option Addr}{aa:sO}{kV doc pm f6 ct:fI}(l:K.lookup f=some ⟨oc,od,.func (PySem.W.fnOf x qual (qA st) (lR st) (fA st) .none kV doc pm an f6 ct),aa⟩)
  (c:PySem.W.codeIn K f6 qual=true)(k:PySem.W.keepIn K (.ref f)=true):Fun K x qual st f (PySem.W.fnOf x qual (qA st) (lR st) (fA st) .none kV doc pm an f6 ct):=⟨⟨oc,od,kV,doc,pm,an,f6,ct,aa,rfl,l,c⟩,k⟩
end
section
variable {X:Cx}
end
theorem Ry{A B:Prop}(h:B):if false=true then A else B:=by
 rw[fR je];exact h
theorem Rx{A B:Prop}(h:A):if true=true then A else B:=by
 rw[fJ rfl];exact h
theorem sL(env:Env): ∀(l:List (Str×NameKind)) (cs:jy),(∀x∈l,x.2= .free-> ∃c,env.cells.lookup x.1=some c)->(∀x c,cs.lookup x=some c->env.cells.lookup x=some c)->
  ∃cl,(forIn l cs fun x r=>if x.2==NameKind.free then do let a <-cellOf env x.1;pure (ForInStep.yield ((x.1,a)::r)) else pure (ForInStep.yield r))=(pure cl:Sem (List (Str×Addr)))/\
   (∀x c,cl.lookup x=some c->env.cells.lookup x=some c)/\(∀x,(x,NameKind.free)∈l-> ∃c,cl.lookup x=some c)/\ ∀x c,cs.lookup x=some c-> ∃c,cl.lookup x=some c
 |[],cs,_,hc=>⟨cs,rfl,hc,fun x h=>by simp at h,fun x c h=>⟨c,h⟩⟩
 |(n,k)::l,cs,h,hc=>by
  by_cases hk:k= .free
  ·subst hk;obtain⟨c,e⟩:=h (n,.free) gY rfl;have e':env.cells.lookup n=some c:=e
   obtain⟨cl,h1,h2,h3,h4⟩:=sL env l ((n,c)::cs) (fun x hx=>h x (gX _ hx)) (fun x d hx=>by
    rw[mF] at hx
    cases hb:x==n with
    |true=>rw[hb] at hx;have:=qR hb;subst this;cases hx;exact e'
    |false=>rw[hb] at hx;exact hc x d hx)
   refine⟨cl,?_,h2,fun x hx=>?_,fun x d hx=>?_⟩
   ·rw[List.forIn_cons];have:cellOf env n=pure c:=by unfold cellOf;rw[e']
    simp -iota only[this,pure_bind,beq_self_eq_true,iu];exact h1
   ·rcases iY.mp hx with z|z
    ·cases z;exact h4 n c (by simp[mF])
    ·exact h3 x z
   ·cases hb:x==n with
    |true=>have:=qR hb;subst this;exact h4 x c (by simp[mF])
    |false=>exact h4 x d (by rw[mF,hb];exact hx)
  ·obtain⟨cl,h1,h2,h3,h4⟩:=sL env l cs (fun x hx=>h x (gX _ hx)) hc;have hb:(k==NameKind.free)=false:=by simpa using hk
   refine⟨cl,?_,h2,fun x hx=>?_,h4⟩
   ·rw[List.forIn_cons];simp -iota only[hb,gv,gO,pure_bind];exact h1
   ·rcases iY.mp hx with z|z
    ·cases z;exact absurd rfl hk
    ·exact h3 x z
theorem sJ(env:Env)(scope:hJ)(h: ∀x∈scope.names,x.2= .free-> ∃c,env.cells.lookup x.1=some c):
  ∃cl,closureFor scope env=pure cl/\(∀x c,cl.lookup x=some c->env.cells.lookup x=some c)/\ ∀x,(x,NameKind.free)∈scope.names-> ∃c,cl.lookup x=some c:=by
 obtain⟨cl,h1,h2,h3,_⟩:=sL env scope.names [] h (fun x c hx=>by simp at hx);refine⟨cl,?_,h2,h3⟩;unfold closureFor;have:(forIn scope.names ([]:List (Str×Addr)) fun x r=>if x.2==NameKind.free then do let a <-cellOf env x.1;pure (ForInStep.yield ((x.1,a)::r)) else pure (ForInStep.yield r))=(pure cl:Sem (List (Str×Addr))):=h1
 first
  |exact(lH (· >>=fun r=>pure r) this).trans (pure_bind _ _)
  |(simp -iota only[bind_pure];exact this)
  |exact this
theorem ki: ∀(names:List (Str×NameKind)) (n:Nat) (acc:jy),cellsFrom n names acc=cellsFrom n names []++acc
 |[],_,_=>rfl
 |(x,k)::r,n,acc=>by
  unfold cellsFrom;split
  ·rw[ki r (n+1) ((x,n)::acc),ki r (n+1) [(x,n)],mE];rfl
  ·exact ki r n acc
theorem nk{x:Str}{c:eX}: ∀(names:List (Str×NameKind)) (n:Nat),(x,c)∈cellsFrom n names []->(x,NameKind.cell)∈names
 |[],_,h=>by simp[cellsFrom] at h
 |(y,k)::r,n,h=>by
  unfold cellsFrom at h;split at h
  ·rename_i hk;rw[ki] at h;rcases nF.mp h with z|z
   ·exact gX _ (nk r _ z)
   ·cases Ez.mp z;rw[qR hk];exact gY
  ·exact gX _ (nk r _ h)
structure BCls(cells:jy)(scope:hJ)(C:eX)(h:fP)(cl:jy):Prop where
 one: ∀x c,cl.lookup x=some c->(cells.lookup x=some c/\scope.names.lookup x≠some .cell)\/(C<c/\scope.names.lookup x=some .cell/\h.IsCell c none)
 all: ∀x,(x,NameKind.free)∈scope.names\/(x,NameKind.cell)∈scope.names-> ∃c,cl.lookup x=some c
 inj: ∀x y c,C<c->cl.lookup x=some c->cl.lookup y=some c->(∀z d,cells.lookup z=some d->d<C)->x=y
 ex: ∀x c,cl.lookup x=some c->cells.lookup x=some c\/C<c
theorem Mt{M:Model}{A:fQ}{E:gm}{s:eZ}{scope:hJ}{globals:eX}{env:Env}{cl:jy}{qual:Str}{Q:Env->Shared->Prop}(l7: ∀y∈scope.names,y.2= .cell->scope.names.lookup y.1=some .cell)
  (k9: ∀x c,cl.lookup x=some c->env.cells.lookup x=some c)(k5: ∀x,(x,NameKind.free)∈scope.names-> ∃c,cl.lookup x=some c)
  (hQ: ∀h' cs,h'.Ns s.heap.objs.size (fun _=>none)->(∀b o,s.heap.get? b=some o->h'.get? b=some o)->BCls env.cells scope s.heap.objs.size h' cs->
   Q {scope,locals:=s.heap.objs.size,globals,cells:=cs,qual,func:=none,code:=env.code,frame:=env.frame,builtins:=env.builtins} {s with heap:=h'}):
  wpAny M A (newFunctionEnv scope globals cl [] qual none .none (some env)) Q E s:=by
 simp -iota only[newFunctionEnv,Option.isSome_some,iu];refine eY (wpAny_alloc ?_);refine eY (wpAny_layCells _ (fun name kind cells=>by cases hkc:kind==NameKind.cell<;>simp[hkc]) _ _ _ _ ?_);have ok:=cellsFrom_ok scope.names (s.heap.push {cls:= .type "dict",data:= .dict #[]}) (s.heap.objs.size+1) [] ⟨fun _ _ hm=>(nomatch hm),List.Pairwise.nil⟩ (by rw[oG];exact gJ _);rw[oG] at ok;rw[show({s with heap:=s.heap.push {cls:= .type "dict",data:= .dict #[]}}:Shared).heap.objs.size=s.heap.objs.size+1 from oG ..];simp -iota only[List.forIn_nil];have look: ∀x,(cellsFrom (s.heap.objs.size+1) scope.names cl).lookup x=((cellsFrom (s.heap.objs.size+1) scope.names []).lookup x).or (cl.lookup x):=fun x=>by rw[ki,List.lookup_append]
 have two: ∀x c,(cellsFrom (s.heap.objs.size+1) scope.names cl).lookup x=some c->(cl.lookup x=some c/\(cellsFrom (s.heap.objs.size+1) scope.names []).lookup x=none)\/(x,c)∈cellsFrom (s.heap.objs.size+1) scope.names []:=fun x c h=>by
  rw[look] at h
  cases hx:(cellsFrom (s.heap.objs.size+1) scope.names []).lookup x with
  |none=>rw[hx] at h;exact .inl ⟨h,rfl⟩
  |some d=>rw[hx] at h;cases h;exact .inr (vG hx)
 have lo: ∀{x:Str} {c:eX},(x,c)∈cellsFrom (s.heap.objs.size+1) scope.names []->s.heap.objs.size<c:=fun {x c} h=>(ok.empty x c h).2;refine eY (fH (fH (hQ _ _ ((Heap.Ns.new s.heap (.type "dict")).keeps (pushCells_keeps _ _)) (fun b o e=>pushCells_keeps _ _ b o (ik _ e)) ⟨fun x c h=>?_,fun x h=>?_,fun x y c hc h1 h2 hz=>?_,fun x c h=>?_⟩)))
 ·rcases two x c h with⟨z,hn⟩|z
  ·refine .inl ⟨k9 x c z,fun e=>?_⟩;have:=As scope.names (s.heap.objs.size+1) [] (.inl e);rw[hn] at this;cases this
  ·exact .inr ⟨lo z,l7 _ (nk _ _ z) rfl,(ok.empty x c z).1⟩
 ·rcases h with h|h
  ·obtain⟨c,hc⟩:=k5 x h;rw[look,hc];cases(cellsFrom (s.heap.objs.size+1) scope.names []).lookup x<;>exact⟨_,rfl⟩
  ·have:=As scope.names (s.heap.objs.size+1) cl (.inl (l7 _ h rfl));exact G7.mp this
 ·rcases two x c h1 with⟨z,_⟩|z
  ·exact absurd (hz x c (k9 x c z)) (Dk hc)
  ·rcases two y c h2 with⟨z',_⟩|z'
   ·exact absurd (hz y c (k9 y c z')) (Dk hc)
   ·exact name_of_addr ok.apart z z'
 ·rcases two x c h with⟨z,_⟩|z
  ·exact .inl (k9 x c z)
  ·exact .inr (lo z)
noncomputable def Cx.comp(X:Cx)(N':fV)(scope:hJ)(cl:jy)(C:eX)(s3:eZ)(H3:Hp)(fp:ig)(pins:gc):Cx:=
 {X with N:=N',s₀:=s3,H₀:=H3,env:=compEnvC scope cl C X.env,outer:=X.stack,stack:=X.stack,ex:=fp,fn:=fun x=>scope.names.lookup x==some .cell,pn:=X.pn++pins,xe:=fun _ _=>False}
abbrev TB:=St->Hp->(St->Hp->Prop)->Prop
def PB(X:Cx)(code:Sem Unit)(t:TB):Prop:=
 ∀(pins:gc) (s:eZ) (σ:St) (H:Hp) (N:St->Hp->Prop),Inv X pins σ H s->t σ H N->
  wpAny (model X.prog X.w) X.A code (fun _ s'=> ∃σ' H',Inv X pins σ' H' s'/\N σ' H') X.xe s
def PIf(X:Cx)(ifs:hW)(t:TT):Prop:=
 ∀(pins:gc) (s:eZ) (σ:St) (H:Hp) (Q:Bool->Hp->Prop),Inv X pins σ H s->t σ H Q->
  wpAny (model X.prog X.w) X.A (forIn ifs true fun c r=>if r=true then do let ok <-isTrue c X.env (eval c X.env);pure (ForInStep.yield ok) else pure (ForInStep.yield r)) (TP X pins σ Q) X.xe s
noncomputable def Qq:TT:=fun _ H Q=>Q true H
section
variable {X:Cx}
theorem L9:PIf X [] Qq:=fun pins s σ H Q I h=>wpAny_tests_nil ⟨H,I,h⟩
theorem L8{c:fw}{t:TT}(h:PT X c t):PIf X [c] t:=fun pins s σ H Q I hw=>wpAny_tests_one (h pins s σ H Q I hw)
noncomputable def gU(e:fw)(depth:Nat)(acc:fI)(env:Env):Sem Unit:=
 match(clausesOf e)[depth+1]? with
 |some g'=>do
  let x <-eval g'.iter env
  standAt g'.iter.pos
  let x <-foldedSetIterable g'.iter env x
  let _ <-runOwn (.compStart e (depth+1) (<-holding [x] (pyIter x)) acc env) env
 |none=>match e with
  | .ListComp elt _ _ _=>do let _ <-call (.builtin "list.append") [acc,<-eval elt env]
  | .SetComp elt _ _ _=>do let v <-eval elt env;standAt elt.pos;let _ <-call (.builtin "set.add") [acc,v]
  |_=>unsupported "no"
def Ie(J:It)(g:TG)(ti:TT)(tb:TB):TB:=fun σ H N=> ∃W:Nat->Nat->St->Hp->Prop,(∃m,W 0 m σ H)/\ ∀i m σ H,W i m σ H->
 (J.stop i H/\N σ H)\/(J.go i H/\ ∀x H',J.yld i H x H'->g x σ H' fun σ2 H2=>ti σ2 H2 fun b H3=>if b=true then tb σ2 H3 fun σ4 H4=> ∃m',m'<m/\W (i+1) m' σ4 H4 else ∃m',m'<m/\W (i+1) m' σ2 H3)
theorem Bm(e:fw)(depth:Nat)(it acc:fI)(env:Env)(g:oE)(hl:(∃elt gens sc p,e= .ListComp elt gens sc p)\/(∃elt gens sc p,e= .SetComp elt gens sc p))
  (hg:(clausesOf e)[depth]?=some g)(ha:g.is_async=0)(l4: ∀g',(clausesOf e)[depth+1]?=some g'->g'.is_async=0):
  compTurn e depth it acc env=(do
   standAt g.iter.pos
   match <-pyNext it with
   |none=>pure (.done .next)
   |some v=>
    letOwnedTupleGo g.target it v
    assign g.target env v
    let ok <-forIn g.ifs true fun c r=>if r=true then do let ok <-isTrue c env (eval c env);pure (ForInStep.yield ok) else pure (ForInStep.yield r)
    if ok=true then gU e depth acc env
    again (.compLoop e depth it acc env)):=by
 rcases hl with⟨elt,gens,sc,p,rfl⟩|⟨elt,gens,sc,p,rfl⟩
 ·have bV:gens[depth]?=some g:=hg;unfold compTurn gU;simp only[clausesOf.eq_def] at hg l4 ⊢;rw[bV];simp only[ha]
  cases hn:gens[depth+1]? with
  |none=>rfl
  |some g'=>
   have:=l4 g' hn;simp only[this,tw,gv,gO]
   congr 1;funext _;congr 1;funext r
   cases r with
   |none=>rfl
   |some v=>
    dsimp only
    congr 1;funext _;congr 1;funext _;congr 1;funext ok
    cases ok with
    |false=>rfl
    |true=>simp only[iu,pD];rfl
 ·have bV:gens[depth]?=some g:=hg;unfold compTurn gU;simp only[clausesOf.eq_def] at hg l4 ⊢;rw[bV];simp only[ha]
  cases hn:gens[depth+1]? with
  |none=>rfl
  |some g'=>
   have:=l4 g' hn;simp only[this,tw,gv,gO]
   congr 1;funext _;congr 1;funext r
   cases r with
   |none=>rfl
   |some v=>
    dsimp only
    congr 1;funext _;congr 1;funext _;congr 1;funext ok
    cases ok with
    |false=>rfl
    |true=>simp only[iu,pD];rfl
theorem Ku 
  (hl:(∃elt gens sc p,e= .ListComp elt gens sc p)\/(∃elt gens sc p,e= .SetComp elt gens sc p))
  (h:wpAny (model prog w) A ((compTurn e depth it acc env).onRaise (fun x=>do noteFrame x env;theTreesLotGoes x)) Q E s):
  wpAny (model prog w) (A.under (.compLoop e depth it acc env)) ((model prog w).den (.compLoop e depth it acc env)) Q E s:=by
 rcases hl with⟨elt,gens,sc,p,rfl⟩|⟨elt,gens,sc,p,rfl⟩
 ·exact h
 ·exact h
theorem My{e:fw}{depth:Nat}{acc:fI}{c:oE}{g:TG}{ti:TT}{tb:TB}{J:It}{fp:ig}{it:eX}{tn:Nat->Heap->Prop}(hxe:X.xe=fun _ _=>False)(hc:X.calm=true)
  (hl:(∃elt gens sc p,e= .ListComp elt gens sc p)\/(∃elt gens sc p,e= .SetComp elt gens sc p))(hg:(clausesOf e)[depth]?=some c)(ha:c.is_async=0)(l4: ∀g',(clausesOf e)[depth+1]?=some g'->g'.is_async=0)
  (T:Turn X.prog X.w X.K c.target J fp it tn)(pg:PG X c.target g)(dM:PIf X c.ifs ti)(pb:PB X (gU e depth acc X.env) tb)
  {pins:gc}{s:eZ}{σ:St}{H:Hp}{N:St->Hp->Prop}(I:Inv X pins σ H s)(f2: ∀b∈fp,qi X pins H b)(st:tn 0 s.heap)(h:Ie J g ti tb σ H N):
  codeAny (model X.prog X.w) X.A (.compLoop e depth (.ref it) acc X.env) (fun r s'=>r= .ok .next/\ ∃σ' H',Inv X pins σ' H' s'/\(∀b∈fp,H' b=none)/\N σ' H') s:=by
 obtain⟨W,⟨m0,w0⟩,turn⟩:=h;have r9: ∀{H':Hp},(∀b∈fp,H' b=none)-> ∀b∈fp,qi X pins H' b:=fun hn b hb=>⟨hn b hb,(f2 b hb).2⟩
 have F2: ∀{α:Type} {t:Sem α} {Q:α->Shared->Prop} {E:gm} {s:eZ},wpAny (model X.prog X.w) X.A t Q X.xe s->wpAny (model X.prog X.w) X.A t Q E s:=fun h=>oH h (fun _ _ x=>x) fun _ _ z=>by rw[hxe] at z;exact z.elim
 refine codeAny_loop rfl (fun n s'=> ∃i σ' H',Inv X pins σ' H' s'/\tn i s'.heap/\(∀b∈fp,H' b=none)/\W i n σ' H') (fun n s3 hI=>?_) m0 ⟨0,σ,H,I,st,fun b hb=>(f2 b hb).1,w0⟩;refine Ku hl ?_;refine wpAny_noted ?_;rw[Bm e depth (.ref it) acc X.env c hl hg ha l4];obtain⟨i,σ3,H3,I3,cp,bZ,w3⟩:=hI;refine eY (uY ?_);rcases turn i n σ3 H3 w3 with⟨stop,qn⟩|⟨go,step⟩
 ·refine eY (thn (T.done X rfl rfl rfl hc i pins s3 σ3 H3 _ I3 (r9 bZ) cp stop) fun r s4 ⟨hr,I4⟩=>?_);subst hr;exact fH ⟨rfl,σ3,H3,I4,bZ,qn⟩
 ·refine eY (thn (T.item X rfl rfl rfl hc i pins s3 σ3 H3 _ I3 (r9 bZ) cp go) fun r s4 ⟨u,hr,h4⟩=>?_);subst hr;refine eY (thn h4 fun _ s5 ⟨x,H5,I5,r5,y5,aY,eJ⟩=>?_);have eT:=I5.pinned (r9 eJ) (T.obj _ _ aY);refine eY (thn (F2 (pg _ s5 σ3 H5 x u _ eT r5 (step x H5 y5))) fun _ s6 ⟨σ6,H6,I6,q6⟩=>?_);refine eY (thn (F2 (dM _ s6 σ6 H6 _ I6 q6)) fun ok s7 ⟨H7,I7,q7⟩=>?_)
  have again: ∀{s8:eZ} {σ8:St} {H8:Hp},Inv X (pins++xl fp s5.heap) σ8 H8 s8->(∃m',m'<n/\W (i+1) m' σ8 H8)-> ∃m,m<n/\ ∃i σ' H',Inv X pins σ' H' s8/\tn i s8.heap/\(∀b∈fp,H' b=none)/\W i m σ' H':=fun {s8 σ8 H8} I8 ⟨m',hm,w8⟩=>by
   refine⟨m',hm,i+1,σ8,H8,I8.unpinned,T.keep _ _ _ aY fun b hb o e=>(I8.pin (b,o) (nC _ (nC _ (oh hb e)))).1,fun b hb=>?_,w8⟩;obtain⟨o,e,d⟩:=T.obj _ _ aY b hb;exact(I8.pin (b,o) (nC _ (nC _ (oh hb e)))).2.1
  cases ok with
  |false=>
   rw[fR je] at q7;exact fH ⟨rfl,again I7 q7⟩
  |true=>
   rw[fJ rfl] at q7;simp -iota only[iu];refine eY (thn (F2 (pb _ s7 σ6 H7 _ I7 q7)) fun _ s8 ⟨σ8,H8,I8,q8⟩=>?_);exact fH ⟨rfl,again I8 q8⟩
def Qu(d:eX)(te:TE):TB:=fun σ H N=>te σ H fun y H1=> ∃ys,H1 d=some (.lst ys)/\ys.length<sizeLine/\N σ (upd H1 d (.lst (ys++[y])))
theorem Mf{elt:fw}{gens:nr}{sc:hJ}{p:Pos}{depth:Nat}{d:eX}{te:TE}(hn:gens[depth+1]?=none)(he:PE X elt te):PB X (gU (.ListComp elt gens sc p) depth (.ref d) X.env) (Qu d te):=by
 intro pins s σ H N I h
 have e1:gU (.ListComp elt gens sc p) depth (.ref d) X.env=(do let _ <-call (.builtin "list.append") [.ref d,<-eval elt X.env]):=by
  unfold gU;simp -iota only[clausesOf.eq_def];rw[hn]
 rw[e1];refine eY (thn (he pins s σ H _ I h) fun u s1 ⟨y,H1,I1,ru,ys,hd,hz,q⟩=>?_);obtain⟨z,b6,n,r,hl,e⟩:=I1.lstM hd;refine eY (pE F.slot_list_append ⟨_,e,rfl⟩ HF (HE _ _) (PySem.list_append d b6.toArray n u (by rw[gr];lia)) ⟨e,?_⟩);refine fH ⟨σ,_,I1.lset (its':=b6++[u]) hd e (by simp) (r.append (.cons ru .nil)) ?_,q⟩;rw[lr,wH]
 lia
theorem Ij{prog:fS}{w:fL}{A:fQ}{e:fw}{depth:Nat}{it acc:fI}{env:Env}{R:Result->Shared->Prop}{s:eZ}{c:oE}
  (hl:(∃elt gens sc p,e= .ListComp elt gens sc p)\/(∃elt gens sc p,e= .SetComp elt gens sc p))(hg:(clausesOf e)[depth]?=some c)(ha:c.is_async=0)
  (h0:codeAny (model prog w) A (.compLoop e depth it acc env) R s)
  (self: ∀(Q:gm) (E:gm),Q it s->wpAny (model prog w) A (pyIter it) Q E s):
  codeAny (model prog w) A (.compStart e depth it acc env) R s:=by
 have core:wpAny (model prog w) A (compStart e depth it acc env) (fun fin s'=>match fin with| .done f=>R (.ok f) s'| .again c'=>c'.quiet=true/\codeAny (model prog w) A c' R s') (notedBy (model prog w) A env fun x s'=>R (.error x) s') s:=by
  unfold compStart;rw[hg];simp only[Option.elim,ha,tw,gv,gO];refine eY (uT (wpAny_ite ?_));split
  ·first
    |exact eY (fH (fH (And.intro rfl h0)))
    |exact fH (And.intro rfl h0)
  ·exact eY (pB (eY (uY (eY (self _ _ (fH (And.intro rfl h0)))))))
 rcases hl with⟨elt,gens,sc,p,rfl⟩|⟨elt,gens,sc,p,rfl⟩
 ·refine wG ?_;show wpAny _ A ((compStart (.ListComp elt gens sc p) depth it acc env).onRaise (fun x=>do noteFrame x env;standAt theWindowsPlace)) _ _ s;exact wpAny_notedAt core
 ·refine wG ?_;show wpAny _ A ((compStart (.SetComp elt gens sc p) depth it acc env).onRaise (fun x=>do noteFrame x env;standAt theWindowsPlace)) _ _ s;exact wpAny_notedAt core
end
theorem lL{env:Env}: ∀{names:List (Str×NameKind)} {x:Str},names.lookup x=some .free->
  (names.map fun(n,k)=>if(k==NameKind.free&&env.scope.kind== .function&&env.kindOf n==some .cell) then(n,NameKind.cell) else(n,k)).lookup x=some .cell\/
  (names.map fun(n,k)=>if(k==NameKind.free&&env.scope.kind== .function&&env.kindOf n==some .cell) then(n,NameKind.cell) else(n,k)).lookup x=some .free
 |[],_,h=>by simp at h
 |(n,k)::r,x,h=>by
  have ih:= @lL env r x;rw[gP]
  cases hx:x==n with
  |true=>
   simp only[mF,hx] at h;cases h;by_cases hc:(NameKind.free==NameKind.free&&env.scope.kind== .function&&env.kindOf n==some .cell)=true
   ·left;simp only[hc,iu,mF,hx]
   ·right;simp only[hc,gO,mF,hx,gv]
  |false=>
   simp only[mF,hx] at h;by_cases hc:(k==NameKind.free&&env.scope.kind== .function&&env.kindOf n==some .cell)=true
   ·simp only[hc,iu,mF,hx];exact ih h
   ·simp only[hc,gO,mF,hx,gv];exact ih h
theorem jk{env:Env}: ∀{names:List (Str×NameKind)} {x:Str} {k':NameKind},
  (names.map fun(n,k)=>if(k==NameKind.free&&env.scope.kind== .function&&env.kindOf n==some .cell) then(n,NameKind.cell) else(n,k)).lookup x=some k'-> ∃k,(x,k)∈names/\(k=k'\/k= .free)
 |[],_,_,h=>by simp at h
 |(n,k)::r,x,k',h=>by
  rw[gP] at h
  cases hx:x==n with
  |true=>
   have e:=qR hx;subst e;by_cases hc:(k==NameKind.free&&env.scope.kind== .function&&env.kindOf x==some .cell)=true
   ·refine⟨k,gY,.inr ?_⟩
    have h1:(k==NameKind.free)=true:=by
     cases hk:(k==NameKind.free) with
     |true=>rfl
     |false=>rw[hk] at hc;simp at hc
    exact qR h1
   ·simp only[hc,gO,mF,hx,gv] at h;exact⟨k,gY,.inl (by simpa using h)⟩
  |false=>
   by_cases hc:(k==NameKind.free&&env.scope.kind== .function&&env.kindOf n==some .cell)=true
   ·simp only[hc,iu,mF,hx] at h;obtain⟨k2,h1,h2⟩:=jk h;exact⟨k2,gX _ h1,h2⟩
   ·simp only[hc,gO,mF,hx,gv] at h;obtain⟨k2,h1,h2⟩:=jk h;exact⟨k2,gX _ h1,h2⟩
structure CompScope(X:Cx)(N':fV)(scope:hJ)(pre:St->St):Prop where
 cell: ∀y∈scope.names,y.2= .cell->scope.names.lookup y.1=some .cell
 kind:scope.kind= .function
 names: ∀y∈scope.names,y.2= .local->scope.names.lookup y.1=some .local
 free: ∀y∈scope.names,y.2= .free->X.env.scope.names.lookup y.1=some .cell\/X.env.scope.names.lookup y.1=some .free
 len: ∀σ:St,(pre σ).length=N'.length
 pre: ∀(σ:St) (i:Nat) (v:V) (x:Str),(pre σ)[i]?=some (some v)->N'[i]?=some x->scope.names.lookup x=some .free/\ ∃j:Nat,X.N[j]?=some x/\σ[j]?=some (some v)
section
variable {X:Cx}
theorem MQ{N':fV}{scope:hJ}{pre:St->St}(S:CompScope X N' scope pre){pins:gc}{s3:eZ}{σ:St}{H3:Hp}{fp:ig}{cl:jy}{h':fP}{t':Nat}(I:Inv X pins σ H3 s3)
  (B:BCls X.env.cells scope s3.heap.objs.size h' cl)
  (ff: ∀b∈fp,qi X pins H3 b)(fo: ∀b∈fp,b<s3.heap.objs.size)
  (bU:h'.Ns s3.heap.objs.size (fun _=>none))(hk: ∀b o,s3.heap.get? b=some o->h'.get? b=some o):
  Inv (X.comp N' scope cl s3.heap.objs.size s3 H3 fp pins) [] (pre σ) H3 {s3 with heap:=h',toks:=t'}:=by
 have hfr: ∀b∈frs X.stack,H3 b=none:=I.stkFree;have nfs: ∀b,b≠X.env.locals->b∉X.fs->b∉frs X.stack:=fun b h1 h2 z=>(iY.mp (I.stkSub b z)).elim h1 h2;have old: ∀x c,X.env.cells.lookup x=some c->c<s3.heap.objs.size:=fun x c e=>(I.cell x c e).elim fun _ z=>z.lt
 refine⟨⟨I.ok.mod,?_,I.ok.glob,I.ok.blt,gJ _,fun x y c h1 h2=>?_,fun x hx=>?_,fun x c hf e=>?_,I.ok.hd,I.ok.frames,.inl rfl,fun b hb=>?_,
  I.bs,mH I.ok.bsz I.sz,fun b o e hb=>?_,fun b hb=>nfs b (ff b hb).2.1 (ff b hb).2.2.1,I.stack,hfr⟩,rfl,I.bare,Un.kept hk,⟨_,bU,fun i x v h1 h2 h3=>?_⟩,fun x c hx=>?_,I.hok.fresh (gJ _),fun x c hx=>?_,fun p hp=>?_,I.hok.kept hk,S.len σ⟩
 ·show(relabel scope X.env).kind= .function;simp[relabel,S.kind]
 ·rcases B.ex x c h1 with z|z
  ·rcases B.ex y c h2 with z'|z'
   ·exact I.ok.inj x y c z z'
   ·exact absurd (old x c z) (Dk z')
  ·exact B.inj x y c z h1 h2 old
 ·
  have bS:(relabel scope X.env).names.lookup x=some .cell\/(relabel scope X.env).names.lookup x=some .free:=hx;refine B.all x ?_;rcases bS with z|z
  ·obtain⟨k,h1,h2⟩:=jk z;rcases h2 with h2|h2<;>subst h2
   ·exact .inr h1
   ·exact .inl h1
  ·obtain⟨k,h1,h2⟩:=jk z;rcases h2 with h2|h2<;>(subst h2;exact .inl h1)
 ·rcases B.one x c e with⟨_,z⟩|⟨z,_⟩
  ·exact absurd (qR hf) z
  ·exact uZ z
 ·refine⟨gE (fo b hb),fun x c hx=>?_⟩;rcases B.ex x c hx with z|z
  ·exact(ff b hb).2.2.2.2.1 x c z
  ·exact nD (Ap (fo b hb) z)
 ·
  have m5:b∈fp:=hb;rcases(ff b m5).2.2.2.1 with z|z
  ·exact I.ok.noex b o e z
  ·exact absurd (lI (ie e) (mH I.ok.bsz z)) (nE _)
 ·obtain⟨hf,j,hj,hv⟩:=S.pre σ i v x h2 h1;obtain⟨m,hn,hl⟩:=I.loc;have l6:=S.free (x,.free) (vG hf) rfl;obtain⟨u,r,l⟩:=hl j x v hj hv (by rcases l6 with z|z;exact .inr (.inl z);exact .inr (.inr z));refine⟨u,r,.inr ⟨lL hf,?_⟩⟩;rcases l with⟨ei,_⟩|⟨_,c,hc,l7⟩
  ·have bC:X.env.scope.names.lookup x=some .local:=ei;rcases l6 with z|z<;>(have z':X.env.scope.names.lookup x=_:=z;rw[bC] at z';cases z')
  ·obtain⟨c',bJ⟩:=B.all x (.inl (vG hf));rcases B.one x c' bJ with⟨this,_⟩|⟨_,z,_⟩
   ·rw[hc] at this;cases this;exact⟨c,bJ,l7.keeps hk⟩
   ·rw[hf] at z;cases z
 ·rcases B.one x c hx with⟨z,_⟩|⟨_,_,z⟩
  ·obtain⟨v,hv⟩:=I.cell x c z;exact⟨v,hv.keeps hk⟩
  ·exact⟨_,z⟩
 ·rcases B.ex x c hx with z|z
  ·exact I.freeC x c z
  ·exact I.hok.fresh (uZ z)
 ·have bt:p∈X.pn++pins:=by simpa[Cx.comp] using hp
  obtain⟨e,n,h1,h2,h3⟩:=I.pin p bt;exact⟨hk _ _ e,n,gE (ie e),nfs _ h1 h2,h3⟩
theorem yu{N':fV}{scope:hJ}{pins:gc}{s3 s4:eZ}{σ σ':St}{H3 H4:Hp}{fp:ig}{cl:jy}{h':fP}(I:Inv X pins σ H3 s3)(ff: ∀b∈fp,qi X pins H3 b)
  (J:Inv (X.comp N' scope cl s3.heap.objs.size s3 H3 fp pins) [] σ' H4 s4)(hs:Heap.SameBut s3.heap.objs.size s4.heap h'):Inv X pins σ H4 {s4 with heap:=h'}:=by
 have K:=I.call' (s':=s4) (ch:=fp) J.os J.base J.hok J.bare fun b hb=>⟨(ff b hb).2.2.2.1,(ff b hb).2.1,(ff b hb).2.2.2.2.1,(ff b hb).2.2.2.2.2⟩
 have dN:X.env.locals<s3.heap.objs.size:=I.lt;refine K.turned (it:=s3.heap.objs.size) (t':=s4.toks) (fun b o hb e=>by rw[hs.2 b hb];exact e) J.free (nD dN) (.inr I.sz) (fun x c hx z=>?_) (fun p hp z=>?_)
 ·obtain⟨v,o,e,_⟩:=I.cell x c hx;exact absurd (ie e) (by rw[z];exact nE _)
 ·obtain⟨e,_⟩:=I.pin p hp;exact absurd (ie e) (by rw[z];exact nE _)
def EI(o:HO)(J:It)(g:TG)(ti:TT)(tb:Addr->TB)(pre:St->St)(σ:St)(H:Hp)(Q:VK):Prop:=
 ∀d,H d=none->Ie J g ti (tb d) (pre σ) (upd H d o) fun _ H2=>Q (.ref d) H2
def SR(J:It)(g:TG)(ti:TT)(tb:Addr->TB)(pre:St->St)(σ:St)(H:Hp)(Q:VK):Prop:=EI (.lst []) J g ti tb pre σ H Q
theorem vB{e:fw}{o:HO}{ob:Obj}{c:oE}{fY:nr}{scope:hJ}{N':fV}{pre:St->St}{g:TG}{ti:TT}{tb:Addr->TB}{eM:jy}{J:It}{fp:ig}{it:eX}{tn:Nat->Heap->Prop}
  (hl:(∃el gens sc p,e= .ListComp el gens sc p)\/ ∃el gens sc p,e= .SetComp el gens sc p)(hg:clausesOf e=c::fY)
  (S:CompScope X N' scope pre)(hc:X.calm=true)(ha:c.is_async=0)(l4: ∀g',fY[0]?=some g'->g'.is_async=0)
  (p5: ∀(cl:jy) (C:eX) (s3:eZ) (H3:Hp) (fp:ig) (pins:gc),let X':=X.comp N' scope cl C s3 H3 fp pins
   PG X' c.target g/\PIf X' c.ifs ti/\ ∀d,PB X' (gU e 0 (.ref d) X'.env) (tb d))
  (k9: ∀x c,eM.lookup x=some c->X.env.cells.lookup x=some c)(k5: ∀x,(x,NameKind.free)∈scope.names-> ∃c,eM.lookup x=some c)
  {pins:gc}{s2:eZ}{σ:St}{H2:Hp}{Q:VK}{E:gm}{RR:Value->Addr->Result->Shared->Prop}(I2:Inv X pins σ H2 s2)(T:Turn X.prog X.w X.K c.target J fp it tn)(v9:tn 0 s2.heap)(f2: ∀b∈fp,qi X pins H2 b)
  (I3:Inv X pins σ (upd H2 s2.heap.objs.size o) {s2 with heap:=s2.heap.push ob})
  (h:EI o J g ti tb pre σ H2 Q)
  (hRR: ∀(d:eX) (cl:jy) (s3:eZ) (H3 H4:Hp) (σ':St) (s4:eZ),Inv X pins σ H3 s3->(∀b∈fp,qi X pins H3 b)->Inv (X.comp N' scope cl s3.heap.objs.size s3 H3 fp pins) [] σ' H4 s4->Q (.ref d) H4->RR (.ref d) s3.heap.objs.size (.ok .next) s4):
  wpAny (model X.prog X.w) X.A (newFunctionEnv scope X.env.globals eM [] X.env.qual none .none (some X.env)) (fun cenv s₄=>
   codeAny (model X.prog X.w) X.A (.compStart e 0 (.ref it) (.ref s2.heap.objs.size) {cenv with scope:=relabel scope X.env}) (RR (.ref s2.heap.objs.size) cenv.locals) s₄) E {s2 with heap:=s2.heap.push ob}:=by
 have fo: ∀b∈fp,b<s2.heap.objs.size:=fun b hb=>by obtain⟨o,e,_⟩:=T.obj _ _ v9 b hb;exact ie e
 have ff: ∀b∈fp,qi X pins (upd H2 s2.heap.objs.size o) b:=fun b hb=>⟨by rw[gi (gE (fo b hb))];exact(f2 b hb).1,(f2 b hb).2⟩
 refine Mt S.cell k9 k5 fun h1 cl bU hk0 B=>?_;have hk: ∀b o,(s2.heap.push ob).get? b=some o->h1.get? b=some o:=hk0;have et: ∀b∈fp,b<(s2.heap.push ob).objs.size:=fun b hb=>by rw[oG];exact pA (fo b hb)
 have J0:=MQ (t':=s2.toks) S I3 B ff et bU hk;obtain⟨pg,dM,pb⟩:=p5 cl (s2.heap.push ob).objs.size {s2 with heap:=s2.heap.push ob} (upd H2 s2.heap.objs.size o) fp pins;have st4:tn 0 h1:=T.keep _ _ _ v9 fun b hb o e=>hk b o (ik _ e);have hw:=h s2.heap.objs.size (I2.hok.fresh (gJ _))
 have ff': ∀b∈fp,qi (X.comp N' scope cl (s2.heap.push ob).objs.size {s2 with heap:=s2.heap.push ob} (upd H2 s2.heap.objs.size o) fp pins) []
   (upd H2 s2.heap.objs.size o) b:=fun b hb=>by
  obtain⟨z1,z2,z3,z4,z5,z6⟩:=ff b hb;refine⟨z1,gE (et b hb),fun z=>(iY.mp (I3.stkSub b z)).elim z2 z3,.inl hb,fun x c hx=>(B.ex x c hx).elim (z5 x c) fun z=>nD (Ap (et b hb) z),fun p hp=>z6 p (by simpa[Cx.comp] using hp)⟩
 have h0:(clausesOf e)[0]?=some c:=by rw[hg];rfl
 refine Ij hl h0 ha ?_ (fun Q' E' hq=>T.self X.A 0 _ Q' E' st4 hq)
 refine rO (My (X:=X.comp N' scope cl (s2.heap.push ob).objs.size {s2 with heap:=s2.heap.push ob} (upd H2 s2.heap.objs.size o) fp pins)
  (depth:=0) (acc:= .ref s2.heap.objs.size) rfl hc hl h0 ha (fun g' o8=>l4 g' (by rw[hg] at o8;exact o8)) T pg dM (pb _) J0 ff' st4 hw) fun r s4 hr=>?_
 obtain⟨rfl,σ4,H4,I4,_,q⟩:=hr;exact hRR _ _ _ _ _ _ _ I3 ff I4 q
noncomputable def Ig(wi:TI)(g:TG)(ti:TT)(tb:Addr->TB)(pre:St->St):TE:=fun σ H Q=>wi σ H fun J H1=>SR J g ti tb pre σ H1 Q
theorem Js{elt:fw}{c:oE}{fY:nr}{scope:hJ}{pos:Pos}{N':fV}{pre:St->St}{wi:TI}{g:TG}{ti:TT}{tb:Addr->TB}
  (S:CompScope X N' scope pre)(hc:X.calm=true)(ha:c.is_async=0)(l4: ∀g',fY[0]?=some g'->g'.is_async=0)
  (hs: ∀x,foldedSetIterable c.iter X.env x=pure x)(pi:PI X c.target c.iter wi)
  (p5: ∀(cl:jy) (C:eX) (s3:eZ) (H3:Hp) (fp:ig) (pins:gc),let X':=X.comp N' scope cl C s3 H3 fp pins
   PG X' c.target g/\PIf X' c.ifs ti/\ ∀d,PB X' (gU (.ListComp elt (c::fY) scope pos) 0 (.ref d) X'.env) (tb d)):
  PE X (.ListComp elt (c::fY) scope pos) (Ig wi g ti tb pre):=by
 intro pins s σ H Q I h;obtain⟨tg,aH,ifs,az⟩:=c;obtain rfl:az=0:=ha;obtain⟨cl,l9,k9,k5⟩:=sJ X.env scope fun x hx hf=>I.ok.has x.1 (S.free x hx hf);rw[eval_ListComp];show wpAny _ X.A (comprehension _ scope X.env _ (newList []) false (eval aH X.env)) _ _ s;refine Dj (use:=none) (g:=⟨tg,aH,ifs,0⟩) (gs:=fY) rfl hs l9 S.kind S.names (thn (pi pins s σ H _ I h) fun v s1 h1=>thn h1 fun cw s2 h2=>?_);obtain⟨it,fp,tn,J,H2,rfl,I2,T,v9,f2,hw⟩:=h2;refine kQ (vB (RR:=fun acc C=>compPost (model X.prog X.w) X.A X.xe none (EP X pins σ Q) acc C) (.inl ⟨_,_,_,_,rfl⟩) rfl S hc rfl l4 p5 k9 k5 I2 T v9 f2 (I2.lnew (t':=s2.toks) .nil (by simp)) hw fun d cl' s3 H3 H4 σ' s4 I3 ff J4 q=>?_);obtain⟨m,hn,_⟩:=id J4.loc;exact⟨m,hn,fun h' ay=>⟨.ref d,H4,yu I3 ff J4 ay,rfl,q⟩⟩
theorem Jd{elt:fw}{c:oE}{fY:nr}{scope:hJ}{pos f7 py:Pos}{N':fV}{pre:St->St}{wi:TI}{g:TG}{ti:TT}{tb:Addr->TB}{y:Str}{i:Nat}
  (cz:swapsWith (.ListComp elt (c::fY) scope pos) (some (.Name y py)) f7.line X.env=pure true)
  (S:CompScope X N' scope pre)(hc:X.calm=true)(ha:c.is_async=0)(l4: ∀g',fY[0]?=some g'->g'.is_async=0)
  (hs: ∀x,foldedSetIterable c.iter X.env x=pure x)(pi:PI X c.target c.iter wi)(dI:PG X (.Name y py) (Co i))
  (p5: ∀(cl:jy) (C:eX) (s3:eZ) (H3:Hp) (fp:ig) (pins:gc),let X':=X.comp N' scope cl C s3 H3 fp pins
   PG X' c.target g/\PIf X' c.ifs ti/\ ∀d,PB X' (gU (.ListComp elt (c::fY) scope pos) 0 (.ref d) X'.env) (tb d)):
  PS X (.Assign [.Name y py] (.ListComp elt (c::fY) scope pos) f7) (NO (Ig wi g ti tb pre) (Co i)):=by
 intro pins s σ H D I h;obtain⟨tg,aH,ifs,az⟩:=c;obtain rfl:az=0:=ha;obtain⟨cl,l9,k9,k5⟩:=sJ X.env scope fun x hx hf=>I.ok.has x.1 (S.free x hx hf);rw[exec_Assign_Name_used _ _ _ _ cz];refine eY (uY (eY ?_));show wpAny _ X.A (do let _ <-comprehension (.ListComp elt (⟨tg,aH,ifs,0⟩::fY) scope pos) scope X.env _ (newList []) false (eval aH X.env) (some (assign (.Name y py) X.env))) _ _ s
 refine eY (oH (Dj (use:=some (assign (.Name y py) X.env)) (g:=⟨tg,aH,ifs,0⟩) (gs:=fY) (Q:=fun _ s'=>SP X pins D .next s') rfl hs l9 S.kind S.names
  (thn (pi pins s σ H _ I h) fun v s1 h1=>thn h1 fun cw s2 h2=>?_)) (fun _ s' hq=>fH (fH hq)) fun _ _ e=>e)
 obtain⟨it,fp,tn,J,H2,rfl,I2,T,v9,f2,hw⟩:=h2;refine kQ (vB (RR:=fun acc C=>compPost (model X.prog X.w) X.A X.xe (some (assign (.Name y py) X.env)) (fun _ s'=>SP X pins D .next s') acc C) (.inl ⟨_,_,_,_,rfl⟩) rfl S hc rfl l4 p5 k9 k5 I2 T v9 f2 (I2.lnew (t':=s2.toks) .nil (by simp)) hw fun d cl' s3 H3 H4 σ' s4 I3 ff J4 q=>?_);obtain⟨m,hn,_⟩:=id J4.loc;obtain⟨oC,es,ep,ho,hd,hr⟩:=id hn;have IX:Inv X pins σ H4 s4:=yu I3 ff J4 (Ao ..);have hCl:s3.heap.objs.size≠X.env.locals:=nD I3.lt;have hCf:s3.heap.objs.size∉X.fs:=fun z=>I3.nofs (gJ _) z
 have IP:Inv X (pins++[(s3.heap.objs.size,oC)]) σ H4 s4:=IX.pins_of fun p hp=>by
  rcases nF.mp hp with z|z
  ·exact IX.pin p (nC _ z)
  ·rcases Ez.mp z with rfl
   exact⟨ho,J4.free,hCl,hCf,fun v z=>by rw[hd] at z;cases z⟩
 show wpAny _ X.A (assign (.Name y py) X.env (.ref d)) _ _ _;refine thn (dI _ s4 σ H4 (.ref d) (.ref d) _ IP rfl q) fun _ s5 ⟨σ5,H5,I5,q5⟩=>?_;have pC:=I5.pin (s3.heap.objs.size,oC) (by simp);refine⟨m,⟨oC,es,ep,pC.1,hd,hr⟩,fun h' ay=>⟨σ5,H5,?_,q5⟩⟩;refine I5.unpinned.turned (it:=s3.heap.objs.size) (t':=s5.toks) (fun b o hb e=>by rw[ay.2 b hb];exact e) pC.2.1 hCl (.inr I3.sz) (fun x c hx z=>?_) (fun p hp z=>?_)
 ·obtain⟨v,o,e,_⟩:=I3.cell x c hx;exact absurd (ie e) (by rw[z];exact nE _)
 ·obtain⟨e,_⟩:=I3.pin p hp;exact absurd (ie e) (by rw[z];exact nE _)
end
end L2
namespace PX
open PySem PySem.Spec PyProof.Rows L2
inductive OK where
 |dct|set|fn(i:Nat)|exc(c:Nat)
 deriving DecidableEq
inductive D where
 |non|bl(b:Bool)|int(i:Int)|str(x:Str)|tup(l:List D)|lst(l:List D)|oth(k:OK)(ks vs:List D)
mutual
/-- the hash of ints and of tuples of such -/
noncomputable def D.hash:D->Int
 | .int i=>hashInt i
 | .tup l=>reduceHash (Builtin.Tuple.tupleHashOf (D.hashL l))
 |_=>0
noncomputable def D.hashL:List D->List Int
 |[]=>[]
 |d::l=>D.hash d::D.hashL l
end
noncomputable def iI:Key->D
 | .inl i=> .int i
 | .inr x=> .str x
def Ul(K:fO)(o:Obj)(C:Nat):Prop:=o.cls= .ref C/\(∀a:Addr,PySem.W.KitX K (.ref a) (.ref C) fun h=>h.get? a=some o)/\ ∀n∈["int","bool","str","tuple","list","dict"],PySem.W.kitOne K (.ref C) (.type n)=some false
def OthB(K:fO)(h:Option HO)(k:OK)(ks vs:List D)(us:List V):Prop:=
 match k with
 | .dct=>(∃kvs:List (Key×V),h=some (.dK kvs)/\ks=kvs.map (fun p=>iI p.1)/\us=kvs.map (·.2))\/
   (∃kvs:List (List Key×V),h=some (.dT kvs)/\ks=kvs.map (fun p=> .tup (p.1.map iI))/\us=kvs.map (·.2))
 | .set=>ks=[]/\ ∃zs:List (Int×V),h=some (.stt zs)/\zs.Perm ((D.hashL vs).zip us)
 | .exc C=>(ks=[]/\vs=[]/\us=[])/\ ∃o,h=some (.frz o (.own 0))/\Ul K o C
 |_=>False
theorem OthB.ex{K h k ks vs us}(x:OthB K h k ks vs us): ∃o,h=some o:=by
 cases k with
 |dct=>rcases x with⟨_,e,_⟩|⟨_,e,_⟩<;>exact⟨_,e⟩
 |set=>obtain⟨_,_,e,_⟩:=x;exact⟨_,e⟩
 |exc C=>obtain⟨_,_,e,_⟩:=x;exact⟨_,e⟩
 |_=>exact x.elim
theorem OthB.keep{K k ks vs us}(x:OthB K h k ks vs us)(kp: ∀o,h=some o->h'=some o):OthB K h' k ks vs us:=by
 obtain⟨o,e⟩:=x.ex;rw[kp o e,<-e];exact x
abbrev AP':=Addr->Prop
def KT(K:fO)(a:eX)(xs:List V):Prop:= ∃(o:Obj) (b6:lq) (n:Nat),K.lookup a=some o/\o.cls= .type "tuple"/\o.data= .seq b6 n/\b6.size<=sizeLine/\Vals xs b6.toList
def KL(K:fO)(a:eX)(xs:List V):Prop:= ∃(o:Obj) (b6:lq) (n:Nat),K.lookup a=some o/\o.cls= .type "list"/\o.dict=none/\o.data= .seq b6 n/\b6.size<=sizeLine/\Vals xs b6.toList
def SqTO(K:fO)(H:Hp)(O:AP')(a:eX)(xs:List V):Prop:=H a=some (.tup xs)/\ ¬O a
def SqLO(K:fO)(H:Hp)(O:AP')(a:eX)(xs:List V):Prop:=(Rd H a (.lst xs)/\ ¬O a)\/KL K a xs
theorem SqTO.sq{K H O a xs}(h:SqTO K H O a xs):SqT K H a xs:= .inl (.inl h.1)
theorem SqLO.sq{K H O a xs}(h:SqLO K H O a xs):SqL K H a xs:=h.elim (fun z=> .inl z.1) .inr
theorem Rd.mono{a u}(h:Rd H a u)(k: ∀o,H a=some o->H' a=some o):Rd H' a u:=by
 rcases h with h|⟨o,h⟩
 ·exact .inl (k _ h)
 ·exact .inr ⟨o,k _ h⟩
theorem SqTO.mono{K H H'}{a xs}(h:SqTO K H O a xs)(k: ∀b o,H b=some o-> ¬O b->H' b=some o)(hO: ∀b,H b≠none->O' b->O b):SqTO K H' O' a xs:=
 ⟨k a _ h.1 h.2,fun z=>h.2 (hO a (by rw[h.1];simp) z)⟩
theorem SqLO.mono{K H H'}{a xs}(h:SqLO K H O a xs)(k: ∀b o,H b=some o-> ¬O b->H' b=some o)(hO: ∀b,H b≠none->O' b->O b):SqLO K H' O' a xs:=by
 rcases h with⟨r,n⟩|h
 ·refine .inl ⟨Rd.mono r fun o e=>k a o e n,fun z=>n (hO a ?_ z)⟩;rcases r with r|⟨_,r⟩<;>(rw[r];simp)
 ·exact .inr h
mutual
/-- v is the datum,in H;nothing of it stands at an address of O -/
def Rep(K:fO)(H:Hp)(O:AP'):D->V->Prop
 | .non,v=>v= .non
 | .bl b,v=>v= .bl b
 | .int i,v=>v= .int i
 | .str x,v=>v= .str x
 | .tup l,v=> ∃a xs,v= .ref a/\SqTO K H O a xs/\RepL K H O l xs
 | .lst l,v=> ∃a xs,v= .ref a/\SqLO K H O a xs/\RepL K H O l xs
 | .oth k ks vs,v=> ∃a us,v= .ref a/\(¬O a/\OthB K (H a) k ks vs us)/\RepL K H O vs us
def RepL(K:fO)(H:Hp)(O:AP'):List D->List V->Prop
 |[],vs=>vs=[]
 |d::l,vs=> ∃v r,vs=v::r/\Rep K H O d v/\RepL K H O l r
end
mutual
theorem Rep.mono{K H H'}{O O':AP'}(k: ∀b o,H b=some o-> ¬O b->H' b=some o)(hO: ∀b,H b≠none->O' b->O b): ∀{d:D} {v:V},Rep K H O d v->Rep K H' O' d v
 | .non,_,h=>h
 | .bl _,_,h=>h
 | .int _,_,h=>h
 | .str _,_,h=>h
 | .tup l,_,h=>by
  rw[Rep] at h ⊢;obtain⟨a,xs,e,s,r⟩:=h;exact⟨a,xs,e,s.mono k hO,RepL.mono k hO r⟩
 | .lst l,_,h=>by
  rw[Rep] at h ⊢;obtain⟨a,xs,e,s,r⟩:=h;exact⟨a,xs,e,s.mono k hO,RepL.mono k hO r⟩
 | .oth kk ks vs,_,h=>by
  rw[Rep] at h ⊢;obtain⟨a,us,e,s,r⟩:=h;exact⟨a,us,e,⟨fun z=>s.1 (hO a (by obtain⟨o,q⟩:=s.2.ex;rw[q];simp) z),s.2.keep fun o q=>k a o q s.1⟩,RepL.mono k hO r⟩
theorem RepL.mono{K H H'}{O O':AP'}(k: ∀b o,H b=some o-> ¬O b->H' b=some o)(hO: ∀b,H b≠none->O' b->O b): ∀{l:List D} {vs:List V},RepL K H O l vs->RepL K H' O' l vs
 |[],_,h=>h
 |d::l,_,h=>by
  rw[RepL] at h ⊢;obtain⟨v,r,e,h1,h2⟩:=h;exact⟨v,r,e,Rep.mono k hO h1,RepL.mono k hO h2⟩
end
theorem Rep.mkInt{K H O i}:Rep K H O (.int i) (.int i):=by rw[Rep]
theorem Rep.mkBl{K H O i}:Rep K H O (.bl i) (.bl i):=by rw[Rep]
theorem Rep.mkNon{K H O}:Rep K H O .non .non:=by rw[Rep]
theorem Rep.mkStr{K H O i}:Rep K H O (.str i) (.str i):=by rw[Rep]
theorem Rep.int{K H O i v}(h:Rep K H O (.int i) v):v= .int i:=by rwa [Rep] at h
theorem Rep.bl{K H O i v}(h:Rep K H O (.bl i) v):v= .bl i:=by rwa [Rep] at h
theorem Rep.non{K H O v}(h:Rep K H O .non v):v= .non:=by rwa [Rep] at h
theorem Rep.str{K H O i v}(h:Rep K H O (.str i) v):v= .str i:=by rwa [Rep] at h
theorem Rep.tup{K H O l v}(h:Rep K H O (.tup l) v): ∃a xs,v= .ref a/\SqTO K H O a xs/\RepL K H O l xs:=by rwa [Rep] at h
theorem Rep.lst{K H O l v}(h:Rep K H O (.lst l) v): ∃a xs,v= .ref a/\SqLO K H O a xs/\RepL K H O l xs:=by rwa [Rep] at h
theorem Rep.oth{K H O k ks vs v}(h:Rep K H O (.oth k ks vs) v): ∃a us,v= .ref a/\(¬O a/\OthB K (H a) k ks vs us)/\RepL K H O vs us:=by rwa [Rep] at h
theorem Rep.mkOth{K H O k ks vs a us}(n: ¬O a)(h:OthB K (H a) k ks vs us)(r:RepL K H O vs us):Rep K H O (.oth k ks vs) (.ref a):=by rw[Rep];exact⟨a,us,rfl,⟨n,h⟩,r⟩
theorem Rep.mkTup{K H O l a xs}(h:SqTO K H O a xs)(r:RepL K H O l xs):Rep K H O (.tup l) (.ref a):=by rw[Rep];exact⟨a,xs,rfl,h,r⟩
theorem Rep.mkLst{K H O l a xs}(h:SqLO K H O a xs)(r:RepL K H O l xs):Rep K H O (.lst l) (.ref a):=by rw[Rep];exact⟨a,xs,rfl,h,r⟩
theorem RepL.length{K H O}: ∀{l:List D} {vs:List V},RepL K H O l vs->vs.length=l.length
 |[],vs,h=>by rw[RepL] at h;rw[h];rfl
 |d::l,vs,h=>by
  rw[RepL] at h;obtain⟨v,r,rfl,_,h2⟩:=h;simp[RepL.length h2]
theorem RepL.get{K H O}: ∀{l:List D} {vs:List V} {i:Nat} {d:D},RepL K H O l vs->l[i]?=some d-> ∃v,vs[i]?=some v/\Rep K H O d v
 |[],_,_,_,_,e=>by simp at e
 |d::l,vs,0,d',h,e=>by
  rw[RepL] at h;obtain⟨v,r,rfl,h1,_⟩:=h;simp at e;subst e;exact⟨v,rfl,h1⟩
 |d::l,vs,i+1,d',h,e=>by
  rw[RepL] at h;obtain⟨v,r,rfl,_,h2⟩:=h;obtain⟨w,h3,h4⟩:=RepL.get (i:=i) h2 (by simpa using e);exact⟨w,by simpa using h3,h4⟩
theorem RepL.append{K H O}: ∀{l m:List D} {vs ws:List V},RepL K H O l vs->RepL K H O m ws->RepL K H O (l++m) (vs++ws):=by
 intro iV
 induction iV with
 |nil=>
  intro _ vs _ h h';rw[RepL] at h;subst h;exact h'
 |cons d l iH=>
  intro _ vs _ h h';rw[RepL] at h;obtain⟨v,r,rfl,h1,h2⟩:=h;show RepL K H O (d::(l++_)) _;rw[RepL];exact⟨v,_,rfl,h1,iH h2 h'⟩
theorem RepL.one{K H O}{d:D}{v:V}(h:Rep K H O d v):RepL K H O [d] [v]:=by
 rw[RepL];exact⟨v,[],rfl,h,by rw[RepL]⟩
theorem RepL.nil{K H O}:RepL K H O [] []:=by rw[RepL]
theorem RepL.cons{K H O}{l vs}(h:Rep K H O d v)(h':RepL K H O l vs):RepL K H O (d::l) (v::vs):=by
 rw[RepL];exact⟨v,vs,rfl,h,h'⟩
theorem RepL.take{K H O}: ∀{l:List D} {vs:List V} (n:Nat),RepL K H O l vs->RepL K H O (l.take n) (vs.take n)
 |_,_,0,_=>by simp[RepL]
 |[],vs,n+1,h=>by rw[RepL] at h;subst h;simp[RepL]
 |d::l,vs,n+1,h=>by
  rw[RepL] at h;obtain⟨v,r,rfl,h1,h2⟩:=h;exact RepL.cons h1 (RepL.take n h2)
theorem RepL.drop{K H O}: ∀{l:List D} {vs:List V} (n:Nat),RepL K H O l vs->RepL K H O (l.drop n) (vs.drop n)
 |_,_,0,h=>h
 |[],vs,n+1,h=>by rw[RepL] at h;subst h;simp[RepL]
 |d::l,vs,n+1,h=>by
  rw[RepL] at h;obtain⟨v,r,rfl,h1,h2⟩:=h;exact RepL.drop n h2
theorem RepL.set{K H O}{d:D}{v:V}(hv:Rep K H O d v): ∀{l:List D} {vs:List V} (i:Nat),RepL K H O l vs->RepL K H O (l.set i d) (vs.set i v)
 |[],vs,i,h=>by rw[RepL] at h;subst h;simp[RepL]
 |e::l,vs,0,h=>by
  rw[RepL] at h;obtain⟨w,r,rfl,h1,h2⟩:=h;exact RepL.cons hv h2
 |e::l,vs,i+1,h=>by
  rw[RepL] at h;obtain⟨w,r,rfl,h1,h2⟩:=h;exact RepL.cons h1 (RepL.set hv i h2)
abbrev Sl:=Option (D×Bool)
abbrev Dn:=List Sl
def OwnA(σ:L2.St)(δ:Dn)(a:eX):Prop:= ∃(i:Nat) (d:D),δ[i]?=some (some (d,true))/\σ[i]?=some (some (V.ref a))
def OwnOk(K:fO)(H:Hp)(O:AP'):D->Addr->Prop
 | .lst l,a=> ∃xs,H a=some (.lst xs)/\RepL K H O l xs
 | .oth k ks vs,a=> ∃us,OthB K (H a) k ks vs us/\RepL K H O vs us
 |_,_=>False
theorem OwnOk.mono{K H H'}(h:OwnOk K H O d a)(k: ∀b o,H b=some o-> ¬O b->H' b=some o)(hO: ∀b,H b≠none->O' b->O b)(ka: ∀o,H a=some o->H' a=some o):OwnOk K H' O' d a:=by
 cases d with
 |lst l=>obtain⟨xs,e,r⟩:=h;exact⟨xs,ka _ e,RepL.mono k hO r⟩
 |oth kk ks vs=>obtain⟨us,e,r⟩:=h;exact⟨us,e.keep ka,RepL.mono k hO r⟩
 |_=>exact h
theorem OwnOk.rep{K H}(h:OwnOk K H O d a)(na: ¬O' a)(hO: ∀b,H b≠none->O' b->O b):Rep K H O' d (.ref a):=by
 cases d with
 |lst l=>
  obtain⟨xs,e,r⟩:=h;rw[Rep];exact⟨a,xs,rfl,.inl ⟨.inl e,na⟩,RepL.mono (fun b o e _=>e) hO r⟩
 |oth kk ks vs=>
  obtain⟨us,e,r⟩:=h;exact Rep.mkOth na e (RepL.mono (fun b o e _=>e) hO r)
 |_=>exact h.elim
def Ow:Option HO->Prop
 |none=>False
 |some (.tup _)=>False
 |_=>True
theorem Ow.ne{o:Option HO}(h:Ow o):o≠none:=fun e=>by rw[e] at h;exact h
theorem Ow.up{o o':Option HO}(h:Ow o)(k: ∀x,o=some x->o'=some x):Ow o':=by
 cases o with
 |none=>exact h.elim
 |some x=>rw[k x rfl];exact h
theorem nOw{o:Option HO}(h:o=none): ¬Ow o:=fun z=>z.ne h
theorem OwnOk.ow{K H}{O:AP'}{d:D}{a:eX}(h:OwnOk K H O d a):Ow (H a):=by
 cases d with
 |lst l=>obtain⟨xs,e,_⟩:=h;rw[e];trivial
 |oth k ks vs=>
  obtain⟨us,e,_⟩:=h
  cases k with
  |dct=>rcases e with⟨_,e,_⟩|⟨_,e,_⟩<;>(rw[e];trivial)
  |set=>obtain⟨_,_,e,_⟩:=e;rw[e];trivial
  |exc C=>obtain⟨_,_,e,_⟩:=e;rw[e];trivial
  |_=>exact e.elim
 |_=>exact h.elim
structure ER(K:fO)(H:Hp)(T:AP')(σ:L2.St)(δ:Dn):Prop where
 len:σ.length=δ.length
 val: ∀(i:Nat) (d:D),δ[i]?=some (some (d,false))-> ∃v,σ[i]?=some (some v)/\Rep K H (fun a=>OwnA σ δ a\/T a) d v
 own: ∀(i:Nat) (d:D),δ[i]?=some (some (d,true))-> ∃a,σ[i]?=some (some (V.ref a))/\OwnOk K H (fun a=>OwnA σ δ a\/T a) d a
 inj: ∀(i j:Nat) (d e:D) (a:eX),δ[i]?=some (some (d,true))->δ[j]?=some (some (e,true))->σ[i]?=some (some (V.ref a))->σ[j]?=some (some (V.ref a))->i=j
 nT: ∀a,OwnA σ δ a-> ¬T a
 dom: ∀a,T a->Ow (H a)
theorem ER.ownOw{K H T σ δ}(E:ER K H T σ δ)(h:OwnA σ δ a):Ow (H a):=by
 obtain⟨i,d,h1,h2⟩:=h;obtain⟨b,h3,h4⟩:=E.own i d h1;rw[h2] at h3;cases h3;exact h4.ow
theorem ER.ownDom{K H T σ δ}(E:ER K H T σ δ)(h:OwnA σ δ a):H a≠none:=(E.ownOw h).ne
theorem ER.mono{K H H' σ δ}(E:ER K H T σ δ)(k: ∀b o,H b=some o-> ¬T b->H' b=some o)(hT: ∀b,H b≠none->T' b->T b)(hd: ∀a,T' a->Ow (H' a)):ER K H' T' σ δ where
 len:=E.len
 val:=fun i d h=>by
  obtain⟨v,h1,h2⟩:=E.val i d h;exact⟨v,h1,Rep.mono (fun b o e n=>k b o e fun z=>n (.inr z)) (fun b hb z=>z.elim .inl fun z=> .inr (hT b hb z)) h2⟩
 own:=fun i d h=>by
  obtain⟨a,h1,h2⟩:=E.own i d h;exact⟨a,h1,h2.mono (fun b o e n=>k b o e fun z=>n (.inr z)) (fun b hb z=>z.elim .inl fun z=> .inr (hT b hb z)) fun o e=>k a o e (E.nT a ⟨i,d,h,h1⟩)⟩
 inj:=E.inj
 nT:=fun a h z=>E.nT a h (hT a (E.ownDom h) z)
 dom:=hd
theorem OwnA.set(h:OwnA σ (δ.set i (some (d,false))) a):OwnA σ δ a:=by
 obtain⟨j,e,h1,h2⟩:=h;rw[rN] at h1;split at h1
 ·split at h1<;>simp at h1
 ·exact⟨j,e,h1,h2⟩
theorem ER.freeze{K H T σ δ}(E:ER K H T σ δ){i:Nat}{d:D}{b:Bool}(h:δ[i]?=some (some (d,b))):ER K H T σ (δ.set i (some (d,false)))/\ ∃v,σ[i]?=some (some v)/\Rep K H (fun a=>OwnA σ (δ.set i (some (d,false))) a\/T a) d v:=by
 have hi:i<δ.length:=(sN.mp h).1
 have me: ∃v,σ[i]?=some (some v)/\Rep K H (fun a=>OwnA σ (δ.set i (some (d,false))) a\/T a) d v:=by
  cases b with
  |false=>
   obtain⟨v,h1,h2⟩:=E.val i d h;exact⟨v,h1,Rep.mono (fun _ _ e _=>e) (fun b _ z=>z.elim (fun z=> .inl z.set) .inr) h2⟩
  |true=>
   obtain⟨a,h1,h2⟩:=E.own i d h;refine⟨.ref a,h1,h2.rep (fun z=>?_) fun b _ z=>z.elim (fun z=> .inl z.set) .inr⟩;rcases z with⟨j,e,h3,h4⟩|z
   ·rw[rN] at h3;split at h3
    ·first
      |(split at h3<;>simp at h3)
      |simp at h3
    ·rename_i j7;exact j7 (E.inj i j d e a h h3 h1 h4)
   ·exact E.nT a ⟨i,d,h,h1⟩ z
 refine⟨⟨by rw[qP];exact E.len,fun j e hj=>?_,fun j e hj=>?_,fun j k e f a hj hk h1 h2=>?_,fun a z=>E.nT a z.set,E.dom⟩,me⟩
 ·by_cases m9:i=j
  ·subst m9;rw[oY hi] at hj;cases hj;exact me
  ·rw[lu m9] at hj;obtain⟨v,h1,h2⟩:=E.val j e hj;exact⟨v,h1,Rep.mono (fun _ _ e _=>e) (fun b _ z=>z.elim (fun z=> .inl z.set) .inr) h2⟩
 ·by_cases m9:i=j
  ·subst m9;rw[oY hi] at hj;cases hj
  ·rw[lu m9] at hj;obtain⟨a,h1,h2⟩:=E.own j e hj;exact⟨a,h1,h2.mono (fun _ _ e _=>e) (fun b _ z=>z.elim (fun z=> .inl z.set) .inr) fun _ e=>e⟩
 ·have g1:δ[j]?=some (some (e,true)):=by
   by_cases m9:i=j
   ·subst m9;rw[oY hi] at hj;cases hj
   ·rwa [lu m9] at hj
  have g2:δ[k]?=some (some (f,true)):=by
   by_cases m9:i=k
   ·subst m9;rw[oY hi] at hk;cases hk
   ·rwa [lu m9] at hk
  exact E.inj j k e f a g1 g2 h1 h2
def OwnI(σ:L2.St)(δ:Dn)(i:Nat)(a:eX):Prop:= ∃d:D,δ[i]?=some (some (d,true))/\σ[i]?=some (some (V.ref a))
structure Keep(σ:L2.St)(δ:Dn)(H:Hp)(δ':Dn)(H':Hp):Prop where
 kp: ∀a o,H a=some o-> ¬OwnA σ δ a->H' a=some o
 owi: ∀i a,OwnI σ δ' i a->OwnI σ δ i a
 dm: ∀a,H a≠none->H' a≠none
theorem Keep.ow{σ δ H δ' H'}(k:Keep σ δ H δ' H')(a:eX)(h:OwnA σ δ' a):OwnA σ δ a:=by
 obtain⟨i,d,h1,h2⟩:=h;obtain⟨e,h3,h4⟩:=k.owi i a ⟨d,h1,h2⟩;exact⟨i,e,h3,h4⟩
theorem Keep.refl{σ δ H}:Keep σ δ H δ H:=⟨fun _ _ e _=>e,fun _ _ z=>z,fun _ z=>z⟩
theorem Keep.trans{σ δ δ1 δ2 H H1 H2}(x:Keep σ δ H δ1 H1)(y:Keep σ δ1 H1 δ2 H2):Keep σ δ H δ2 H2:=
 ⟨fun a o e n=>y.kp a o (x.kp a o e n) fun z=>n (x.ow a z),fun i a z=>x.owi i a (y.owi i a z),fun a z=>y.dm a (x.dm a z)⟩
theorem Keep.ext{σ δ H H1}(k: ∀a o,H a=some o->H1 a=some o):Keep σ δ H δ H1:=⟨fun a o e _=>k a o e,fun _ _ z=>z,fun a z=>by
 cases h:H a with
 |none=>exact absurd h z
 |some o=>rw[k a o h];simp⟩
theorem OwnI.set(h:OwnI σ (δ.set i (some (d,false))) j a):OwnI σ δ j a:=by
 obtain⟨e,h1,h2⟩:=h;rw[rN] at h1;split at h1
 ·split at h1<;>simp at h1
 ·exact⟨e,h1,h2⟩
theorem Keep.set{σ δ H i d}:Keep σ δ H (δ.set i (some (d,false))) H:=⟨fun _ _ e _=>e,fun _ _ z=>z.set,fun _ z=>z⟩
def Post(K:fO)(T:AP')(σ:L2.St)(δ:Dn)(H:Hp)(r:D×Bool)(δ':Dn)(v:V)(H':Hp):Prop:=
 Keep σ δ H δ' H'/\
 match r with
 |(d,false)=>ER K H' T σ δ'/\Rep K H' (fun a=>OwnA σ δ' a\/T a) d v
 |(d,true)=> ∃p,v= .ref p/\H p=none/\ER K H' (fun a=>T a\/a=p) σ δ'/\OwnOk K H' (fun a=>OwnA σ δ' a\/T a\/a=p) d p
abbrev F:=Dn->Option ((D×Bool)×Dn)
def tF(K:fO)(f:F):TE:=fun σ H Q=> ∃δ T r δ',ER K H T σ δ/\f δ=some (r,δ')/\ ∀v H',Post K T σ δ H r δ' v H'->Q v H'
def PX(X:Cx)(e:fw)(f:F):Prop:=PE X e (tF X.K f)
noncomputable def Tmp(T:AP')(r:D×Bool)(v:V):AP':=fun a=>T a\/(r.2=true/\v= .ref a)
section
variable {K:fO}{T:AP'}{σ:L2.St}{δ δ1 δ2:Dn}{H H1 H2:Hp}{x y:D×Bool}{v u:V}
theorem Post.er(E:ER K H T σ δ)(P:Post K T σ δ H x δ1 v H1):ER K H1 (Tmp T x v) σ δ1:=by
 obtain⟨d,b⟩:=x
 cases b with
 |false=>
  refine P.2.1.mono (fun _ _ e _=>e) (fun b _ z=>z.elim id fun z=>absurd z.1 (by simp)) (fun a z=>?_);rcases z with z|z
  ·exact P.2.1.dom a z
  ·exact absurd z.1 (by simp)
 |true=>
  obtain⟨p,rfl,hp,E1,o1⟩:=P.2;refine E1.mono (fun _ _ e _=>e) (fun b _ z=>z.elim .inl fun z=> .inr (by have:=z.2;cases this;rfl)) (fun a z=>?_);rcases z with z|z
  ·exact E1.dom a (.inl z)
  ·have:=z.2;cases this;exact E1.dom _ (.inr rfl)
theorem Post.rep(E:ER K H T σ δ)(P:Post K T σ δ H x δ1 v H1):ER K H1 T σ δ1/\Rep K H1 (fun a=>OwnA σ δ1 a\/T a) x.1 v:=by
 obtain⟨d,b⟩:=x
 cases b with
 |false=>exact P.2
 |true=>
  obtain⟨p,rfl,hp,E1,o1⟩:=P.2;refine⟨E1.mono (fun _ _ e _=>e) (fun b _ z=> .inl z) (fun a z=>E1.dom a (.inl z)),o1.rep (fun z=>?_) fun b _ z=>z.elim .inl fun z=> .inr (.inl z)⟩;rcases z with z|z
  ·exact E1.nT p z (.inr rfl)
  ·exact(E.dom p z).ne hp
theorem Post.val(k:Keep σ δ H δ2 H2)(E:ER K H2 T σ δ2)(r:Rep K H2 (fun a=>OwnA σ δ2 a\/T a) d w):Post K T σ δ H (d,false) δ2 w H2:=⟨k,E,r⟩
end
theorem fK{α β:Type}{a a':α}{b b':β}(h:some (a,b)=some (a',b')):a=a'/\b=b':=by cases h;exact⟨rfl,rfl⟩
noncomputable def fC(d:D):F:=fun δ=>some ((d,false),δ)
noncomputable def gz(i:Nat):F:=fun δ=>match δ[i]? with
 |some (some (d,_))=>some ((d,false),δ.set i (some (d,false)))
 |_=>none
section
variable {X:Cx}{a b c:fw}{pos:Pos}{fa fb fc:F}
theorem PX.imp(h:PE X e t)(k: ∀σ H Q,tF X.K f σ H Q->t σ H Q):PX X e f:=fun pins s σ H Q I hw=>h pins s σ H Q I (k σ H Q hw)
theorem Ou{i j}:PX X (.Constant (.int i) j pos) (fC (.int i)):=PX.imp OU fun σ H Q h=>by
 obtain⟨δ,T,r,δ',E,e,k⟩:=h;cases e;exact k _ _ (Post.val .refl E (by first|exact Rep.mkInt|exact Rep.mkBl|exact Rep.mkNon|exact Rep.mkStr))
theorem Q9{i j}:PX X (.Constant (.bool i) j pos) (fC (.bl i)):=PX.imp Rh fun σ H Q h=>by
 obtain⟨δ,T,r,δ',E,e,k⟩:=h;cases e;exact k _ _ (Post.val .refl E (by first|exact Rep.mkInt|exact Rep.mkBl|exact Rep.mkNon|exact Rep.mkStr))
theorem Om{j}:PX X (.Constant .none j pos) (fC .non):=PX.imp OS fun σ H Q h=>by
 obtain⟨δ,T,r,δ',E,e,k⟩:=h;cases e;exact k _ _ (Post.val .refl E (by first|exact Rep.mkInt|exact Rep.mkBl|exact Rep.mkNon|exact Rep.mkStr))
theorem Of{i j}:PX X (.Constant (.str i) j pos) (fC (.str i)):=PX.imp AO fun σ H Q h=>by
 obtain⟨δ,T,r,δ',E,e,k⟩:=h;cases e;exact k _ _ (Post.val .refl E (by first|exact Rep.mkInt|exact Rep.mkBl|exact Rep.mkNon|exact Rep.mkStr))
theorem Od{i:Nat}{x:Str}(hN:X.N[i]?=some x)(hv:Vis X.env.scope x)(hd:(x==("__debug__":Str))=false)(q9:(x==("__classdict__":Str))=false):PX X (.Name x pos) (gz i):=PX.imp (DV hN hv hd q9) fun σ H Q h=>by
 obtain⟨δ,T,r,δ',E,e,k⟩:=h;unfold gz at e
 cases hi:δ[i]? with
 |none=>rw[hi] at e;cases e
 |some o=>
  cases o with
  |none=>rw[hi] at e;cases e
  |some p=>
   obtain⟨d,b⟩:=p;rw[hi] at e;cases e;obtain⟨E1,v,h1,h2⟩:=E.freeze hi;exact⟨v,h1,k v H (Post.val .set E1 h2)⟩
end
inductive Opd where
 |val(r:D×Bool)|slot(i:Nat)
noncomputable def res(δ:Dn):Opd->Option D
 | .val r=>some r.1
 | .slot i=>match δ[i]? with
  |some (some (d,_))=>some d
  |_=>none
def ip(K:fO)(H:Hp)(O:AP')(d:D)(v:V):Prop:=Rep K H O d v\/ ∃a,v= .ref a/\OwnOk K H O d a
abbrev FO:=Dn->Option (Opd×Dn)
def PostO(K:fO)(T:AP')(σ:L2.St)(δ:Dn)(H:Hp)(o:Opd)(δ':Dn)(v:V)(H':Hp):Prop:=
 match o with
 | .val r=>Post K T σ δ H r δ' v H'
 | .slot i=>Keep σ δ H δ' H'/\ER K H' T σ δ'/\σ[i]?=some (some v)
noncomputable def yY(T:AP')(o:Opd)(v:V):AP':=match o with
 | .val r=>Tmp T r v
 | .slot _=>T
def tO(K:fO)(f:FO):TE:=fun σ H Q=> ∃δ T o δ',ER K H T σ δ/\f δ=some (o,δ')/\ ∀v H',PostO K T σ δ H o δ' v H'->Q v H'
def PO(X:Cx)(e:fw)(f:FO):Prop:=PE X e (tO X.K f)
noncomputable def eW(f:F):FO:=fun δ=>(f δ).bind fun p=>some (.val p.1,p.2)
noncomputable def eV(i:Nat):FO:=fun δ=>match δ[i]? with
 |some (some _)=>some (.slot i,δ)
 |_=>none
theorem PE.imp'(h:PE X e t)(k: ∀σ H Q,t' σ H Q->t σ H Q):PE X e t':=fun pins s σ H Q I hw=>h pins s σ H Q I (k σ H Q hw)
section
variable {X:Cx}{pos:Pos}
theorem PX.po(h:PX X e f):PO X e (eW f):=PE.imp' h fun σ H Q hw=>by
 obtain⟨δ,T,o,δ',E,e,k⟩:=hw;unfold eW at e
 cases h1:f δ with
 |none=>rw[h1] at e;cases e
 |some p=>
  obtain⟨r,δ1⟩:=p;rw[h1] at e;obtain⟨rfl,rfl⟩:=fK e;exact⟨δ,T,r,δ1,E,h1,fun v H' P=>k v H' P⟩
theorem OL{i:Nat}{x:Str}(hN:X.N[i]?=some x)(hv:Vis X.env.scope x)(hd:(x==("__debug__":Str))=false)(q9:(x==("__classdict__":Str))=false):PO X (.Name x pos) (eV i):=PE.imp' (DV hN hv hd q9) fun σ H Q h=>by
 obtain⟨δ,T,o,δ',E,e,k⟩:=h;unfold eV at e
 cases hi:δ[i]? with
 |none=>rw[hi] at e;cases e
 |some q=>
  cases q with
  |none=>rw[hi] at e;cases e
  |some p=>
   obtain⟨d,b⟩:=p;rw[hi] at e;obtain⟨rfl,rfl⟩:=fK e;obtain⟨E1,v,h1,h2⟩:=E.freeze hi;exact⟨v,h1,k v H ⟨.refl,E,h1⟩⟩
end
structure Ops(K:fO)(T:AP')(σ:L2.St)(δ:Dn)(H:Hp)(os:List Opd)(vs:List V)(δ':Dn)(H':Hp)(T':AP'):Prop where
 len:os.length=vs.length
 keep:Keep σ δ H δ' H'
 er:ER K H' T' σ δ'
 tt: ∀a,T a->T' a
 val: ∀(j:Nat) (d:D) (v:V),os[j]?=some (.val (d,false))->vs[j]?=some v->Rep K H' (fun a=>OwnA σ δ' a\/T a) d v
 tmp: ∀(j:Nat) (d:D) (v:V),os[j]?=some (.val (d,true))->vs[j]?=some v-> ∃p,v= .ref p/\T' p/\H p=none/\OwnOk K H' (fun a=>OwnA σ δ' a\/T a) d p
 slt: ∀(j i:Nat) (v:V),os[j]?=some (.slot i)->vs[j]?=some v->σ[i]?=some (some v)
section
variable {K:fO}{T T':AP'}{σ:L2.St}{δ δ' δ2:Dn}{H H' H2:Hp}{os:List Opd}{vs:List V}{o:Opd}{v:V}
theorem Ops.nil(E:ER K H T σ δ):Ops K T σ δ H [] [] δ H T:=⟨rfl,.refl,E,fun _ z=>z,fun j d v h=>by simp at h,fun j d v h=>by simp at h,fun j i v h=>by simp at h⟩
theorem PostO.keep(P:PostO K T σ δ H o δ' v H'):Keep σ δ H δ' H':=by
 cases o with
 |val r=>exact P.1
 |slot i=>exact P.1
theorem PostO.er(E:ER K H T σ δ)(P:PostO K T σ δ H o δ' v H'):ER K H' (yY T o v) σ δ':=by
 cases o with
 |val r=>exact Post.er E P
 |slot i=>exact P.2.1
end
def Gen(K:fO)(H:Hp)(O:AP')(z:D×Bool)(Q:VK):Prop:=
 match z with
 |(d,false)=> ∀w H',(∀a o,H a=some o->H' a=some o)->Rep K H' O d w->Q w H'
 |(d,true)=> ∀p H',H p=none->(∀a o,H a=some o->H' a=some o)->OwnOk K H' (fun a=>O a\/a=p) d p->Q (.ref p) H'
section
variable {K:fO}{T T':AP'}{σ:L2.St}{δ δ1 δ' δ2:Dn}{H H1 H' H2:Hp}{os:List Opd}{vs:List V}{o:Opd}{v:V}{z:D×Bool}{Q:VK}
theorem Ops.cons(E:ER K H T σ δ)(P:PostO K T σ δ H o δ1 v H1)(B:Ops K (yY T o v) σ δ1 H1 os vs δ2 H2 T'):Ops K T σ δ H (o::os) (v::vs) δ2 H2 T':=by
 have E1:=P.er E;have p1:=B.keep.kp;have p2:=B.keep.ow
 have dC: ∀a,T a->yY T o v a:=fun a z=>by
  cases o with
  |val r=>exact .inl z
  |slot i=>exact z
 refine⟨by simp[B.len],P.keep.trans B.keep,B.er,fun a z=>B.tt a (dC a z),fun j d w h1 h2=>?_,fun j d w h1 h2=>?_,fun j i w h1 h2=>?_⟩
 ·cases j with
  |zero=>
   simp at h1 h2;subst h1;subst h2;have P':Post K T σ δ H (d,false) δ1 v H1:=P;exact Rep.mono (fun b ob e n=>p1 b ob e fun z=>n (.inl z)) (fun b _ z=>z.elim (fun z=>Or.inl (p2 b z)) Or.inr) (P'.rep E).2
  |succ j=>exact Rep.mono (fun _ _ e _=>e) (fun b _ z=>z.elim Or.inl fun z=>Or.inr (dC b z)) (B.val j d w (by simpa using h1) (by simpa using h2))
 ·cases j with
  |zero=>
   simp at h1 h2;subst h1;subst h2;have P':Post K T σ δ H (d,true) δ1 v H1:=P;obtain⟨p,rfl,hp,E3,ok⟩:=P'.2;have tp:yY T (.val (d,true)) (V.ref p) p:= .inr ⟨rfl,rfl⟩;refine⟨p,rfl,B.tt p tp,hp,ok.mono (fun b ob e n=>p1 b ob e fun z=>n (.inl z)) (fun b _ z=>z.elim (fun z=>Or.inl (p2 b z)) fun z=>Or.inr (Or.inl z)) fun ob e=>p1 p ob e fun z=>E1.nT p z tp⟩
  |succ j=>
   obtain⟨p,rfl,tp,hp,ok⟩:=B.tmp j d w (by simpa using h1) (by simpa using h2);refine⟨p,rfl,tp,?_,ok.mono (fun _ _ e _=>e) (fun b _ z=>z.elim Or.inl fun z=>Or.inr (dC b z)) fun _ e=>e⟩
   cases hH:H p with
   |none=>rfl
   |some ob=>exact absurd hp (P.keep.dm p (by rw[hH];simp))
 ·cases j with
  |zero=>
   simp at h1 h2;subst h1;subst h2;exact P.2.2
  |succ j=>exact B.slt j i w (by simpa using h1) (by simpa using h2)
theorem Ops.view(B:Ops K T σ δ H os vs δ' H' T'){j:Nat}{d:D}(h1:os[j]?=some o)(h2:vs[j]?=some v)(hr:res δ' o=some d):ip K H' (fun a=>OwnA σ δ' a\/T a) d v:=by
 cases o with
 |val r=>
  obtain⟨e,b⟩:=r;have hd:e=d:=iz hr;subst hd
  cases b with
  |false=>exact .inl (B.val j e v h1 h2)
  |true=>
   obtain⟨p,rfl,_,_,ok⟩:=B.tmp j e v h1 h2;exact .inr ⟨p,rfl,ok⟩
 |slot i=>
  have hs:=B.slt j i v h1 h2;unfold res at hr;dsimp only at hr
  cases hi:δ'[i]? with
  |none=>rw[hi] at hr;cases hr
  |some q=>
   cases q with
   |none=>rw[hi] at hr;cases hr
   |some p=>
    obtain⟨e,b⟩:=p;rw[hi] at hr;have hd:e=d:=iz hr;subst hd
    cases b with
    |false=>
     obtain⟨w,h3,h4⟩:=B.er.val i e hi;rw[hs] at h3;cases h3;exact .inl (Rep.mono (fun _ _ e _=>e) (fun b _ z=>z.elim Or.inl fun z=>Or.inr (B.tt b z)) h4)
    |true=>
     obtain⟨a,h3,h4⟩:=B.er.own i e hi;rw[hs] at h3;cases h3;exact .inr ⟨a,rfl,h4.mono (fun _ _ e _=>e) (fun b _ z=>z.elim Or.inl fun z=>Or.inr (B.tt b z)) fun _ e=>e⟩
theorem Ops.done(B:Ops K T σ δ H os vs δ' H' T')(k: ∀v H2,Post K T σ δ H z δ' v H2->Q v H2):Gen K H' (fun a=>OwnA σ δ' a\/T a) z Q:=by
 obtain⟨d,b⟩:=z;have dom: ∀{H2:Hp},(∀a o,H' a=some o->H2 a=some o)-> ∀a,T a->Ow (H2 a):=fun {H2} hx a z=>(B.er.dom a (B.tt a z)).up (hx a)
 cases b with
 |false=>
  intro w H2 hx r;exact k w H2 ⟨B.keep.trans (.ext hx),B.er.mono (fun b o e _=>hx b o e) (fun b _ z=>B.tt b z) (dom hx),r⟩
 |true=>
  intro p H2 hp hx ok
  have hp0:H p=none:=by
   cases hH:H p with
   |none=>rfl
   |some ob=>exact absurd hp (B.keep.dm p (by rw[hH];simp))
  refine k (.ref p) H2 ⟨B.keep.trans (.ext hx),p,rfl,hp0,B.er.mono (fun b o e _=>hx b o e) (fun b hb z=>z.elim (B.tt b) fun z=>absurd (z▸hp) hb) (fun a z=>?_),ok.mono (fun _ _ e _=>e) (fun b _ z=>?_) fun _ e=>e⟩
  ·rcases z with z|z
   ·exact dom hx a z
   ·subst z;exact ok.ow
  ·rcases z with z|z|z
   ·exact Or.inl (Or.inl z)
   ·exact Or.inl (Or.inr z)
   ·exact Or.inr z
theorem Gen.int(g:Gen K H O (.int i,false) Q):Q (.int i) H:=g _ H (fun _ _ e=>e) Rep.mkInt
theorem Gen.bl(g:Gen K H O (.bl i,false) Q):Q (.bl i) H:=g _ H (fun _ _ e=>e) Rep.mkBl
theorem iW{H:Hp}{p:eX}{o:HO}(hp:H p=none): ∀a u,H a=some u->upd H p o a=some u:=fun a u e=>by rw[gi (by intro z;subst z;rw[e] at hp;cases hp)];exact e
theorem Gen.lst{O:AP'}{l:List D}{xs:List V}{p:eX}(g:Gen K H O (.lst l,true) Q)(hp:H p=none)(r:RepL K H O l xs):Q (.ref p) (upd H p (.lst xs)):=
 g p _ hp (iW hp) ⟨xs,fX,RepL.mono (fun b o e _=>iW hp b o e) (fun b hb z=>z.elim id fun z=>absurd (z▸hp) hb) r⟩
theorem Gen.tup(g:Gen K H O (.tup l,false) Q)(hp:H p=none)(np: ¬O p)(r:RepL K H O l xs):Q (.ref p) (upd H p (.tup xs)):=
 g _ _ (iW hp) (Rep.mkTup ⟨fX,np⟩ (RepL.mono (fun b o e _=>iW hp b o e) (fun b hb z=>z) r))
theorem Ops.np(B:Ops K T σ δ H os vs δ' H' T')(hp: ¬Ow (H' p)): ¬(OwnA σ δ' p\/T p):=fun z=>hp (z.elim (fun z=>B.er.ownOw z) fun z=>B.er.dom p (B.tt p z))
end
noncomputable def gB(g:D->Option (D×Bool))(fa:FO):F:=fun δ=>(fa δ).bind fun p=>(res p.2 p.1).bind fun x=>(g x).bind fun z=>some (z,p.2)
noncomputable def fD(g:D->D->Option (D×Bool))(fa fb:FO):F:=fun δ=>(fa δ).bind fun p=>(fb p.2).bind fun q=>(res q.2 p.1).bind fun x=>(res q.2 q.1).bind fun y=>(g x y).bind fun z=>some (z,q.2)
noncomputable def hC:List FO->Dn->Option (List Opd×Dn)
 |[],δ=>some ([],δ)
 |f::fs,δ=>(f δ).bind fun p=>(hC fs p.2).bind fun q=>some (p.1::q.1,q.2)
noncomputable def qG(δ:Dn):List Opd->Option (List D)
 |[]=>some []
 |o::os=>(res δ o).bind fun d=>(qG δ os).bind fun l=>some (d::l)
noncomputable def fE(g:List D->Option (D×Bool))(fs:List FO):F:=fun δ=>(hC fs δ).bind fun p=>(qG p.2 p.1).bind fun ds=>(g ds).bind fun z=>some (z,p.2)
def tA(K:fO)(fs:List FO):TA:=fun σ H Q=> ∃δ T os δ',ER K H T σ δ/\hC fs δ=some (os,δ')/\ ∀vs H' T',Ops K T σ δ H os vs δ' H' T'->Q vs H'
section
variable {X:Cx}{e a b:fw}{es:hW}{fa fb:FO}{fs:List FO}{pos:Pos}
theorem eU{α β:Type}{x:Option α}{f:α->Option β}{b:β}(h:x.bind f=some b): ∃a,x=some a/\f a=some b:=by
 cases x with
 |none=>cases h
 |some a=>exact⟨a,rfl,h⟩
def Uj(K:fO)(r:V->Hp->VK->Prop)(g:D->Option (D×Bool)):Prop:=
 ∀x z v H (O:AP') (Q:VK),(∀p,¬Ow (H p)-> ¬O p)->ip K H O x v->g x=some z->Gen K H O z Q->r v H Q
def P0(K:fO)(r:R2)(g:D->D->Option (D×Bool)):Prop:=
 ∀x y z v u H (O:AP') (Q:VK),(∀p,¬Ow (H p)-> ¬O p)->ip K H O x v->ip K H O y u->g x y=some z->Gen K H O z Q->r v u H Q
def Ui(K:fO)(r:List V->Hp->VK->Prop)(g:List D->Option (D×Bool)):Prop:=
 ∀ds z vs H (O:AP') (Q:VK),(∀p,¬Ow (H p)-> ¬O p)->ds.length=vs.length->(∀(j:Nat) d v,ds[j]?=some d->vs[j]?=some v->ip K H O d v)->g ds=some z->Gen K H O z Q->r vs H Q
theorem Oj{r:V->Hp->VK->Prop}{g:D->Option (D×Bool)}(h:PE X e (tUn r (tO X.K fa)))(hr:Uj X.K r g):PX X e (gB g fa):=PX.imp h fun σ H Q hw=>by
 obtain⟨δ,T,rr,δ',E,e,k⟩:=hw;obtain⟨⟨o,δ1⟩,h1,e⟩:=eU e;obtain⟨x,h2,e⟩:=eU e;obtain⟨z,h3,e⟩:=eU e;obtain⟨rfl,rfl⟩:=fK e;refine⟨δ,T,o,δ1,E,h1,fun v H1 P1=>?_⟩;have B:=Ops.cons E P1 (Ops.nil (P1.er E));exact hr x z v H1 _ Q (fun p hp=>B.np hp) (B.view (j:=0) rfl rfl h2) h3 (B.done k)
theorem Oi{r:R2}{g:D->D->Option (D×Bool)}(h:PE X e (tOp r (tO X.K fa) (tO X.K fb)))(hr:P0 X.K r g):PX X e (fD g fa fb):=PX.imp h fun σ H Q hw=>by
 obtain⟨δ,T,rr,δ',E,e,k⟩:=hw;obtain⟨⟨o,δ1⟩,h1,e⟩:=eU e;obtain⟨⟨o2,δ2⟩,h2,e⟩:=eU e;obtain⟨x,h3,e⟩:=eU e;obtain⟨y,h4,e⟩:=eU e;obtain⟨z,h5,e⟩:=eU e;obtain⟨rfl,rfl⟩:=fK e;refine⟨δ,T,o,δ1,E,h1,fun v H1 P1=>⟨δ1,yY T o v,o2,δ2,P1.er E,h2,fun u H2 P2=>?_⟩⟩;have B:=Ops.cons E P1 (Ops.cons (P1.er E) P2 (Ops.nil (P2.er (P1.er E))));exact hr x y z v u H2 _ Q (fun p hp=>B.np hp) (B.view (j:=0) rfl rfl h3) (B.view (j:=1) rfl rfl h4) h5 (B.done k)
theorem AR:PA X [] (tA X.K []):=fun pos pins s σ H Q I h=>by
 obtain⟨δ,T,os,δ',E,e,k⟩:=h;obtain⟨rfl,rfl⟩:=fK e;exact ko pos pins s σ H Q I (k [] H T (Ops.nil E))
theorem tX(ha:PO X e fa)(hr:PA X es (tA X.K fs))(hs:starEach (e::es) X.env=(false,eval e X.env)::starEach es X.env):PA X (e::es) (tA X.K (fa::fs)):=fun pos pins s σ H Q I h=>by
 obtain⟨δ,T,os,δ',E,e,k⟩:=h;unfold hC at e;obtain⟨⟨o,δ1⟩,h1,e⟩:=eU e;obtain⟨⟨os2,δ2⟩,h2,e⟩:=eU e;obtain⟨rfl,rfl⟩:=fK e;exact iX ha hr hs pos pins s σ H Q I ⟨δ,T,o,δ1,E,h1,fun v H1 P1=>⟨δ1,yY T o v,os2,δ2,P1.er E,h2,fun vs H2 T2 B=>k _ H2 T2 (Ops.cons E P1 B)⟩⟩
theorem kI{δ:Dn}: ∀{os:List Opd} {ds:List D},qG δ os=some ds->ds.length=os.length/\ ∀(j:Nat) d,ds[j]?=some d-> ∃o,os[j]?=some o/\res δ o=some d:=by
 intro iV
 induction iV with
 |nil=>
  intro ds h;cases h;exact⟨rfl,fun j d h=>by simp at h⟩
 |cons o os iH=>
  intro ds h;unfold qG at h;obtain⟨d,h1,h⟩:=eU h;obtain⟨l,h2,h⟩:=eU h;cases h;obtain⟨h3,h4⟩:=iH h2;refine⟨by simp[h3],fun j e he=>?_⟩
  cases j with
  |zero=>simp at he;subst he;exact⟨o,rfl,h1⟩
  |succ j=>
   obtain⟨o',q1,q2⟩:=h4 j e (by simpa using he);exact⟨o',by simpa using q1,q2⟩
theorem LN{r:List V->Hp->VK->Prop}{g:List D->Option (D×Bool)}(h:PE X e (tCB r (tA X.K fs)))(hr:Ui X.K r g):PX X e (fE g fs):=PX.imp h fun σ H Q hw=>by
 obtain⟨δ,T,rr,δ',E,e,k⟩:=hw;obtain⟨⟨os,δ1⟩,h1,e⟩:=eU e;obtain⟨ds,h2,e⟩:=eU e;obtain⟨z,h3,e⟩:=eU e;obtain⟨rfl,rfl⟩:=fK e;obtain⟨h4,h5⟩:=kI h2;refine⟨δ,T,os,δ1,E,h1,fun vs H1 T1 B=>?_⟩;refine hr ds z vs H1 _ Q (fun p hp=>B.np hp) (h4.trans B.len) (fun j d v hd hv=>?_) h3 (B.done k);obtain⟨o,ho,hres⟩:=h5 j d hd;exact B.view ho hv hres
end
open PySem.SeqAt
mutual
/-- ==of data -/
noncomputable def D.eqb:D->D->Bool
 | .non,.non=>true
 | .bl a,.bl b=>a==b
 | .bl a,.int b=>(if a then 1 else 0)==b
 | .int a,.bl b=>a==(if b then 1 else 0)
 | .int a,.int b=>a==b
 | .str a,.str b=>a==b
 | .tup l,.tup m=>D.eqbL l m
 | .lst l,.lst m=>D.eqbL l m
 | .oth _ _ _,.oth _ _ _=>true
 |_,_=>false
noncomputable def D.eqbL:List D->List D->Bool
 |[],[]=>true
 |a::l,b::m=>D.eqb a b&&D.eqbL l m
 |_,_=>false
end
mutual
noncomputable def D.dep:D->Nat
 | .tup l=>D.depL l+1
 | .lst l=>D.depL l+1
 | .oth _ _ _=>20000
 |_=>0
noncomputable def D.depL:List D->Nat
 |[]=>0
 |d::l=>max (D.dep d) (D.depL l)
end
mutual
theorem D.eqb_refl: ∀d:D,D.eqb d d=true
 | .non=>rfl
 | .bl a=>by simp[D.eqb]
 | .int a=>by simp[D.eqb]
 | .str a=>by simp[D.eqb]
 | .tup l=>by rw[D.eqb];exact D.eqbL_refl l
 | .lst l=>by rw[D.eqb];exact D.eqbL_refl l
 | .oth _ _ _=>by rw[D.eqb]
theorem D.eqbL_refl: ∀l:List D,D.eqbL l l=true
 |[]=>rfl
 |d::l=>by rw[D.eqbL,D.eqb_refl d,D.eqbL_refl l];rfl
end
theorem D.dep_mem{d:D}: ∀{l:List D} {j:Nat},l[j]?=some d->d.dep<=D.depL l
 |[],j,h=>by simp at h
 |e::l,0,h=>by simp at h;subst h;rw[D.depL];exact Nat.le_max_left _ _
 |e::l,j+1,h=>by rw[D.depL];exact mH (D.dep_mem (by simpa using h)) (Nat.le_max_right _ _)
noncomputable def qf(l m:List D)(j:Nat):Bool:=match l[j]?,m[j]? with
 |some d,some e=>D.eqb d e
 |_,_=>true
theorem la: ∀l m:List D,((List.range (min l.length m.length)).all (qf l m)&&l.length==m.length)=D.eqbL l m
 |[],[]=>rfl
 |[],e::m=>by simp[D.eqbL]
 |d::l,[]=>by simp[D.eqbL]
 |d::l,e::m=>by
  rw[D.eqbL,<-la l m];simp only[jb,Nat.succ_min_succ,List.range_succ_eq_map,List.all_cons,List.all_map,Function.comp_def];have h0:qf (d::l) (e::m) 0=D.eqb d e:=rfl;have h1:(fun x=>qf (d::l) (e::m) (Nat.succ x))=qf l m:=by funext x;simp[qf]
  rw[h0];simp only[h1,Bool.and_assoc]
  congr 2
  simp
section
variable {X:Cx}{pins:gc}{σ:L2.St}{H:Hp}{s:eZ}
theorem jm(h:ip X.K H O (.tup l) v): ∃a xs,v= .ref a/\SqT X.K H a xs/\RepL X.K H O l xs:=by
 rcases h with h|⟨a,rfl,h⟩
 ·obtain⟨a,xs,e,q,r⟩:=h.tup;exact⟨a,xs,e,q.sq,r⟩
 ·exact h.elim
theorem jf(h:ip X.K H O (.lst l) v): ∃a xs,v= .ref a/\SqL X.K H a xs/\RepL X.K H O l xs:=by
 rcases h with h|⟨a,rfl,h⟩
 ·obtain⟨a,xs,e,q,r⟩:=h.lst;exact⟨a,xs,e,q.sq,r⟩
 ·obtain⟨xs,e,r⟩:=h;exact⟨a,xs,rfl,.inl (.inl e),r⟩
theorem RepL.views{O:AP'}{l:List D}{xs:List V}(r:RepL X.K H O l xs){j:Nat}{d:D}{v:V}(h1:l[j]?=some d)(h2:xs[j]?=some v):Rep X.K H O d v:=by
 obtain⟨w,h3,h4⟩:=r.get h1;rw[h2] at h3;cases h3;exact h4
theorem JB(I:Inv X pins σ H s)(h:OthB X.K (H a) k ks vs us): ∃o,s.heap.get? a=some o/\(o.cls= .type "dict"\/o.cls= .type "set"\/ ∃C,o.cls= .ref C):=by
 cases k with
 |dct=>
  rcases h with⟨kvs,e,_⟩|⟨kvs,e,_⟩
  ·obtain⟨_,_,vs,_,o,es,ep,h1,h2,_⟩:=(show ObjOk X.prog X.w H s.heap a (.dK kvs) from I.hok a _ e)
   exact⟨o,h1,.inl h2.1⟩
  ·obtain⟨_,_,xs,_,o,es,ep,h1,h2,_⟩:=(show ObjOk X.prog X.w H s.heap a (.dT kvs) from I.hok a _ e)
   exact⟨o,h1,.inl h2.1⟩
 |set=>
  obtain⟨_,zs,e,_⟩:=h;obtain⟨es,n,t,h1,_⟩:=(show ObjOk X.prog X.w H s.heap a (.stt zs) from I.hok a _ e)
  exact⟨_,h1,.inr (.inl rfl)⟩
 |exc C=>
  obtain⟨_,o,e,h1,_⟩:=h;obtain⟨e1,_⟩:=(show ObjOk X.prog X.w H s.heap a (.frz o (.own 0)) from I.hok a _ e)
  exact⟨o,e1,.inr (.inr ⟨C,h1⟩)⟩
 |_=>exact h.elim
theorem BI(I:Inv X pins σ H s)(h1:SqT X.K H a xs)(h2:SqL X.K H a ys):False:=by
 obtain⟨b6,_,⟨o,e,c,_⟩,_⟩:=I.tuple h1;obtain⟨b9,_,⟨o2,n2,e2,c2,_⟩,_⟩:=I.list h2;rw[e] at e2;cases e2;rw[c] at c2;exact absurd c2 (by simp)
theorem Mi(I:Inv X pins σ H s)(h1:SqT X.K H a xs)(h2:OthB X.K (H a) k ks vs us):False:=by
 obtain⟨b6,_,⟨o,e,c,_⟩,_⟩:=I.tuple h1;obtain⟨o2,e2,c2⟩:=JB I h2;rw[e] at e2;cases e2;rw[c] at c2;rcases c2 with c2|c2|⟨C,c2⟩<;>exact absurd c2 (by simp)
theorem Mj(I:Inv X pins σ H s)(h1:SqL X.K H a xs)(h2:OthB X.K (H a) k ks vs us):False:=by
 obtain⟨b6,_,⟨o,n,e,c,_⟩,_⟩:=I.list h1;obtain⟨o2,e2,c2⟩:=JB I h2;rw[e] at e2;cases e2;rw[c] at c2;rcases c2 with c2|c2|⟨C,c2⟩<;>exact absurd c2 (by simp)
mutual
theorem Rep.inj(I:Inv X pins σ H s): ∀{d e:D} {v:V},d.dep<20000->Rep X.K H O d v->Rep X.K H O' e v->d=e
 | .non,e,v,hz,h,h'=>by
  have:=h.non;subst this
  cases e with
  |non=>rfl
  |bl b=>have:=h'.bl;cases this
  |int b=>have:=h'.int;cases this
  |str b=>have:=h'.str;cases this
  |tup m=>obtain⟨a,xs,z,_⟩:=h'.tup;cases z
  |lst m=>obtain⟨a,xs,z,_⟩:=h'.lst;cases z
  |oth m m1 m2=>obtain⟨a,xs,z,_⟩:=h'.oth;cases z
 | .bl b,e,v,hz,h,h'=>by
  have:=h.bl;subst this
  cases e with
  |non=>have:=h'.non;cases this
  |bl b=>have:=h'.bl;cases this;rfl
  |int b=>have:=h'.int;cases this
  |str b=>have:=h'.str;cases this
  |tup m=>obtain⟨a,xs,z,_⟩:=h'.tup;cases z
  |lst m=>obtain⟨a,xs,z,_⟩:=h'.lst;cases z
  |oth m m1 m2=>obtain⟨a,xs,z,_⟩:=h'.oth;cases z
 | .int b,e,v,hz,h,h'=>by
  have:=h.int;subst this
  cases e with
  |non=>have:=h'.non;cases this
  |bl b=>have:=h'.bl;cases this
  |int b=>have:=h'.int;cases this;rfl
  |str b=>have:=h'.str;cases this
  |tup m=>obtain⟨a,xs,z,_⟩:=h'.tup;cases z
  |lst m=>obtain⟨a,xs,z,_⟩:=h'.lst;cases z
  |oth m m1 m2=>obtain⟨a,xs,z,_⟩:=h'.oth;cases z
 | .str b,e,v,hz,h,h'=>by
  have:=h.str;subst this
  cases e with
  |non=>have:=h'.non;cases this
  |bl b=>have:=h'.bl;cases this
  |int b=>have:=h'.int;cases this
  |str b=>have:=h'.str;cases this;rfl
  |tup m=>obtain⟨a,xs,z,_⟩:=h'.tup;cases z
  |lst m=>obtain⟨a,xs,z,_⟩:=h'.lst;cases z
  |oth m m1 m2=>obtain⟨a,xs,z,_⟩:=h'.oth;cases z
 | .tup l,e,v,hz,h,h'=>by
  rw[D.dep] at hz;obtain⟨a,xs,rfl,q,r⟩:=h.tup
  cases e with
  |non=>have:=h'.non;cases this
  |bl b=>have:=h'.bl;cases this
  |int b=>have:=h'.int;cases this
  |str b=>have:=h'.str;cases this
  |tup m=>
   obtain⟨a2,dA,z,q2,r2⟩:=h'.tup;cases z;have:=I.tuple_inj q.sq q2.sq;subst this;rw[RepL.inj I (by lia) r r2]
  |lst m=>
   obtain⟨a2,dA,z,q2,r2⟩:=h'.lst;cases z;exact(BI I q.sq q2.sq).elim
  |oth m m1 m2=>
   obtain⟨a2,us2,z,q2,r2⟩:=h'.oth;cases z;exact(Mi I q.sq q2.2).elim
 | .lst l,e,v,hz,h,h'=>by
  rw[D.dep] at hz;obtain⟨a,xs,rfl,q,r⟩:=h.lst
  cases e with
  |non=>have:=h'.non;cases this
  |bl b=>have:=h'.bl;cases this
  |int b=>have:=h'.int;cases this
  |str b=>have:=h'.str;cases this
  |tup m=>
   obtain⟨a2,dA,z,q2,r2⟩:=h'.tup;cases z;exact(BI I q2.sq q.sq).elim
  |lst m=>
   obtain⟨a2,dA,z,q2,r2⟩:=h'.lst;cases z;have:=I.list_inj q.sq q2.sq;subst this;rw[RepL.inj I (by lia) r r2]
  |oth m m1 m2=>
   obtain⟨a2,us2,z,q2,r2⟩:=h'.oth;cases z;exact(Mj I q.sq q2.2).elim
 | .oth _ _ _,e,v,hz,h,h'=>by rw[D.dep] at hz;lia
theorem RepL.inj(I:Inv X pins σ H s){O O':AP'}: ∀{l m:List D} {vs:List V},D.depL l<20000->RepL X.K H O l vs->RepL X.K H O' m vs->l=m
 |[],m,vs,_,h,h'=>by
  rw[RepL] at h;subst h
  cases m with
  |nil=>rfl
  |cons e m=>rw[RepL] at h';obtain⟨_,_,z,_⟩:=h';cases z
 |d::l,m,vs,hz,h,h'=>by
  rw[D.depL] at hz;rw[RepL] at h;obtain⟨v,r,rfl,h1,h2⟩:=h
  cases m with
  |nil=>rw[RepL] at h';cases h'
  |cons e m=>
   rw[RepL] at h';obtain⟨v',r',z,h3,h4⟩:=h';cases z;rw[Rep.inj I (by lia) h1 h3,RepL.inj I (by lia) h2 h4]
end
theorem uo(h:ip X.K H O d v)(hd:d.dep=0)(nt: ∀l,d≠ .tup l)(nl: ∀l,d≠ .lst l):Rep X.K H O d v:=by
 rcases h with h|⟨a,rfl,h⟩
 ·exact h
 ·cases d with
  |lst l=>exact absurd rfl (nl l)
  |oth _ _ _=>rw[D.dep] at hd;lia
  |_=>exact h.elim
inductive Sh(X:Cx)(H:Hp)(s:eZ)(O:AP'):D->V->Value->Prop
 |non:Sh X H s O .non .non .none
 |bl (b:Bool):Sh X H s O (.bl b) (.bl b) (.bool b)
 |int (i:Int) (t:Tok):Sh X H s O (.int i) (.int i) (.int i t)
 |str (x:Str) (t:Tok):Sh X H s O (.str x) (.str x) (.str x t)
 |tup {l:List D} {p:eX} {xs:List V} {b6:gH} (q:SqT X.K H p xs) (r:RepL X.K H O l xs) (v:Vals xs b6) (pl:IsTup s.heap p b6.toArray):Sh X H s O (.tup l) (.ref p) (.ref p)
 |lst {l:List D} {p:eX} {xs:List V} {b6:gH} (q:SqL X.K H p xs) (r:RepL X.K H O l xs) (v:Vals xs b6) (pl:s.heap.IsList p b6.toArray):Sh X H s O (.lst l) (.ref p) (.ref p)
theorem qk(I:Inv X pins σ H s)(h:ip X.K H O d v)(ra:RelV v a)(hn:d.dep<20000):Sh X H s O d v a:=by
 cases d with
 |oth m m1 m2=>rw[D.dep] at hn;omega
 |tup l=>obtain⟨p,xs,rfl,q,r⟩:=jm h;cases ra;obtain⟨b6,v1,pl,_⟩:=I.tuple q;exact .tup q r v1 pl
 |lst l=>obtain⟨p,xs,rfl,q,r⟩:=jf h;cases ra;obtain⟨b6,v1,pl,_⟩:=I.list q;exact .lst q r v1 pl.isList
 |non=>have:=(uo h rfl (by simp) (by simp)).non;subst this;cases ra;exact .non
 |bl c=>have:=(uo h rfl (by simp) (by simp)).bl;subst this;cases ra;exact .bl c
 |int c=>have:=(uo h rfl (by simp) (by simp)).int;subst this;obtain⟨t,rfl⟩:=ra;exact .int c t
 |str c=>have:=(uo h rfl (by simp) (by simp)).str;subst this;obtain⟨t,rfl⟩:=ra;exact .str c t
theorem zA(I:Inv X pins σ H s)(n:Nat)
  (ih: ∀(d e:D) (v u:V) (a b:fI) (O O':AP') (A:fQ),ip X.K H O d v->ip X.K H O' e u->RelV v a->RelV u b->d.dep+1<=n->e.dep<20000->A.units+n<cLine+1->EqAt A s a b (D.eqb d e)):
  ∀(d e:D) (v u:V) (a b:fI) (O O':AP') (A:fQ),ip X.K H O d v->ip X.K H O' e u->RelV v a->RelV u b->d.dep<=n->e.dep<20000->A.units+n<cLine->EqAt A s a b (D.eqb d e):=by
 intro d e v u a b O O' A hd he ra rb hn n4 hA;have hu:A.units<cLine:=by lia
 have l9:cLine=9900:=rfl
 have items: ∀(l m:List D) (xs ys:List V) (b6 b9:gH) (O1 O2:AP'),D.depL l+1<=n->D.depL m<20000->RepL X.K H O1 l xs->RepL X.K H O2 m ys->Vals xs b6->Vals ys b9->
   ∀j (h1:j<b6.toArray.size) (h2:j<b9.toArray.size),EqAt A.in1 s b6.toArray[j] b9.toArray[j] (qf l m j):=fun l m xs ys b6 b9 O1 O2 hl hm r1 r2 v1 v2 j h1 h2=>by
  have e1:=v1.length;have e2:=v2.length;have e3:=r1.length;have e4:=r2.length;simp only[gr] at h1 h2;have hx:xs[j]?=some xs[j]:=ir (by lia);have hy:ys[j]?=some ys[j]:=ir (by lia);have x9:l[j]?=some l[j]:=ir (by lia);have x8:m[j]?=some m[j]:=ir (by lia);obtain⟨w,w1,w2⟩:=v1.get hx;obtain⟨w',w3,w4⟩:=v2.get hy
  have i1:b6.toArray[j]=w:=by
   have:b6[j]?=some b6[j]:=ir (by lia);rw[this] at w1;simpa using w1
  have i2:b9.toArray[j]=w':=by
   have:b9[j]?=some b9[j]:=ir (by lia);rw[this] at w3;simpa using w3
  rw[i1,i2];have hj:qf l m j=D.eqb l[j] m[j]:=by unfold qf;rw[x9,x8]
  rw[hj];have v7:=D.dep_mem x9;have hdep2:=D.dep_mem x8;exact ih _ _ _ _ _ _ O1 O2 A.in1 (.inl (r1.views x9 hx)) (.inl (r2.views x8 hy)) w2 w4 (by lia) (by lia) (by show A.units+1+n<cLine+1;lia)
 have h1:=qk I hd ra (by lia);have h2:=qk I he rb n4
 cases h1 with
 |non=>
  cases h2 with
  |non=>exact kd ra rb rfl rfl
  |bl c2=>exact kd ra rb rfl rfl
  |int c2 t2=>exact kd ra rb rfl rfl
  |str c2 t2=>exact kd ra rb rfl rfl
  |tup q2 r2 v2 f9=>exact EqAt.none_tuple f9 hu
  |lst q2 r2 v2 f9=>exact EqAt.none_list f9 hu
 |bl c1=>
  cases h2 with
  |non=>exact kd ra rb rfl rfl
  |bl c2=>exact kd ra rb rfl rfl
  |int c2 t2=>exact kd ra rb rfl rfl
  |str c2 t2=>exact kd ra rb rfl rfl
  |tup q2 r2 v2 f9=>exact EqAt.bool_tuple c1 f9 hu
  |lst q2 r2 v2 f9=>exact EqAt.bool_list c1 f9 hu
 |int c1 t1=>
  cases h2 with
  |non=>exact kd ra rb rfl rfl
  |bl c2=>exact kd ra rb rfl rfl
  |int c2 t2=>exact kd ra rb rfl rfl
  |str c2 t2=>exact kd ra rb rfl rfl
  |tup q2 r2 v2 f9=>exact EqAt.int_tuple c1 t1 f9 hu
  |lst q2 r2 v2 f9=>exact EqAt.int_list c1 t1 f9 hu
 |str c1 t1=>
  cases h2 with
  |non=>exact kd ra rb rfl rfl
  |bl c2=>exact kd ra rb rfl rfl
  |int c2 t2=>exact kd ra rb rfl rfl
  |str c2 t2=>exact kd ra rb rfl rfl
  |tup q2 r2 v2 f9=>exact EqAt.str_tuple c1 t1 f9 hu
  |lst q2 r2 v2 f9=>exact EqAt.str_list c1 t1 f9 hu
 | @tup l p xs b6 q r v1 pl=>
  cases h2 with
  |non=>exact EqAt.tuple_none pl hu
  |bl c2=>exact EqAt.tuple_bool c2 pl hu
  |int c2 t2=>exact EqAt.tuple_int c2 t2 pl hu
  |str c2 t2=>exact EqAt.tuple_str c2 t2 pl hu
  | @tup m p2 ys b9 q2 r2 v2 f9=>
   by_cases hp:p=p2
   ·subst hp;have:=I.tuple_inj q q2;subst this;rw[RepL.inj I (by rw[D.dep] at hn;lia) r r2,D.eqb_refl];exact EqAt.same _
   ·refine .of_refs hp ?_;have hl:D.depL l+1<=n:=by rw[D.dep] at hn;exact hn
    have hm:D.depL m<20000:=by rw[D.dep] at n4;lia
    have z:=RcAt.tuples pl f9 hu (items l m xs ys b6 b9 _ _ hl hm r r2 v1 v2);have e1:=v1.length;have e2:=v2.length;have e3:=r.length;have e4:=r2.length;simp only[gr] at z;rw[show b6.length=l.length by lia,show b9.length=m.length by lia,la] at z;rw[D.eqb];exact z
  |lst q2 r2 v2 f9=>exact EqAt.tuple_list pl f9 hu
 | @lst l p xs b6 q r v1 pl=>
  cases h2 with
  |non=>exact EqAt.list_none pl hu
  |bl c2=>exact EqAt.list_bool c2 pl hu
  |int c2 t2=>exact EqAt.list_int c2 t2 pl hu
  |str c2 t2=>exact EqAt.list_str c2 t2 pl hu
  |tup q2 r2 v2 f9=>exact EqAt.list_tuple pl f9 hu
  | @lst m p2 ys b9 q2 r2 v2 f9=>
   by_cases hp:p=p2
   ·subst hp;have:=I.list_inj q q2;subst this;rw[RepL.inj I (by rw[D.dep] at hn;lia) r r2,D.eqb_refl];exact EqAt.same _
   ·refine .of_refs hp ?_;have hl:D.depL l+1<=n:=by rw[D.dep] at hn;exact hn
    have hm:D.depL m<20000:=by rw[D.dep] at n4;lia
    have e1:=v1.length;have e2:=v2.length;have e3:=r.length;have e4:=r2.length;have al:=la l m;by_cases hlen:l.length=m.length
    ·have z:=RcAt.lists pl f9 (by simp only[gr];lia) hu (items l m xs ys b6 b9 _ _ hl hm r r2 v1 v2);simp only[gr] at z;rw[show b6.length=min l.length m.length by lia] at z;rw[D.eqb,<-al,hlen];rw[hlen] at z;simpa using z
    ·have z:=RcAt.lists_lengths pl f9 (by simp only[gr,bne_iff_ne,ne_eq];lia) hu;rw[D.eqb,<-al];rw[show(l.length==m.length)=false by simpa using hlen];simpa using z
theorem yn(I:Inv X pins σ H s): ∀(n:Nat) (d e:D) (v u:V) (a b:fI) (O O':AP') (A:fQ),ip X.K H O d v->ip X.K H O' e u->RelV v a->RelV u b->d.dep<=n->e.dep<20000->A.units+n<cLine->EqAt A s a b (D.eqb d e):=by
 intro n
 induction n with
 |zero=>
  intro d e v u a b O O' A hd he ra rb hn n4 hA;exact zA I 0 (fun d e v u a b O O' A hd he ra rb hn n4 hA=>absurd hn (by lia)) d e v u a b O O' A hd he ra rb hn n4 hA
 |succ n ih=>
  intro d e v u a b O O' A hd he ra rb hn n4 hA;exact zA I (n+1) (fun d e v u a b O O' A hd he ra rb hn n4 hA=>ih d e v u a b O O' A hd he ra rb (by lia) n4 (by lia)) d e v u a b O O' A hd he ra rb hn n4 hA
end
section
variable {X:Cx}{pins:gc}{σ:L2.St}{H:Hp}{s:eZ}
theorem Cu(I:Inv X pins σ H s){A:fQ}{n:Nat}(hA:A.units+n<cLine): ∀(l m:List D) (xs ys:List V) (b6 b9:gH) (O1 O2:AP'),D.depL l+1<=n->D.depL m<20000->RepL X.K H O1 l xs->RepL X.K H O2 m ys->Vals xs b6->Vals ys b9->
   ∀j (h1:j<b6.toArray.size) (h2:j<b9.toArray.size),EqAt A.in1 s b6.toArray[j] b9.toArray[j] (qf l m j):=fun l m xs ys b6 b9 O1 O2 hl hm r1 r2 v1 v2 j h1 h2=>by
 have e1:=v1.length;have e2:=v2.length;have e3:=r1.length;have e4:=r2.length;simp only[gr] at h1 h2;have hx:xs[j]?=some xs[j]:=ir (by omega);have hy:ys[j]?=some ys[j]:=ir (by omega);have x9:l[j]?=some l[j]:=ir (by omega);have x8:m[j]?=some m[j]:=ir (by omega);obtain⟨w,w1,w2⟩:=v1.get hx;obtain⟨w',w3,w4⟩:=v2.get hy
 have i1:b6.toArray[j]=w:=by
  have:b6[j]?=some b6[j]:=ir (by omega);rw[this] at w1;simpa using w1
 have i2:b9.toArray[j]=w':=by
  have:b9[j]?=some b9[j]:=ir (by omega);rw[this] at w3;simpa using w3
 rw[i1,i2];have hj:qf l m j=D.eqb l[j] m[j]:=by unfold qf;rw[x9,x8]
 rw[hj];have v7:=D.dep_mem x9;have hdep2:=D.dep_mem x8;exact yn I (n-1) _ _ _ _ _ _ O1 O2 A.in1 (.inl (r1.views x9 hx)) (.inl (r2.views x8 hy)) w2 w4 (by omega) (by omega) (by show A.units+1+(n-1)<cLine;omega)
theorem N5(I:Inv X pins σ H s)(hd:ip X.K H O d v)(he:ip X.K H O' e u)(ra:RelV v a)(rb:RelV u b)(hn:d.dep<=n)(n4:e.dep<20000)(hA:A.units+n<cLine):RcAt A s a b (D.eqb d e):=by
 have hu:A.units<cLine:=by lia
 have items:=Cu I hA;have l9:cLine=9900:=rfl;have h1:=qk I hd ra (by lia);have h2:=qk I he rb n4
 cases h1 with
 |non=>
  cases h2 with
  |non=>exact RcAt.none_none
  |bl c2=>exact RcAt.none_bool c2
  |int c2 t2=>exact RcAt.none_int c2 t2
  |str c2 t2=>exact RcAt.none_str c2 t2
  |tup q2 r2 v2 f9=>exact RcAt.none_tuple f9 hu
  |lst q2 r2 v2 f9=>exact RcAt.none_list f9 hu
 |bl c1=>
  cases h2 with
  |non=>exact RcAt.bool_none c1
  |bl c2=>exact RcAt.bool_bool c1 c2
  |int c2 t2=>exact RcAt.bool_int c1 c2 t2
  |str c2 t2=>exact RcAt.bool_str c1 c2 t2
  |tup q2 r2 v2 f9=>exact RcAt.bool_tuple c1 f9 hu
  |lst q2 r2 v2 f9=>exact RcAt.bool_list c1 f9 hu
 |int c1 t1=>
  cases h2 with
  |non=>exact RcAt.int_none c1 t1
  |bl c2=>exact RcAt.int_bool c1 t1 c2
  |int c2 t2=>exact RcAt.int_int c1 t1 c2 t2
  |str c2 t2=>exact RcAt.int_str c1 t1 c2 t2
  |tup q2 r2 v2 f9=>exact RcAt.int_tuple c1 t1 f9 hu
  |lst q2 r2 v2 f9=>exact RcAt.int_list c1 t1 f9 hu
 |str c1 t1=>
  cases h2 with
  |non=>exact RcAt.str_none c1 t1
  |bl c2=>exact RcAt.str_bool c1 t1 c2
  |int c2 t2=>exact RcAt.str_int c1 t1 c2 t2
  |str c2 t2=>exact RcAt.str_str c1 t1 c2 t2
  |tup q2 r2 v2 f9=>exact RcAt.str_tuple c1 t1 f9 hu
  |lst q2 r2 v2 f9=>exact RcAt.str_list c1 t1 f9 hu
 | @tup l p xs b6 q r v1 pl=>
  cases h2 with
  |non=>exact RcAt.tuple_none pl hu
  |bl c2=>exact RcAt.tuple_bool c2 pl hu
  |int c2 t2=>exact RcAt.tuple_int c2 t2 pl hu
  |str c2 t2=>exact RcAt.tuple_str c2 t2 pl hu
  | @tup m p2 ys b9 q2 r2 v2 f9=>
   have hl:D.depL l+1<=n:=by rw[D.dep] at hn;exact hn
   have hm:D.depL m<20000:=by rw[D.dep] at n4;lia
   have e1:=v1.length;have e2:=v2.length;have e3:=r.length;have e4:=r2.length;have z:=RcAt.tuples pl f9 hu (items l m xs ys b6 b9 _ _ hl hm r r2 v1 v2);simp only[gr] at z;rw[show b6.length=l.length by lia,show b9.length=m.length by lia,la] at z;rw[D.eqb];exact z
  |lst q2 r2 v2 f9=>exact RcAt.tuple_list pl f9 hu
 | @lst l p xs b6 q r v1 pl=>
  cases h2 with
  |non=>exact RcAt.list_none pl hu
  |bl c2=>exact RcAt.list_bool c2 pl hu
  |int c2 t2=>exact RcAt.list_int c2 t2 pl hu
  |str c2 t2=>exact RcAt.list_str c2 t2 pl hu
  |tup q2 r2 v2 f9=>exact RcAt.list_tuple pl f9 hu
  | @lst m p2 ys b9 q2 r2 v2 f9=>
   have hl:D.depL l+1<=n:=by rw[D.dep] at hn;exact hn
   have hm:D.depL m<20000:=by rw[D.dep] at n4;lia
   have e1:=v1.length;have e2:=v2.length;have e3:=r.length;have e4:=r2.length;have al:=la l m;by_cases hlen:l.length=m.length
   ·have z:=RcAt.lists pl f9 (by simp only[gr];lia) hu (items l m xs ys b6 b9 _ _ hl hm r r2 v1 v2);simp only[gr] at z;rw[show b6.length=min l.length m.length by lia] at z;rw[D.eqb,<-al,hlen];rw[hlen] at z;simpa using z
   ·have z:=RcAt.lists_lengths pl f9 (by simp only[gr,bne_iff_ne,ne_eq];lia) hu;rw[D.eqb,<-al];rw[show(l.length==m.length)=false by simpa using hlen];simpa using z
theorem IH(I:Inv X pins σ H s)(hd:ip X.K H O d v)(he:ip X.K H O' e u)(ra:RelV v a)(rb:RelV u b)(hn:d.dep<=n)(n4:e.dep<20000)(hA:A.units+n<cLine):RcNeAt A s a b (!D.eqb d e):=by
 have hu:A.units<cLine:=by lia
 have items:=Cu I hA;have l9:cLine=9900:=rfl;have h1:=qk I hd ra (by lia);have h2:=qk I he rb n4
 cases h1 with
 |non=>
  cases h2 with
  |non=>exact RcNeAt.none_none
  |bl c2=>exact RcNeAt.none_bool c2
  |int c2 t2=>exact RcNeAt.none_int c2 t2
  |str c2 t2=>exact RcNeAt.none_str c2 t2
  |tup q2 r2 v2 f9=>exact RcNeAt.none_tuple f9 hu
  |lst q2 r2 v2 f9=>exact RcNeAt.none_list f9 hu
 |bl c1=>
  cases h2 with
  |non=>exact RcNeAt.bool_none c1
  |bl c2=>exact RcNeAt.bool_bool c1 c2
  |int c2 t2=>exact RcNeAt.bool_int c1 c2 t2
  |str c2 t2=>exact RcNeAt.bool_str c1 c2 t2
  |tup q2 r2 v2 f9=>exact RcNeAt.bool_tuple c1 f9 hu
  |lst q2 r2 v2 f9=>exact RcNeAt.bool_list c1 f9 hu
 |int c1 t1=>
  cases h2 with
  |non=>exact RcNeAt.int_none c1 t1
  |bl c2=>exact RcNeAt.int_bool c1 t1 c2
  |int c2 t2=>exact RcNeAt.int_int c1 t1 c2 t2
  |str c2 t2=>exact RcNeAt.int_str c1 t1 c2 t2
  |tup q2 r2 v2 f9=>exact RcNeAt.int_tuple c1 t1 f9 hu
  |lst q2 r2 v2 f9=>exact RcNeAt.int_list c1 t1 f9 hu
 |str c1 t1=>
  cases h2 with
  |non=>exact RcNeAt.str_none c1 t1
  |bl c2=>exact RcNeAt.str_bool c1 t1 c2
  |int c2 t2=>exact RcNeAt.str_int c1 t1 c2 t2
  |str c2 t2=>exact RcNeAt.str_str c1 t1 c2 t2
  |tup q2 r2 v2 f9=>exact RcNeAt.str_tuple c1 t1 f9 hu
  |lst q2 r2 v2 f9=>exact RcNeAt.str_list c1 t1 f9 hu
 | @tup l p xs b6 q r v1 pl=>
  cases h2 with
  |non=>exact RcNeAt.tuple_none pl hu
  |bl c2=>exact RcNeAt.tuple_bool c2 pl hu
  |int c2 t2=>exact RcNeAt.tuple_int c2 t2 pl hu
  |str c2 t2=>exact RcNeAt.tuple_str c2 t2 pl hu
  | @tup m p2 ys b9 q2 r2 v2 f9=>
   have hl:D.depL l+1<=n:=by rw[D.dep] at hn;exact hn
   have hm:D.depL m<20000:=by rw[D.dep] at n4;lia
   have e1:=v1.length;have e2:=v2.length;have e3:=r.length;have e4:=r2.length;have z:=RcNeAt.tuples pl f9 hu (items l m xs ys b6 b9 _ _ hl hm r r2 v1 v2);simp only[gr] at z;rw[show b6.length=l.length by lia,show b9.length=m.length by lia,la] at z;rw[D.eqb];exact z
  |lst q2 r2 v2 f9=>exact RcNeAt.tuple_list pl f9 hu
 | @lst l p xs b6 q r v1 pl=>
  cases h2 with
  |non=>exact RcNeAt.list_none pl hu
  |bl c2=>exact RcNeAt.list_bool c2 pl hu
  |int c2 t2=>exact RcNeAt.list_int c2 t2 pl hu
  |str c2 t2=>exact RcNeAt.list_str c2 t2 pl hu
  |tup q2 r2 v2 f9=>exact RcNeAt.list_tuple pl f9 hu
  | @lst m p2 ys b9 q2 r2 v2 f9=>
   have hl:D.depL l+1<=n:=by rw[D.dep] at hn;exact hn
   have hm:D.depL m<20000:=by rw[D.dep] at n4;lia
   have e1:=v1.length;have e2:=v2.length;have e3:=r.length;have e4:=r2.length;have al:=la l m;by_cases hlen:l.length=m.length
   ·have z:=RcNeAt.lists pl f9 (by simp only[gr];lia) hu (items l m xs ys b6 b9 _ _ hl hm r r2 v1 v2);simp only[gr] at z;rw[show b6.length=min l.length m.length by lia] at z;rw[D.eqb,<-al,hlen];rw[hlen] at z;simpa using z
   ·have z:=RcNeAt.lists_lengths pl f9 (by simp only[gr,bne_iff_ne,ne_eq];lia) hu;rw[D.eqb,<-al];rw[show(l.length==m.length)=false by simpa using hlen];simpa using z
theorem Pb(hu:X.A.units+60<cLine):OpR X (compareOp .Eq) (fun x y H Q=> ∃O d e,ip X.K H O d x/\ip X.K H O e y/\(d.dep<=50/\e.dep<=50)/\Q (.bl (D.eqb d e)) H):=by
 intro pins s σ H x y v u Q I rx ry h;obtain⟨O,d,e,h1,h2,h3,q⟩:=h;exact N5 (A:=X.A) I h1 h2 rx ry h3.1 (by lia) (by lia) _ _ _ _ ⟨.bl _,H,I,rfl,q⟩
theorem OY(hu:X.A.units+60<cLine):OpR X (compareOp .NotEq) (fun x y H Q=> ∃O d e,ip X.K H O d x/\ip X.K H O e y/\(d.dep<=50/\e.dep<=50)/\Q (.bl (!D.eqb d e)) H):=by
 intro pins s σ H x y v u Q I rx ry h;obtain⟨O,d,e,h1,h2,h3,q⟩:=h;exact IH (A:=X.A) I h1 h2 rx ry h3.1 (by lia) (by lia) _ _ _ _ ⟨.bl _,H,I,rfl,q⟩
end
theorem fU{α:Type}{c:Prop}[Decidable c]{a b:α}(h:(if c then some a else none)=some b):c/\a=b:=by
 split at h
 ·rename_i hc;exact⟨hc,iz h⟩
 ·cases h
section
variable {X:Cx}{pins:gc}{σ:L2.St}{H:Hp}{s:eZ}
theorem Kd(I:Inv X pins σ H s){A:fQ}{l:List D}{xs:List V}{b6:gH}{O O':AP'}{dx:D}{vx:V}{x:fI}(r:RepL X.K H O l xs)(v:Vals xs b6)(hx:ip X.K H O' dx vx)(rx:RelV vx x)(hn:D.depL l<=50)(hxn:dx.dep<=50)(hA:A.units+60<cLine):
  ∃e:Value->Bool,(∀y∈b6,EqAt A.in1 s y x (e y))/\b6.any e=l.any fun d=>D.eqb d dx:=by
 let e:Value->Bool:=fun y=>match(b6.zip l).find? (fun p=>p.1==y) with
  |some p=>D.eqb p.2 dx
  |none=>false
 have e1:=v.length;have e3:=r.length
 have key: ∀(j:Nat) (hj:j<b6.length) (hl:j<l.length),e b6[j]=D.eqb l[j] dx:=fun j hj hl=>by
  show(match(b6.zip l).find? (fun p=>p.1==b6[j]) with|some p=>D.eqb p.2 dx|none=>false)=_
  cases hf:(b6.zip l).find? (fun p=>p.1==b6[j]) with
  |none=>
   have:=List.find?_eq_none.mp hf (b6[j],l[j]) (by
    have:(b6.zip l)[j]?=some (b6[j],l[j]):=by simp[CJ,ir hj,ir hl]
    exact lG this)
   simp at this
  |some p=>
   have hp:=List.find?_some hf;have hm:=List.mem_of_find?_eq_some hf;obtain⟨i,hi⟩:=tu hm;obtain⟨p1,p2⟩:=p;rw[CJ] at hi;have bt:p1=b6[j]:=qR hp;obtain⟨h1,h2⟩:=hi;have hi2:i<xs.length:=by have:=(sN.mp h1).1;lia
   obtain⟨w,w1,w2⟩:=v.get (ir hi2);have dw:j<xs.length:=by lia
   obtain⟨w',w3,w4⟩:=v.get (ir dw);rw[h1] at w1;cases w1;rw[ir hj] at w3;cases w3;subst bt;have hv:=w2.inj w4;have a1:=r.views h2 (ir hi2);have a2:=r.views (ir hl) (ir dw);rw[hv] at a1;have eA:=D.dep_mem h2;have:=Rep.inj I (by lia) a1 a2;exact lH (fun z=>D.eqb z dx) this
 refine⟨e,fun y hy=>?_,?_⟩
 ·obtain⟨j,hj⟩:=tu hy;have hj1:=(sN.mp hj).1;have dw:=(sN.mp hj).2;have hl:j<l.length:=by lia
  have hx2:j<xs.length:=by lia
  obtain⟨w,w1,w2⟩:=v.get (ir hx2);rw[hj] at w1;cases w1;have hk:=key j hj1 hl;rw[dw] at hk;rw[hk];have hd:=D.dep_mem (ir hl);exact yn I 50 _ _ _ _ _ _ O O' A.in1 (.inl (r.views (ir hl) (ir hx2))) hx w2 rx (by lia) (by lia) (by show A.units+1+50<cLine;lia)
 ·have:b6.map e=l.map fun d=>D.eqb d dx:=by
   apply Di
   ·simp;lia
   ·intro j h1 h2;simp only[gW] at h1 h2;simp only[List.getElem_map];exact key j h1 h2
  have h3:b6.any e=(b6.map e).any id:=by rw[An];rfl
  have h4:(l.any fun d=>D.eqb d dx)=(l.map fun d=>D.eqb d dx).any id:=by rw[An];rfl
  rw[h3,h4,this]
noncomputable def inD(x:D):D->Option Bool
 | .tup l=>if D.depL l<=50/\x.dep<=50 then some (l.any fun d=>D.eqb d x) else none
 | .lst l=>if D.depL l<=50/\x.dep<=50 then some (l.any fun d=>D.eqb d x) else none
 |_=>none
theorem Gs(hu:X.A.units+60<cLine):OpR X (compareOp .NotIn) (fun x y H Q=> ∃O d e b,ip X.K H O d x/\ip X.K H O e y/\inD d e=some b/\Q (.bl (!b)) H):=by
 intro pins s σ H x y v u Q I rx ry h;obtain⟨O,d,e,b,h1,h2,h3,q⟩:=h
 cases e with
 |tup l=>
  obtain⟨hn,rfl⟩:=fU h3
  ·skip
   obtain⟨a,xs,rfl,hq,r⟩:=jm h2;cases ry;obtain⟨b6,v1,pl,_⟩:=I.tuple hq;obtain⟨e,he,ha⟩:=Kd (A:=X.A) I r v1 h1 rx hn.1 hn.2 hu;refine notIn_tupleAt e pl (fun w hw=>he w (by simpa using hw)) ⟨.bl _,H,I,rfl,?_⟩;rw[show b6.toArray.any e=b6.any e by simp,ha];exact q
 |lst l=>
  obtain⟨hn,rfl⟩:=fU h3
  ·skip
   obtain⟨a,xs,rfl,hq,r⟩:=jf h2;cases ry;obtain⟨b6,v1,pl,_⟩:=I.list hq;obtain⟨e,he,ha⟩:=Kd (A:=X.A) I r v1 h1 rx hn.1 hn.2 hu;refine notIn_listAt e pl.isList (fun w hw=>he w (by simpa using hw)) ⟨.bl _,H,I,rfl,?_⟩;rw[show b6.toArray.any e=b6.any e by simp,ha];exact q
 |_=>cases h3
end
def rD1(K:fO)(g:D->Option (D×Bool)):V->Hp->VK->Prop:=fun x H Q=> ∃(O:AP') (d:D) (z:D×Bool),(∀p,¬Ow (H p)-> ¬O p)/\ip K H O d x/\g d=some z/\Gen K H O z Q
def rD(K:fO)(g:D->D->Option (D×Bool)):R2:=fun x y H Q=> ∃(O:AP') (d e:D) (z:D×Bool),(∀p,¬Ow (H p)-> ¬O p)/\ip K H O d x/\ip K H O e y/\g d e=some z/\Gen K H O z Q
def rDn(K:fO)(g:List D->Option (D×Bool)):List V->Hp->VK->Prop:=fun vs H Q=> ∃(O:AP') (ds:List D) (z:D×Bool),(∀p,¬Ow (H p)-> ¬O p)/\ds.length=vs.length/\(∀(j:Nat) d v,ds[j]?=some d->vs[j]?=some v->ip K H O d v)/\g ds=some z/\Gen K H O z Q
section
variable {X:Cx}{e a b:fw}{fa fb:FO}{fs:List FO}{pos:Pos}
theorem px1(h:PE X e (tUn (rD1 X.K g) (tO X.K fa))):PX X e (gB g fa):=Oj h fun x z v H O Q np hx hg G=>⟨O,x,z,np,hx,hg,G⟩
theorem px2(h:PE X e (tOp (rD X.K g) (tO X.K fa) (tO X.K fb))):PX X e (fD g fa fb):=Oi h fun x y z v u H O Q np hx hy hg G=>⟨O,x,y,z,np,hx,hy,hg,G⟩
theorem pxn(h:PE X e (tCB (rDn X.K g) (tA X.K fs))):PX X e (fE g fs):=LN h fun ds z vs H O Q np hl hv hg G=>⟨O,ds,z,np,hl,hv,hg,G⟩
theorem gb{K H}{O:AP'}{i:Int}{v:V}(h:ip K H O (.int i) v):v= .int i:=h.elim (fun h=>h.int) fun⟨_,_,h⟩=>h.elim
theorem AA{K H}(h:ip K H O (.bl i) v):v= .bl i:=h.elim (fun h=>h.bl) fun⟨_,_,h⟩=>h.elim
theorem nG{K H}(h:ip K H O (.str i) v):v= .str i:=h.elim (fun h=>h.str) fun⟨_,_,h⟩=>h.elim
theorem Bz{K H}(h:ip K H O .non v):v= .non:=h.elim (fun h=>h.non) fun⟨_,_,h⟩=>h.elim
theorem Gen.str{K H}(g:Gen K H O (.str i,false) Q):Q (.str i) H:=g _ H (fun _ _ e=>e) Rep.mkStr
noncomputable def gI(f:Int->Int->Option D):D->D->Option (D×Bool)
 | .int i,.int j=>(f i j).map fun z=>(z,false)
 |_,_=>none
theorem wo{f:Int->Int->Option D}{d e:D}{z:D×Bool}(h:gI f d e=some z): ∃i j y,d= .int i/\e= .int j/\f i j=some y/\z=(y,false):=by
 cases d with
 |int i=>
  cases e with
  |int j=>
   cases hf:f i j with
   |none=>simp only[gI,hf] at h;cases h
   |some y=>simp only[gI,hf] at h;cases h;exact⟨i,j,y,rfl,rfl,hf,rfl⟩
  |_=>cases h
 |_=>cases h
theorem wk{f:vE}{C:Int->Int->Prop}[∀i j,Decidable (C i j)]{g:Int->Int->Int}(ho:OpR X f (rI C fun i j=> .int (g i j))):OpR X f (rD X.K (gI fun i j=>if C i j then some (.int (g i j)) else none)):=by
 intro pins s σ H x y v u Q I rx ry h;obtain⟨O,d,e,z,np,h1,h2,hg,G⟩:=h;obtain⟨i,j,w,rfl,rfl,hf,rfl⟩:=wo hg;obtain⟨hc,rfl⟩:=fU hf;exact ho pins s σ H x y v u Q I rx ry ⟨i,j,gb h1,gb h2,hc,G.int⟩
theorem JC{f:vE}{g:Int->Int->Int}(ho:OpR X f (rI0 fun i j=> .int (g i j))):OpR X f (rD X.K (gI fun i j=>some (.int (g i j)))):=by
 intro pins s σ H x y v u Q I rx ry h;obtain⟨O,d,e,z,np,h1,h2,hg,G⟩:=h;obtain⟨i,j,w,rfl,rfl,hf,rfl⟩:=wo hg;cases hf;exact ho pins s σ H x y v u Q I rx ry ⟨i,j,gb h1,gb h2,G.int⟩
instance(i j:Int):Decidable (CMul i j):=by unfold CMul;exact inferInstance
instance(i j:Int):Decidable (G3 i j):=by unfold G3;exact inferInstance
instance(i j:Int):Decidable (Bu i j):=by unfold Bu;exact inferInstance
noncomputable def gSub:=gI fun i j=>some (.int (i-j))
noncomputable def oS:=gI fun i j=>if CMul i j then some (.int (i*j)) else none
noncomputable def Kk:=gI fun i j=>if G3 i j then some (.int (i / j)) else none
noncomputable def uk:=gI fun i j=>if 0<j then some (.int (i%j)) else none
noncomputable def GK:=gI fun i j=>if Bu i j then some (.int (i^j.toNat)) else none
theorem AS:OpR X (binaryOp .Sub) (rD X.K gSub):=JC OW
theorem mJ:OpR X (binaryOp .Mult) (rD X.K oS):=wk OZ
theorem E8:OpR X (binaryOp .FloorDiv) (rD X.K Kk):=wk Mk
theorem nY:OpR X (binaryOp .Mod) (rD X.K uk):=wk Pa
theorem E7:OpR X (binaryOp .Pow) (rD X.K GK):=wk OX
noncomputable def jc:D->D->Option (D×Bool)
 | .int i,.int j=>some (.int (i+j),false)
 | .str i,.str j=>if i.length+j.length<=sizeLine then some (.str (i++j),false) else none
 | .tup l,.tup m=>if l.length+m.length<=sizeLine then some (.tup (l++m),false) else none
 | .lst l,.lst m=>if l.length+m.length<=sizeLine then some (.lst (l++m),true) else none
 |_,_=>none
theorem iG:OpR X (binaryOp .Add) (rD X.K jc):=by
 intro pins s σ H x y v u Q I rx ry h;obtain⟨O,d,e,z,np,h1,h2,hg,G⟩:=h
 cases d with
 |int i=>
  cases e with
  |int j=>cases hg;exact Pc pins s σ H x y v u Q I rx ry ⟨i,j,gb h1,gb h2,G.int⟩
  |_=>cases hg
 |str i=>
  cases e with
  |str j=>
   obtain⟨hc,rfl⟩:=fU hg;exact D1 pins s σ H x y v u Q I rx ry ⟨i,j,nG h1,nG h2,hc,G.str⟩
  |_=>cases hg
 |tup l=>
  cases e with
  |tup m=>
   obtain⟨hc,rfl⟩:=fU hg;have k1:Rep X.K H O (.tup l) x:=h1.elim id fun⟨_,_,z⟩=>z.elim;have k2:Rep X.K H O (.tup m) y:=h2.elim id fun⟨_,_,z⟩=>z.elim;obtain⟨p1,xs,rfl,q1,r1⟩:=k1.tup;obtain⟨p2,ys,rfl,q2,r2⟩:=k2.tup;have l1:=r1.length;have l2:=r2.length;by_cases hx:xs=[]
   ·subst hx;have:l=[]:=by simpa using l1.symm
    subst this;cases rx;cases ry;obtain⟨b6,v1,dJ,_⟩:=I.tuple q1.sq;obtain⟨b9,v2,f9,_⟩:=I.tuple q2.sq;have e1:b6=[]:=by have:=v1.length;simpa using this.symm
    subst e1;obtain⟨⟨cls,dd,data,sl⟩,ho,l9,n,hd⟩:=id dJ;obtain⟨⟨bP,o9,data2,n8⟩,m8,k5,n2,hd2⟩:=id f9;simp only at l9 hd k5 hd2;subst l9 hd k5 hd2
    refine Ar ⟨_,ho,rfl⟩ ⟨_,m8,rfl⟩ Dt Ds Dr Dq (Dp _ _)
     (tuple_addW0 p1 p2 #[] b9.toArray n n2 dd o9 sl n8 (by simp)) ⟨ho,m8,⟨.ref p2,H,I,rfl,?_⟩⟩
    exact G _ H (fun _ _ e=>e) (by simpa using k2)
   ·refine Ml pins s σ H _ _ v u Q I rx ry ⟨p1,p2,xs,ys,rfl,rfl,q1.sq,q2.sq,hx,by lia,fun hy=>?_,fun hy p hp=>?_⟩
    ·subst hy;have:m=[]:=by simpa using l2.symm
     subst this;exact G _ H (fun _ _ e=>e) (by simpa using k1)
    ·exact G.tup hp (np p (nOw hp)) (r1.append r2)
  |_=>cases hg
 |lst l=>
  cases e with
  |lst m=>
   obtain⟨hc,rfl⟩:=fU hg;obtain⟨p1,xs,rfl,q1,r1⟩:=jf h1;obtain⟨p2,ys,rfl,q2,r2⟩:=jf h2;have l1:=r1.length;have l2:=r2.length;cases rx;cases ry;obtain⟨b6,v1,dJ,_⟩:=I.list q1;obtain⟨b9,v2,f9,_⟩:=I.list q2;have e1:=v1.length;have e2:=v2.length;obtain⟨⟨cls,dd,data,sl⟩,ho,l9,n,hd⟩:=id dJ.isList;obtain⟨⟨bP,o9,data2,n8⟩,m8,k5,n2,hd2⟩:=id f9.isList;simp only at l9 hd k5 hd2;subst l9 hd k5 hd2
   refine Ar ⟨_,ho,rfl⟩ ⟨_,m8,rfl⟩ noFill_list_add seq_list_add PySem.F.slot_list_add PySem.F.entry_list_add (PySem.F.args_list_add_2 _ _)
    (list_addW p1 p2 b6.toArray b9.toArray n n2 dd o9 sl n8 (by simp only[gr];lia)) ⟨ho,m8,?_⟩
   rw[show b6.toArray++b9.toArray=(b6++b9).toArray by simp];exact⟨.ref _,_,I.lnew (t':=s.toks) (v1.append v2) (by rw[lr];lia),rfl,G.lst I.fresh (r1.append r2)⟩
  |_=>cases hg
 |_=>cases hg
noncomputable def gEq(d e:D):Option (D×Bool):=if d.dep<=50/\e.dep<=50 then some (.bl (D.eqb d e),false) else none
noncomputable def gNe(d e:D):Option (D×Bool):=if d.dep<=50/\e.dep<=50 then some (.bl (!D.eqb d e),false) else none
noncomputable def vz(d e:D):Option (D×Bool):=(inD d e).map fun b=>(.bl (!b),false)
theorem kc(hu:X.A.units+60<cLine):OpR X (compareOp .Eq) (rD X.K gEq):=by
 intro pins s σ H x y v u Q I rx ry h;obtain⟨O,d,e,z,np,h1,h2,hg,G⟩:=h;obtain⟨hc,rfl⟩:=fU hg;exact Pb hu pins s σ H x y v u Q I rx ry ⟨O,d,e,h1,h2,hc,G.bl⟩
theorem xt(hu:X.A.units+60<cLine):OpR X (compareOp .NotEq) (rD X.K gNe):=by
 intro pins s σ H x y v u Q I rx ry h;obtain⟨O,d,e,z,np,h1,h2,hg,G⟩:=h;obtain⟨hc,rfl⟩:=fU hg;exact OY hu pins s σ H x y v u Q I rx ry ⟨O,d,e,h1,h2,hc,G.bl⟩
theorem gZ{α β:Type}{x:Option α}{f:α->β}{b:β}(h:x.map f=some b): ∃a,x=some a/\f a=b:=by
 cases x with
 |none=>cases h
 |some a=>exact⟨a,rfl,iz h⟩
theorem Gr(hu:X.A.units+60<cLine):OpR X (compareOp .NotIn) (rD X.K vz):=by
 intro pins s σ H x y v u Q I rx ry h;obtain⟨O,d,e,z,np,h1,h2,hg,G⟩:=h;obtain⟨b,hb,rfl⟩:=gZ hg;exact Gs hu pins s σ H x y v u Q I rx ry ⟨O,d,e,b,h1,h2,hb,G.bl⟩
noncomputable def su:D->Option (D×Bool)
 | .int i=>some (.int (-i),false)
 |_=>none
theorem Lg:UnR X (unaryOp .USub) (rD1 X.K su):=by
 intro pins s σ H x v Q I rx h;obtain⟨O,d,z,np,h1,hg,G⟩:=h
 cases d with
 |int i=>cases hg;exact NH pins s σ H x v Q I rx ⟨i,gb h1,G.int⟩
 |_=>cases hg
noncomputable def gIx:D->D->Option (D×Bool)
 | .tup l,.int i=>(atI l i).map fun d=>(d,false)
 | .lst l,.int i=>(atI l i).map fun d=>(d,false)
 |_,_=>none
theorem FG{K H}{O:AP'}{l:List D}{xs:List V}{i:Int}{d:D}(r:RepL K H O l xs)(h:atI l i=some d): ∃v,atI xs i=some v/\Rep K H O d v:=by
 unfold atI at h ⊢;rw[r.length];obtain⟨j,h1,h2⟩:=eU h;rw[h1];exact r.get h2
theorem Nm:IxR X (rD X.K gIx):=by
 intro value slice pins s σ H x y v u Q I rx ry h hs;obtain⟨O,d,e,z,np,h1,h2,hg,G⟩:=h
 cases d with
 |tup l=>
  cases e with
  |int i=>
   obtain⟨w,hw,rfl⟩:=gZ hg;obtain⟨p,xs,rfl,q,r⟩:=jm h1;obtain⟨vv,hv,hr⟩:=FG r hw;exact Pk value slice pins s σ H _ _ v u Q I rx ry ⟨p,xs,i,vv,rfl,gb h2,q,hv,G _ H (fun _ _ e=>e) hr⟩ hs
  |_=>cases hg
 |lst l=>
  cases e with
  |int i=>
   obtain⟨w,hw,rfl⟩:=gZ hg;obtain⟨p,xs,rfl,q,r⟩:=jf h1;obtain⟨vv,hv,hr⟩:=FG r hw;exact MC value slice pins s σ H _ _ v u Q I rx ry ⟨p,xs,i,vv,rfl,gb h2,q,hv,G _ H (fun _ _ e=>e) hr⟩ hs
  |_=>cases hg
 |_=>cases hg
theorem Ox(ho:OpR X (binaryOp op) (rD X.K g))(ha:PO X a fa)(hb:PO X b fb):PX X (.BinOp a op b pos) (fD g fa fb):=px2 (Rg ho ha hb)
theorem Ov{op:CmpOp}{g:D->D->Option (D×Bool)}(ho:OpR X (compareOp op) (rD X.K g))(ha:PO X a fa)(hb:PO X b fb)(hm:behindInMarks op b=false):PX X (.Compare a [op] [b] pos) (fD g fa fb):=px2 (Md ho ha hb hm)
theorem Oo(ha:PO X a fa):PX X (.UnaryOp .USub a pos) (gB su fa):=px1 (Rf Lg ha)
theorem Q7(ha:PO X a fa)(hb:PO X b fb)(hs:uG b):PX X (.Subscript a b pos) (fD gIx fa fb):=px2 (Nj Nm ha hb hs)
end
noncomputable def lC:List Opd->Option (List D)
 |[]=>some []
 | .val r::os=>(lC os).map (r.1:: ·)
 | .slot _::_=>none
noncomputable def jB(fs:List F):F:=fun δ=>(hC (fs.map eW) δ).bind fun p=>(lC p.1).bind fun ds=>if ds.length<=sizeLine then some ((.tup ds,false),p.2) else none
noncomputable def jx(fs:List F):F:=fun δ=>(hC (fs.map eW) δ).bind fun p=>(lC p.1).bind fun ds=>if ds.length<=sizeLine then some ((.lst ds,true),p.2) else none
section
variable {K:fO}{T T':AP'}{σ:L2.St}{δ δ':Dn}{H H':Hp}{os:List Opd}{vs:List V}
theorem Ops.rep(E:ER K H T σ δ)(B:Ops K T σ δ H os vs δ' H' T'){j:Nat}{r:D×Bool}{v:V}(h1:os[j]?=some (.val r))(h2:vs[j]?=some v):Rep K H' (fun a=>OwnA σ δ' a\/T a) r.1 v:=by
 obtain⟨d,b⟩:=r
 cases b with
 |false=>exact B.val j d v h1 h2
 |true=>
  obtain⟨p,rfl,tp,hp,ok⟩:=B.tmp j d v h1 h2;refine ok.rep (fun z=>?_) fun b _ z=>z;rcases z with z|z
  ·exact B.er.nT p z tp
  ·exact(E.dom p z).ne hp
theorem rR{O:AP'}: ∀{os:List Opd} {vs:List V} {ds:List D},lC os=some ds->os.length=vs.length->(∀(j:Nat) (r:D×Bool) (v:V),os[j]?=some (.val r)->vs[j]?=some v->Rep K H' O r.1 v)->RepL K H' O ds vs
 |[],vs,ds,h,hl,_=>by
  cases h;have:vs=[]:=by simpa using hl.symm
  subst this;exact RepL.nil
 | .slot i::os,vs,ds,h,_,_=>by cases h
 | .val r::os,vs,ds,h,hl,k=>by
  obtain⟨l,h1,rfl⟩:=gZ h
  cases vs with
  |nil=>simp at hl
  |cons v vs=>exact RepL.cons (k 0 r v rfl rfl) (rR h1 (by simpa using hl) fun j r' v' a b=>k (j+1) r' v' (by simpa using a) (by simpa using b))
end
section
variable {X:Cx}{e a b:fw}{es:hW}{fa fb:FO}{fs:List F}{pos:Pos}
theorem Oe{x1}(h:PA X es (tA X.K (fs.map eW))):PX X (.Tuple es x1 pos) (jB fs):=PX.imp (Jq h) fun σ H Q hw=>by
 obtain⟨δ,T,rr,δ',E,e,k⟩:=hw;obtain⟨⟨os,δ1⟩,h1,e⟩:=eU e;obtain⟨ds,h2,e⟩:=eU e;obtain⟨hn,e⟩:=fU e;obtain⟨rfl,rfl⟩:=tq e;refine⟨δ,T,os,δ1,E,h1,fun vs H1 T1 B=>?_⟩;have r:=rR h2 B.len fun j r v a b=>B.rep E a b;exact⟨by rw[r.length];exact hn,fun p hp=>(B.done k).tup hp (B.np (nOw hp)) r⟩
theorem Oq(h:PA X es (tA X.K (fs.map eW))):PX X (.List es pos) (jx fs):=PX.imp (OT h) fun σ H Q hw=>by
 obtain⟨δ,T,rr,δ',E,e,k⟩:=hw;obtain⟨⟨os,δ1⟩,h1,e⟩:=eU e;obtain⟨ds,h2,e⟩:=eU e;obtain⟨hn,e⟩:=fU e;obtain⟨rfl,rfl⟩:=tq e;refine⟨δ,T,os,δ1,E,h1,fun vs H1 T1 B=>?_⟩;have r:=rR h2 B.len fun j r v a b=>B.rep E a b;exact⟨by rw[r.length];exact hn,fun p hp=>(B.done k).lst hp r⟩
theorem Mp{ds:List D}{vs:List V}{d:D}(hl:ds.length=vs.length)(hd:ds=[d]): ∃v,vs=[v]:=by
 subst hd
 cases vs with
 |nil=>simp at hl
 |cons v r=>
  cases r with
  |nil=>exact⟨v,rfl⟩
  |cons _ _=>simp at hl
noncomputable def g1(g:D->Option (D×Bool)):List D->Option (D×Bool)
 |[d]=>g d
 |_=>none
noncomputable def g2(g:D->D->Option (D×Bool)):List D->Option (D×Bool)
 |[d,e]=>g d e
 |_=>none
theorem mw{f:fI}{g:D->Option (D×Bool)}(h: ∀(pins:gc) (s:eZ) (σ:L2.St) (H:Hp) (x:V) (u:fI) (Q:VK) (O:AP') (d:D) (z:D×Bool),Inv X pins σ H s->RelV x u->(∀p,¬Ow (H p)-> ¬O p)->ip X.K H O d x->g d=some z->Gen X.K H O z Q->
  wpAny (model X.prog X.w) X.A (call f [u]) (EP X pins σ Q) X.xe s):hX X f (rDn X.K (g1 g)):=by
 intro pins s σ H xs us Q I r hq;obtain⟨O,ds,z,np,hl,hv,hg,G⟩:=hq
 match ds,hg with
 |[d],hg=>
  obtain⟨v,rfl⟩:=Mp hl rfl;obtain⟨u,rfl,ru⟩:=lJ r;exact h pins s σ H v u Q O d z I ru np (hv 0 d v rfl rfl) hg G
theorem KC{f:fI}{g:D->D->Option (D×Bool)}(h: ∀(pins:gc) (s:eZ) (σ:L2.St) (H:Hp) (x y:V) (us:gH) (Q:VK) (O:AP') (d e:D) (z:D×Bool),Inv X pins σ H s->Vals [x,y] us->(∀p,¬Ow (H p)-> ¬O p)->ip X.K H O d x->ip X.K H O e y->g d e=some z->Gen X.K H O z Q->
  wpAny (model X.prog X.w) X.A (call f us) (EP X pins σ Q) X.xe s):hX X f (rDn X.K (g2 g)):=by
 intro pins s σ H xs us Q I r hq;obtain⟨O,ds,z,np,hl,hv,hg,G⟩:=hq;rcases ds with _|⟨d,_|⟨e,_|⟨_,_⟩⟩⟩<;>try cases hg
 rcases xs with _|⟨x,_|⟨y,_|⟨_,_⟩⟩⟩<;>try cases hl
 exact h pins s σ H x y us Q O d e z I r np (hv 0 d x rfl rfl) (hv 1 e y rfl rfl) hg G
noncomputable def ly:D->Option (D×Bool)
 | .tup l=>some (.int l.length,false)
 | .lst l=>some (.int l.length,false)
 |_=>none
theorem iO:hX X (.builtin "len") (rDn X.K (g1 ly)):=mw fun pins s σ H x u Q O d z I ru np hd hg G=>by
 cases d with
 |tup l=>
  cases hg;obtain⟨p,xs,rfl,q,r⟩:=jm hd;refine uy pins s σ H [_] [u] Q I (.cons ru .nil) ⟨p,xs,rfl,.inr q,?_⟩;rw[r.length];exact G.int
 |lst l=>
  cases hg;obtain⟨p,xs,rfl,q,r⟩:=jf hd;refine uy pins s σ H [_] [u] Q I (.cons ru .nil) ⟨p,xs,rfl,.inl q,?_⟩;rw[r.length];exact G.int
 |_=>cases hg
noncomputable def om:D->Option (D×Bool)
 | .int i=>some (.int (if i<0 then -i else i),false)
 |_=>none
theorem lT:hX X (.builtin "abs") (rDn X.K (g1 om)):=mw fun pins s σ H x u Q O d z I ru np hd hg G=>by
 cases d with
 |int i=>cases hg;exact KD pins s σ H [x] [u] Q I (.cons ru .nil) ⟨i,by rw[gb hd],G.int⟩
 |_=>cases hg
noncomputable def MH:D->Option (D×Bool)
 | .int i=>some (.int i,false)
 | .bl b=>some (.int (if b then 1 else 0),false)
 |_=>none
theorem GY:hX X (.type "int") (rDn X.K (g1 MH)):=mw fun pins s σ H x u Q O d z I ru np hd hg G=>by
 cases d with
 |int i=>cases hg;exact zI pins s σ H [x] [u] Q I (.cons ru .nil) (.inl ⟨i,by rw[gb hd],G.int⟩)
 |bl i=>
  cases hg;refine zI pins s σ H [x] [u] Q I (.cons ru .nil) (.inr ⟨i,by rw[AA hd],?_⟩);have:=G.int;cases i<;>exact this
 |_=>cases hg
noncomputable def jj:D->Option (D×Bool)
 | .tup l=>some (.tup l,false)
 | .lst l=>some (.tup l,false)
 |_=>none
theorem ji:hX X (.type "tuple") (rDn X.K (g1 jj)):=mw fun pins s σ H x u Q O d z I ru np hd hg G=>by
 cases d with
 |tup l=>
  cases hg;have k1:Rep X.K H O (.tup l) x:=hd.elim id fun⟨_,_,z⟩=>z.elim;obtain⟨p,xs,rfl,q,r⟩:=k1.tup;exact rq pins s σ H [_] [u] Q I (.cons ru .nil) ⟨p,xs,rfl,.inr ⟨q.sq,G _ H (fun _ _ e=>e) k1⟩⟩
 |lst l=>
  cases hg;obtain⟨p,xs,rfl,q,r⟩:=jf hd;exact rq pins s σ H [_] [u] Q I (.cons ru .nil) ⟨p,xs,rfl,.inl ⟨q,fun t ht=>G.tup ht (np t (nOw ht)) r⟩⟩
 |_=>cases hg
noncomputable def Fn:D->Option (D×Bool)
 | .tup l=>some (.lst l,true)
 | .lst l=>some (.lst l,true)
 |_=>none
theorem Es:hX X (.type "list") (rDn X.K (g1 Fn)):=mw fun pins s σ H x u Q O d z I ru np hd hg G=>by
 cases d with
 |tup l=>
  cases hg;obtain⟨p,xs,rfl,q,r⟩:=jm hd;exact ux pins s σ H [_] [u] Q I (.cons ru .nil) ⟨p,xs,rfl,.inr q,fun t ht=>G.lst ht r⟩
 |lst l=>
  cases hg;obtain⟨p,xs,rfl,q,r⟩:=jf hd;exact ux pins s σ H [_] [u] Q I (.cons ru .nil) ⟨p,xs,rfl,.inl q,fun t ht=>G.lst ht r⟩
 |_=>cases hg
end
abbrev FT:=Dn->Option (Bool×Dn)
def tT(K:fO)(f:FT):TT:=fun σ H Q=> ∃δ T b δ',ER K H T σ δ/\f δ=some (b,δ')/\ ∀H',Keep σ δ H δ' H'->ER K H' T σ δ'->Q b H'
def PTX(X:Cx)(e:fw)(f:FT):Prop:=PT X e (tT X.K f)
def PWX(X:Cx)(e:fw)(f:FT):Prop:=PW X e (tT X.K f)
noncomputable def asB:(D×Bool)×Dn->Option (Bool×Dn)
 |((.bl b,_),δ)=>some (b,δ)
 |_=>none
noncomputable def fT(f:F):FT:=fun δ=>(f δ).bind asB
theorem yz(h:asB p=some q): ∃o,p=((.bl q.1,o),q.2):=by
 obtain⟨⟨d,o⟩,δ⟩:=p
 cases d with
 |bl b=>cases h;exact⟨o,rfl⟩
 |_=>cases h
theorem Ic{K:fO}{f:F}{σ:L2.St}{H:Hp}{Q:Bool->Hp->Prop}(h:tT K (fT f) σ H Q):tF K f σ H fun x H1=> ∃c,x= .bl c/\Q c H1:=by
 obtain⟨δ,T,b,δ',E,e,k⟩:=h;obtain⟨p,h1,h2⟩:=eU e;obtain⟨o,rfl⟩:=yz h2;refine⟨δ,T,_,_,E,h1,fun v H' P=>?_⟩;obtain⟨E1,r⟩:=P.rep E;exact⟨b,r.bl,k H' P.1 E1⟩
section
variable {X:Cx}{e a b c:fw}{es:hW}{fa fb:FO}{f g:F}{ft fu:FT}{pos:Pos}
theorem PT.imp'(h:PT X e t)(k: ∀σ H Q,t' σ H Q->t σ H Q):PT X e t':=fun pins s σ H Q I hw=>h pins s σ H Q I (k σ H Q hw)
theorem PW.imp'(h:PW X e t)(k: ∀σ H Q,t' σ H Q->t σ H Q):PW X e t':=fun wh pins s σ H Q I hw=>h wh pins s σ H Q I (k σ H Q hw)
theorem LS(h:PX X e f)(he: ∀whole,isTrue e X.env whole=(do let v <-whole;standAt e.pos;holding [v] (truthy v))):PTX X e (fT f):=PT.imp' (OE h he) fun σ H Q hw=>Ic hw
theorem Mn{r:R2}{g:D->D->Option (D×Bool)}(hr:P0 X.K r g){σ:L2.St}{H:Hp}{Q:VK}(hw:tF X.K (fD g fa fb) σ H Q):tOp r (tO X.K fa) (tO X.K fb) σ H Q:=by
 obtain⟨δ,T,rr,δ',E,e,k⟩:=hw;obtain⟨⟨o,δ1⟩,h1,e⟩:=eU e;obtain⟨⟨o2,δ2⟩,h2,e⟩:=eU e;obtain⟨x,h3,e⟩:=eU e;obtain⟨y,h4,e⟩:=eU e;obtain⟨z,h5,e⟩:=eU e;obtain⟨rfl,rfl⟩:=fK e;refine⟨δ,T,o,δ1,E,h1,fun v H1 P1=>⟨δ1,yY T o v,o2,δ2,P1.er E,h2,fun u H2 P2=>?_⟩⟩;have B:=Ops.cons E P1 (Ops.cons (P1.er E) P2 (Ops.nil (P2.er (P1.er E))));exact hr x y z v u H2 _ Q (fun p hp=>B.np hp) (B.view (j:=0) rfl rfl h3) (B.view (j:=1) rfl rfl h4) h5 (B.done k)
theorem Q5{K:fO}{g:D->D->Option (D×Bool)}:P0 K (rD K g) g:=fun x y z v u H O Q np hx hy hg G=>⟨O,x,y,z,np,hx,hy,hg,G⟩
theorem LW{op:CmpOp}{g:D->D->Option (D×Bool)}(ho:OpR X (compareOp op) (rD X.K g))(ha:PO X a fa)(hb:PO X b fb)(hm:behindInMarks op b=false):PTX X (.Compare a [op] [b] pos) (fT (fD g fa fb)):=
 PT.imp' (LX ho ha hb hm) fun σ H Q hw=>Mn Q5 (Ic hw)
noncomputable def RN(f g:FT):FT:=fun δ=>(f δ).bind fun p=>if p.1=true then g p.2 else some (false,p.2)
noncomputable def wd(f g:FT):FT:=fun δ=>(f δ).bind fun p=>if p.1=true then some (true,p.2) else g p.2
noncomputable def iF(f:FT):FT:=fun δ=>(f δ).bind fun p=>some (!p.1,p.2)
theorem LQ(ha:PTX X a ft):PWX X (.BoolOp .Or [a] pos) ft:=OC ha
theorem OB(ha:PTX X a ft)(hb:PWX X (.BoolOp .Or (b::es) pos) fu):PWX X (.BoolOp .Or (a::b::es) pos) (wd ft fu):=PW.imp' (Ra ha hb) fun σ H Q hw=>by
 obtain⟨δ,T,c,δ',E,e,k⟩:=hw;obtain⟨⟨c1,δ1⟩,h1,e⟩:=eU e;refine⟨δ,T,c1,δ1,E,h1,fun H1 K1 E1=>?_⟩
 cases c1 with
 |true=>
  rw[fJ rfl] at e;rw[fJ rfl];obtain⟨rfl,rfl⟩:=fK e;exact k H1 K1 E1
 |false=>
  rw[fR je] at e;rw[fR je];exact⟨δ1,T,c,δ',E1,e,fun H2 K2 E2=>k H2 (K1.trans K2) E2⟩
theorem LU(ha:PTX X a ft):PTX X (.UnaryOp .Not a pos) (iF ft):=PT.imp' (OF ha) fun σ H Q hw=>by
 obtain⟨δ,T,c,δ',E,e,k⟩:=hw;obtain⟨⟨c1,δ1⟩,h1,e⟩:=eU e;obtain⟨rfl,rfl⟩:=fK e;exact⟨δ,T,c1,δ1,E,h1,k⟩
noncomputable def ur(f g:F):F:=fun δ=>(f δ).bind fun p=>(asB p).bind fun q=>if q.1=true then g q.2 else some ((.bl false,false),q.2)
noncomputable def fOr(f g:F):F:=fun δ=>(f δ).bind fun p=>(asB p).bind fun q=>if q.1=true then some ((.bl true,false),q.2) else g q.2
noncomputable def MO(f:F):F:=fun δ=>(f δ).bind fun p=>(asB p).bind fun q=>some ((.bl (!q.1),false),q.2)
theorem Post.pre{K:fO}{T:AP'}{σ:L2.St}{δ δ1 δ2:Dn}{H H1 H2:Hp}{r:D×Bool}{v:V}(k:Keep σ δ H δ1 H1)(P:Post K T σ δ1 H1 r δ2 v H2):Post K T σ δ H r δ2 v H2:=by
 refine⟨k.trans P.1,?_⟩;obtain⟨d,o⟩:=r
 cases o with
 |false=>exact P.2
 |true=>
  obtain⟨p,h1,h2,h3⟩:=P.2;refine⟨p,h1,?_,h3⟩
  cases hH:H p with
  |none=>rfl
  |some ob=>exact absurd h2 (k.dm p (by rw[hH];simp))
theorem Oy(ha:PX X a f)(hb:PX X (.BoolOp .And (b::es) pos) g):PX X (.BoolOp .And (a::b::es) pos) (ur f g):=PX.imp (OV ha hb) fun σ H Q hw=>by
 obtain⟨δ,T,r,δ',E,e,k⟩:=hw;obtain⟨p,h1,e⟩:=eU e;obtain⟨⟨c,δ1⟩,h2,e2⟩:=eU e;obtain⟨o,rfl⟩:=yz h2;refine⟨δ,T,_,_,E,h1,fun v H1 P=>?_⟩;obtain⟨E1,rv⟩:=P.rep E;refine⟨c,rv.bl,?_⟩
 cases c with
 |true=>
  rw[fJ rfl] at e2;rw[fJ rfl];exact⟨δ1,T,r,δ',E1,e2,fun w H2 P2=>k w H2 (P2.pre P.1)⟩
 |false=>
  rw[fR je] at e2;rw[fR je];obtain⟨rfl,rfl⟩:=fK e2;exact k _ H1 (Post.val P.1 E1 Rep.mkBl)
theorem LO{op}(ha:PX X a f):PX X (.BoolOp op [a] pos) f:=OQ ha
theorem Ol(ha:PX X a f):PX X (.UnaryOp .Not a pos) (MO f):=PX.imp (OR ha) fun σ H Q hw=>by
 obtain⟨δ,T,r,δ',E,e,k⟩:=hw;obtain⟨p,h1,e⟩:=eU e;obtain⟨⟨c,δ1⟩,h2,e2⟩:=eU e;obtain⟨o,rfl⟩:=yz h2;obtain⟨rfl,rfl⟩:=fK e2;refine⟨δ,T,_,_,E,h1,fun v H1 P=>?_⟩;obtain⟨E1,rv⟩:=P.rep E;exact⟨c,rv.bl,k _ H1 (Post.val P.1 E1 Rep.mkBl)⟩
noncomputable def fIf(t:FT)(f g:F):F:=fun δ=>(t δ).bind fun p=>if p.1=true then f p.2 else g p.2
theorem Q8(hc:PTX X c ft)(ha:PX X a f)(hb:PX X b g):PX X (.IfExp c a b pos) (fIf ft f g):=PX.imp (Jt hc ha hb) fun σ H Q hw=>by
 obtain⟨δ,T,r,δ',E,e,k⟩:=hw;obtain⟨⟨c,δ1⟩,h1,e⟩:=eU e;refine⟨δ,T,c,δ1,E,h1,fun H1 K1 E1=>?_⟩
 cases c with
 |true=>rw[fJ rfl] at e;rw[fJ rfl];exact⟨δ1,T,r,δ',E1,e,fun w H2 P2=>k w H2 (P2.pre K1)⟩
 |false=>rw[fR je] at e;rw[fR je];exact⟨δ1,T,r,δ',E1,e,fun w H2 P2=>k w H2 (P2.pre K1)⟩
end
inductive Out where
 |nx(δ:Dn)|rt(r:D×Bool)(δ:Dn)|bk(δ:Dn)|ct(δ:Dn)
abbrev FS:=Dn->Option Out
structure SK(A:gR)(σ:L2.St)(δ:Dn)(H:Hp)(σ':L2.St)(δ':Dn)(H':Hp):Prop where
 kp: ∀a o,H a=some o-> ¬OwnA σ δ a->H' a=some o
 owi: ∀i a,OwnI σ' δ' i a->OwnI σ δ i a\/H a=none\/(A i/\ ∃j,A j/\OwnI σ δ j a)
 dm: ∀a,H a≠none->H' a≠none
 as: ∀i,¬A i->σ'[i]?=σ[i]?
structure FI(A L:gR)(H0:Hp)(σ:L2.St)(δ:Dn)(H:Hp):Prop where
 ow: ∀i a,OwnI σ δ i a->L i\/H0 a=none
 dm: ∀a,H0 a≠none->H a≠none
 al: ∀j,A j-> ¬L j
def RV(K:fO)(T:AP')(H0:Hp)(r:D×Bool)(σ':L2.St)(δ':Dn)(v:V)(H':Hp):Prop:=
 match r with
 |(d,false)=>ER K H' T σ' δ'/\Rep K H' (fun a=>OwnA σ' δ' a\/T a) d v
 |(d,true)=> ∃p,v= .ref p/\H0 p=none/\ER K H' (fun a=>T a\/a=p) σ' δ'/\OwnOk K H' (fun a=>OwnA σ' δ' a\/T a\/a=p) d p
section
variable {A:gR}{σ σ1 σ2:L2.St}{δ δ1 δ2:Dn}{H H0 H1 H2:Hp}{L:gR}{K:fO}{T:AP'}
theorem SK.refl:SK A σ δ H σ δ H:=⟨fun _ _ e _=>e,fun _ _ z=> .inl z,fun _ z=>z,fun _ _=>rfl⟩
theorem SK.ow(k:SK A σ δ H σ1 δ1 H1)(a:eX)(h:OwnA σ1 δ1 a):OwnA σ δ a\/H a=none:=by
 obtain⟨i,d,h1,h2⟩:=h;rcases k.owi i a ⟨d,h1,h2⟩ with⟨e,h3,h4⟩|z|⟨_,j,_,e,h3,h4⟩
 ·exact .inl ⟨i,e,h3,h4⟩
 ·exact .inr z
 ·exact .inl ⟨j,e,h3,h4⟩
theorem SK.trans(x:SK A σ δ H σ1 δ1 H1)(y:SK A σ1 δ1 H1 σ2 δ2 H2):SK A σ δ H σ2 δ2 H2 where
 kp:=fun a o e n=>y.kp a o (x.kp a o e n) fun z=>(x.ow a z).elim n fun z=>by rw[z] at e;cases e
 owi:=fun i a z=>(y.owi i a z).elim (x.owi i a) fun z=>z.elim (fun z=> .inr (.inl (by
  cases h:H a with
  |none=>rfl
  |some o=>exact absurd z (x.dm a (by rw[h];simp))))) fun⟨ai,j,aj,z⟩=>(x.owi j a z).elim (fun z=> .inr (.inr ⟨ai,j,aj,z⟩)) fun z=>z.elim (fun z=> .inr (.inl z)) fun⟨_,k,ak,z⟩=> .inr (.inr ⟨ai,k,ak,z⟩)
 dm:=fun a z=>y.dm a (x.dm a z)
 as:=fun i h=>(y.as i h).trans (x.as i h)
theorem Keep.sk(k:Keep σ δ H δ1 H1):SK A σ δ H σ δ1 H1:=⟨k.kp,fun i a z=> .inl (k.owi i a z),k.dm,fun _ _=>rfl⟩
theorem FI.step(f:FI A L H0 σ δ H)(k:SK A σ δ H σ1 δ1 H1):FI A L H0 σ1 δ1 H1 where
 ow:=fun i a z=>(k.owi i a z).elim (f.ow i a) fun z=> .inr (z.elim (fun z=>by
  cases h:H0 a with
  |none=>rfl
  |some o=>exact absurd z (f.dm a (by rw[h];simp))) fun⟨_,j,aj,z⟩=>(f.ow j a z).resolve_left (f.al j aj))
 dm:=fun a z=>k.dm a (f.dm a z)
 al:=f.al
theorem FI.fresh(f:FI A L H0 σ δ H)(hp:H p=none):H0 p=none:=by
 cases h:H0 p with
 |none=>rfl
 |some o=>exact absurd hp (f.dm p (by rw[h];simp))
end
def tS(K:fO)(A L:gR)(H0:Hp)(f:FS):TS:=fun D σ H=> ∃δ T out,ER K H T σ δ/\FI A L H0 σ δ H/\f δ=some out/\
 match out with
 | .nx δ'=> ∀σ' H',SK A σ δ H σ' δ' H'->ER K H' T σ' δ'->D.nx σ' H'
 | .bk δ'=> ∀σ' H',SK A σ δ H σ' δ' H'->ER K H' T σ' δ'->D.bk σ' H'
 | .ct δ'=> ∀σ' H',SK A σ δ H σ' δ' H'->ER K H' T σ' δ'->D.ct σ' H'
 | .rt r δ'=> ∀v σ' H',SK A σ δ H σ' δ' H'->RV K T H0 r σ' δ' v H'->D.rt v H'
def PSX(X:Cx)(A L:gR)(H0:Hp)(st:Stmt)(f:FS):Prop:=PS X st (tS X.K A L H0 f)
def Bt(X:Cx)(A L:gR)(H0:Hp)(st:List Stmt)(f:FS):Prop:=PSs X st (tS X.K A L H0 f)
noncomputable def fF:FS:=fun δ=>some (.nx δ)
noncomputable def fg(f g:FS):FS:=fun δ=>(f δ).bind fun o=>match o with
 | .nx δ1=>g δ1
 |o=>some o
noncomputable def jW(f:F):FS:=fun δ=>(f δ).bind fun p=>some (.nx p.2)
noncomputable def gK(f:F):FS:=fun δ=>(f δ).bind fun p=>some (.rt p.1 p.2)
noncomputable def jM(i:Nat):FS:=fun δ=>match δ[i]? with
 |some (some (d,true))=>some (.rt (d,true) (δ.set i none))
 |some (some (d,false))=>some (.rt (d,false) δ)
 |_=>none
noncomputable def sIf(t:FT)(f g:FS):FS:=fun δ=>(t δ).bind fun p=>if p.1=true then f p.2 else g p.2
noncomputable def gu(i:Nat)(f:F):FS:=fun δ=>(f δ).bind fun p=>if i<p.2.length then some (.nx (p.2.set i (some p.1))) else none
section
variable {X:Cx}{A L:gR}{H0:Hp}{st:Stmt}{sts:List Stmt}{f g:FS}{fe:F}{ft:FT}{e c:fw}{pos:Pos}
theorem PS.imp'(h:PS X st t)(k: ∀D σ H,t' D σ H->t D σ H):PS X st t':=fun pins s σ H D I hw=>h pins s σ H D I (k D σ H hw)
theorem PSs.imp'(h:PSs X sts t)(k: ∀D σ H,t' D σ H->t D σ H):PSs X sts t':=fun pins s σ H D I hw=>h pins s σ H D I (k D σ H hw)
theorem IZ:Bt X A L H0 [] fF:=PSs.imp' L4 fun D σ H hw=>by
 obtain⟨δ,T,out,E,fi,e,k⟩:=hw;cases e;exact k σ H .refl E
theorem Gh(h1:PSX X A L H0 st f)(h2:Bt X A L H0 sts g):Bt X A L H0 (st::sts) (fg f g):=PSs.imp' (I9 h1 h2) fun D σ H hw=>by
 obtain⟨δ,T,out,E,fi,e,k⟩:=hw;obtain⟨o,h3,e⟩:=eU e;refine⟨δ,T,o,E,fi,h3,?_⟩
 cases o with
 |nx δ1=>
  intro σ1 H1 K1 E1;refine⟨δ1,T,out,E1,fi.step K1,e,?_⟩
  cases out with
  |nx δ2=>exact fun σ2 H2 K2 E2=>k σ2 H2 (K1.trans K2) E2
  |bk δ2=>exact fun σ2 H2 K2 E2=>k σ2 H2 (K1.trans K2) E2
  |ct δ2=>exact fun σ2 H2 K2 E2=>k σ2 H2 (K1.trans K2) E2
  |rt r δ2=>exact fun v σ2 H2 K2 R2=>k v σ2 H2 (K1.trans K2) R2
 |rt r δ1=>cases e;exact k
 |bk δ1=>cases e;exact k
 |ct δ1=>cases e;exact k
theorem IV(h:PX X e fe)(hs:swapsWith e none pos.line X.env=pure false):PSX X A L H0 (.Expr e pos) (jW fe):=PS.imp' (L5 h hs) fun D σ H hw=>by
 obtain⟨δ,T,out,E,fi,e,k⟩:=hw;obtain⟨p,h3,e⟩:=eU e;cases e;exact⟨δ,T,p.1,p.2,E,h3,fun v H1 P=>k σ H1 P.1.sk (P.rep E).1⟩
theorem L0(h:PX X e fe):PSX X A L H0 (.Return (some e) pos) (gK fe):=PS.imp' (Jc h) fun D σ H hw=>by
 obtain⟨δ,T,out,E,fi,e,k⟩:=hw;obtain⟨p,h3,e⟩:=eU e;cases e;refine⟨δ,T,p.1,p.2,E,h3,fun v H1 P=>k v σ H1 P.1.sk ?_⟩;obtain⟨⟨d,o⟩,δ1⟩:=p
 cases o with
 |false=>exact P.2
 |true=>
  obtain⟨q,h1,h2,h3⟩:=P.2;exact⟨q,h1,fi.fresh h2,h3⟩
theorem OH(hc:PTX X c ft)(ha:Bt X A L H0 a f)(hb:Bt X A L H0 b g):PSX X A L H0 (.If c a b pos) (sIf ft f g):=PS.imp' (Rc hc ha hb) fun D σ H hw=>by
 obtain⟨δ,T,out,E,fi,e,k⟩:=hw;obtain⟨⟨c,δ1⟩,h1,e⟩:=eU e;refine⟨δ,T,c,δ1,E,h1,fun H1 K1 E1=>?_⟩;have cQ:SK A σ δ H σ δ1 H1:=K1.sk
 have fin: ∀(h:FS),h δ1=some out->tS X.K A L H0 h D σ H1:=fun h he=>by
  refine⟨δ1,T,out,E1,fi.step cQ,he,?_⟩
  cases out with
  |nx δ2=>exact fun σ2 H2 K2 E2=>k σ2 H2 (cQ.trans K2) E2
  |bk δ2=>exact fun σ2 H2 K2 E2=>k σ2 H2 (cQ.trans K2) E2
  |ct δ2=>exact fun σ2 H2 K2 E2=>k σ2 H2 (cQ.trans K2) E2
  |rt r δ2=>exact fun v σ2 H2 K2 R2=>k v σ2 H2 (cQ.trans K2) R2
 cases c with
 |true=>rw[fJ rfl] at e;exact(show(if true=true then tS X.K A L H0 f D σ H1 else _) from by rw[fJ rfl];exact fin f e)
 |false=>rw[fR je] at e;exact(show(if false=true then _ else tS X.K A L H0 g D σ H1) from by rw[fR je];exact fin g e)
end
theorem jz{α:Type}{l:List α}{i j:Nat}{x y:α}(h:(l.set i x)[j]?=some y):(i=j/\i<l.length/\y=x)\/(i≠j/\l[j]?=some y):=by
 rw[rN] at h;split at h
 ·rename_i m9;split at h
  ·rename_i hl;exact .inl ⟨m9,hl,(iz h).symm⟩
  ·cases h
 ·rename_i m9;exact .inr ⟨m9,h⟩
section
variable {K:fO}{T:AP'}{σ:L2.St}{δ δ1:Dn}{H H1:Hp}{x:D×Bool}{v:V}{i:Nat}
theorem OwnI.store{j:Nat}{a:eX}(h:OwnI (σ.set i (some v)) (δ.set i (some x)) j a):(i≠j/\OwnI σ δ j a)\/(i=j/\x.2=true/\v= .ref a):=by
 obtain⟨d,h1,h2⟩:=h;rcases jz h1 with⟨e,_,q⟩|⟨ne,q⟩
 ·rcases jz h2 with⟨_,_,q2⟩|⟨ne2,_⟩
  ·right;cases q;exact⟨e,rfl,(iz q2).symm⟩
  ·exact absurd e ne2
 ·rcases jz h2 with⟨e2,_,_⟩|⟨_,q2⟩
  ·exact absurd e2 ne
  ·exact .inl ⟨ne,d,q,q2⟩
theorem OwnA.store(h:OwnA (σ.set i (some v)) (δ.set i (some x)) a):OwnA σ δ a\/(x.2=true/\v= .ref a):=by
 obtain⟨j,d,h1,h2⟩:=h;rcases OwnI.store ⟨d,h1,h2⟩ with⟨_,e,h3,h4⟩|⟨_,h3⟩
 ·exact .inl ⟨j,e,h3,h4⟩
 ·exact .inr h3
theorem ER.store(E1:ER K H1 (Tmp T x v) σ δ1)(hi:i<δ1.length)(hx:match x with|(d,false)=>Rep K H1 (fun a=>OwnA σ δ1 a\/T a) d v|(d,true)=> ∃p,v= .ref p/\ ¬T p/\OwnOk K H1 (fun a=>OwnA σ δ1 a\/T a\/a=p) d p):
  ER K H1 T (σ.set i (some v)) (δ1.set i (some x)):=by
 have hσ:i<σ.length:=by rw[E1.len];exact hi
 have sub: ∀b,H1 b≠none->(OwnA (σ.set i (some v)) (δ1.set i (some x)) b\/T b)->(OwnA σ δ1 b\/Tmp T x v b):=fun b _ z=>by
  rcases z with z|z
  ·rcases z.store with z|z
   ·exact .inl z
   ·exact .inr (.inr z)
  ·exact .inr (.inl z)
 refine⟨by rw[qP,qP];exact E1.len,fun j d hj=>?_,fun j d hj=>?_,fun j k d e a hj hk h1 h2=>?_,fun a z=>?_,fun a z=>E1.dom a (.inl z)⟩
 ·rcases jz hj with⟨rfl,_,q⟩|⟨ne,q⟩
  ·have q:=iz q;subst q
   exact⟨v,oY hσ,Rep.mono (fun _ _ e _=>e) (fun b hb z=>by
    rcases z with z|z
    ·rcases z.store with z|z
     ·exact .inl z
     ·exact absurd z.1 (by simp)
    ·exact .inr z) hx⟩
  ·obtain⟨w,h1,h2⟩:=E1.val j d q;exact⟨w,by rw[lu ne];exact h1,Rep.mono (fun _ _ e _=>e) sub h2⟩
 ·rcases jz hj with⟨rfl,_,q⟩|⟨ne,q⟩
  ·have q:=iz q;subst q;obtain⟨p,rfl,np,ok⟩:=hx;refine⟨p,oY hσ,ok.mono (fun _ _ e _=>e) (fun b hb z=>?_) fun _ e=>e⟩;rcases z with z|z
   ·rcases z.store with z|z
    ·exact .inl z
    ·have:=z.2;cases this;exact .inr (.inr rfl)
   ·exact .inr (.inl z)
  ·obtain⟨a,h1,h2⟩:=E1.own j d q;exact⟨a,by rw[lu ne];exact h1,h2.mono (fun _ _ e _=>e) sub fun _ e=>e⟩
 ·rcases OwnI.store ⟨d,hj,h1⟩ with⟨n1,d',g1,g2⟩|⟨e1,g1,g2⟩
  ·rcases OwnI.store ⟨e,hk,h2⟩ with⟨n2,e',g3,g4⟩|⟨e2,g3,g4⟩
   ·exact E1.inj j k d' e' a g1 g3 g2 g4
   ·exact absurd (Or.inr ⟨g3,g4⟩) (E1.nT a ⟨j,d',g1,g2⟩)
  ·rcases OwnI.store ⟨e,hk,h2⟩ with⟨n2,e',g3,g4⟩|⟨e2,g3,g4⟩
   ·exact absurd (Or.inr ⟨g1,g2⟩) (E1.nT a ⟨k,e',g3,g4⟩)
   ·exact e1.symm.trans e2
 ·rcases z.store with z|z
  ·exact fun t=>E1.nT a z (.inl t)
  ·obtain⟨d,b⟩:=x
   cases b with
   |false=>exact absurd z.1 (by simp)
   |true=>
    obtain⟨p,rfl,np,_⟩:=hx;have:=z.2;cases this;exact np
theorem SK.store(k:Keep σ δ H δ1 H1)(ha:A i)(hp:x.2=true-> ∀p,v= .ref p->H p=none):SK A σ δ H (σ.set i (some v)) (δ1.set i (some x)) H1 where
 kp:=k.kp
 owi:=fun j a z=>by
  rcases z.store with⟨_,z⟩|⟨_,z1,z2⟩
  ·exact .inl (k.owi j a z)
  ·exact .inr (.inl (hp z1 a z2))
 dm:=k.dm
 as:=fun j hj=>lu (fun(e:i=j)=>hj (by subst e;exact ha))
end
section
variable {X:Cx}{A L:gR}{H0:Hp}{fe:F}{e c:fw}{pos pos':Pos}
theorem wY{K:fO}{T:AP'}{σ:L2.St}{δ δ1:Dn}{H H1:Hp}{r:D×Bool}{v:V}{i:Nat}(E:ER K H T σ δ)(P:Post K T σ δ H r δ1 v H1)(hi:i<δ1.length)(ha:A i):
  SK A σ δ H (σ.set i (some v)) (δ1.set i (some r)) H1/\ER K H1 T (σ.set i (some v)) (δ1.set i (some r)):=by
 have hp:r.2=true-> ∀p,v= .ref p->H p=none:=fun h p hv=>by
  obtain⟨d,o⟩:=r
  cases o with
  |false=>cases h
  |true=>obtain⟨q,h1,h2,_⟩:=P.2;rw[hv] at h1;cases h1;exact h2
 refine⟨SK.store P.1 ha hp,ER.store (P.er E) hi ?_⟩;obtain⟨d,o⟩:=r
 cases o with
 |false=>exact P.2.2
 |true=>
  obtain⟨p,rfl,h2,h3,h4⟩:=P.2;exact⟨p,rfl,fun z=>(E.dom p z).ne h2,h4⟩
theorem LZ{i:Nat}{x:Str}(hN:X.N.Nodup)(hi:X.N[i]?=some x)(hx:Loc X.env.scope x)(he:PX X e fe)(hs:swapsWith e (some (.Name x pos')) pos.line X.env=pure false)(hf:X.fn x=true\/X.env.scope.names.lookup x=some .local)(ha:A i):
  PSX X A L H0 (.Assign [.Name x pos'] e pos) (gu i fe):=PS.imp' (Jb hN hi hx he hs hf) fun D σ H hw=>by
 obtain⟨δ,T,out,E,fi,e,k⟩:=hw;obtain⟨⟨r,δ1⟩,h3,e⟩:=eU e;obtain⟨hi,rfl⟩:=fU e;refine⟨δ,T,r,δ1,E,h3,fun v H1 P=>?_⟩;obtain⟨h1,h2⟩:=wY (A:=A) E P hi ha;exact k _ H1 h1 h2
theorem DQ{i:Nat}{x:Str}(hN:X.N[i]?=some x)(hv:Vis X.env.scope x)(hd:(x==("__debug__":Str))=false)(q9:(x==("__classdict__":Str))=false)(hl: ¬L i):PSX X A L H0 (.Return (some (.Name x pos')) pos) (jM i):=PS.imp' (Jc (DV hN hv hd q9)) fun D σ H hw=>by
 obtain⟨δ,T,out,E,fi,e,k⟩:=hw;unfold jM at e
 cases hi:δ[i]? with
 |none=>rw[hi] at e;cases e
 |some q=>
  cases q with
  |none=>rw[hi] at e;cases e
  |some p=>
   obtain⟨d,b⟩:=p;have hil:i<δ.length:=(sN.mp hi).1
   cases b with
   |false=>
    rw[hi] at e;cases e;obtain⟨v,h1,h2⟩:=E.val i d hi;exact⟨v,h1,k v σ H .refl ⟨E,h2⟩⟩
   |true=>
    rw[hi] at e;cases e;obtain⟨a,h1,h2⟩:=E.own i d hi
    have gone: ∀j b,OwnI σ (δ.set i none) j b->i≠j/\OwnI σ δ j b:=fun j b ⟨d',g1,g2⟩=>by
     rcases jz g1 with⟨_,_,q⟩|⟨ne,q⟩
     ·cases q
     ·exact⟨ne,d',q,g2⟩
    have goneA: ∀b,OwnA σ (δ.set i none) b->OwnA σ δ b/\b≠a:=fun b ⟨j,d',g1,g2⟩=>by
     obtain⟨ne,d2,g3,g4⟩:=gone j b ⟨d',g1,g2⟩;exact⟨⟨j,d2,g3,g4⟩,fun z=>ne (by subst z;exact E.inj i j d d2 _ hi g3 h1 g4)⟩
    have ha:OwnA σ δ a:=⟨i,d,hi,h1⟩
    have sub: ∀b,H b≠none->(OwnA σ (δ.set i none) b\/(T b\/b=a))->(OwnA σ δ b\/T b):=fun b _ z=>by
     rcases z with z|z|z
     ·exact .inl (goneA b z).1
     ·exact .inr z
     ·subst z;exact .inl ha
    refine⟨.ref a,h1,k (.ref a) σ H ⟨fun _ _ e _=>e,fun j b z=> .inl (gone j b z).2,fun _ z=>z,fun _ _=>rfl⟩ ⟨a,rfl,?_,?_,h2.mono (fun _ _ e _=>e) sub fun _ e=>e⟩⟩
    ·rcases fi.ow i a ⟨d,hi,h1⟩ with z|z
     ·exact absurd z hl
     ·exact z
    ·refine⟨by rw[qP];exact E.len,fun j d' hj=>?_,fun j d' hj=>?_,fun j k d' e' b hj hk g1 g2=>?_,fun b z t=>?_,fun b z=>?_⟩
     ·rcases jz hj with⟨_,_,q⟩|⟨ne,q⟩
      ·cases q
      ·obtain⟨w,w1,w2⟩:=E.val j d' q;exact⟨w,w1,Rep.mono (fun _ _ e _=>e) sub w2⟩
     ·rcases jz hj with⟨_,_,q⟩|⟨ne,q⟩
      ·cases q
      ·obtain⟨w,w1,w2⟩:=E.own j d' q;exact⟨w,w1,w2.mono (fun _ _ e _=>e) sub fun _ e=>e⟩
     ·obtain⟨_,d2,q1,q2⟩:=gone j b ⟨d',hj,g1⟩;obtain⟨_,d3,q3,q4⟩:=gone k b ⟨e',hk,g2⟩;exact E.inj j k d2 d3 b q1 q3 q2 q4
     ·obtain⟨z1,z2⟩:=goneA b z;rcases t with t|t
      ·exact E.nT b z1 t
      ·exact z2 t
     ·rcases z with z|z
      ·exact E.dom b z
      ·subst z;exact E.ownOw ha
end
abbrev Tg:=D->Dn->Option Dn
def tG(K:fO)(A:gR)(tg:Tg):TG:=fun v σ H Q=> ∃δ T d δ',ER K H T σ δ/\Rep K H (fun a=>OwnA σ δ a\/T a) d v/\tg d δ=some δ'/\ ∀σ',SK A σ δ H σ' δ' H->ER K H T σ' δ'->Q σ' H
def PGX(X:Cx)(A:gR)(e:fw)(tg:Tg):Prop:=PG X e (tG X.K A tg)
noncomputable def fk(i:Nat):Tg:=fun d δ=>if i<δ.length then some (δ.set i (some (d,false))) else none
noncomputable def zd:List Tg->List D->Dn->Option Dn
 |[],[],δ=>some δ
 |t::ts,d::ds,δ=>(t d δ).bind (zd ts ds)
 |_,_,_=>none
noncomputable def mI(ts:List Tg):Tg
 | .tup ds,δ=>zd ts ds δ
 |_,_=>none
def tGs(K:fO)(A:gR)(ts:List Tg):TGs:=fun vs σ H Q=> ∃δ T ds δ',ER K H T σ δ/\RepL K H (fun a=>OwnA σ δ a\/T a) ds vs/\zd ts ds δ=some δ'/\ ∀σ',SK A σ δ H σ' δ' H->ER K H T σ' δ'->Q σ' H
section
variable {X:Cx}{A:gR}{pos:Pos}{e:fw}{es:hW}{t:Tg}{ts:List Tg}
theorem PG.imp'{t t':TG}(h:PG X e t)(k: ∀v σ H Q,t' v σ H Q->t v σ H Q):PG X e t':=fun pins s σ H v u Q I r hw=>h pins s σ H v u Q I r (k v σ H Q hw)
theorem PGs.imp'{t t':TGs}(h:PGs X es t)(k: ∀v σ H Q,t' v σ H Q->t v σ H Q):PGs X es t':=fun pins s σ H v u Q I r hw=>h pins s σ H v u Q I r (k v σ H Q hw)
theorem Jm{i:Nat}{x:Str}(hN:X.N.Nodup)(hi:X.N[i]?=some x)(hx:Loc X.env.scope x)(hf:X.fn x=true\/X.env.scope.names.lookup x=some .local)(ha:A i):PGX X A (.Name x pos) (fk i):=PG.imp' (EZ hN hi hx hf) fun v σ H Q hw=>by
 obtain⟨δ,T,d,δ',E,r,e,k⟩:=hw;obtain⟨hi,rfl⟩:=fU e;obtain⟨h1,h2⟩:=wY (A:=A) (r:=(d,false)) (v:=v) E (Post.val .refl E r) hi ha;exact k _ h1 h2
theorem xo:PGs X [] (tGs X.K A []):=PGs.imp' Mc fun v σ H Q hw=>by
 obtain⟨δ,T,ds,δ',E,r,e,k⟩:=hw
 cases ds with
 |nil=>
  cases e;rw[RepL] at r;exact⟨r,k σ .refl E⟩
 |cons _ _=>cases e
theorem kY(h1:PGX X A e t)(h2:PGs X es (tGs X.K A ts))(hs:(assignEach (e::es) X.env).map (·.2)=assign e X.env::(assignEach es X.env).map (·.2)):PGs X (e::es) (tGs X.K A (t::ts)):=PGs.imp' (Jn h1 h2 hs) fun v σ H Q hw=>by
 obtain⟨δ,T,ds,δ',E,r,e,k⟩:=hw
 cases ds with
 |nil=>cases e
 |cons d ds=>
  rw[RepL] at r;obtain⟨v1,vr,rfl,r1,r2⟩:=r;obtain⟨δ1,h3,e⟩:=eU e;refine⟨v1,vr,rfl,δ,T,d,δ1,E,r1,h3,fun σ1 K1 E1=>⟨δ1,T,ds,δ',E1,?_,e,fun σ2 K2 E2=>k σ2 (K1.trans K2) E2⟩⟩;exact RepL.mono (fun _ _ e _=>e) (fun b hb z=>z.elim (fun z=>(K1.ow b z).elim Or.inl fun z=>absurd z hb) Or.inr) r2
theorem AN{k:Nat}(hc:X.calm=true)(h:PGs X es (tGs X.K A ts)){n:Nat}(hn:(assignEach es X.env).length=n)(hl:ts.length=n)(l5:(assignEach es X.env).findIdx? (·.1)=none):PGX X A (.Tuple es k pos) (mI ts):=PG.imp' (OP hc h hn l5) fun v σ H Q hw=>by
 obtain⟨δ,T,d,δ',E,r,e,k⟩:=hw
 cases d with
 |tup ds=>
  obtain⟨a,xs,rfl,q,rr⟩:=r.tup;refine⟨a,xs,rfl,q.sq,?_,δ,T,ds,δ',E,rr,e,k⟩
  have: ∀(ts:List Tg) (ds:List D) (δ:Dn),zd ts ds δ=some δ'->ds.length=ts.length:=by
   intro ts
   induction ts with
   |nil=>intro ds δ h;cases ds with|nil=>rfl|cons _ _=>cases h
   |cons t ts ih=>
    intro ds δ h
    cases ds with
    |nil=>cases h
    |cons d ds=>obtain⟨δ1,_,h⟩:=eU h;simp[ih ds δ1 h]
  rw[rr.length,this ts ds δ e,hl]
 |_=>cases e
end
abbrev SB:=Nat->Prop
def OwB(B:SB)(T:AP')(σ:L2.St)(δ:Dn):AP':=fun a=>(∃i,¬B i/\OwnI σ δ i a)\/T a
theorem OwB.own(h:OwB B T σ δ a):OwnA σ δ a\/T a:=h.imp (fun⟨i,_,d,h1,h2⟩=>⟨i,d,h1,h2⟩) id
structure ItOk(K:fO)(J:It)(ds:List D)(P O:AP')(H1:Hp):Prop where
 go: ∀(i:Nat) d Hi,ds[i]?=some d->(∀a o,H1 a=some o-> ¬P a->Hi a=some o)->J.go i Hi/\ ∀x H',J.yld i Hi x H'->(∀a o,Hi a=some o->H' a=some o)/\
  ∀O':AP',(∀b,H1 b≠none->O' b->O b)->(∀b,Hi b=none-> ¬O' b)->Rep K H' O' d x
 stop: ∀(i:Nat) Hi,ds.length<=i->(∀a o,H1 a=some o-> ¬P a->Hi a=some o)->J.stop i Hi
abbrev FIt:=Dn->Option (List D×Dn)
def tI(K:fO)(B:SB)(fi:FIt):TI:=fun σ H R=> ∃δ T ds δ',ER K H T σ δ/\fi δ=some (ds,δ')/\ ∀J H',Keep σ δ H δ' H'->ER K H' T σ δ'->ItOk K J ds (OwB B T σ δ') (fun a=>OwnA σ δ' a\/T a) H'->R J H'
def PIX(X:Cx)(B:SB)(tg iter:fw)(fi:FIt):Prop:=PI X tg iter (tI X.K B fi)
noncomputable def qV:D->Option (List D)
 | .tup l=>some l
 | .lst l=>some l
 |_=>none
noncomputable def Eb(f:FO):FIt:=fun δ=>(f δ).bind fun p=>(res p.2 p.1).bind fun d=>(qV d).bind fun l=>some (l,p.2)
noncomputable def gg(f:F):FIt:=fun δ=>(f δ).bind fun p=>match p.1.1 with
 | .lst l=>some (l,p.2)
 | .tup l=>some (l,p.2)
 |_=>none
noncomputable def gf(lo:Int)(n:Nat):List D:=(List.range n).map fun(k:Nat)=> .int (lo+k)
noncomputable def qc(f:FO):FIt:=fun δ=>(hC [f] δ).bind fun p=>match qG p.2 p.1 with
 |some [.int j]=>if -(2^62)<=j/\j<2^62 then some (gf 0 j.toNat,p.2) else none
 |_=>none
def SlB(B:SB)(f:FO):Prop:= ∀δ i δ',f δ=some (.slot i,δ')->B i
theorem AG:SlB B (eW f):=fun δ i δ' h=>by
 obtain⟨p,_,h⟩:=eU h;cases h
theorem EM(h:B i):SlB B (eV i):=fun δ j δ' e=>by
 unfold eV at e;split at e<;>cases e
 exact h
noncomputable def isL:D->Bool
 | .lst _=>true
 |_=>false
def SqA(b:Bool)(K:fO)(H:Hp)(P:AP')(a:eX)(xs:List V):Prop:=if b=true then SqLO K H P a xs else SqTO K H P a xs
theorem SqA.mono{K H H'}{P P':AP'}(q:SqA b K H P a xs)(k: ∀b o,H b=some o-> ¬P b->H' b=some o)(hP: ∀b,P' b->P b):SqA b K H' P' a xs:=by
 cases b with
 |true=>exact SqLO.mono q k fun b _=>hP b
 |false=>exact SqTO.mono (K:=K) q k fun b _=>hP b
theorem SqA.l{K H}(q:SqA true K H P a xs):SqL K H a xs:=SqLO.sq q
theorem SqA.t{K H}(q:SqA false K H P a xs):SqT K H a xs:=SqTO.sq (K:=K) q
theorem F4{K H}(h:qV d=some l)(r:Rep K H O d v): ∃a xs,v= .ref a/\SqA (isL d) K H O a xs/\RepL K H O l xs:=by
 cases d with
 |tup m=>cases h;obtain⟨a,xs,rfl,q,rr⟩:=r.tup;exact⟨a,xs,rfl,q,rr⟩
 |lst m=>cases h;obtain⟨a,xs,rfl,q,rr⟩:=r.lst;exact⟨a,xs,rfl,q,rr⟩
 |_=>cases h
theorem Ops.seq{K:fO}{T T':AP'}{σ:L2.St}{δ δ':Dn}{H H':Hp}{os:List Opd}{vs:List V}(E:ER K H T σ δ)(W:Ops K T σ δ H os vs δ' H' T'){j:Nat}(h1:os[j]?=some o)(h2:vs[j]?=some v)(hr:res δ' o=some d)(hs:qV d=some l)(hB: ∀i,o= .slot i->B i):
  ∃a xs,v= .ref a/\SqA (isL d) K H' (OwB B T σ δ') a xs/\RepL K H' (fun a=>OwnA σ δ' a\/T a) l xs:=by
 have fin:Rep K H' (fun a=>OwnA σ δ' a\/T a) d v-> ∃a xs,v= .ref a/\SqA (isL d) K H' (OwB B T σ δ') a xs/\RepL K H' (fun a=>OwnA σ δ' a\/T a) l xs:=fun r=>by
  obtain⟨a,xs,rfl,q,rr⟩:=F4 hs r;exact⟨a,xs,rfl,q.mono (fun _ _ e _=>e) fun a z=>z.own,rr⟩
 cases o with
 |val r=>cases hr;exact fin (W.rep E h1 h2)
 |slot i=>
  have hk:=W.slt j i _ h1 h2
  have hd: ∃f,δ'[i]?=some (some (d,f)):=by
   unfold res at hr;dsimp only at hr;split at hr<;>cases hr
   exact⟨_,by assumption⟩
  obtain⟨f,hd⟩:=hd
  cases f with
  |false=>
   obtain⟨w,e1,e2⟩:=W.er.val i _ hd;rw[hk] at e1;cases e1;exact fin (Rep.mono (fun _ _ e _=>e) (fun b _ z=>z.imp id (W.tt b)) e2)
  |true=>
   obtain⟨a,e1,ok⟩:=W.er.own i _ hd;rw[hk] at e1;cases e1
   cases d with
   |lst m=>
    cases hs;obtain⟨xs,e,rr⟩:=ok;exact⟨a,xs,rfl,.inl ⟨.inl e,fun z=>z.elim (fun⟨k,nb,d',g1,g2⟩=>nb (W.er.inj i k _ _ a hd g1 hk g2▸hB i rfl)) fun z=>W.er.nT a ⟨i,_,hd,hk⟩ (W.tt a z)⟩,RepL.mono (fun _ _ e _=>e) (fun b _ z=>z.imp id (W.tt b)) rr⟩
   |tup m=>exact ok.elim
   |_=>cases hs
section
variable {X:Cx}{B:SB}{tg e:fw}{f:F}{fo:FO}{pos p:Pos}
theorem PI.imp'(h:PI X tg e t)(k: ∀σ H R,t' σ H R->t σ H R):PI X tg e t':=fun pins s σ H R I hw=>h pins s σ H R I (k σ H R hw)
theorem PI.or(h:PI X tg e t)(h':PI X tg e t'):PI X tg e (fun σ H R=>t σ H R\/t' σ H R):=fun pins s σ H R I hw=>hw.elim (h pins s σ H R I) (h' pins s σ H R I)
noncomputable def ItS(b:Bool)(K:fO)(a:eX):It:=if b=true then Itl K a else Itt K a
theorem J9{K:fO}{P O:AP'}{H1:Hp}{a:eX}{xs:List V}{l:List D}(q:SqA b K H1 P a xs)(r:RepL K H1 O l xs)(hP: ∀a,P a->O a):ItOk K (ItS b K a) l P O H1:=by
 cases b<;>(
  refine⟨fun i d Hi hd hp=>?_,fun i Hi hi hp=>?_⟩
  ·have q2:=SqA.mono q hp fun _ z=>z
   first|replace q2:=q2.l|replace q2:=q2.t
   obtain⟨x,hx,rx⟩:=r.get hd;refine⟨⟨xs,x,q2,hx⟩,fun y H' hy=>?_⟩;obtain⟨rfl,hy⟩:=hy;have:=hy xs q2;rw[hx] at this;cases this;exact⟨fun _ _ e=>e,fun O' h1 h2=>Rep.mono (fun b o e n=>hp b o e fun z=>n (hP b z)) h1 rx⟩
  ·exact⟨xs,by first|exact(SqA.mono q hp fun _ z=>z).l|exact(SqA.mono q hp fun _ z=>z).t,by rw[r.length];exact hi⟩)
theorem xR{K:fO}{P O:AP'}{H1:Hp}(lo:Int)(n:Nat):ItOk K (Itr lo n) (gf lo n) P O H1:=by
 refine⟨fun i d Hi hd hp=>?_,fun i Hi hi hp=>?_⟩
 ·unfold gf at hd;rw[jU] at hd;obtain⟨k,h1,h2⟩:=gZ hd;have hi:i<n:=by have:=(sN.mp h1).1;simpa using this
  have hk:k=i:=by rw[List.getElem?_range hi] at h1;exact(iz h1).symm
  subst hk;refine⟨hi,fun y H' hy=>?_⟩;obtain⟨rfl,rfl⟩:=hy;refine⟨fun _ _ e=>e,fun O' _ _=>?_⟩;rw[<-h2];exact Rep.mkInt
 ·unfold gf at hi;have:n<=i:=by simpa using hi
  exact this
theorem Ji(h:PO X e fo)(hB:SlB B fo):PIX X B tg e (Eb fo):=PI.imp' (PI.or (Ma (tg:=tg) h) (ON h)) fun σ H R hw=>by
 obtain⟨δ,T,ds,δ',E,e,k⟩:=hw;obtain⟨⟨o,δ1⟩,h1,e⟩:=eU e;obtain⟨d,h2,e⟩:=eU e;obtain⟨l,h3,e⟩:=eU e;obtain⟨rfl,rfl⟩:=fK e
 have key: ∀v H1,PostO X.K T σ δ H o δ1 v H1-> ∃a xs,v= .ref a/\SqA (isL d) X.K H1 (OwB B T σ δ1) a xs/\R (ItS (isL d) X.K a) H1:=fun v H1 P=>by
  have W:=Ops.cons E P (Ops.nil (P.er E));obtain⟨a,xs,rfl,q,rr⟩:=W.seq E (j:=0) rfl rfl h2 h3 fun i hi=>hB _ _ _ (hi▸h1);exact⟨a,xs,rfl,q,k _ H1 W.keep (W.er.mono (fun _ _ e _=>e) (fun b _ z=>W.tt b z) (fun a z=>W.er.dom a (W.tt a z))) (J9 q rr fun a z=>z.own)⟩
 cases d with
 |lst m=>exact .inl ⟨δ,T,_,_,E,h1,fun v H1 P=>let⟨a,xs,e,q,r⟩:=key v H1 P;⟨a,e,⟨xs,q.l⟩,r⟩⟩
 |tup m=>exact .inr ⟨δ,T,_,_,E,h1,fun v H1 P=>let⟨a,xs,e,q,r⟩:=key v H1 P;⟨a,e,⟨xs,q.t⟩,r⟩⟩
 |_=>cases h3
theorem L7(h:PX X e f):PIX X B tg e (gg f):=PI.imp' (Ji (B:=B) (PX.po h) AG) fun σ H R hw=>by
 have:gg f=Eb (eW f):=funext fun δ=>by
  unfold gg Eb eW
  cases f δ with
  |none=>rfl
  |some p=>obtain⟨⟨d,o⟩,δ1⟩:=p;cases d<;>rfl
 rwa [this] at hw
end
noncomputable def mB(tg:Tg)(fb:FS):List D->FS
 |[],δ=>some (.nx δ)
 |d::ds,δ=>(tg d δ).bind fun δ1=>(fb δ1).bind fun o=>match o with
  | .nx δ2=>mB tg fb ds δ2
  | .ct δ2=>mB tg fb ds δ2
  | .bk δ2=>some (.nx δ2)
  | .rt r δ2=>some (.rt r δ2)
noncomputable def lN(fi:FIt)(tg:Tg)(fb:FS):FS:=fun δ=>(fi δ).bind fun p=>mB tg fb p.1 p.2
section
variable {X:Cx}{A L:gR}{H0:Hp}{tg iter:fw}{body:List Stmt}{fi:FIt}{t:Tg}{fb:FS}{pos:Pos}
theorem L3(hp:PassesOwn (model X.prog X.w) X.A X.env X.xe)(hc:X.calm=true)(hi:PIX X (fun _=>False) tg iter fi)(hg:PGX X A tg t)(hb:Bt X A L H0 body fb)(hs: ∀x,foldedSetIterable iter X.env x=pure x):
  PSX X A L H0 (.For tg iter body [] pos) (lN fi t fb):=PS.imp' (OI hp hc hi hg hb hs) fun D σ H hw=>by
 obtain⟨δ,T,out,E,eK,e,k⟩:=hw;obtain⟨⟨ds,δ1⟩,h1,e⟩:=eU e;refine⟨δ,T,ds,δ1,E,h1,fun J H1 K1 E1 ok=>?_⟩;have S1:SK A σ δ H σ δ1 H1:=K1.sk;refine⟨fun i m σ' H'=>m=ds.length-i/\i<=ds.length/\ ∃δ',SK A σ δ1 H1 σ' δ' H'/\ER X.K H' T σ' δ'/\mB t fb (ds.drop i) δ'=some out,⟨ds.length,by simp,kA _,δ1,.refl,E1,by simpa using e⟩,?_⟩;rintro i m σ2 H2 ⟨rfl,hle,δ2,S2,E2,e2⟩;have y8: ∀a o,H1 a=some o-> ¬OwB (fun _=>False) T σ δ1 a->H2 a=some o:=fun a o ea n=>S2.kp a o ea fun⟨i,d,z⟩=>n (.inl ⟨i,id,d,z⟩);by_cases i8:i<ds.length
 ·refine .inr ?_;have hd:ds[i]?=some ds[i]:=ir i8;obtain⟨go,yl⟩:=ok.go i _ H2 hd y8;rw[rM i8] at e2;obtain⟨δ3,h3,e3⟩:=eU e2;obtain⟨o,h4,e4⟩:=eU e3;refine⟨go,fun σ' H'=> ∃δ',SK A σ δ1 H1 σ' δ' H'/\ER X.K H' T σ' δ'/\mB t fb (ds.drop (i+1)) δ'=some out,fun σ' H' ⟨δ',q1,q2,q3⟩=>⟨ds.length-(i+1),by omega,rfl,i8,δ',q1,q2,q3⟩,fun x H' hy=>?_⟩;obtain⟨ext,rep⟩:=yl x H' hy;have cR:ER X.K H' T σ2 δ2:=E2.mono (fun b ob eb _=>ext b ob eb) (fun _ _ z=>z) (fun a z=>(E2.dom a z).up (ext a));have eO:SK A σ δ1 H1 σ2 δ2 H':=S2.trans (Keep.ext ext).sk;have rx:=rep (fun a=>OwnA σ2 δ2 a\/T a) (fun b hb z=>z.elim (fun z=>(S2.ow b z).elim Or.inl fun z=>absurd z hb) Or.inr) (fun b hb z=>z.elim (fun z=>E2.ownDom z hb) fun z=>(E2.dom b z).ne hb);refine⟨δ2,T,ds[i],δ3,cR,rx,h3,fun σ3 S3 E3=>?_⟩;have bR:=eO.trans S3;refine⟨δ3,T,o,E3,(eK.step S1).step bR,h4,?_⟩
  cases o with
  |nx δ4=>exact fun σ4 H4 S4 E4=>⟨δ4,bR.trans S4,E4,e4⟩
  |ct δ4=>exact fun σ4 H4 S4 E4=>⟨δ4,bR.trans S4,E4,e4⟩
  |bk δ4=>cases e4;exact fun σ4 H4 S4 E4=>k σ4 H4 (S1.trans (bR.trans S4)) E4
  |rt r δ4=>cases e4;exact fun v σ4 H4 S4 R4=>k v σ4 H4 (S1.trans (bR.trans S4)) R4
 ·refine .inl ⟨ok.stop i H2 (by omega) y8,?_⟩;rw[rL (by omega)] at e2;cases e2;exact k σ2 H2 (S1.trans S2) E2
end
noncomputable def mn(ft:FT)(fb:FS):Nat->FS
 |0,_=>none
 |n+1,δ=>(ft δ).bind fun p=>if p.1=true then(fb p.2).bind fun o=>(match o with
   | .nx δ2=>mn ft fb n δ2
   | .ct δ2=>mn ft fb n δ2
   | .bk δ2=>some (.nx δ2)
   | .rt r δ2=>some (.rt r δ2)) else some (.nx p.2)
noncomputable def vq(f g:FO):FIt:=fun δ=>(hC [f,g] δ).bind fun p=>match qG p.2 p.1 with
 |some [.int i,.int j]=>if -(2^62)<=i/\i<2^62/\ -(2^62)<=j/\j<2^62 then some (gf i (j-i).toNat,p.2) else none
 |_=>none
section
variable {X:Cx}{A L:gR}{H0:Hp}{B:SB}{tg e c a b:fw}{body:List Stmt}{ft:FT}{fb:FS}{fa fo:FO}{pos p:Pos}
theorem Ge{n:Nat}(hp:PassesOwn (model X.prog X.w) X.A X.env X.xe)(hc:PTX X c ft)(hb:Bt X A L H0 body fb):PSX X A L H0 (.While c body [] pos) (mn ft fb n):=PS.imp' (Ja hp hc hb) fun D σ H hw=>by
 obtain⟨δ,T,out,E,eK,e,k⟩:=hw;refine⟨fun m σ' H'=> ∃δ',SK A σ δ H σ' δ' H'/\ER X.K H' T σ' δ'/\mn ft fb m δ'=some out,⟨n,δ,.refl,E,e⟩,?_⟩;rintro m σ2 H2 ⟨δ2,S2,E2,e2⟩
 cases m with
 |zero=>cases e2
 |succ m=>
  obtain⟨⟨c1,δ3⟩,h3,e3⟩:=eU e2;refine⟨δ2,T,c1,δ3,E2,h3,fun H3 K3 E3=>?_⟩;have S3:SK A σ δ H σ2 δ3 H3:=S2.trans K3.sk
  cases c1 with
  |false=>
   rw[fR je] at e3;cases e3;exact Ry (k σ2 H3 S3 E3)
  |true=>
   rw[fJ rfl] at e3;obtain⟨o,h4,e4⟩:=eU e3;refine Rx ⟨fun σ' H'=> ∃δ',SK A σ δ H σ' δ' H'/\ER X.K H' T σ' δ'/\mn ft fb m δ'=some out,fun σ' H' q=>⟨m,tj _,q⟩,δ3,T,o,E3,eK.step S3,h4,?_⟩
   cases o with
   |nx δ4=>exact fun σ4 H4 S4 E4=>⟨δ4,S3.trans S4,E4,e4⟩
   |ct δ4=>exact fun σ4 H4 S4 E4=>⟨δ4,S3.trans S4,E4,e4⟩
   |bk δ4=>cases e4;exact fun σ4 H4 S4 E4=>k σ4 H4 (S3.trans S4) E4
   |rt r δ4=>cases e4;exact fun v σ4 H4 S4 R4=>k v σ4 H4 (S3.trans S4) R4
theorem ql{K:fO}{T T':AP'}{σ:L2.St}{δ δ':Dn}{H H':Hp}{os:List Opd}{vs:List V}{ds:List D}(B:Ops K T σ δ H os vs δ' H' T')(h:qG δ' os=some ds){j:Nat}{i:Int}(hd:ds[j]?=some (.int i)):vs[j]?=some (.int i):=by
 obtain⟨h1,h2⟩:=kI h;obtain⟨o,h3,h4⟩:=h2 j _ hd;have hj:j<vs.length:=by have:=(sN.mp h3).1;have:=B.len;lia
 have hv:vs[j]?=some vs[j]:=ir hj;have:=gb (B.view h3 hv h4);rw[hv,this]
theorem DU(hg:Gl X "range")(hm:X.mg "range"=none)(ha:PA X [a] (tA X.K [fa]))(hs:starEach [a] X.env=[(false,eval a X.env)]):PIX X B tg (.Call (.Name "range" p) [a] [] pos) (qc fa):=PI.imp' (Gm hg hm ha hs) fun σ H R hw=>by
 obtain⟨δ,T,ds,δ',E,e,k⟩:=hw;obtain⟨⟨os,δ1⟩,h1,e⟩:=eU e;refine⟨δ,T,os,δ1,E,h1,fun vs H1 T1 B=>?_⟩;dsimp only at e;split at e
 ·rename_i j hj;obtain⟨⟨c1,c2⟩,e⟩:=fU e;obtain⟨rfl,rfl⟩:=tq e;have hv:=ql B hj (j:=0) rfl;obtain⟨hl,_⟩:=kI hj
  have:vs=[.int j]:=by
   have hlen:=B.len
   cases vs with
   |nil=>simp at hv
   |cons v r=>
    cases r with
    |nil=>simp at hv;rw[hv]
    |cons _ _=>simp at hl hlen;lia
  exact⟨j,this,c1,c2,k _ H1 B.keep (B.er.mono (fun _ _ e _=>e) (fun b _ z=>B.tt b z) (fun a z=>B.er.dom a (B.tt a z))) (xR 0 j.toNat)⟩
 ·cases e
theorem DT(hg:Gl X "range")(hm:X.mg "range"=none)(ha:PA X [a,b] (tA X.K [fa,fo]))(hs:starEach [a,b] X.env=[(false,eval a X.env),(false,eval b X.env)])(t8:starEach [b] X.env=[(false,eval b X.env)]):PIX X B tg (.Call (.Name "range" p) [a,b] [] pos) (vq fa fo):=PI.imp' (Gk hg hm ha hs t8) fun σ H R hw=>by
 obtain⟨δ,T,ds,δ',E,e,k⟩:=hw;obtain⟨⟨os,δ1⟩,h1,e⟩:=eU e;refine⟨δ,T,os,δ1,E,h1,fun vs H1 T1 B=>?_⟩;dsimp only at e;split at e
 ·rename_i i j hj;obtain⟨c1,e⟩:=fU e;obtain⟨rfl,rfl⟩:=tq e;have hv:=ql B hj (j:=0) rfl;have dh:=ql B hj (j:=1) rfl;obtain⟨hl,_⟩:=kI hj
  have:vs=[.int i,.int j]:=by
   have hlen:=B.len
   match vs,hv,dh with
   |[x,y],hv,dh=>simp at hv dh;rw[hv,dh]
   |x::y::z::r,_,_=>simp at hl hlen;lia
  exact⟨i,j,this,c1,k _ H1 B.keep (B.er.mono (fun _ _ e _=>e) (fun b _ z=>B.tt b z) (fun a z=>B.er.dom a (B.tt a z))) (xR i (j-i).toNat)⟩
 ·cases e
end
abbrev EvF:=List (D×Bool)->Option ((D×Bool)×Dn)
def spF(K:fO)(ev:EvF):Sp:=fun vs H Q _=> ∃T args r outs,ER K H T (vs.map some) (args.map some)/\ev args=some (r,outs)/\ ∀v H',Post K T (vs.map some) (args.map some) H r outs v H'->Q v H'
noncomputable def gk(args:List (D×Bool))(δ:Dn):Dn:=args.zipIdx.map fun p=>if p.1.2=true then(δ[p.2]?).join else some p.1
noncomputable def evF(n np:Nat)(asg:hV)(f:FS):EvF:=fun args=>
 if args.length=np/\np<=n/\(args.zipIdx.all fun p=>!(p.1.2&&asg.contains p.2))=true then
  match f (args.map some++List.replicate (n-np) none) with
  |some (.rt r δ)=>some (r,gk args δ)
  |some (.nx δ)=>some ((.non,false),gk args δ)
  |_=>none
 else none
theorem JA(args:List (D×Bool))(δ:Dn)(i:Nat):(gk args δ)[i]?=args[i]?.map fun x=>if x.2=true then(δ[i]?).join else some x:=by
 unfold gk;rw[jU,HD]
 cases args[i]? with
 |none=>rfl
 |some x=>simp
theorem qu(h:x.join=some p):x=some (some p):=by
 cases x with
 |none=>cases h
 |some y=>exact lH some h
section
variable {K:fO}{T:AP'}{A:gR}{vs:List V}{args:List (D×Bool)}{H H':Hp}{m:Nat}{σ':L2.St}{δ':Dn}{r:D×Bool}{v:V}
theorem Bv{α:Type}{xs:List α}{m i:Nat}{y:α}:(xs.map some++List.replicate m none)[i]?=some (some y)↔xs[i]?=some y:=by
 by_cases h:i<xs.length
 ·rw[qT (by simpa using h),jU];cases xs[i]?<;>simp
 ·rw[nB (by simpa using h)];constructor
  ·intro e;rw[List.getElem?_replicate] at e;split at e<;>cases e
  ·intro e;exact absurd (sN.mp e).1 h
theorem qw{α:Type}{xs:List α}{i:Nat}{y:α}:(xs.map some)[i]?=some (some y)↔xs[i]?=some y:=by
 rw[jU];cases xs[i]?<;>simp
theorem G4{i:Nat}{a:eX}:OwnI (vs.map some++List.replicate m none) (args.map some++List.replicate m none) i a↔OwnI (vs.map some) (args.map some) i a:=by
 unfold OwnI;simp only[Bv,qw]
theorem BY:OwnA σ δ a↔ ∃i,OwnI σ δ i a:=Iff.rfl
theorem Jz:OwnA (vs.map some++List.replicate m none) (args.map some++List.replicate m none) a↔OwnA (vs.map some) (args.map some) a:=by
 rw[BY,BY];exact exists_congr fun i=>G4
theorem ER.pad(E:ER K H T (vs.map some) (args.map some)):ER K H T (vs.map some++List.replicate m none) (args.map some++List.replicate m none):=by
 have len:vs.length=args.length:=by simpa using E.len
 refine⟨by simp[len],fun i d h=>?_,fun i d h=>?_,fun i j d e a h1 h2 h3 h4=>?_,fun a z=>E.nT a (Jz.mp z),E.dom⟩
 ·obtain⟨w,w1,w2⟩:=E.val i d (qw.mpr (Bv.mp h));exact⟨w,Bv.mpr (qw.mp w1),Rep.mono (fun _ _ e _=>e) (fun b _ z=>z.imp Jz.mp id) w2⟩
 ·obtain⟨w,w1,w2⟩:=E.own i d (qw.mpr (Bv.mp h));exact⟨w,Bv.mpr (qw.mp w1),w2.mono (fun _ _ e _=>e) (fun b _ z=>z.imp Jz.mp id) fun _ e=>e⟩
 ·exact E.inj i j d e a (qw.mpr (Bv.mp h1)) (qw.mpr (Bv.mp h2)) (qw.mpr (Bv.mp h3)) (qw.mpr (Bv.mp h4))
theorem E6{T':AP'}(E:ER K H T (vs.map some) (args.map some))(S:SK A (vs.map some++List.replicate m none) (args.map some++List.replicate m none) H σ' δ' H')(hA: ∀(i:Nat) d,args[i]?=some (d,true)-> ¬A i)
  (E':ER K H' T' σ' δ')(hT: ∀b,H b≠none->T' b->T b):ER K H' T' (vs.map some) (gk args δ')/\(∀b,OwnA (vs.map some) (gk args δ') b->OwnA σ' δ' b)/\Keep (vs.map some) (args.map some) H (gk args δ') H':=by
 have len:vs.length=args.length:=by simpa using E.len
 have here: ∀(i:Nat) d w,args[i]?=some (d,true)->vs[i]?=some w->σ'[i]?=some (some w):=fun i d w h1 h2=>by
  rw[S.as i (hA i d h1)];exact Bv.mpr h2
 have outI: ∀(i:Nat) d b,(gk args δ')[i]?=some (some (d,b))->(∃e,args[i]?=some (e,true)/\δ'[i]?=some (some (d,b)))\/(b=false/\args[i]?=some (d,false)):=fun i d b h=>by
  rw[JA] at h;obtain⟨⟨e,c⟩,h1,h2⟩:=gZ h
  cases c with
  |true=>
   left;exact⟨e,h1,qu (by simpa using h2)⟩
  |false=>
   right;have:some (e,false)=some (d,b):=by simpa using h2
   cases this;exact⟨rfl,h1⟩
 have y9: ∀i a,OwnI (vs.map some) (gk args δ') i a->OwnI σ' δ' i a/\OwnI (vs.map some) (args.map some) i a:=fun i a ⟨d,h1,h2⟩=>by
  rcases outI i d true h1 with⟨e,h3,h4⟩|⟨z,_⟩
  ·exact⟨⟨d,h4,here i e _ h3 (qw.mp h2)⟩,⟨e,qw.mpr h3,h2⟩⟩
  ·cases z
 have u5: ∀b,OwnA (vs.map some) (gk args δ') b->OwnA σ' δ' b:=fun b ⟨i,d,h1,h2⟩=>by
  obtain⟨⟨e,q1,q2⟩,_⟩:=y9 i b ⟨d,h1,h2⟩;exact⟨i,e,q1,q2⟩
 have owA2: ∀b,OwnA (vs.map some) (gk args δ') b->OwnA (vs.map some) (args.map some) b:=fun b ⟨i,d,h1,h2⟩=>by
  obtain⟨_,⟨e,q1,q2⟩⟩:=y9 i b ⟨d,h1,h2⟩;exact⟨i,e,q1,q2⟩
 have kp: ∀a o,H a=some o-> ¬OwnA (vs.map some) (args.map some) a->H' a=some o:=fun a o e n=>S.kp a o e fun z=>n (Jz.mp z);refine⟨⟨?_,fun i d h=>?_,fun i d h=>?_,fun i j d e a h1 h2 h3 h4=>?_,fun a z=>E'.nT a (u5 a z),E'.dom⟩,u5,⟨kp,fun i a z=>(y9 i a z).2,S.dm⟩⟩
 ·simp[gk,len]
 ·have hi:i<vs.length:=by
   have:=(sN.mp h).1;simp[gk] at this
   lia
  have hv:vs[i]?=some vs[i]:=ir hi;rcases outI i d false h with⟨e,h3,h4⟩|⟨_,h3⟩
  ·obtain⟨w,w1,w2⟩:=E'.val i d h4;rw[here i e _ h3 hv] at w1;cases w1;exact⟨_,qw.mpr hv,Rep.mono (fun _ _ e _=>e) (fun b _ z=>z.imp (u5 b) id) w2⟩
  ·obtain⟨w,w1,w2⟩:=E.val i d (qw.mpr h3);exact⟨w,w1,Rep.mono (fun b o e n=>kp b o e fun z=>n (.inl z)) (fun b hb z=>z.imp (owA2 b) (hT b hb)) w2⟩
 ·have hi:i<vs.length:=by
   have:=(sN.mp h).1;simp[gk] at this
   lia
  have hv:vs[i]?=some vs[i]:=ir hi;rcases outI i d true h with⟨e,h3,h4⟩|⟨z,_⟩
  ·obtain⟨w,w1,w2⟩:=E'.own i d h4;rw[here i e _ h3 hv] at w1;have w1':vs[i]=V.ref w:=by simpa using w1
   exact⟨w,by rw[<-w1'];exact qw.mpr hv,w2.mono (fun _ _ e _=>e) (fun b _ z=>z.imp (u5 b) id) fun _ e=>e⟩
  ·cases z
 ·obtain⟨_,⟨d1,q1,q2⟩⟩:=y9 i a ⟨d,h1,h3⟩;obtain⟨_,⟨d2,q3,q4⟩⟩:=y9 j a ⟨e,h2,h4⟩;exact E.inj i j d1 d2 a q1 q3 q2 q4
theorem qB(E:ER K H T (vs.map some) (args.map some))(S:SK A (vs.map some++List.replicate m none) (args.map some++List.replicate m none) H σ' δ' H')(hA: ∀(i:Nat) d,args[i]?=some (d,true)-> ¬A i)
  (R:RV K T H r σ' δ' v H'):Post K T (vs.map some) (args.map some) H r (gk args δ') v H':=by
 obtain⟨d,b⟩:=r
 cases b with
 |false=>
  obtain⟨E',rv⟩:=R;obtain⟨E2,ow,kp⟩:=E6 E S hA E' (fun _ _ z=>z);exact⟨kp,E2,Rep.mono (fun _ _ e _=>e) (fun b _ z=>z.imp (ow b) id) rv⟩
 |true=>
  obtain⟨p,rfl,hp,E',ok⟩:=R;obtain⟨E2,ow,kp⟩:=E6 E S hA E' (fun b hb z=>z.elim id fun z=>by subst z;exact absurd hp hb);exact⟨kp,p,rfl,hp,E2,ok.mono (fun _ _ e _=>e) (fun b _ z=>z.imp (ow b) id) fun _ e=>e⟩
end
section
variable {P:fS}{w:fL}{K:fO}{mg:jY}{base:fP}{N:fV}{m:Nat}{asg:hV}{fs:FS}{vs:List V}{H:Hp}{Q:VK}{E:XK}
theorem Lk(h:spF K (evF N.length m asg fs) vs H Q E):vs.length=m:=by
 obtain⟨T,args,r,outs,E0,e,_⟩:=h;unfold evF at e;split at e
 ·rename_i hc;have:=E0.len;simp at this;rw[this];exact hc.1
 ·cases e
theorem NT(h:spF K (evF N.length m asg fs) vs H Q E): ∃L:Nat->Prop,(∀i,L i->i<m)/\tS K (fun i=>i∈asg) L H fs {nx:=fun _ H'=>Q .non H',rt:=Q} (L2.oP N vs) H:=by
 obtain⟨T,args,r,outs,E0,e,kq⟩:=h;unfold evF at e;split at e
 ·rename_i hc;obtain⟨h1,h2,h3⟩:=hc;have hlen:vs.length=args.length:=by simpa using E0.len
  refine⟨fun i=> ∃d,args[i]?=some (d,true),fun i ⟨d,hd⟩=>by have:=(sN.mp hd).1;lia,?_⟩;have l5:L2.oP N vs=vs.map some++List.replicate (N.length-m) none:=by unfold L2.oP;rw[hlen,h1]
  have hA: ∀(i:Nat) d,args[i]?=some (d,true)-> ¬(i∈asg):=fun i d hd hm=>by
   have hz:(args.zipIdx)[i]?=some ((d,true),i):=by rw[HD,hd];simp
   have:=my.mp h3 _ (lG hz);simp at this;exact this hm
  rw[l5]
  have fi:FI (fun i=>i∈asg) (fun i=> ∃d,args[i]?=some (d,true)) H (vs.map some++List.replicate (N.length-m) none) (args.map some++List.replicate (N.length-m) none) H:=⟨fun i a z=>by
   obtain⟨d,q1,_⟩:=G4.mp z;exact .inl ⟨d,qw.mp q1⟩,fun _ z=>z,fun j hj ⟨d,hd⟩=>hA j d hd hj⟩
  cases hf:fs (args.map some++List.replicate (N.length-m) none) with
  |none=>rw[hf] at e;cases e
  |some out=>
   rw[hf] at e;refine⟨_,T,out,E0.pad,fi,hf,?_⟩
   cases out with
   |rt r1 δ1=>
    obtain⟨rfl,rfl⟩:=fK e;exact fun v σ' H' S1 R1=>kq v H' (qB E0 S1 hA R1)
   |nx δ1=>
    obtain⟨rfl,rfl⟩:=fK e;exact fun σ' H' S1 E1=>kq .non H' (qB (r:=(.non,false)) E0 S1 hA ⟨E1,Rep.mkNon⟩)
   |bk δ1=>cases e
   |ct δ1=>cases e
 ·cases e
theorem Pq{x qual:Str}{st:Stmt}{f:eX}{fd:kO}{ps:fV}{k:Nat}(F:Fun K x qual st f fd)(S:FnScope N ps (fA st))
  (r0: ∀(f6:fI) (A:fQ) (outer:List Env) (s:eZ) (H:Hp) (E:XK) (L:gR),(∀i,L i->i<ps.length)->Room k (A.deeper (envOfC qual (fA st) s.heap.objs.size f f6))->
   Bt (Cv CX0 P w K mg base N qual (fA st) f f6 A outer s H E).nox (fun i=>i∈asg) L H (lR st) fs):FnOk P w K mg base CX0 (k+1) f fd ps (spF K (evF N.length ps.length asg fs)):=
 F.ok S (fun vs H Q E h=>Lk h) fun f6 A outer s H vs Q E hr h=>let⟨L,h1,h2⟩:=NT h;⟨_,r0 f6 A outer s H E L h1 hr,h2⟩
end
noncomputable def uE(δ:Dn):Opd->Option (D×Bool)
 | .val r=>some (r.1,false)
 | .slot i=>(δ[i]?).join
noncomputable def iJ(δ:Dn):List Opd->Option (List (D×Bool))
 |[]=>some []
 |o::os=>(uE δ o).bind fun a=>(iJ δ os).bind fun l=>some (a::l)
noncomputable def fW:List Opd->List (D×Bool)->List Nat
 | .slot i::os,(_,true)::as=>i::fW os as
 |_::os,_::as=>fW os as
 |_,_=>[]
noncomputable def wb:List Opd->List (D×Bool)->Dn->Dn->Dn
 | .slot i::os,(_,true)::as,o::outs,δ=>wb os as outs (δ.set i o)
 |_::os,_::as,_::outs,δ=>wb os as outs δ
 |_,_,_,δ=>δ
noncomputable def fj(ev:EvF)(fs:List FO):F:=fun δ=>(hC fs δ).bind fun p=>(iJ p.2 p.1).bind fun args=>if(fW p.1 args).Nodup then(ev args).bind fun q=>some (q.1,wb p.1 args q.2 p.2) else none
theorem oD{δ:Dn}: ∀{os:List Opd} {as:List (D×Bool)},iJ δ os=some as->as.length=os.length/\ ∀(j:Nat) a,as[j]?=some a-> ∃o,os[j]?=some o/\uE δ o=some a:=by
 intro iV
 induction iV with
 |nil=>
  intro as h;cases h;exact⟨rfl,fun j d h=>by simp at h⟩
 |cons o os iH=>
  intro as h;unfold iJ at h;obtain⟨d,h1,h⟩:=eU h;obtain⟨l,h2,h⟩:=eU h;cases h;obtain⟨h3,h4⟩:=iH h2;refine⟨by simp[h3],fun j e he=>?_⟩
  cases j with
  |zero=>simp at he;subst he;exact⟨o,rfl,h1⟩
  |succ j=>
   obtain⟨o',q1,q2⟩:=h4 j e (by simpa using he);exact⟨o',by simpa using q1,q2⟩
theorem qt: ∀{os:List Opd} {as:List (D×Bool)} {j i:Nat} {d:D},os[j]?=some (.slot i)->as[j]?=some (d,true)->i∈fW os as
 |[],_,_,_,_,h,_=>by simp at h
 |_::_,[],_,_,_,_,h=>by simp at h
 |o::os,(e,b)::as,0,i,d,h1,h2=>by
  simp at h1 h2;obtain⟨rfl,rfl⟩:=h2;subst h1;simp[fW]
 |o::os,(e,b)::as,j+1,i,d,h1,h2=>by
  have ih:=qt (os:=os) (as:=as) (j:=j) (i:=i) (d:=d) (by simpa using h1) (by simpa using h2)
  cases o with
  |val r=>simpa[fW] using ih
  |slot k=>
   cases b with
   |true=>simp[fW,ih]
   |false=>simpa[fW] using ih
theorem zq: ∀{os:List Opd} {as:List (D×Bool)} {i:Nat},i∈fW os as-> ∃(j:Nat) (d:D),os[j]?=some (.slot i)/\as[j]?=some (d,true)
 |[],_,_,h=>by simp[fW] at h
 |o::_,[],_,h=>by cases o<;>simp[fW] at h
 |o::os,(e,b)::as,i,h=>by
  have aZ:i∈fW os as-> ∃(j:Nat) (d:D),(o::os)[j]?=some (.slot i)/\((e,b)::as)[j]?=some (d,true):=fun h=>by
   obtain⟨j,d,h1,h2⟩:=zq h;exact⟨j+1,d,by simpa using h1,by simpa using h2⟩
  cases o with
  |val r=>exact aZ (by simpa[fW] using h)
  |slot k=>
   cases b with
   |true=>
    simp[fW] at h;rcases h with rfl|h
    ·exact⟨0,e,rfl,rfl⟩
    ·exact aZ h
   |false=>exact aZ (by simpa[fW] using h)
theorem zr: ∀{os:List Opd} {as:List (D×Bool)} {j k i:Nat} {d e:D},(fW os as).Nodup->os[j]?=some (.slot i)->as[j]?=some (d,true)->os[k]?=some (.slot i)->as[k]?=some (e,true)->j=k
 |[],_,_,_,_,_,_,_,h,_,_,_=>by simp at h
 |_::_,[],_,_,_,_,_,_,_,h,_,_=>by simp at h
 |o::os,(e0,b)::as,j,k,i,d,e,nd,h1,h2,h3,h4=>by
  cases j with
  |zero=>
   cases k with
   |zero=>rfl
   |succ k=>
    simp at h1 h2;obtain⟨rfl,rfl⟩:=h2;subst h1;have:=qt (os:=os) (as:=as) (j:=k) (by simpa using h3) (by simpa using h4);simp[fW] at nd;exact absurd this nd.1
  |succ j=>
   cases k with
   |zero=>
    simp at h3 h4;obtain⟨rfl,rfl⟩:=h4;subst h3;have:=qt (os:=os) (as:=as) (j:=j) (by simpa using h1) (by simpa using h2);simp[fW] at nd;exact absurd this nd.1
   |succ k=>
    have cu:(fW os as).Nodup:=by
     cases o with
     |val r=>simpa[fW] using nd
     |slot m=>
      cases b with
      |true=>simp[fW] at nd;exact nd.2
      |false=>simpa[fW] using nd
    have:=zr (os:=os) (as:=as) (j:=j) (k:=k) cu (by simpa using h1) (by simpa using h2) (by simpa using h3) (by simpa using h4)
    lia
theorem wR: ∀{os:List Opd} {as:List (D×Bool)} {outs δ:Dn} {i:Nat},i∉fW os as->(wb os as outs δ)[i]?=δ[i]?
 |[],_,_,_,_,_=>by simp[wb]
 |o::_,[],_,_,_,_=>by cases o<;>simp[wb]
 |o::os,(e,b)::as,[],_,_,_=>by cases o<;>cases b<;>simp[wb]
 |o::os,(e,b)::as,x::outs,δ,i,h=>by
  cases o with
  |val r=>simp only[wb];exact wR (by simpa[fW] using h)
  |slot k=>
   cases b with
   |true=>
    simp[fW] at h;rw[wb,wR h.2,lu (kR h.1)]
   |false=>simp only[wb];exact wR (by simpa[fW] using h)
theorem wU: ∀{os:List Opd} {as:List (D×Bool)} {outs δ:Dn},(wb os as outs δ).length=δ.length
 |[],_,_,_=>by simp[wb]
 |o::_,[],_,_=>by cases o<;>simp[wb]
 |o::os,(e,b)::as,[],_=>by cases o<;>cases b<;>simp[wb]
 |o::os,(e,b)::as,x::outs,δ=>by
  cases o with
  |val r=>simp only[wb];exact wU
  |slot k=>
   cases b with
   |true=>simp only[wb];rw[wU,qP]
   |false=>simp only[wb];exact wU
theorem ED: ∀{os:List Opd} {as:List (D×Bool)} {outs δ:Dn} {i j:Nat} {d:D} {x:Sl},(fW os as).Nodup->os[j]?=some (.slot i)->as[j]?=some (d,true)->outs[j]?=some x->i<δ.length->(wb os as outs δ)[i]?=some x
 |[],_,_,_,_,_,_,_,_,h,_,_,_=>by simp at h
 |o::_,[],_,_,_,_,_,_,_,_,h,_,_=>by simp at h
 |o::os,(e,b)::as,[],_,_,_,_,_,_,_,_,h,_=>by simp at h
 |o::os,(e,b)::as,y::outs,δ,i,0,d,x,nd,h1,h2,h3,hi=>by
  simp at h1 h2 h3;obtain⟨rfl,rfl⟩:=h2;subst h1;subst h3;simp[fW] at nd;rw[wb,wR nd.1,oY hi]
 |o::os,(e,b)::as,y::outs,δ,i,j+1,d,x,nd,h1,h2,h3,hi=>by
  have cu:(fW os as).Nodup:=by
   cases o with
   |val r=>simpa[fW] using nd
   |slot m=>
    cases b with
    |true=>simp[fW] at nd;exact nd.2
    |false=>simpa[fW] using nd
  cases o with
  |val r=>simp only[wb];exact ED cu (by simpa using h1) (by simpa using h2) (by simpa using h3) hi
  |slot k=>
   cases b with
   |true=>simp only[wb];exact ED cu (by simpa using h1) (by simpa using h2) (by simpa using h3) (by rw[qP];exact hi)
   |false=>simp only[wb];exact ED cu (by simpa using h1) (by simpa using h2) (by simpa using h3) hi
section
variable {K:fO}{T T1:AP'}{σ:L2.St}{δ δ1:Dn}{H H1 H':Hp}{os:List Opd}{vs:List V}{args:List (D×Bool)}{outs:Dn}{r:D×Bool}{v:V}
noncomputable def Tc(T:AP')(σ:L2.St)(δ1:Dn)(vs:List V)(args:List (D×Bool)):AP':=fun a=>T a\/(OwnA σ δ1 a/\ ¬OwnA (vs.map some) (args.map some) a)
theorem ug(B:Ops K T σ δ H os vs δ1 H1 T1)(ha:iJ δ1 os=some args){j:Nat}{d:D}(h:args[j]?=some (d,true)): ∃(i:Nat) (a:eX),os[j]?=some (.slot i)/\δ1[i]?=some (some (d,true))/\vs[j]?=some (.ref a)/\σ[i]?=some (some (.ref a)):=by
 obtain⟨hl,hg⟩:=oD ha;obtain⟨o,h1,h2⟩:=hg j _ h
 cases o with
 |val r=>cases h2
 |slot i=>
  have h3:δ1[i]?=some (some (d,true)):=qu h2;have hj:j<vs.length:=by have:=(sN.mp h1).1;have:=B.len;lia
  have hv:vs[j]?=some vs[j]:=ir hj;have h4:=B.slt j i _ h1 hv;obtain⟨a,h5,_⟩:=B.er.own i d h3;rw[h4] at h5;have:vs[j]=V.ref a:=by simpa using h5
  exact⟨i,a,h1,h3,by rw[hv,this],by rw[h4,this]⟩
theorem Ce(B:Ops K T σ δ H os vs δ1 H1 T1)(ha:iJ δ1 os=some args){j:Nat}{a:eX}(h:OwnI (vs.map some) (args.map some) j a): ∃(i:Nat) (d:D),os[j]?=some (.slot i)/\args[j]?=some (d,true)/\OwnI σ δ1 i a:=by
 obtain⟨d,h1,h2⟩:=h;have h1':=qw.mp h1;obtain⟨i,b,q1,q2,q3,q4⟩:=ug B ha h1';have:=qw.mp h2;rw[q3] at this;cases this;exact⟨i,d,q1,h1',d,q2,q4⟩
theorem Fg(B:Ops K T σ δ H os vs δ1 H1 T1)(ha:iJ δ1 os=some args)(h:OwnA (vs.map some) (args.map some) a):OwnA σ δ1 a:=by
 obtain⟨j,d,h1,h2⟩:=h;obtain⟨i,_,_,_,e,q1,q2⟩:=Ce B ha ⟨d,h1,h2⟩;exact⟨i,e,q1,q2⟩
theorem Fy(E:ER K H T σ δ)(B:Ops K T σ δ H os vs δ1 H1 T1)(ha:iJ δ1 os=some args)(nd:(fW os args).Nodup):ER K H1 (Tc T σ δ1 vs args) (vs.map some) (args.map some):=by
 obtain⟨hl,hg⟩:=oD ha
 have sub: ∀b,(OwnA (vs.map some) (args.map some) b\/Tc T σ δ1 vs args b)->OwnA σ δ1 b\/T b:=fun b z=>by
  rcases z with z|z|z
  ·exact .inl (Fg B ha z)
  ·exact .inr z
  ·exact .inl z.1
 refine⟨by simp[hl,B.len],fun j d h=>?_,fun j d h=>?_,fun j k d e a h1 h2 h3 h4=>?_,fun a z t=>?_,fun a z=>?_⟩
 ·have h:=qw.mp h;obtain⟨o,h1,h2⟩:=hg j _ h;have hj:j<vs.length:=by have:=(sN.mp h1).1;have:=B.len;lia
  have hv:vs[j]?=some vs[j]:=ir hj;refine⟨_,qw.mpr hv,?_⟩
  cases o with
  |val q=>
   have:q.1=d:=by cases h2;rfl
   subst this;exact Rep.mono (fun _ _ e _=>e) (fun b _ z=>sub b z) (B.rep E h1 hv)
  |slot i=>
   have h3:δ1[i]?=some (some (d,false)):=qu h2;have h4:=B.slt j i _ h1 hv;obtain⟨w,w1,w2⟩:=B.er.val i d h3;rw[h4] at w1;have:vs[j]=w:=by simpa using w1
   rw[this];exact Rep.mono (fun _ _ e _=>e) (fun b _ z=>(sub b z).imp id (B.tt b)) w2
 ·obtain⟨i,a,q1,q2,q3,q4⟩:=ug B ha (qw.mp h);obtain⟨b,h5,h6⟩:=B.er.own i d q2;rw[q4] at h5;cases h5;exact⟨a,qw.mpr q3,h6.mono (fun _ _ e _=>e) (fun b _ z=>(sub b z).imp id (B.tt b)) fun _ e=>e⟩
 ·obtain⟨i,d1,q1,q2,e1,q3,q4⟩:=Ce B ha ⟨d,h1,h3⟩;obtain⟨i2,d2,g1,g2,e2,g3,g4⟩:=Ce B ha ⟨e,h2,h4⟩;have:=B.er.inj i i2 e1 e2 a q3 g3 q4 g4;subst this;exact zr nd q1 q2 g1 g2
 ·rcases t with t|t
  ·exact B.er.nT a (Fg B ha z) (B.tt a t)
  ·exact t.2 z
 ·rcases z with z|z
  ·exact B.er.dom a (B.tt a z)
  ·exact B.er.ownOw z.1
theorem FA{T' Td:AP'}(E:ER K H T σ δ)(B:Ops K T σ δ H os vs δ1 H1 T1)(ha:iJ δ1 os=some args)(nd:(fW os args).Nodup)(kC:Keep (vs.map some) (args.map some) H1 outs H')
  (E':ER K H' Td (vs.map some) outs)(t1: ∀b,Tc T σ δ1 vs args b->Td b)(t2: ∀b,T' b->Td b)(t3: ∀b,H1 b≠none->T' b->T b):
  ER K H' T' σ (wb os args outs δ1)/\(∀b,OwnA σ (wb os args outs δ1) b->OwnA (vs.map some) outs b\/Tc T σ δ1 vs args b)/\Keep σ δ1 H1 (wb os args outs δ1) H':=by
 obtain⟨hl,hg⟩:=oD ha;have ol:outs.length=args.length:=by have:=E'.len;have:=B.len;simp at*;lia
 have y6: ∀(i:Nat) (x:Sl),(wb os args outs δ1)[i]?=some x->(i∉fW os args/\δ1[i]?=some x)\/ ∃(j:Nat) (d:D),os[j]?=some (.slot i)/\args[j]?=some (d,true)/\outs[j]?=some x:=fun i x h=>by
  by_cases hm:i∈fW os args
  ·right;obtain⟨j,d,h1,h2⟩:=zq hm;have hj:j<outs.length:=by have:=(sN.mp h2).1;lia
   have ho:outs[j]?=some outs[j]:=ir hj;have hi:i<δ1.length:=by have:=(sN.mp h).1;rwa [wU] at this
   have:=ED (δ:=δ1) nd h1 h2 ho hi;rw[h] at this;cases this;exact⟨j,d,h1,h2,ho⟩
  ·left;rw[wR hm] at h;exact⟨hm,h⟩
 have notL: ∀{i:Nat} {a:eX},i∉fW os args->OwnI σ δ1 i a-> ¬OwnA (vs.map some) (args.map some) a:=fun {i a} hm ⟨e,q1,q2⟩ ⟨j,d,h1,h2⟩=>by
  obtain⟨i2,d2,g1,g2,e2,g3,g4⟩:=Ce B ha ⟨d,h1,h2⟩;have:=B.er.inj i i2 e e2 a q1 g3 q2 g4;subst this;exact hm (qt g1 g2)
 have y9: ∀i a,OwnI σ (wb os args outs δ1) i a->OwnI σ δ1 i a/\(OwnA (vs.map some) outs a\/Tc T σ δ1 vs args a):=fun i a ⟨d,h1,h2⟩=>by
  rcases y6 i _ h1 with⟨hm,h3⟩|⟨j,e,g1,g2,g3⟩
  ·exact⟨⟨d,h3,h2⟩,.inr (.inr ⟨⟨i,d,h3,h2⟩,notL hm ⟨d,h3,h2⟩⟩)⟩
  ·obtain⟨i2,b,q1,q2,q3,q4⟩:=ug B ha g2;rw[g1] at q1;cases q1;rw[h2] at q4;cases q4;exact⟨⟨e,q2,h2⟩,.inl ⟨j,d,g3,qw.mpr q3⟩⟩
 have u5: ∀b,OwnA σ (wb os args outs δ1) b->OwnA (vs.map some) outs b\/Tc T σ δ1 vs args b:=fun b ⟨i,d,h1,h2⟩=>(y9 i b ⟨d,h1,h2⟩).2
 have cW: ∀b,OwnA σ (wb os args outs δ1) b->OwnA σ δ1 b:=fun b ⟨i,d,h1,h2⟩=>by
  obtain⟨⟨e,q1,q2⟩,_⟩:=y9 i b ⟨d,h1,h2⟩;exact⟨i,e,q1,q2⟩
 have kp: ∀a o,H1 a=some o-> ¬OwnA σ δ1 a->H' a=some o:=fun a o e n=>kC.kp a o e fun z=>n (Fg B ha z)
 have subO: ∀b,(OwnA σ (wb os args outs δ1) b\/T' b)->OwnA (vs.map some) outs b\/Td b:=fun b z=>by
  rcases z with z|z
  ·exact(u5 b z).imp id (t1 b)
  ·exact .inr (t2 b z)
 refine⟨⟨by rw[wU];exact B.er.len,fun i d h=>?_,fun i d h=>?_,fun i k d e a h1 h2 h3 h4=>?_,fun a z t=>?_,fun a z=>E'.dom a (t2 a z)⟩,u5,⟨kp,fun i a z=>(y9 i a z).1,kC.dm⟩⟩
 ·rcases y6 i _ h with⟨hm,h3⟩|⟨j,e,g1,g2,g3⟩
  ·obtain⟨w,w1,w2⟩:=B.er.val i d h3;exact⟨w,w1,Rep.mono (fun b o e n=>kp b o e fun z=>n (.inl z)) (fun b hb z=>z.imp (cW b) fun z=>B.tt b (t3 b hb z)) w2⟩
  ·obtain⟨i2,b,q1,q2,q3,q4⟩:=ug B ha g2;rw[g1] at q1;cases q1;obtain⟨w,w1,w2⟩:=E'.val j d g3;have:=qw.mp w1;rw[q3] at this;cases this;exact⟨_,q4,Rep.mono (fun _ _ e _=>e) (fun b _ z=>subO b z) w2⟩
 ·rcases y6 i _ h with⟨hm,h3⟩|⟨j,e,g1,g2,g3⟩
  ·obtain⟨a,w1,w2⟩:=B.er.own i d h3;exact⟨a,w1,w2.mono (fun b o e n=>kp b o e fun z=>n (.inl z)) (fun b hb z=>z.imp (cW b) fun z=>B.tt b (t3 b hb z)) fun o e=>kC.kp a o e (notL hm ⟨d,h3,w1⟩)⟩
  ·obtain⟨i2,b,q1,q2,q3,q4⟩:=ug B ha g2;rw[g1] at q1;cases q1;obtain⟨a,w1,w2⟩:=E'.own j d g3;have:=qw.mp w1;rw[q3] at this;cases this;exact⟨_,q4,w2.mono (fun _ _ e _=>e) (fun b _ z=>subO b z) fun _ e=>e⟩
 ·obtain⟨⟨e1,q1,q2⟩,_⟩:=y9 i a ⟨d,h1,h3⟩;obtain⟨⟨e2,q3,q4⟩,_⟩:=y9 k a ⟨e,h2,h4⟩;exact B.er.inj i k e1 e2 a q1 q3 q2 q4
 ·exact B.er.nT a (cW a z) (B.tt a (t3 a (B.er.ownDom (cW a z)) t))
theorem yw(E:ER K H T σ δ)(B:Ops K T σ δ H os vs δ1 H1 T1)(ha:iJ δ1 os=some args)(nd:(fW os args).Nodup)(P:Post K (Tc T σ δ1 vs args) (vs.map some) (args.map some) H1 r outs v H'):
  Post K T σ δ H r (wb os args outs δ1) v H':=by
 obtain⟨d,b⟩:=r
 cases b with
 |false=>
  obtain⟨kC,E',rv⟩:=P;obtain⟨E2,ow,k2⟩:=FA (T':=T) E B ha nd kC E' (fun _ z=>z) (fun _ z=> .inl z) (fun _ _ z=>z);refine⟨B.keep.trans k2,E2,Rep.mono (fun _ _ e _=>e) (fun b _ z=>?_) rv⟩;rcases z with z|z
  ·exact ow b z
  ·exact .inr (.inl z)
 |true=>
  obtain⟨kC,p,rfl,hp,E',ok⟩:=P;obtain⟨E2,ow,k2⟩:=FA (T':=fun a=>T a\/a=p) E B ha nd kC E' (fun _ z=> .inl z) (fun b z=>z.elim (fun z=> .inl (.inl z)) .inr) (fun b hb z=>z.elim id fun z=>by subst z;exact absurd hp hb);refine⟨B.keep.trans k2,p,rfl,?_,E2,ok.mono (fun _ _ e _=>e) (fun b _ z=>?_) fun _ e=>e⟩
  ·cases hH:H p with
   |none=>rfl
   |some ob=>exact absurd hp (B.keep.dm p (by rw[hH];simp))
  ·rcases z with z|z|z
   ·exact(ow b z).imp id .inl
   ·exact .inr (.inl (.inl z))
   ·exact .inr (.inr z)
end
section
variable {X:Cx}{e:fw}{es:hW}{fs:List FO}{pos p:Pos}{k:Nat}{f:eX}{fd:kO}{ps:fV}{ev:EvF}{x:Str}
theorem LC(F:FnOk X.prog X.w X.K X.mg X.base CX0 k f fd ps (spF X.K ev))(hr:Room k X.A)(hg:Gl X x)(hm:X.mg x=some (.ref f))(hk:PySem.W.keepIn X.K (.ref f)=true)(hb:Binds X.K fd ps [])
  (ha:PA X (e::es) (tA X.K fs))(j6:(x==("__debug__":Str))=false)(he:starEach (e::es) X.env=(false,eval e X.env)::starEach es X.env)(h9:(backTo pos (starEach es X.env)).any (·.1)=false):
  PX X (.Call (.Name x p) (e::es) [] pos) (fj ev fs):=PX.imp (Me F hr hg hm hk hb (.nil) Rj ha j6 he h9) fun σ H Q hw=>by
 obtain⟨δ,T,rr,δ',E,e,k⟩:=hw;obtain⟨⟨os,δ1⟩,h1,e⟩:=eU e;obtain⟨args,h2,e⟩:=eU e;dsimp only at e;split at e
 ·rename_i nd;obtain⟨⟨r,outs⟩,h3,e⟩:=eU e;obtain⟨rfl,rfl⟩:=fK e;refine⟨δ,T,os,δ1,E,h1,fun vs H1 T1 B=>?_⟩;show spF X.K ev (vs++[]) H1 Q E0;rw[wK];exact⟨Tc T σ δ1 vs args,args,r,outs,Fy E B h2 nd,h3,fun v H' P=>k v H' (yw E B h2 nd P)⟩
 ·cases e
end
structure SKd(A:gR)(d:eX)(σ:L2.St)(δ:Dn)(H:Hp)(σ':L2.St)(δ':Dn)(H':Hp):Prop where
 kp: ∀a o,H a=some o-> ¬OwnA σ δ a->a≠d->H' a=some o
 owi: ∀i a,OwnI σ' δ' i a->OwnI σ δ i a\/H a=none\/(A i/\ ∃j,A j/\OwnI σ δ j a)
 dm: ∀a,H a≠none->H' a≠none
 as: ∀i,¬A i->σ'[i]?=σ[i]?
section
variable {A:gR}{d:eX}{σ σ1 σ2:L2.St}{δ δ1 δ2:Dn}{H H1 H2:Hp}
theorem SK.skd(k:SK A σ δ H σ1 δ1 H1):SKd A d σ δ H σ1 δ1 H1:=⟨fun a o e n _=>k.kp a o e n,k.owi,k.dm,k.as⟩
theorem SKd.ow(k:SKd A d σ δ H σ1 δ1 H1)(a:eX)(h:OwnA σ1 δ1 a):OwnA σ δ a\/H a=none:=by
 obtain⟨i,e,h1,h2⟩:=h;rcases k.owi i a ⟨e,h1,h2⟩ with⟨e,h3,h4⟩|z|⟨_,j,_,e,h3,h4⟩
 ·exact .inl ⟨i,e,h3,h4⟩
 ·exact .inr z
 ·exact .inl ⟨j,e,h3,h4⟩
theorem SKd.trans(x:SKd A d σ δ H σ1 δ1 H1)(y:SKd A d σ1 δ1 H1 σ2 δ2 H2):SKd A d σ δ H σ2 δ2 H2 where
 kp:=fun a o e n nd=>y.kp a o (x.kp a o e n nd) (fun z=>(x.ow a z).elim n fun z=>by rw[z] at e;cases e) nd
 owi:=fun i a z=>(y.owi i a z).elim (x.owi i a) fun z=>z.elim (fun z=> .inr (.inl (by
  cases h:H a with
  |none=>rfl
  |some o=>exact absurd z (x.dm a (by rw[h];simp))))) fun⟨ai,j,aj,z⟩=>(x.owi j a z).elim (fun z=> .inr (.inr ⟨ai,j,aj,z⟩)) fun z=>z.elim (fun z=> .inr (.inl z)) fun⟨_,k,ak,z⟩=> .inr (.inr ⟨ai,k,ak,z⟩)
 dm:=fun a z=>y.dm a (x.dm a z)
 as:=fun i h=>(y.as i h).trans (x.as i h)
end
noncomputable def tQ(p:(Int->Bool)×Nat)(d:D):(Int->Bool)×Nat:=match d with
 | .int k=>(fun k'=>p.1 k'||decide (k'=k),if p.1 k then p.2 else p.2+1)
 |_=>p
noncomputable def kW(l:List D):(Int->Bool)×Nat:=l.foldl tQ (fun _=>false,0)
theorem zg(l:List D)(k:Int):kW (l++[.int k])=((fun k'=>(kW l).1 k'||decide (k'=k)),if(kW l).1 k then(kW l).2 else(kW l).2+1):=by
 unfold kW;rw[List.foldl_append];rfl
theorem Lq: ∀(l:List D) (p:(Int->Bool)×Nat),(l.foldl tQ p).2<=p.2+l.length:=by
 intro iV
 induction iV with
 |nil=>
  intro p;exact gJ _
 |cons d l iH=>
  intro p;have:=iH (tQ p d)
  have h:(tQ p d).2<=p.2+1:=by
   unfold tQ;split
   ·dsimp only;split<;>lia
   ·lia
  simp only[pz,jb]
  lia
def AtD(S:Bool)(K:fO)(H:Hp)(O:AP')(d:eX)(acc:List D):Prop:=match S with
 |false=> ∃ys,H d=some (.lst ys)/\RepL K H O acc ys
 |true=>H d=some (.set (kW acc).1 (kW acc).2)
structure BS(S:Bool)(K:fO)(d:eX)(T:AP')(σ:L2.St)(δ:Dn)(acc:List D)(H:Hp):Prop where
 er:ER K H T σ δ
 td:T d
 at':AtD S K H (fun a=>OwnA σ δ a\/T a) d acc
abbrev FB:=List D->Dn->Option (List D×Dn)
def tBx(S:Bool)(K:fO)(A:gR)(d:eX)(f:FB):TB:=fun σ H N=> ∃δ T acc i3 δ',BS S K d T σ δ acc H/\f acc δ=some (i3,δ')/\ ∀σ' H',SKd A d σ δ H σ' δ' H'->BS S K d T σ' δ' i3 H'->N σ' H'
noncomputable def gn(f:F):FB:=fun acc δ=>(f δ).bind fun p=>if acc.length<sizeLine then some (acc++[p.1.1],p.2) else none
noncomputable def jA(tg:Tg)(ti:FT)(fb:FB):List D->FB
 |[],acc,δ=>some (acc,δ)
 |x::xs,acc,δ=>(tg x δ).bind fun δ1=>(ti δ1).bind fun p=>(if p.1=true then fb acc p.2 else some (acc,p.2)).bind fun q=>jA tg ti fb xs q.1 q.2
section
variable {K:fO}{A:gR}{d:eX}{T:AP'}{σ σ1:L2.St}{δ δ1:Dn}{acc:List D}{H H1:Hp}
theorem BS.step(b:BS S K d T σ δ acc H)(k:SK A σ δ H σ1 δ1 H1)(E1:ER K H1 T σ1 δ1):BS S K d T σ1 δ1 acc H1:=by
 refine⟨E1,b.td,?_⟩;have h:=b.at'
 cases S with
 |true=>exact k.kp d _ h fun z=>b.er.nT d z b.td
 |false=>
  obtain⟨ys,h1,h2⟩:=h;refine⟨ys,k.kp d _ h1 fun z=>b.er.nT d z b.td,RepL.mono (fun b o e n=>k.kp b o e fun z=>n (.inl z)) (fun c hc z=>?_) h2⟩;rcases z with z|z
  ·exact(k.ow c z).elim Or.inl fun z=>absurd z hc
  ·exact .inr z
theorem Mz(hg: ∀v σ H Q,tG K A tg v σ H Q->g v σ H Q)(hi: ∀σ H Q,tT K ft σ H Q->ti σ H Q)(hb: ∀σ H N,tBx S K A d fb σ H N->tb σ H N)
  (b:BS S K d T σ δ acc H)(P O:AP')(ok:ItOk K J ds P O H1)(s1: ∀a o,H1 a=some o-> ¬P a->H a=some o)(s0: ∀a,H1 a≠none->OwnA σ δ a\/a=d->P a)(s2: ∀a,H1 a≠none->(OwnA σ δ a\/T a)->O a)(s3: ∀a,H1 a≠none->H a≠none)(e:jA tg ft fb ds acc δ=some (i3,δ'))
  (k: ∀σ' H',SKd A d σ δ H σ' δ' H'->BS S K d T σ' δ' i3 H'->N σ' H'):Ie J g ti tb σ H N:=by
 refine⟨fun i m σ2 H2=>m=ds.length-i/\i<=ds.length/\ ∃δ2 au,SKd A d σ δ H σ2 δ2 H2/\BS S K d T σ2 δ2 au H2/\jA tg ft fb (ds.drop i) au δ2=some (i3,δ'),⟨ds.length,by simp,kA _,δ,acc,SK.refl.skd,b,by simpa using e⟩,?_⟩;rintro i m σ2 H2 ⟨rfl,hle,δ2,au,S2,B2,e2⟩
 have hO: ∀a,H1 a≠none->(OwnA σ2 δ2 a\/T a)->O a:=fun a ha z=>by
  rcases z with z|z
  ·exact(S2.ow a z).elim (fun z=>s2 a ha (.inl z)) fun z=>absurd z (s3 a ha)
  ·exact s2 a ha (.inr z)
 have y8: ∀a o,H1 a=some o-> ¬P a->H2 a=some o:=fun a o ea n=>S2.kp a o (s1 a o ea n) (fun z=>n (s0 a (by rw[ea];simp) (.inl z))) fun z=>n (s0 a (by rw[ea];simp) (.inr z));by_cases i8:i<ds.length
 ·refine .inr ?_;have hd:ds[i]?=some ds[i]:=ir i8;obtain⟨go,yl⟩:=ok.go i _ H2 hd y8;rw[rM i8] at e2;obtain⟨δ3,h3,e3⟩:=eU e2;obtain⟨⟨c,δ4⟩,h4,e4⟩:=eU e3;obtain⟨⟨acc5,δ5⟩,h5,e5⟩:=eU e4;refine⟨go,fun x H' hy=>?_⟩;obtain⟨ext,rep⟩:=yl x H' hy;have cR:ER K H' T σ2 δ2:=B2.er.mono (fun b ob eb _=>ext b ob eb) (fun _ _ z=>z) (fun a z=>(B2.er.dom a z).up (ext a));have SX:SK A σ2 δ2 H2 σ2 δ2 H':=(Keep.ext ext).sk;have B2':=B2.step SX cR;have eO:SKd A d σ δ H σ2 δ2 H':=S2.trans SX.skd;have rx:=rep (fun a=>OwnA σ2 δ2 a\/T a) hO (fun b hb z=>z.elim (fun z=>B2.er.ownDom z hb) fun z=>(B2.er.dom b z).ne hb);refine hg _ _ _ _ ⟨δ2,T,ds[i],δ3,cR,rx,h3,fun σ3 S3 E3=>?_⟩;have B3:=B2'.step S3 E3;have bR:=eO.trans S3.skd;refine hi _ _ _ ⟨δ3,T,c,δ4,E3,h4,fun H4 K4 E4=>?_⟩;have S4:SK A σ3 δ3 H' σ3 δ4 H4:=K4.sk;have B4:=B3.step S4 E4;have S4':=bR.trans S4.skd
  cases c with
  |false=>
   rw[fR je] at h5;obtain⟨rfl,rfl⟩:=fK h5;exact Ry ⟨ds.length-(i+1),by lia,rfl,i8,δ4,au,S4',B4,e5⟩
  |true=>
   rw[fJ rfl] at h5;exact Rx (hb _ _ _ ⟨δ4,T,au,acc5,δ5,B4,h5,fun σ5 H5 S5 B5=>⟨ds.length-(i+1),by lia,rfl,i8,δ5,acc5,S4'.trans S5,B5,e5⟩⟩)
 ·refine .inl ⟨ok.stop i H2 (by lia) y8,?_⟩;rw[rL (by lia)] at e2;obtain⟨rfl,rfl⟩:=fK e2;exact k σ2 H2 S2 B2
end
section
variable {X:Cx}{A:gR}{d:eX}{elt:fw}{f:F}
theorem PB.imp'{code:Sem Unit}{t t':TB}(h:PB X code t)(k: ∀σ H N,t' σ H N->t σ H N):PB X code t':=fun pins s σ H N I hw=>h pins s σ H N I (k σ H N hw)
theorem Jw{gens:nr}{sc:hJ}{p:Pos}{depth:Nat}(hn:gens[depth+1]?=none)(he:PX X elt f):PB X (gU (.ListComp elt gens sc p) depth (.ref d) X.env) (tBx false X.K A d (gn f)):=PB.imp' (Mf hn he) fun σ H N hw=>by
 obtain⟨δ,T,acc,i3,δ',B,e,k⟩:=hw;obtain⟨⟨r,δ1⟩,h1,e⟩:=eU e;obtain⟨hz,e⟩:=fU e;obtain⟨rfl,rfl⟩:=tq e;refine⟨δ,T,r,δ1,B.er,h1,fun v H1 P=>?_⟩;obtain⟨E1,rv⟩:=P.rep B.er;have S1:SK A σ δ H σ δ1 H1:=P.1.sk;have B1:=B.step S1 E1;obtain⟨ys,hy,ry⟩:=B1.at';refine⟨ys,hy,by rw[ry.length];exact hz,k σ _ ?_ ?_⟩
 ·have:SKd A d σ δ1 H1 σ δ1 (upd H1 d (.lst (ys++[v]))):=⟨fun a o e n nd=>by rw[gi nd];exact e,fun i a z=> .inl z,fun a z=>by
   by_cases ha:a=d
   ·subst ha;rw[fX];simp
   ·rw[gi ha];exact z,fun _ _=>rfl⟩
  exact S1.skd.trans this
 ·have hk: ∀b o,H1 b=some o-> ¬T b->upd H1 d (.lst (ys++[v])) b=some o:=fun b o e n=>by rw[gi (by intro z;subst z;exact n B.td)];exact e
  have hd: ∀a,T a->Ow (upd H1 d (.lst (ys++[v])) a):=fun a z=>by
   by_cases ha:a=d
   ·subst ha;rw[fX];trivial
   ·rw[gi ha];exact E1.dom a z
  refine⟨E1.mono hk (fun _ _ z=>z) hd,B.td,ys++[v],fX,?_⟩;exact RepL.mono (fun b o e n=>hk b o e fun z=>n (.inr z)) (fun _ _ z=>z) (ry.append (RepL.one rv))
end
noncomputable def gh(caps:hV)(k:Nat)(fi:FIt)(tg:Tg)(ti:FT)(fb:FB):F:=fun δ=>(fi δ).bind fun p=>(iJ p.2 (caps.map .slot)).bind fun args=>
 if(fW (caps.map .slot) args).Nodup then(jA tg ti fb p.1 [] (args.map some++List.replicate k none)).bind fun q=>some ((.lst q.1,true),wb (caps.map .slot) args (gk args q.2) p.2) else none
noncomputable def yI(caps:hV)(k:Nat)(σ:L2.St):L2.St:=(caps.map fun j=>(σ[j]?).join)++List.replicate k none
noncomputable def o0(S:Bool):HO:=match S with
 |false=> .lst []
 |true=> .set (fun _=>false) 0
noncomputable def qS(S:Bool)(Q:VK):VK:=match S with
 |false=>Q
 |true=>fun x H1=> ∃S n,∃a,x= .ref a/\H1 a=some (.set S n)/\Q (.int n) H1
noncomputable def rS(S:Bool)(acc:List D):D×Bool:=match S with
 |false=>(.lst acc,true)
 |true=>(.int (kW acc).2,false)
noncomputable def PF(S:Bool)(caps:hV)(k:Nat)(fi:FIt)(tg:Tg)(ti:FT)(fb:FB):F:=fun δ=>(fi δ).bind fun p=>(iJ p.2 (caps.map .slot)).bind fun args=>
 if(fW (caps.map .slot) args).Nodup then(jA tg ti fb p.1 [] (args.map some++List.replicate k none)).bind fun q=>some (rS S q.1,wb (caps.map .slot) args (gk args q.2) p.2) else none
theorem zC{S:Bool}{K:fO}{caps:hV}{k:Nat}{fi:FIt}{tg:Tg}{ti:FT}{fb:FB}{σ:L2.St}{H:Hp}{Q:VK}(h:tF K (PF S caps k fi tg ti fb) σ H Q):
  tI K (fun i=>i∉caps) fi σ H fun J H1=>EI (o0 S) J (tG K (fun i=>caps.length<=i) tg) (tT K ti) (fun d=>tBx S K (fun i=>caps.length<=i) d fb) (yI caps k) σ H1 (qS S Q):=by
 obtain⟨δ,T,rr,δr,E,e,kq⟩:=h;obtain⟨⟨ds,δ1⟩,h1,e⟩:=eU e;obtain⟨args,ha,e⟩:=eU e;dsimp only at e ha;split at e
 case isFalse=>cases e
 rename_i nd;obtain⟨⟨acc,δ'⟩,h2,e⟩:=eU e;obtain⟨rfl,rfl⟩:=fK e;refine⟨δ,T,ds,δ1,E,h1,fun J H1 K1 E1 ok d hd=>?_⟩;obtain⟨hl,hg⟩:=oD ha;have du:args.length=caps.length:=by simpa using hl
 let vs:List V:=caps.map fun j=>((σ[j]?).join).getD .non
 have there: ∀(i j:Nat),caps[i]?=some j-> ∃v,σ[j]?=some (some v):=fun i j hj=>by
  have hi:i<args.length:=by have:=(sN.mp hj).1;lia
  obtain⟨o,q1,q2⟩:=hg i _ (ir hi);rw[jU,hj] at q1;cases q1;have q3:=qu q2;generalize args[i]=y at q3;obtain⟨x,b⟩:=y
  cases b with
  |false=>obtain⟨v,h,_⟩:=E1.val j x q3;exact⟨v,h⟩
  |true=>obtain⟨a,h,_⟩:=E1.own j x q3;exact⟨_,h⟩
 have dW: ∀(i j:Nat),caps[i]?=some j-> ∃v,vs[i]?=some v/\σ[j]?=some (some v):=fun i j hj=>by
  obtain⟨v,hv⟩:=there i j hj;refine⟨v,?_,hv⟩;show(caps.map fun j=>((σ[j]?).join).getD .non)[i]?=some v;rw[jU,hj];simp[hv]
 have u7:yI caps k σ=vs.map some++List.replicate k none:=by
  unfold yI
  congr 1
  apply Am;intro i;show _=((caps.map fun j=>((σ[j]?).join).getD .non).map some)[i]?;rw[jU,jU,jU]
  cases hj:caps[i]? with
  |none=>rfl
  |some j=>obtain⟨v,hv⟩:=there i j hj;simp[hv]
 have B0:Ops K T σ δ1 H1 (caps.map Opd.slot) vs δ1 H1 T:=by
  refine⟨by simp[vs],.refl,E1,fun _ z=>z,fun j x v hj=>?_,fun j x v hj=>?_,fun j i v hj hv=>?_⟩
  ·rw[jU] at hj;obtain⟨_,_,z⟩:=gZ hj;cases z
  ·rw[jU] at hj;obtain⟨_,_,z⟩:=gZ hj;cases z
  ·rw[jU] at hj;obtain⟨c,hc,z⟩:=gZ hj;cases z;obtain⟨v',q1,q2⟩:=dW j i hc;rw[hv] at q1;cases q1;exact q2
 have Ec:=Fy E1 B0 ha nd
 have hA: ∀(i:Nat) x,args[i]?=some (x,true)-> ¬(caps.length<=i):=fun i x hx=>by
  have:=(sN.mp hx).1
  lia
 rw[u7];have hx:=iW (o:=o0 S) hd
 have nz: ∀a,H1 a≠none->upd H1 d (o0 S) a≠none:=fun a z=>by
  cases hh:H1 a with
  |none=>exact absurd hh z
  |some o=>rw[hx a o hh];simp
 have b0:BS S K d (fun a=>Tc T σ δ1 vs args a\/a=d) (vs.map some++List.replicate k none) (args.map some++List.replicate k none) [] (upd H1 d (o0 S)):=by
  refine⟨(Ec.pad).mono (fun b o eb _=>hx b o eb) (fun b hb z=>z.elim id fun z=>by subst z;exact absurd hd hb) (fun a z=>?_),.inr rfl,?_⟩
  ·rcases z with z|z
   ·exact(Ec.dom a z).up (hx a)
   ·subst z;rw[fX];cases S<;>trivial
  ·cases S with
   |false=>exact⟨[],fX,RepL.nil⟩
   |true=>exact fX
 refine Mz (fun _ _ _ _ h=>h) (fun _ _ _ h=>h) (fun _ _ _ h=>h) b0 _ _ ok (fun a o ea _=>hx a o ea) (fun a eC z=>?_) (fun a eC z=>?_) nz h2 fun σ' H2 S2 B2=>?_
 ·rcases z with z|z
  ·obtain⟨j,x,g1,g2⟩:=Jz.mp z;obtain⟨i,_,q1,_,q3⟩:=Ce B0 ha ⟨x,g1,g2⟩;refine .inl ⟨i,fun n=>n ?_,q3⟩;rw[jU] at q1;obtain⟨c,hc,e⟩:=gZ q1;cases e;exact lG hc
  ·subst z;exact absurd hd eC
 ·rcases z with z|z|z
  ·exact .inl (Fg B0 ha (Jz.mp z))
  ·rcases z with z|z
   ·exact .inr z
   ·exact .inl z.1
  ·subst z;exact absurd hd eC
 ·have SS:SK (fun i=>caps.length<=i) (vs.map some++List.replicate k none) (args.map some++List.replicate k none) H1 σ' δ' H2:=
   ⟨fun a o ea n=>S2.kp a o (hx a o ea) n (by intro z;subst z;rw[ea] at hd;cases hd),fun i a z=>(S2.owi i a z).imp id fun z=>z.imp (fun z=>by
    cases hh:H1 a with
    |none=>rfl
    |some o=>exact absurd z (nz a (by rw[hh];simp))) id,fun a z=>S2.dm a (nz a z),S2.as⟩
  cases S with
  |false=>
   obtain⟨ys,hy,ry⟩:=B2.at';have P:=qB (r:=(.lst acc,true)) (v:= .ref d) Ec SS hA ⟨d,rfl,hd,B2.er,ys,hy,RepL.mono (fun _ _ e _=>e) (fun b _ z=>z) ry⟩;exact kq (.ref d) H2 ((yw E1 B0 ha nd P).pre K1)
  |true=>
   have P:=qB (r:=(.int (kW acc).2,false)) (v:= .int (kW acc).2) Ec SS hA ⟨B2.er.mono (fun _ _ e _=>e) (fun b _ z=> .inl z) (fun a z=>B2.er.dom a (.inl z)),Rep.mkInt⟩;exact⟨_,_,d,rfl,B2.at',kq (.int (kW acc).2) H2 ((yw E1 B0 ha nd P).pre K1)⟩
theorem Cz{K:fO}{caps:hV}{k:Nat}{fi:FIt}{tg:Tg}{ti:FT}{fb:FB}{σ:L2.St}{H:Hp}{Q:VK}(h:tF K (gh caps k fi tg ti fb) σ H Q):
  Ig (tI K (fun i=>i∉caps) fi) (tG K (fun i=>caps.length<=i) tg) (tT K ti) (fun d=>tBx false K (fun i=>caps.length<=i) d fb) (yI caps k) σ H Q:=zC (S:=false) h
section
variable {X:Cx}{elt:fw}{c:oE}{fY:nr}{scope:hJ}{pos f7 py:Pos}{N':fV}{caps:hV}{k:Nat}{fi:FIt}{tg:Tg}{ti:FT}{fb:FB}{A L:gR}{H0:Hp}
structure CompOk(X:Cx)(N':fV)(scope:hJ)(caps:hV)(k:Nat):Prop where
 cell: ∀y∈scope.names,y.2= .cell->scope.names.lookup y.1=some .cell
 kind:scope.kind= .function
 names: ∀y∈scope.names,y.2= .local->scope.names.lookup y.1=some .local
 free: ∀y∈scope.names,y.2= .free->X.env.scope.names.lookup y.1=some .cell\/X.env.scope.names.lookup y.1=some .free
 len:caps.length+k=N'.length
 caps: ∀(i j:Nat) (x:Str),caps[i]?=some j->N'[i]?=some x->X.N[j]?=some x/\scope.names.lookup x=some .free
theorem CompOk.sco(C:CompOk X N' scope caps k):CompScope X N' scope (yI caps k):=by
 refine⟨C.cell,C.kind,C.names,C.free,fun σ=>by simp[yI,C.len],fun σ i v x h1 h2=>?_⟩;unfold yI at h1;by_cases hi:i<caps.length
 ·rw[qT (by simpa using hi),jU,ir hi] at h1;obtain⟨q1,q2⟩:=C.caps i caps[i] x (ir hi) h2;refine⟨q2,caps[i],q1,?_⟩;have h3:(σ[caps[i]]?).join=some v:=by simpa using h1
  cases hs:σ[caps[i]]? with
  |none=>rw[hs] at h3;cases h3
  |some y=>rw[hs] at h3;exact lH some h3
 ·rw[nB (by simpa using hi),List.getElem?_replicate] at h1;split at h1<;>cases h1
theorem LM(C:CompOk X N' scope caps k)(hc:X.calm=true)(ha:c.is_async=0)(l4: ∀g',fY[0]?=some g'->g'.is_async=0)
  (hs: ∀x,foldedSetIterable c.iter X.env x=pure x)(pi:PIX X (fun i=>i∉caps) c.target c.iter fi)
  (p5: ∀(cl:jy) (C:eX) (s3:eZ) (H3:Hp) (fp:ig) (pins:gc),let X':=X.comp N' scope cl C s3 H3 fp pins
   PGX X' (fun i=>caps.length<=i) c.target tg/\PIf X' c.ifs (tT X.K ti)/\ ∀d,PB X' (gU (.ListComp elt (c::fY) scope pos) 0 (.ref d) X'.env) (tBx false X.K (fun i=>caps.length<=i) d fb)):
  PX X (.ListComp elt (c::fY) scope pos) (gh caps k fi tg ti fb):=PX.imp (Js (g:=tG X.K (fun i=>caps.length<=i) tg) (ti:=tT X.K ti) (tb:=fun d=>tBx false X.K (fun i=>caps.length<=i) d fb) C.sco hc ha l4 hs pi p5) fun σ H Q h=>Cz h
theorem IY{y:Str}{i:Nat}(cz:swapsWith (.ListComp elt (c::fY) scope pos) (some (.Name y py)) f7.line X.env=pure true)
  (C:CompOk X N' scope caps k)(hc:X.calm=true)(ha:c.is_async=0)(l4: ∀g',fY[0]?=some g'->g'.is_async=0)
  (hs: ∀x,foldedSetIterable c.iter X.env x=pure x)(pi:PIX X (fun i=>i∉caps) c.target c.iter fi)(dI:PG X (.Name y py) (Co i))(hA:A i)
  (p5: ∀(cl:jy) (C:eX) (s3:eZ) (H3:Hp) (fp:ig) (pins:gc),let X':=X.comp N' scope cl C s3 H3 fp pins
   PGX X' (fun i=>caps.length<=i) c.target tg/\PIf X' c.ifs (tT X.K ti)/\ ∀d,PB X' (gU (.ListComp elt (c::fY) scope pos) 0 (.ref d) X'.env) (tBx false X.K (fun i=>caps.length<=i) d fb)):
  PSX X A L H0 (.Assign [.Name y py] (.ListComp elt (c::fY) scope pos) f7) (gu i (gh caps k fi tg ti fb)):=PS.imp' (Jd (g:=tG X.K (fun i=>caps.length<=i) tg) (ti:=tT X.K ti) (tb:=fun d=>tBx false X.K (fun i=>caps.length<=i) d fb) cz C.sco hc ha l4 hs pi dI p5) fun D σ H hw=>by
 obtain⟨δ,T,out,E,fi,e,k⟩:=hw;obtain⟨⟨r,δ1⟩,h3,e⟩:=eU e;obtain⟨hi,rfl⟩:=fU e;refine Cz ⟨δ,T,r,δ1,E,h3,fun v H1 P=>?_⟩;obtain⟨h1,h2⟩:=wY (A:=A) E P hi hA;exact k _ H1 h1 h2
end
section
variable {K:fO}{T:AP'}{σ:L2.St}{δ:Dn}{H:Hp}{i:Nat}{l l':List D}{a:eX}{aX:List V}
theorem OwnI.write{j:Nat}{b:eX}(hd:δ[i]?=some (some (.lst l,true)))(h:OwnI σ (δ.set i (some (.lst l',true))) j b):OwnI σ δ j b:=by
 obtain⟨e,h1,h2⟩:=h;rcases jz h1 with⟨rfl,_,_⟩|⟨_,q⟩
 ·exact⟨_,hd,h2⟩
 ·exact⟨e,q,h2⟩
theorem ER.write(E:ER K H T σ δ)(hd:δ[i]?=some (some (.lst l,true)))(hs:σ[i]?=some (some (.ref a)))(r:RepL K H (fun b=>OwnA σ δ b\/T b) l' aX):
  ER K (upd H a (.lst aX)) T σ (δ.set i (some (.lst l',true)))/\Keep σ δ H (δ.set i (some (.lst l',true))) (upd H a (.lst aX)):=by
 have hi:i<δ.length:=(sN.mp hd).1;have oa:OwnA σ δ a:=⟨i,_,hd,hs⟩
 have u5: ∀b,OwnA σ (δ.set i (some (.lst l',true))) b->OwnA σ δ b:=fun b ⟨j,e,h1,h2⟩=>by
  obtain⟨e',q1,q2⟩:=OwnI.write hd ⟨e,h1,h2⟩;exact⟨j,e',q1,q2⟩
 have kp: ∀b o,H b=some o-> ¬(OwnA σ δ b\/T b)->upd H a (.lst aX) b=some o:=fun b o e n=>by rw[gi (by intro z;subst z;exact n (.inl oa))];exact e
 have dm: ∀b,H b≠none->upd H a (.lst aX) b≠none:=fun b z=>by
  by_cases hb:b=a
  ·subst hb;rw[fX];simp
  ·rw[gi hb];exact z
 have sub: ∀b,H b≠none->(OwnA σ (δ.set i (some (.lst l',true))) b\/T b)->OwnA σ δ b\/T b:=fun b _ z=>z.imp (u5 b) id;refine⟨⟨by rw[qP];exact E.len,fun j e hj=>?_,fun j e hj=>?_,fun j k e f b hj hk h1 h2=>?_,fun b z=>E.nT b (u5 b z),fun b z=>by have ne:b≠a:=fun e=>E.nT a oa (e▸z);rw[gi ne];exact E.dom b z⟩,⟨fun b o e n=>by rw[gi (by intro z;subst z;exact n oa)];exact e,fun j b z=>OwnI.write hd z,dm⟩⟩
 ·rcases jz hj with⟨_,_,q⟩|⟨_,q⟩
  ·cases q
  ·obtain⟨w,w1,w2⟩:=E.val j e q;exact⟨w,w1,Rep.mono kp sub w2⟩
 ·rcases jz hj with⟨rfl,_,q⟩|⟨ne,q⟩
  ·cases q;exact⟨a,hs,aX,fX,RepL.mono kp sub r⟩
  ·obtain⟨b,w1,w2⟩:=E.own j e q;refine⟨b,w1,w2.mono kp sub fun o eo=>?_⟩;rw[gi]
   ·exact eo
   ·intro z;subst z;exact ne (E.inj i j _ _ _ hd q hs w1)
 ·obtain⟨e1,q1,q2⟩:=OwnI.write hd ⟨e,hj,h1⟩;obtain⟨e2,q3,q4⟩:=OwnI.write hd ⟨f,hk,h2⟩;exact E.inj j k e1 e2 b q1 q3 q2 q4
end
noncomputable def jQ(i:Nat)(f:F):F:=fun δ=>match δ[i]? with
 |some (some (.lst _,true))=>(f δ).bind fun p=>match p.2[i]? with
  |some (some (.lst l,true))=>if l.length<sizeLine then some ((.non,false),p.2.set i (some (.lst (l++[p.1.1]),true))) else none
  |_=>none
 |_=>none
noncomputable def ni(i:Nat)(f:FO):F:=fun δ=>match δ[i]? with
 |some (some (.lst _,true))=>(f δ).bind fun p=>match res p.2 p.1,p.2[i]? with
  |some (.int k),some (some (.lst l,true))=>if -(2^63)<=k/\k<2^63 then(ixN l.length k).bind fun j=>(l[j]?).bind fun d=>some ((d,false),p.2.set i (some (.lst (l.eraseIdx j),true))) else none
  |_,_=>none
 |_=>none
noncomputable def vh(i:Nat)(f:F)(g:FO):FS:=fun δ=>(f δ).bind fun p=>match p.2[i]? with
 |some (some _)=>(g p.2).bind fun q=>match res q.2 q.1,q.2[i]? with
  |some (.int k),some (some (.lst l,true))=>(ixN l.length k).bind fun j=>some (.nx (q.2.set i (some (.lst (l.set j p.1.1),true))))
  |_,_=>none
 |_=>none
section
variable {X:Cx}{e ix:fw}{f:F}{fo:FO}{pos b8 apos d8:Pos}{i:Nat}{x:Str}{A L:gR}{H0:Hp}
theorem RepL.erase{K H}{O:AP'}: ∀{l:List D} {vs:List V} (j:Nat),RepL K H O l vs->RepL K H O (l.eraseIdx j) (vs.eraseIdx j)
 |[],vs,j,h=>by rw[RepL] at h;subst h;simp[RepL]
 |d::l,vs,0,h=>by
  rw[RepL] at h;obtain⟨v,r,rfl,h1,h2⟩:=h;exact h2
 |d::l,vs,j+1,h=>by
  rw[RepL] at h;obtain⟨v,r,rfl,h1,h2⟩:=h;exact RepL.cons h1 (RepL.erase j h2)
theorem Gb(hv:PO X (.Name x b8) (eV i))(he:PX X e f)(i5:attributeBase (.Name x b8) "append" X.env (eval (.Name x b8) X.env)=eval (.Name x b8) X.env)
  (j2:((backTo d8 (starEach [e] X.env)).all (fun x=>!x.1)&&(backToKw d8 (keywordEach [] X.env)).all (fun x=>x.1.isSome)&&decide ([e].length+([]:List Keyword).length+(if([]:List Keyword).isEmpty then 0 else 1)<30))=true)
  (i4:(apos.endLine==d8.line)=true)(hs:starEach [e] X.env=(false,eval e X.env)::starEach [] X.env)(g0:(backTo d8 (starEach [] X.env)).any (·.1)=false):
  PX X (.Call (.Attribute (.Name x b8) "append" apos) [e] [] d8) (jQ i f):=
 PX.imp (zi Dh PySem.F.slot_list_append PySem.F.type_list_append Gy hv (iX he ko hs) i5 j2 i4 hs g0) fun σ H Q hw=>by
 obtain⟨δ,T,rr,δ',E,e,k⟩:=hw;unfold jQ at e;split at e
 ·rename_i l0 h0;obtain⟨⟨r,δ1⟩,h1,e⟩:=eU e;dsimp only at e;split at e
  ·rename_i l h2;obtain⟨hz,e⟩:=fU e;obtain⟨rfl,rfl⟩:=tq e;refine⟨δ,T,.slot i,δ,E,by unfold eV;rw[h0],fun v H1 P=>?_⟩;obtain⟨K1,E1,hσ⟩:=P;obtain⟨a,g1,cc,g2,g3⟩:=E1.own i _ h0;rw[hσ] at g1;cases g1;refine⟨.inl ⟨rfl,cc,SqL.of g2⟩,δ,T,r,δ1,E1,h1,fun y H2 P2=>?_⟩;obtain⟨E2,ry⟩:=P2.rep E1;obtain⟨a',q1,xs,q2,q3⟩:=E2.own i _ h2;rw[hσ] at q1;cases q1;refine⟨_,xs,y,rfl,rfl,q2,by rw[q3.length];exact hz,?_⟩;obtain⟨E3,K3⟩:=E2.write h2 hσ (q3.append (RepL.one ry));exact k _ _ (Post.val ((K1.trans P2.1).trans K3) E3 Rep.mkNon)
  ·cases e
 ·cases e
theorem IM(hv:PO X (.Name x b8) (eV i))(he:PO X e fo)(i5:attributeBase (.Name x b8) "pop" X.env (eval (.Name x b8) X.env)=eval (.Name x b8) X.env)
  (j2:((backTo d8 (starEach [e] X.env)).all (fun x=>!x.1)&&(backToKw d8 (keywordEach [] X.env)).all (fun x=>x.1.isSome)&&decide ([e].length+([]:List Keyword).length+(if([]:List Keyword).isEmpty then 0 else 1)<30))=true)
  (i4:(apos.endLine==d8.line)=true)(hs:starEach [e] X.env=(false,eval e X.env)::starEach [] X.env)(g0:(backTo d8 (starEach [] X.env)).any (·.1)=false):
  PX X (.Call (.Attribute (.Name x b8) "pop" apos) [e] [] d8) (ni i fo):=
 PX.imp (zi Dh PySem.F.slot_list_pop PySem.F.type_list_pop JK hv (iX he ko hs) i5 j2 i4 hs g0) fun σ H Q hw=>by
 obtain⟨δ,T,rr,δ',E,e,k⟩:=hw;unfold ni at e;split at e
 ·rename_i l0 h0;obtain⟨⟨o,δ1⟩,h1,e⟩:=eU e;dsimp only at e;split at e
  ·rename_i kk l hk h2;split at e
   case isFalse=>cases e
   rename_i hb;obtain⟨j,hj,e⟩:=eU e;obtain⟨d,hd,e⟩:=eU e;obtain⟨rfl,rfl⟩:=fK e;refine⟨δ,T,.slot i,δ,E,by unfold eV;rw[h0],fun v H1 P=>?_⟩;obtain⟨K1,E1,hσ⟩:=P;obtain⟨a,g1,cc,g2,g3⟩:=E1.own i _ h0;rw[hσ] at g1;cases g1;refine⟨.inl ⟨rfl,cc,SqL.of g2⟩,δ,T,o,δ1,E1,h1,fun y H2 P2=>?_⟩;have B:=Ops.cons E1 P2 (Ops.nil (P2.er E1));have vy:=gb (B.view (j:=0) rfl rfl hk);have E2:ER X.K H2 T σ δ1:=B.er.mono (fun _ _ e _=>e) (fun b _ z=>B.tt b z) (fun a z=>B.er.dom a (B.tt a z));obtain⟨a',q1,xs,q2,q3⟩:=E2.own i _ h2;rw[hσ] at q1;cases q1;obtain⟨w,w1,w2⟩:=q3.get hd;have hl:=q3.length;have ej:ixN xs.length kk=some j:=by rw[hl];exact hj
   obtain⟨s1,s2,s3,s4⟩:=Ba ej;obtain⟨E3,K3⟩:=E2.write h2 hσ (RepL.erase j q3);refine⟨_,xs,kk,j,w,rfl,by rw[vy],q2,hb.1,hb.2,s1,w1,?_⟩;exact k _ _ (Post.val ((K1.trans B.keep).trans K3) E3 (Rep.mono (fun b o e n=>K3.kp b o e fun z=>n (.inl z)) (fun b _ z=>z.imp (K3.ow b) id) w2))
  ·cases e
 ·cases e
theorem Gg{f7:Pos}(hv:PO X (.Name x b8) (eV i))(he:PX X e f)(hi:PO X ix fo)
  (ha: ∀v,assign (.Subscript (.Name x b8) ix f7) X.env v=(do
   let ov <-holding [v] (eval (.Name x b8) X.env)
   let iv <-holding [v,ov] (eval ix X.env)
   standAt f7
   holding [v,ov,iv] (setItem ov iv v)
   release [v,ov,iv] []))
  (hs:swapsWithSole [.Subscript (.Name x b8) ix f7] e pos.line X.env=pure false)(hw:swappedStores [.Subscript (.Name x b8) ix f7] e X.env=pure none)
  (h1:(assignEach [.Subscript (.Name x b8) ix f7] X.env).map (·.2)=[assign (.Subscript (.Name x b8) ix f7) X.env]):
  PSX X A L H0 (.Assign [.Subscript (.Name x b8) ix f7] e pos) (vh i f fo):=PS.imp' (DR he (Jo hv hi Iq ha) hs hw h1) fun D σ H hw=>by
 obtain⟨δ,T,out,E,fi,e,k⟩:=hw;obtain⟨⟨r,δ1⟩,h1,e⟩:=eU e;dsimp only at e;split at e
 case h_2=>cases e
 rename_i y0 h0;obtain⟨⟨o,δ2⟩,h2,e⟩:=eU e;dsimp only at e;split at e
 ·rename_i kk l hk h3;obtain⟨j,hj,e⟩:=eU e;cases e;refine⟨δ,T,r,δ1,E,h1,fun v H1 P1=>⟨δ1,Tmp T r v,.slot i,δ1,P1.er E,by unfold eV;rw[h0],fun v2 H2 P2=>⟨δ1,Tmp T r v,o,δ2,P2.er (P1.er E),h2,fun v3 H3 P3=>?_⟩⟩⟩;have eP:PostO X.K T σ δ H (.val r) δ1 v H1:=P1;have B:=Ops.cons E eP (Ops.cons (P1.er E) P2 (Ops.cons (P2.er (P1.er E)) P3 (Ops.nil (P3.er (P2.er (P1.er E))))));have E3:ER X.K H3 T σ δ2:=B.er.mono (fun _ _ e _=>e) (fun b _ z=>B.tt b z) (fun a z=>B.er.dom a (B.tt a z));have hσ:σ[i]?=some (some v2):=P2.2.2;obtain⟨a,q1,xs,q2,q3⟩:=E3.own i _ h3;rw[hσ] at q1;cases q1;have vk:=gb (B.view (j:=2) rfl rfl hk);have rv:=B.rep E (j:=0) (r:=r) rfl rfl;refine⟨a,xs,kk,j,rfl,vk,q2,by rw[q3.length];exact hj,?_⟩;obtain⟨E4,K4⟩:=E3.write h3 hσ (RepL.set rv j q3);exact k _ _ (B.keep.trans K4).sk E4
 ·cases e
end
noncomputable def DL(tg:Tg)(f:F):FS:=fun δ=>(f δ).bind fun p=>(tg p.1.1 p.2).bind fun δ1=>some (.nx δ1)
section
variable {X:Cx}{A L:gR}{H0:Hp}{a b tg e:fw}{fs:List F}{f:F}{t:Tg}{pos px py pt pt2:Pos}{x y:Str}{i j:Nat}{kt k2}
theorem LY(he:PX X e f)(hg:PGX X A tg t)(hs:swapsWithSole [tg] e pos.line X.env=pure false)(hw:swappedStores [tg] e X.env=pure none)(h1:(assignEach [tg] X.env).map (·.2)=[assign tg X.env]):
  PSX X A L H0 (.Assign [tg] e pos) (DL t f):=PS.imp' (DR he hg hs hw h1) fun D σ H hw=>by
 obtain⟨δ,T,out,E,fi,e,k⟩:=hw;obtain⟨⟨r,δ1⟩,h1,e⟩:=eU e;obtain⟨δ2,h2,e⟩:=eU e;cases e;refine⟨δ,T,r,δ1,E,h1,fun v H1 P=>?_⟩;obtain⟨E1,rv⟩:=P.rep E;exact⟨δ1,T,r.1,δ2,E1,rv,h2,fun σ' S' E'=>k σ' H1 (P.1.sk.trans S') E'⟩
theorem LP{id:String}{p:Pos}{es:hW}{fo:List FO}{g:List D->Option (D×Bool)}{z:Str}(hc:hX X (.builtin id) (rDn X.K g))(hg:Gl X z)(hm:X.mg z=none)(hv:bootBuiltins z=some (.builtin id))(ha:PA X (e::es) (tA X.K fo))(hn:z≠"__name__")(j6:(z==("__debug__":Str))=false)
  (he:starEach (e::es) X.env=(false,eval e X.env)::starEach es X.env)(h9:(backTo pos (starEach es X.env)).any (·.1)=false):PX X (.Call (.Name z p) (e::es) [] pos) (fE g fo):=pxn (tV hc hg hm hv ha hn j6 he h9)
theorem EV{id:String}{p:Pos}{es:hW}{fo:List FO}{g:List D->Option (D×Bool)}{z:Str}(hc:hX X (.type id) (rDn X.K g))(hg:Gl X z)(hm:X.mg z=none)(hv:bootBuiltins z=some (.type id))(ha:PA X (e::es) (tA X.K fo))(hn:z≠"__name__")(j6:(z==("__debug__":Str))=false)
  (he:starEach (e::es) X.env=(false,eval e X.env)::starEach es X.env)(h9:(backTo pos (starEach es X.env)).any (·.1)=false):PX X (.Call (.Name z p) (e::es) [] pos) (fE g fo):=pxn (jN hc hg hm hv ha hn j6 he h9)
end
theorem PQ:bootBuiltins "len"=some (.builtin "len"):=by decide+kernel
structure Txt(mg:jY):Prop where
 n_len:mg "len"=none
 n_abs:mg "abs"=none
 n_int:mg "int"=none
 n_tuple:mg "tuple"=none
 n_list:mg "list"=none
 n_range:mg "range"=none
noncomputable def Bn(N:fV)(sc scope:hJ)(N':fV)(caps:hV)(k:Nat):Bool:=
 (scope.names.all fun y=>y.2 != .cell||scope.names.lookup y.1==some .cell)&&decide (scope.kind= .function)&&(scope.names.all fun y=>y.2 != .local||scope.names.lookup y.1==some .local)&&
 (scope.names.all fun y=>y.2 != .free||(sc.names.lookup y.1==some .cell||sc.names.lookup y.1==some .free))&&decide (caps.length+k=N'.length)&&
 ((caps.zip N').all fun p=>N[p.1]?==some p.2&&scope.names.lookup p.2==some .free)
theorem KA(hN:X.N=N)(hs:X.env.scope=sc)(h:Bn N sc scope N' caps k=true):CompOk X N' scope caps k:=by
 subst hN;subst hs;unfold Bn at h;simp only[kB,my,pv] at h;obtain⟨⟨⟨⟨⟨h1,h2⟩,h3⟩,h4⟩,h5⟩,h6⟩:=h;refine⟨fun y hy e=>?_,h2,fun y hy e=>?_,fun y hy e=>?_,h5,fun i j x hi hx=>?_⟩
 ·have:=h1 y hy;rw[e] at this;simpa using this
 ·have:=h3 y hy;rw[e] at this;simpa using this
 ·have:=h4 y hy;rw[e] at this;simpa using this
 ·have hm:(j,x)∈caps.zip N':=by
   have:(caps.zip N')[i]?=some (j,x):=by rw[CJ];exact⟨hi,hx⟩
   exact lG this
  have:=h6 _ hm;simpa using this
noncomputable def gq:FT:=fun δ=>some (true,δ)
theorem Jk{X:Cx}:PIf X [] (tT X.K gq):=fun pins s σ H Q I h=>by
 obtain⟨δ,T,b,δ',E,e,k⟩:=h;cases e;exact L9 pins s σ H Q I (k H .refl E)
inductive Ty where
 |int|bool|str|tuple|list|dict
noncomputable def Ty.n:Ty->String
 | .int=>"int"| .bool=>"bool"| .str=>"str"| .tuple=>"tuple"| .list=>"list"| .dict=>"dict"
noncomputable def isT:D->Ty->Bool
 | .bl _,.bool=>true
 | .bl _,.int=>true
 | .int _,.int=>true
 | .str _,.str=>true
 | .tup _,.tuple=>true
 | .lst _,.list=>true
 | .oth .dct _ _,.dict=>true
 |_,_=>false
noncomputable def tyD:D->String
 | .non=>"NoneType"| .bl _=>"bool"| .int _=>"int"| .str _=>"str"| .tup _=>"tuple"| .lst _=>"list"| .oth .dct _ _=>"dict"| .oth .set _ _=>"set"| .oth _ _ _=>"NoneType"
section
variable {X:Cx}{pins:gc}{σ:L2.St}{H:Hp}{s:eZ}
theorem A7(K:fO)(d:D)(t:Ty):PySem.W.kitOne K (.type (tyD d)) (.type t.n)=some (isT d t):=by
 cases d with
 |oth k _ _=>cases k<;>cases t<;>with_unfolding_all rfl
 |_=>cases t<;>with_unfolding_all rfl
theorem xq(I:Inv X pins σ H s)(h:OthB X.K (H a) k ks vs us)(hk:k= .dct\/k= .set:=by first|exact .inl rfl|exact .inr rfl):s.TypeIs (.ref a) (tyD (.oth k ks vs)):=by
 cases k with
 |dct=>
  rcases h with⟨kvs,e,_⟩|⟨kvs,e,_⟩
  ·obtain⟨_,_,vs,_,o,es,ep,h1,h2,_⟩:=(show ObjOk X.prog X.w H s.heap a (.dK kvs) from I.hok a _ e)
   exact⟨o,h1,h2.1⟩
  ·obtain⟨_,_,xs,_,o,es,ep,h1,h2,_⟩:=(show ObjOk X.prog X.w H s.heap a (.dT kvs) from I.hok a _ e)
   exact⟨o,h1,h2.1⟩
 |set=>
  obtain⟨_,zs,e,_⟩:=h;obtain⟨es,n,t,h1,_⟩:=(show ObjOk X.prog X.w H s.heap a (.stt zs) from I.hok a _ e)
  exact⟨_,h1,rfl⟩
 |exc C=>rcases hk with z|z<;>cases z
 |_=>exact h.elim
theorem pF{K H}(h:ip K H O (.oth k ks vs) v): ∃a us,v= .ref a/\OthB K (H a) k ks vs us/\RepL K H O vs us:=by
 rcases h with h|⟨a,rfl,h⟩
 ·obtain⟨a,us,e,q,r⟩:=h.oth;exact⟨a,us,e,q.2,r⟩
 ·obtain⟨us,e,r⟩:=h;exact⟨a,us,rfl,e,r⟩
end
theorem jP(K:fO)(d:D): ∀ts:List Ty,PySem.W.kitAny K (.type (tyD d)) (ts.map fun t=>Value.type t.n)=some (ts.any (isT d))
 |[]=>rfl
 |t::ts=>by
  rw[gP,PySem.W.kitAny,A7,rK]
  cases isT d t with
  |true=>rfl
  |false=>simpa using jP K d ts
theorem Nq{K:fO}{C:Nat}(h: ∀n∈["int","bool","str","tuple","list","dict"],PySem.W.kitOne K (.ref C) (.type n)=some false)(t:Ty){ks vs:List D}:PySem.W.kitOne K (.ref C) (.type t.n)=some (isT (.oth (.exc C) ks vs) t):=by
 cases t<;>exact h _ (by simp[Ty.n])
theorem Fq{K:fO}{C:Nat}(h: ∀n∈["int","bool","str","tuple","list","dict"],PySem.W.kitOne K (.ref C) (.type n)=some false){ks vs:List D}: ∀ts:List Ty,PySem.W.kitAny K (.ref C) (ts.map fun t=>Value.type t.n)=some (ts.any (isT (.oth (.exc C) ks vs)))
 |[]=>rfl
 |t::ts=>by
  rw[gP,PySem.W.kitAny,Nq h t (ks:=ks) (vs:=vs),rK]
  cases isT (.oth (.exc C) ks vs) t with
  |true=>rfl
  |false=>simpa using Fq h ts
section
variable {X:Cx}{pins:gc}{σ:L2.St}{H:Hp}{s:eZ}
theorem T6(I:Inv X pins σ H s)(hd:ip X.K H O d x)(rx:RelV x u)(h: ∀tk,Q (.bool (isT d t)) {s with toks:=tk}):
  wpAny (model X.prog X.w) A (call (.builtin "isinstance") [u,.type t.n]) Q E s:=by
 cases d with
 |non=>have:=Bz hd;subst this;cases rx;exact tf PySem.W.kitx_none I.kIn True.intro (A7 X.K .non t) (fun z=>nomatch z) h
 |bl b=>have:=AA hd;subst this;cases rx;exact tf PySem.W.kitx_bool I.kIn True.intro (A7 X.K (.bl b) t) (fun z=>nomatch z) h
 |int b=>have:=gb hd;subst this;obtain⟨tk,rfl⟩:=rx;exact tf PySem.W.kitx_int I.kIn True.intro (A7 X.K (.int b) t) (fun z=>nomatch z) h
 |str b=>have:=nG hd;subst this;obtain⟨tk,rfl⟩:=rx;exact tf PySem.W.kitx_str I.kIn True.intro (A7 X.K (.str b) t) (fun z=>nomatch z) h
 |tup l=>
  obtain⟨a,xs,rfl,q,_⟩:=jm hd;cases rx;obtain⟨b6,_,⟨o,h1,h2,_⟩,_⟩:=I.tuple q;exact tf PySem.W.kitx_tuple I.kIn ⟨o,h1,h2⟩ (A7 X.K (.tup l) t) (fun z=>nomatch z) h
 |lst l=>
  obtain⟨a,xs,rfl,q,_⟩:=jf hd;cases rx;obtain⟨b6,_,⟨o,n,h1,h2,_⟩,_⟩:=I.list q;exact tf PySem.W.kitx_list I.kIn ⟨o,h1,h2⟩ (A7 X.K (.lst l) t) (fun z=>nomatch z) h
 |oth k ks vs=>
  obtain⟨a,us,rfl,q,_⟩:=pF hd;cases rx
  cases k with
  |dct=>exact tf PySem.W.kitx_dict I.kIn (xq I q) (A7 X.K (.oth .dct ks vs) t) (fun z=>nomatch z) h
  |set=>exact tf PySem.W.kitx_set I.kIn (xq I q) (A7 X.K (.oth .set ks vs) t) (fun z=>nomatch z) h
  |exc C=>
   obtain⟨_,o,e,h1,h2,h3⟩:=q;exact tf (h2 a) I.kIn (show ObjOk X.prog X.w H s.heap a (.frz o (.own 0)) from I.hok a _ e).1 (Nq h3 t) (fun z=>nomatch z) h
  |_=>exact q.elim
theorem T5{A:fQ}{E:gm}{Q:gm}(I:Inv X pins σ H s){O:AP'}{d:D}{x:V}{u:fI}{ts:List Ty}{p:eX}{dd:Option Addr}{n:Nat}{sl:sO}(hd:ip X.K H O d x)(rx:RelV x u)
  (aI:s.heap.get? p=some ⟨.type "tuple",dd,.seq (ts.map fun t=>Value.type t.n).toArray n,sl⟩)(h: ∀tk,Q (.bool (ts.any (isT d))) {s with toks:=tk}):wpAny (model X.prog X.w) A (call (.builtin "isinstance") [u,.ref p]) Q E s:=by
 cases d with
 |non=>have:=Bz hd;subst this;cases rx;exact sZ PySem.W.kitx_none I.kIn True.intro aI (jP X.K .non ts) (fun z=>nomatch z) h
 |bl b=>have:=AA hd;subst this;cases rx;exact sZ PySem.W.kitx_bool I.kIn True.intro aI (jP X.K (.bl b) ts) (fun z=>nomatch z) h
 |int b=>have:=gb hd;subst this;obtain⟨tk,rfl⟩:=rx;exact sZ PySem.W.kitx_int I.kIn True.intro aI (jP X.K (.int b) ts) (fun z=>nomatch z) h
 |str b=>have:=nG hd;subst this;obtain⟨tk,rfl⟩:=rx;exact sZ PySem.W.kitx_str I.kIn True.intro aI (jP X.K (.str b) ts) (fun z=>nomatch z) h
 |tup l=>
  obtain⟨a,xs,rfl,q,_⟩:=jm hd;cases rx;obtain⟨b6,_,⟨o,h1,h2,_⟩,_⟩:=I.tuple q;exact sZ PySem.W.kitx_tuple I.kIn ⟨o,h1,h2⟩ aI (jP X.K (.tup l) ts) (fun z=>nomatch z) h
 |lst l=>
  obtain⟨a,xs,rfl,q,_⟩:=jf hd;cases rx;obtain⟨b6,_,⟨o,n,h1,h2,_⟩,_⟩:=I.list q;exact sZ PySem.W.kitx_list I.kIn ⟨o,h1,h2⟩ aI (jP X.K (.lst l) ts) (fun z=>nomatch z) h
 |oth k ks vs=>
  obtain⟨a,us,rfl,q,_⟩:=pF hd;cases rx
  cases k with
  |dct=>exact sZ PySem.W.kitx_dict I.kIn (xq I q) aI (jP X.K (.oth .dct ks vs) ts) (fun z=>nomatch z) h
  |set=>exact sZ PySem.W.kitx_set I.kIn (xq I q) aI (jP X.K (.oth .set ks vs) ts) (fun z=>nomatch z) h
  |exc C=>
   obtain⟨_,o,e,h1,h2,h3⟩:=q;exact sZ (h2 a) I.kIn (show ObjOk X.prog X.w H s.heap a (.frz o (.own 0)) from I.hok a _ e).1 aI (Fq h3 ts) (fun z=>nomatch z) h
  |_=>exact q.elim
end
noncomputable def mz(ts:List Ty)(d:D):Option (D×Bool):=some (.bl (ts.any (isT d)),false)
section
variable {X:Cx}{e:fw}{fa:FO}{pos p p2:Pos}{z:Str}
theorem IQ{t:Ty}(ha:PO X e fa)(hg:Gl X "isinstance")(hm:X.mg "isinstance"=none)(aL:Gl X z)(dY:X.mg z=none)(hz:bootBuiltins z=some (.type t.n))(hn:z≠"__name__")(j6:(z==("__debug__":Str))=false)(hv:bootBuiltins "isinstance"=some (.builtin "isinstance"))
  (s1:starEach [e,.Name z p2] X.env=(false,eval e X.env)::starEach [.Name z p2] X.env)(s2:starEach [.Name z p2] X.env=(false,eval (.Name z p2) X.env)::starEach [] X.env)(h9:(backTo pos (starEach [.Name z p2] X.env)).any (·.1)=false):
  PX X (.Call (.Name "isinstance" p) [e,.Name z p2] [] pos) (gB (mz [t]) fa):=by
 have hc:hX X (.builtin "isinstance") (fun xs H Q=> ∃(O:AP') (d:D) (x:V),xs=[x,.ty t.n]/\ip X.K H O d x/\Q (.bl (isT d t)) H):=by
  intro pins s σ H xs us Q I r h;obtain⟨O,d,x,rfl,hd,q⟩:=h;obtain⟨u,w',rfl,ru,p8⟩:=wV r;cases p8;exact T6 I hd ru fun tk=>⟨.bl _,H,I.tok _,rfl,q⟩
 refine PX.imp (tV hc hg hm hv (iX ha (iX (AQ (v:= .ty t.n) aL dY hz rfl hn j6) ko s2) s1) (by decide) (by decide) s1 h9) fun σ H Q hw=>?_;obtain⟨δ,T,rr,δ',E,e,k⟩:=hw;obtain⟨⟨o,δ1⟩,h1,e⟩:=eU e;obtain⟨x,h2,e⟩:=eU e;obtain⟨zz,h3,e⟩:=eU e;cases h3;obtain⟨rfl,rfl⟩:=fK e;refine⟨δ,T,o,δ1,E,h1,fun v H1 P1=>?_⟩;have B:=Ops.cons E P1 (Ops.nil (P1.er E));refine⟨_,x,v,rfl,B.view (j:=0) rfl rfl h2,?_⟩;have:=(B.done k).bl;simpa using this
theorem LI{t t':Ty}{z z':Str}{p3 p4:Pos}{kk}(ha:PO X e fa)(hg:Gl X "isinstance")(hm:X.mg "isinstance"=none)(aL:Gl X z)(dY:X.mg z=none)(hz:bootBuiltins z=some (.type t.n))(hn:z≠"__name__")(j6:(z==("__debug__":Str))=false)
  (bD:Gl X z')(hmz':X.mg z'=none)(dg:bootBuiltins z'=some (.type t'.n))(cE:z'≠"__name__")(bG:(z'==("__debug__":Str))=false)(hv:bootBuiltins "isinstance"=some (.builtin "isinstance"))
  (s1:starEach [e,.Tuple [.Name z p2,.Name z' p3] kk p4] X.env=(false,eval e X.env)::starEach [.Tuple [.Name z p2,.Name z' p3] kk p4] X.env)(s2:starEach [.Tuple [.Name z p2,.Name z' p3] kk p4] X.env=(false,eval (.Tuple [.Name z p2,.Name z' p3] kk p4) X.env)::starEach [] X.env)
  (s3:starEach [.Name z p2,.Name z' p3] X.env=(false,eval (.Name z p2) X.env)::starEach [.Name z' p3] X.env)(s4:starEach [.Name z' p3] X.env=(false,eval (.Name z' p3) X.env)::starEach [] X.env)
  (h9:(backTo pos (starEach [.Tuple [.Name z p2,.Name z' p3] kk p4] X.env)).any (·.1)=false):
  PX X (.Call (.Name "isinstance" p) [e,.Tuple [.Name z p2,.Name z' p3] kk p4] [] pos) (gB (mz [t,t']) fa):=by
 have hc:hX X (.builtin "isinstance") (fun xs H Q=> ∃(O:AP') (d:D) (x:V) (q:eX),xs=[x,.ref q]/\H q=some (.tup [.ty t.n,.ty t'.n])/\ip X.K H O d x/\Q (.bl ([t,t'].any (isT d))) H):=by
  intro pins s σ H xs us Q I r h;obtain⟨O,d,x,q,rfl,hq,hd,k⟩:=h;obtain⟨u,w',rfl,ru,p8⟩:=wV r;cases p8;obtain⟨_,b6,v1,o,h1,h2,n,h3⟩:=I.hok q _ hq;obtain⟨u1,u2,rfl,r1,r2⟩:=wV v1;cases r1;cases r2;obtain⟨cls,dd,dt,sl⟩:=o;simp only at h2 h3;subst h2;subst h3;exact T5 (ts:=[t,t']) I hd ru h1 fun tk=>⟨.bl _,H,I.tok _,rfl,k⟩
 refine PX.imp (tV hc hg hm hv (iX ha (iX (Jq (iX (AQ (v:= .ty t.n) aL dY hz rfl hn j6) (iX (AQ (v:= .ty t'.n) bD hmz' dg rfl cE bG) ko s4) s3)) ko s2) s1) (by decide) (by decide) s1 h9) fun σ H Q hw=>?_;obtain⟨δ,T,rr,δ',E,e,k⟩:=hw;obtain⟨⟨o,δ1⟩,h1,e⟩:=eU e;obtain⟨x,h2,e⟩:=eU e;obtain⟨zz,h3,e⟩:=eU e;cases h3;obtain⟨rfl,rfl⟩:=fK e;refine⟨δ,T,o,δ1,E,h1,fun v H1 P1=>⟨by show 2<=sizeLine;decide,fun q hq=>?_⟩⟩;have B:=Ops.cons E P1 (Ops.nil (P1.er E));have hx:=iW (o:= .tup [.ty t.n,.ty t'.n]) hq;have vw:=B.view (j:=0) rfl rfl h2;refine⟨fun a=>OwnA σ δ1 a\/T a,x,v,q,rfl,fX,?_,?_⟩
 ·rcases vw with vw|⟨a,rfl,vw⟩
  ·exact .inl (Rep.mono (fun b o e _=>hx b o e) (fun _ _ z=>z) vw)
  ·exact .inr ⟨a,rfl,vw.mono (fun b o e _=>hx b o e) (fun _ _ z=>z) fun o e=>hx a o e⟩
 ·exact(B.done k) _ _ hx Rep.mkBl
end
noncomputable def uC:List D->Option (List Bool)
 |[]=>some []
 | .bl b::l=>(uC l).map (b:: ·)
 |_::_=>none
noncomputable def vZ:D->Option (D×Bool)
 | .lst l=>(uC l).map fun bs=>(.bl (bs.all id),false)
 |_=>none
theorem vR{K H}{O:AP'}: ∀{l:List D} {bs:List Bool} {xs:List V} {b6:gH},uC l=some bs->RepL K H O l xs->Vals xs b6->LSm.BoolsAre b6 bs
 |[],bs,xs,b6,h,r,v=>by
  cases h;rw[RepL] at r;subst r;cases v;exact .nil
 | .bl b::l,bs,xs,b6,h,r,v=>by
  obtain⟨bs',h1,rfl⟩:=gZ h;rw[RepL] at r;obtain⟨x,xr,rfl,r1,r2⟩:=r;have:=r1.bl;subst this
  cases v with
  |cons a c=>cases a;exact .cons b (vR h1 r2 c)
 | .non::l,_,_,_,h,_,_=>by cases h
 | .int _::l,_,_,_,h,_,_=>by cases h
 | .str _::l,_,_,_,h,_,_=>by cases h
 | .tup _::l,_,_,_,h,_,_=>by cases h
 | .lst _::l,_,_,_,h,_,_=>by cases h
 | .oth _ _ _::l,_,_,_,h,_,_=>by cases h
section
variable {X:Cx}
theorem A8{h h':fP}{o:Obj}(hk: ∀b x,b∉[h.objs.size]->(h.push o).get? b=some x->h'.get? b=some x)(b:eX)(x:Obj)(e:h.get? b=some x):h'.get? b=some x:=
 hk b x (fun z=>by have:=Ez.mp z;subst this;exact absurd (ie e) (nE _)) (ik _ e)
theorem nQ(hc:X.calm=true):hX X (.builtin "all") (rDn X.K (g1 vZ)):=mw fun pins s σ H x u Q O d z I ru np hd hg G=>by
 cases d with
 |lst l=>
  obtain⟨bs,hb,rfl⟩:=gZ hg;obtain⟨p,xs,rfl,q,r⟩:=jf hd;cases ru;obtain⟨b6,v,pl,_⟩:=I.list q;have are:=vR hb r v;have hh:X.A.in1.handled=none:=I.ok.hd hc;have plt:p<s.heap.objs.size:=by obtain⟨_,e,_⟩:=pl.isList;exact ie e
  refine call_all_walk (wM pl.isList ⟨s.heap.objs.size,[s.heap.objs.size,p],[s.heap.objs.size],b6.toArray.size,_,_,fun i=>(bs[i]?).getD true,rfl,Walks.list hh _ p (gE plt) b6.toArray,
   ⟨⟨_,iK _ rfl,rfl,rfl⟩,pl.isList.push _⟩,fun i w s' Q' E' hP hQ=>?_,fun h' tk hk=>?_⟩)
  ·obtain⟨b,e,rfl⟩:=are.get i w (by simpa using hP);dsimp only at hQ;rw[e] at hQ;exact tH hQ
  ·rw[gr,are.length,LSm.range_all];exact⟨.bl _,H,I.kept (A8 hk),rfl,G.bl⟩
 |_=>cases hg
noncomputable def Kj:=gI fun i j=>some (.int (if j>i then j else i))
noncomputable def Ki:=gI fun i j=>some (.int (if j<i then j else i))
theorem Er(hc:X.calm=true):hX X (.builtin "max") (rDn X.K (g2 Kj)):=KC fun pins s σ H x y us Q O d e z I r np h1 h2 hg G=>by
 obtain⟨i,j,w,rfl,rfl,hf,rfl⟩:=wo hg;cases hf;exact GW hc pins s σ H [x,y] us Q I r ⟨i,j,by rw[gb h1,gb h2],G.int⟩
theorem Ep(hc:X.calm=true):hX X (.builtin "min") (rDn X.K (g2 Ki)):=KC fun pins s σ H x y us Q O d e z I r np h1 h2 hg G=>by
 obtain⟨i,j,w,rfl,rfl,hf,rfl⟩:=wo hg;cases hf;exact GV hc pins s σ H [x,y] us Q I r ⟨i,j,by rw[gb h1,gb h2],G.int⟩
theorem xi{lo:Int}{n:Nat}{acc:lq}(h:ItemsOf (fun i v=> ∃t,v= .int (lo+(i:Int)*1) t) acc n):Vals ((List.range n).map fun(k:Nat)=>V.int (lo+k)) acc.toList:=by
 have key: ∀(l:gH) (m:Nat),(∀(j:Nat) v,l[j]?=some v-> ∃t,v= .int (lo+((m+j:Nat):Int)) t)->Vals ((List.range' m l.length).map fun(k:Nat)=>V.int (lo+k)) l:=by
  intro l
  induction l with
  |nil=>intro m _;exact .nil
  |cons v l ih=>
   intro m hv;obtain⟨t,e⟩:=hv 0 v rfl;refine .cons ⟨t,by simpa using e⟩ (ih (m+1) fun j w hw=>?_);obtain⟨t',e'⟩:=hv (j+1) w (by simpa using hw);exact⟨t',by rw[e'];congr 2;first|done|lia⟩
 have:=key acc.toList 0 fun j v hv=>by
  obtain⟨t,e⟩:=h.2 j v (by simpa using hv);exact⟨t,by rw[e];congr 1⟩
 rw[iw,h.1,<-List.range_eq_range'] at this;exact this
theorem DO{K H}(lo:Int)(n:Nat):RepL K H O (gf lo n) ((List.range n).map fun(k:Nat)=>V.int (lo+k)):=by
 unfold gf
 induction(List.range n) with
 |nil=>exact RepL.nil
 |cons k l ih=>exact RepL.cons Rep.mkInt ih
end
def RgOk(lo hi:Int):Prop:= -(2^62)<=lo/\lo<2^62/\ -(2^62)<=hi/\hi<2^62/\(hi-lo).toNat<=2^24
instance(lo hi:Int):Decidable (RgOk lo hi):=by unfold RgOk;infer_instance
noncomputable def rgV(lo hi:Int):List V:=(List.range (hi-lo).toNat).map fun(k:Nat)=>V.int (lo+k)
theorem RgOk.small{lo hi:Int}(h:RgOk lo hi):Builtin.Range.small lo hi 1=true:=small_one h.1 h.2.1 h.2.2.1 h.2.2.2.1
theorem EU(lo hi:Int):Builtin.Range.rangeSize lo hi 1=((hi-lo).toNat:Nat):=by rw[rangeSize_one];split<;>lia
section
variable {prog:fS}{w:fL}{A:fQ}{E:gm}{s:eZ}
theorem Eo{Q:List Value->Shared->Prop}{r:eX}{lo hi:Int}{t u v:Tok}(hh:A.handled=none)(hr:IsRange s.heap r lo hi 1 t u v)(ok:RgOk lo hi)
  (hQ: ∀(h':fP) tk (acc:lq),(∀b o,s.heap.get? b=some o->h'.get? b=some o)->ItemsOf (fun i v=> ∃t,v= .int (lo+(i:Int)*1) t) acc (hi-lo).toNat->Q acc.toList {s with heap:=h',toks:=tk}):
  wpAny (model prog w) A (collect (.ref r)) Q E s:=by
 unfold collect;refine eY (Al (oW F.entry_proto_collect ?_));rw[qO F.plain_proto_collect _];refine eY (m:=newList []) (kQ ?_);refine fH ⟨pk F.plain_list_iadd _,oW F.entry_list_iadd ?_⟩;rw[qO F.plain_list_iadd _];have e0:=iK s.heap (o:=({cls:= .type "list",data:= .seq ([]:List Value).toArray}:Obj)) rfl
 let R:Result->Shared->Prop:=fun r s'=> ∃(h':fP) (tk:Nat) (acc:lq) (c':Nat),r= .ok (.ret (.ref s.heap.objs.size))/\s'={s with heap:=h',toks:=tk}/\(∀b o,s.heap.get? b=some o->h'.get? b=some o)/\
  h'.get? s.heap.objs.size=some {cls:= .type "list",dict:=none,data:= .seq acc c',slots:= #[]}/\ItemsOf (fun i v=> ∃t,v= .int (lo+(i:Int)*1) t) acc (hi-lo).toNat
 have fin: ∀{r s'},R r s'-> ∃v,r= .ok (.ret v)/\wpAny (model prog w) A (match v with
   |Value.ref a=>do
    match(<-load a).data with
     |Data.seq xs _=>pure xs.toList
     |_=>unsupported "internal:collect"
   |_=>unsupported "internal:collect") Q E s':=fun {r s'} hR=>by
  obtain⟨h',tk,acc,c',rfl,rfl,hk,u4,l3⟩:=hR;exact⟨_,rfl,eY (m:=load s.heap.objs.size) (uX u4 (fH (hQ h' tk acc hk l3)))⟩
 refine oH (wpAny_extend_range (A:=A) (R:=R) (s:={s with heap:=s.heap.push {cls:= .type "list",data:= .seq ([]:List Value).toArray}}) hh (ik _ hr) ok.small (EU lo hi) ok.2.2.2.2 _ _ 0 e0 fun h' tk i3 c' hk u4 l3=>
  ⟨h',tk,i3,c',rfl,rfl,fun b o e=>hk b o (gE (ie e)) (ik _ e),u4,l3⟩) (fun f s' h=>?_) (fun e s' h=>?_)
 ·cases f with
  |done f=>
   obtain⟨v,hv,h2⟩:=fin h;cases hv;exact h2
  |again c'=>exact⟨h.1,rO h.2 fun r aQ hr=>by obtain⟨v,rfl,h2⟩:=fin hr;exact h2⟩
 ·obtain⟨v,hv,_⟩:=fin h;cases hv
theorem AB{Q₁:gm}{r:eX}{lo hi:Int}{t u v:Tok}(hh:A.handled=none)(hr:IsRange s.heap r lo hi 1 t u v)(ok:RgOk lo hi)
  (h: ∀(h':fP) tk (acc:lq),(∀b o,s.heap.get? b=some o->h'.get? b=some o)->ItemsOf (fun i v=> ∃t,v= .int (lo+(i:Int)*1) t) acc (hi-lo).toNat->Q₁ (.ref h'.objs.size) {s with heap:=h'.push {cls:= .type "tuple",data:= .seq acc},toks:=tk}):
  codeAny (model prog w) A (.call (.builtin "tuple.__new__") ⟨[.type "tuple",.ref r],[]⟩) (wants Q₁ E) s:=by
 refine wG ?_;refine eY (m:=checkBuiltinCall "tuple.__new__" _) (oV (F.newCall_tuple_1 _) (fH ⟨pk F.plain_tuple_new _,oW F.entry_tuple_new ?_⟩));rw[qO F.plain_tuple_new _];have u6:=sub_tuple_self;have hinit:=init_tuple_lookup;have hmh:=madeHere_tuple;have r6:s.TypeIs (.ref r) "range":=⟨_,hr,rfl⟩
 have hh1:A.in1.handled=none:=hh
 wp_walk using tD r6,Eo hh1 hr ok
 intro h' tk acc hk l3;have hz:acc.size<=sizeLine:=by rw[l3.1,gA];have:=ok.2.2.2.2;omega
 refine eY (m:=Builtin.Tuple.tupleExact acc.toList.toArray) ?_;unfold Builtin.Tuple.tupleExact;refine kQ ?_ (by show acc.toList.toArray.size<=sizeLine;simpa using hz);refine fH ?_;have e:acc.toList.toArray=acc:=by simp
 rw[e];exact h h' tk acc hk l3
theorem yW{Q:gm}{r:eX}{lo hi:Int}{t u v:Tok}(hh:A.handled=none)(hr:IsRange s.heap r lo hi 1 t u v)(ok:RgOk lo hi)
  (h: ∀(h':fP) tk (acc:lq),(∀b o,s.heap.get? b=some o->h'.get? b=some o)->ItemsOf (fun i v=> ∃t,v= .int (lo+(i:Int)*1) t) acc (hi-lo).toNat->Q (.ref h'.objs.size) {s with heap:=h'.push {cls:= .type "tuple",data:= .seq acc},toks:=tk}):
  wpAny (model prog w) A (call (.type "tuple") [.ref r]) Q E s:=by
 refine callType_codes (Q₁:=fun obj s₁=>s₁.TypeIs obj "tuple"/\Q obj s₁) K9 (F.typeCall_tuple_1 _) F.entry_object_init
  (AB hh hr ok fun h' tk acc hm l3=>⟨⟨_,iK _ rfl,rfl⟩,h h' tk acc hm l3⟩) fun obj s₁ h₁=>?_
 exact⟨h₁.1,F.args_object_init_2 obj _,object_init_meets K9.init.lookup K9.made (by decide) prog w A.in1 _ s₁ ⟨h₁.1,rfl,h₁.2⟩⟩
end
section
variable {X:Cx}
theorem zH:hX X (.type "range") (fun xs H Q=> ∃j,xs=[.int j]/\ ∀r,H r=none->Q (.ref r) (upd H r (.rng 0 j))):=by
 intro pins s σ H xs us Q I r h;obtain⟨j,rfl,h⟩:=h;obtain⟨u,rfl,⟨t,rfl⟩⟩:=lJ r;exact call_range_1 ⟨.ref _,_,I.laid (o:= .rng 0 j) (fun b o e=>ik _ e) (gJ _) ⟨_,_,_,iK _ rfl⟩,rfl,h _ I.fresh⟩
theorem zG:hX X (.type "range") (fun xs H Q=> ∃i j,xs=[.int i,.int j]/\ ∀r,H r=none->Q (.ref r) (upd H r (.rng i j))):=by
 intro pins s σ H xs us Q I r h;obtain⟨i,j,rfl,h⟩:=h;obtain⟨u,u',rfl,⟨t,rfl⟩,⟨t',rfl⟩⟩:=wV r;exact call_range_2 ⟨.ref _,_,I.laid (o:= .rng i j) (fun b o e=>ik _ e) (gJ _) ⟨_,_,_,iK _ rfl⟩,rfl,h _ I.fresh⟩
theorem rz(hc:X.calm=true):hX X (.type "list") (fun xs H Q=> ∃r lo hi,xs=[.ref r]/\H r=some (.rng lo hi)/\RgOk lo hi/\ ∀l,H l=none->Q (.ref l) (upd H l (.lst (rgV lo hi)))):=by
 intro pins s σ H xs us Q I dH h;obtain⟨r,lo,hi,rfl,hr,ok,h⟩:=h;obtain⟨u,rfl,ru⟩:=lJ dH;cases ru;obtain⟨t,u,v,er⟩:=I.hok r _ hr;refine call_list_range (A:=X.A) (I.ok.hd hc) er ok.small (EU lo hi) ok.2.2.2.2 fun h' tk acc c kp e items=>?_;have rv:=xi items;refine⟨.ref _,_,I.laid kp (gJ _) (show ObjOk X.prog X.w _ _ _ (.lst (rgV lo hi)) from⟨?_,acc.toList,c,rv,by simpa using e⟩),rfl,h _ I.fresh⟩;have:=ok.2.2.2.2;simp only[rgV,gW,List.length_range,gA];omega
theorem qg(hc:X.calm=true):hX X (.type "tuple") (fun xs H Q=> ∃r lo hi,xs=[.ref r]/\H r=some (.rng lo hi)/\RgOk lo hi/\ ∀l,H l=none->Q (.ref l) (upd H l (.tup (rgV lo hi)))):=by
 intro pins s σ H xs us Q I dH h;obtain⟨r,lo,hi,rfl,hr,ok,h⟩:=h;obtain⟨u,rfl,ru⟩:=lJ dH;cases ru;obtain⟨t,u,v,er⟩:=I.hok r _ hr;refine yW (A:=X.A) (I.ok.hd hc) er ok fun h' tk acc kp items=>?_;have rv:=xi items;have I1:Inv X pins σ H {s with heap:=h',toks:=tk}:=I.kept kp;refine⟨.ref _,_,I1.laid (fun b o e=>ik _ e) (gJ _) (show ObjOk X.prog X.w _ _ _ (.tup (rgV lo hi)) from⟨?_,acc.toList,rv,by have:=wJ h' acc;simpa using this⟩),rfl,h _ I1.fresh⟩;have:=ok.2.2.2.2;simp only[rgV,gW,List.length_range,gA];omega
noncomputable def gRg(mk:List D->D)(o:Bool):List D->Option (D×Bool)
 |[.int j]=>if RgOk 0 j then some (mk (gf 0 j.toNat),o) else none
 |[.int i,.int j]=>if RgOk i j then some (mk (gf i (j-i).toNat),o) else none
 |_=>none
theorem wj{K H}(lo hi:Int):RepL K H O (gf lo (hi-lo).toNat) (rgV lo hi):=DO lo _
variable {a b:fw}{fa fb:FO}{p p2 pos p9:Pos}
theorem tL(h:upd H r o l=none):H l=none:=by
 by_cases e:l=r
 ·subst e;rw[fX] at h;cases h
 ·rwa [gi e] at h
theorem qC{K:fO}{T T':AP'}{σ:L2.St}{δ δ':Dn}{H H':Hp}{os:List Opd}{vs:List V}{ds:List D}(B:Ops K T σ δ H os vs δ' H' T')(h:qG δ' os=some ds){is:fN}(hd:ds=is.map .int):vs=is.map .int:=by
 obtain⟨h1,h2⟩:=kI h;apply Am;intro j;by_cases hj:j<is.length
 ·rw[ql B h (j:=j) (i:=is[j]) (by rw[hd];simp[hj])];simp[hj]
 ·have l1:=B.len;subst hd;simp at h1;rw[List.getElem?_eq_none (by lia),List.getElem?_eq_none (by simp;lia)]
theorem Oh{T:String}{z:Str}{mk:List D->D}{o:Bool}(hT:(T="list"/\mk= .lst/\o=true)\/(T="tuple"/\mk= .tup/\o=false))(hc:X.calm=true)(hg:Gl X z)(hm:X.mg z=none)(hv:bootBuiltins z=some (.type T))(hn:z≠"__name__")(j6:(z==("__debug__":Str))=false)
  (ao:Gl X "range")(w9:X.mg "range"=none)(ha:PA X [a] (tA X.K [fa]))
  (s1:starEach [.Call (.Name "range" p2) [a] [] p9] X.env=(false,eval (.Call (.Name "range" p2) [a] [] p9) X.env)::starEach [] X.env)(s2:starEach [a] X.env=(false,eval a X.env)::starEach [] X.env)
  (h9:(backTo pos (starEach [] X.env)).any (·.1)=false)(o6:(backTo p9 (starEach [] X.env)).any (·.1)=false):
  PX X (.Call (.Name z p) [.Call (.Name "range" p2) [a] [] p9] [] pos) (fE (gRg mk o) [fa]):=by
 rcases hT with⟨rfl,rfl,rfl⟩|⟨rfl,rfl,rfl⟩
 ·refine PX.imp (jN (rz hc) hg hm hv (iX (jN zH ao w9 uW ha (by decide) (by decide) s2 o6) ko s1) hn j6 s1 h9) fun σ H Q hw=>?_;obtain⟨δ,T,rr,δ',E,e,k⟩:=hw;obtain⟨⟨os,δ1⟩,h1,e⟩:=eU e;obtain⟨ds,h2,e⟩:=eU e;obtain⟨zz,h3,e⟩:=eU e;obtain⟨rfl,rfl⟩:=fK e;refine⟨δ,T,os,δ1,E,h1,fun vs H1 T1 B=>?_⟩;unfold gRg at h3;split at h3
  ·rename_i j;obtain⟨ok,rfl⟩:=fU h3;refine⟨j,qC B h2 (is:=[j]) rfl,fun r hr=>⟨r,0,j,rfl,fX,ok,fun l hl=>?_⟩⟩;have hx: ∀a u,H1 a=some u->upd (upd H1 r (.rng 0 j)) l (.lst (rgV 0 j)) a=some u:=fun a u e=>iW hl a u (iW hr a u e);refine(B.done k) l _ (tL hl) hx ⟨rgV 0 j,fX,?_⟩;have:=wj (K:=X.K) (H:=upd (upd H1 r (.rng 0 j)) l (.lst (rgV 0 j))) (O:=fun a=>(OwnA σ δ1 a\/T a)\/a=l) 0 j;simpa using this
  ·rename_i i j;obtain⟨hl,_⟩:=kI h2
   have hf:os.length=1:=by
    unfold hC at h1;obtain⟨p,q1,h1⟩:=eU h1;obtain⟨q,q2,h1⟩:=eU h1;unfold hC at q2;cases q2;obtain⟨rfl,rfl⟩:=fK h1;rfl
   simp at hl;omega
  ·cases h3
 ·refine PX.imp (jN (qg hc) hg hm hv (iX (jN zH ao w9 uW ha (by decide) (by decide) s2 o6) ko s1) hn j6 s1 h9) fun σ H Q hw=>?_;obtain⟨δ,T,rr,δ',E,e,k⟩:=hw;obtain⟨⟨os,δ1⟩,h1,e⟩:=eU e;obtain⟨ds,h2,e⟩:=eU e;obtain⟨zz,h3,e⟩:=eU e;obtain⟨rfl,rfl⟩:=fK e;refine⟨δ,T,os,δ1,E,h1,fun vs H1 T1 B=>?_⟩;unfold gRg at h3;split at h3
  ·rename_i j;obtain⟨ok,rfl⟩:=fU h3;refine⟨j,qC B h2 (is:=[j]) rfl,fun r hr=>⟨r,0,j,rfl,fX,ok,fun l hl=>?_⟩⟩;have hx: ∀a u,H1 a=some u->upd (upd H1 r (.rng 0 j)) l (.tup (rgV 0 j)) a=some u:=fun a u e=>iW hl a u (iW hr a u e);refine(B.done k) _ _ hx (Rep.mkTup ⟨fX,B.np (nOw (tL hl))⟩ ?_);have:=wj (K:=X.K) (H:=upd (upd H1 r (.rng 0 j)) l (.tup (rgV 0 j))) (O:=fun a=>(OwnA σ δ1 a\/T a)) 0 j;simpa using this
  ·rename_i i j;obtain⟨hl,_⟩:=kI h2
   have hf:os.length=1:=by
    unfold hC at h1;obtain⟨p,q1,h1⟩:=eU h1;obtain⟨q,q2,h1⟩:=eU h1;unfold hC at q2;cases q2;obtain⟨rfl,rfl⟩:=fK h1;rfl
   simp at hl;omega
  ·cases h3
theorem Og{T:String}{z:Str}{mk:List D->D}{o:Bool}(hT:(T="list"/\mk= .lst/\o=true)\/(T="tuple"/\mk= .tup/\o=false))(hc:X.calm=true)(hg:Gl X z)(hm:X.mg z=none)(hv:bootBuiltins z=some (.type T))(hn:z≠"__name__")(j6:(z==("__debug__":Str))=false)
  (ao:Gl X "range")(w9:X.mg "range"=none)(ha:PA X [a,b] (tA X.K [fa,fb]))
  (s1:starEach [.Call (.Name "range" p2) [a,b] [] p9] X.env=(false,eval (.Call (.Name "range" p2) [a,b] [] p9) X.env)::starEach [] X.env)(s2:starEach [a,b] X.env=(false,eval a X.env)::starEach [b] X.env)
  (h9:(backTo pos (starEach [] X.env)).any (·.1)=false)(o6:(backTo p9 (starEach [b] X.env)).any (·.1)=false):
  PX X (.Call (.Name z p) [.Call (.Name "range" p2) [a,b] [] p9] [] pos) (fE (gRg mk o) [fa,fb]):=by
 have len2: ∀{δ δ1:Dn} {os:List Opd},hC [fa,fb] δ=some (os,δ1)->os.length=2:=fun {δ δ1 os} h1=>by
  unfold hC at h1;obtain⟨p,q1,h1⟩:=eU h1;obtain⟨q,q2,h1⟩:=eU h1;unfold hC at q2;obtain⟨p3,q3,q2⟩:=eU q2;obtain⟨q4,q5,q2⟩:=eU q2;unfold hC at q5;cases q5;obtain⟨rfl,rfl⟩:=fK h1;cases q2;rfl
 rcases hT with⟨rfl,rfl,rfl⟩|⟨rfl,rfl,rfl⟩
 ·refine PX.imp (jN (rz hc) hg hm hv (iX (jN zG ao w9 uW ha (by decide) (by decide) s2 o6) ko s1) hn j6 s1 h9) fun σ H Q hw=>?_;obtain⟨δ,T,rr,δ',E,e,k⟩:=hw;obtain⟨⟨os,δ1⟩,h1,e⟩:=eU e;obtain⟨ds,h2,e⟩:=eU e;obtain⟨zz,h3,e⟩:=eU e;obtain⟨rfl,rfl⟩:=fK e;refine⟨δ,T,os,δ1,E,h1,fun vs H1 T1 B=>?_⟩;unfold gRg at h3;split at h3
  ·obtain⟨hl,_⟩:=kI h2;have:=len2 h1;simp at hl;omega
  ·rename_i i j;obtain⟨ok,rfl⟩:=fU h3;refine⟨i,j,qC B h2 (is:=[i,j]) rfl,fun r hr=>⟨r,i,j,rfl,fX,ok,fun l hl=>?_⟩⟩;have hx: ∀a u,H1 a=some u->upd (upd H1 r (.rng i j)) l (.lst (rgV i j)) a=some u:=fun a u e=>iW hl a u (iW hr a u e);exact(B.done k) l _ (tL hl) hx ⟨rgV i j,fX,wj i j⟩
  ·cases h3
 ·refine PX.imp (jN (qg hc) hg hm hv (iX (jN zG ao w9 uW ha (by decide) (by decide) s2 o6) ko s1) hn j6 s1 h9) fun σ H Q hw=>?_;obtain⟨δ,T,rr,δ',E,e,k⟩:=hw;obtain⟨⟨os,δ1⟩,h1,e⟩:=eU e;obtain⟨ds,h2,e⟩:=eU e;obtain⟨zz,h3,e⟩:=eU e;obtain⟨rfl,rfl⟩:=fK e;refine⟨δ,T,os,δ1,E,h1,fun vs H1 T1 B=>?_⟩;unfold gRg at h3;split at h3
  ·obtain⟨hl,_⟩:=kI h2;have:=len2 h1;simp at hl;omega
  ·rename_i i j;obtain⟨ok,rfl⟩:=fU h3;refine⟨i,j,qC B h2 (is:=[i,j]) rfl,fun r hr=>⟨r,i,j,rfl,fX,ok,fun l hl=>?_⟩⟩;have hx: ∀a u,H1 a=some u->upd (upd H1 r (.rng i j)) l (.tup (rgV i j)) a=some u:=fun a u e=>iW hl a u (iW hr a u e);exact(B.done k) _ _ hx (Rep.mkTup ⟨fX,B.np (nOw (tL hl))⟩ (wj i j))
  ·cases h3
end
def Src(h:fP)(it l:eX)(i:Nat)(xs:lq):Prop:=(h.IsListIter it l i/\h.IsList l xs)\/(h.IsTupleIter it l i/\h.IsTuple l xs)
section
variable {prog:fS}{w:fL}{A:fQ}{E:gm}{s:eZ}{it l:eX}{i:Nat}{xs:lq}
theorem Src.ne(x:Src h it l i xs):l≠it:=by
 intro e;subst e;rcases x with⟨⟨o,h1,h2,h3⟩,o',g1,g2,n,g3⟩|⟨⟨o,h1,h2,h3⟩,o',g1,g2,n,g3⟩<;>(rw[h1] at g1;cases g1;rw[h3] at g3;cases g3)
theorem Src.lt(x:Src h it l i xs):it<h.objs.size/\l<h.objs.size:=by
 rcases x with⟨⟨o,h1,_⟩,o',g1,_⟩|⟨⟨o,h1,_⟩,o',g1,_⟩<;>exact⟨ie h1,ie g1⟩
theorem Src.keep(x:Src h it l i xs)(k1: ∀o,h.get? it=some o->h'.get? it=some o)(k2: ∀o,h.get? l=some o->h'.get? l=some o):Src h' it l i xs:=by
 rcases x with⟨⟨o,h1,r⟩,o',g1,r'⟩|⟨⟨o,h1,r⟩,o',g1,r'⟩
 ·exact .inl ⟨⟨o,k1 _ h1,r⟩,o',k2 _ g1,r'⟩
 ·exact .inr ⟨⟨o,k1 _ h1,r⟩,o',k2 _ g1,r'⟩
theorem zb{Q:gm}(hit:s.heap.IsTupleIter it l i)(hl:s.heap.IsTuple l xs)(hQ: ∀x,xs[i]?=some x-> ∀h',h'.IsTupleIter it l (i+1)->Heap.SameBut it s.heap h'->Q x {s with heap:=h'})
  (hE:xs[i]?=none->A.handled=none/\ ∀h' e,Heap.ExtBut it s.heap h'->(∃o,h'.get? e=some o/\o.cls= .type "StopIteration")->E (.ref e) {s with heap:=h'}):wpAny (model prog w) A (Builtin.SmallTypes.nextOf (.ref it)) Q E s:=by
 obtain⟨o,ho,hc,hd⟩:=id hit;obtain⟨ol,dq,_,nl,x9⟩:=hl;unfold Builtin.SmallTypes.nextOf;refine eY (vF (name:=Str.ofString "__next__") hit.typeIs HC (nA HC hit.typeIs F.entry_tuple_iterator_next ?_ (F.args_tuple_iterator_next_1 _)));refine eY (m:=field (.ref it) 0) (tE ho hd (x:= .ref l) rfl ?_);show wpAny _ _ (if(Value.ref l==Value.none)=true then _ else _) _ _ s;rw[fR (by show ¬(Value.ref l==Value.none)=true;exact je)];refine eY (m:=field (.ref it) 1) (tE ho hd (x:= .int i 0) rfl ?_);refine eY (m:=seqItems? (.ref l)) (pj dq x9 ?_)
 cases hx:xs[i]? with
 |some x=>
  simp only[oX,hx];refine eY (rJ ho hd (by simp) (fH ⟨x,rfl,fH (hQ x hx _ ⟨_,qQ _ ho (Ak (qN hd _)),(Aj ..).trans hc,?_⟩ (sY ..))⟩));rw[qN hd];simp[rawInt]
 |none=>
  obtain⟨hh,hE⟩:=hE hx;simp only[oX,hx];refine eY (pB (eY (rJ ho hd (by simp) ?_)));refine eY (m:=newExc (.type "StopIteration") []) ?_;simp -iota only[newExc,newTuple];refine eY (kQ (eY (m:=firstArgMember _ _) (oV (a:=Value.none) (by first|rfl|(simp -iota only[firstArgMember];rfl)) ?_)) (by size_fits));refine kQ ?_ (by size_fits);simp -iota only[raiseNew];refine eY (Dg ?_)
  first|rw[show A.in1.handled=none from hh]|rw[hh]
  exact eY (fH (Df (hE _ _ (((sY ..).extBut.push _).push _) ⟨_,iK _ rfl,rfl⟩)))
theorem Src.item{x:fI}{Q:gm}(st:Src s.heap it l i xs)(hx:xs[i]?=some x)(hQ: ∀h',Src h' it l (i+1) xs->Heap.SameBut it s.heap h'->Q x {s with heap:=h'}):
  wpAny (model prog w) A (Builtin.SmallTypes.nextOf (.ref it)) Q E s:=by
 have ne:=st.ne;rcases st with⟨a,b⟩|⟨a,b⟩
 ·exact wpAny_nextOf_list_item a b hx fun h' a' sb=>hQ h' (.inl ⟨a',b.extBut sb.extBut ne⟩) sb
 ·exact zb a b (fun x' e h' a' sb=>by rw[hx] at e;cases e;exact hQ h' (.inr ⟨a',b.extBut sb.extBut ne⟩) sb) fun e=>by rw[hx] at e;cases e
theorem Src.stop{Q:gm}(hh:A.handled=none)(st:Src s.heap it l i xs)(hx:xs[i]?=none)
  (hE: ∀h' e,Heap.ExtBut it s.heap h'->(∃o,h'.get? e=some o/\o.cls= .type "StopIteration")->E (.ref e) {s with heap:=h'}):wpAny (model prog w) A (Builtin.SmallTypes.nextOf (.ref it)) Q E s:=by
 rcases st with⟨a,b⟩|⟨a,b⟩
 ·exact wpAny_nextOf_list_end hh a b hx hE
 ·exact zb a b (fun x e=>by rw[hx] at e;cases e) fun _=>⟨hh,hE⟩
theorem Src.new(hl:s.heap.IsList l xs\/s.heap.IsTuple l xs)(hQ: ∀h',Src h' s.heap.objs.size l 0 xs->h'.objs.size=s.heap.objs.size+1->(∀b o,s.heap.get? b=some o->h'.get? b=some o)->Q (.ref s.heap.objs.size) {s with heap:=h'}):
  wpAny (model prog w) A (pyIter (.ref l)) Q E s:=by
 rcases hl with hl|hl
 ·exact wM hl (hQ _ (.inl ⟨⟨_,iK _ rfl,rfl,rfl⟩,hl.push _⟩) (oG ..) fun b o e=>ik _ e)
 ·exact Dw hl (hQ _ (.inr ⟨⟨_,iK _ rfl,rfl,rfl⟩,hl.push _⟩) (oG ..) fun b o e=>ik _ e)
end
section
variable {prog:fS}{w:fL}{A:fQ}{E:gm}{s:eZ}{e it l:eX}{i:Nat}{c:Int}{xs:lq}
end
section
variable {X:Cx}{pins:gc}{σ:L2.St}{H:Hp}{s:eZ}{h':fP}
theorem FU{t':Nat}{ch:ig}{a:eX}{o:HO}(I:Inv X pins σ H s)(hf: ∀b∈ch,qi X pins H b)(k: ∀b u,b∉ch->s.heap.get? b=some u->h'.get? b=some u)(ha:s.heap.objs.size<=a)(new:ObjOk X.prog X.w (upd H a o) h' a o):
  Inv X pins σ (upd H a o) {s with heap:=h',toks:=t'}:=by
 have hn:=I.hok.fresh ha;have ae: ∀b u,H b=some u->b∉ch:=fun b u e z=>by have:=(hf b z).1;rw[this] at e;cases e
 have up: ∀b u,H b=some u->upd H a o b=some u:=fun b u e=>by rw[gi (kr e hn)];exact e
 have fr: ∀b u,s.heap.get? b=some u->H b=none->upd H a o b=none:=fun b u e n=>by
  rw[gi (fun z=>by subst z;exact absurd (ie e) (Nat.not_lt.mpr ha))];exact n
 refine I.step (g':=s.gens) (d':=s.drawn) (ch:=ch) (fun b hb=>?_) (fun b u _ _ hc e _=>k b u hc e) (fun b u _ _ hc e _=>⟨u.slots,k b u hc e⟩) (fun b u _ e n=>fr b u e n)
  (fun b u hc e=>⟨u,k b u hc e⟩) (fun b xs e=>up b _ e) (fun b _ _ e=>up b _ e) (fun b ps e=>⟨#[],by rw[up b _ e];simp⟩) (fun m hm=>?_) (fun b u e=>?_) I.bare
 ·obtain⟨_,f1,f2,f3,f4,f5⟩:=hf b hb;exact⟨f3,f1,f4,f5⟩
 ·obtain⟨u,es,ep,ho,r⟩:=hm;exact⟨u,es,ep,k _ u (fun z=>(hf _ z).2.1 rfl) ho,r⟩
 ·by_cases hb:b=a
  ·subst hb;rw[fX] at e;cases e;exact new
  ·rw[gi hb] at e;refine(I.hok b u e).stay (fun c v hc q=>k c v ?_ q) (fun c q=>up c _ q) (fun c xs q=>up c _ q) fun c _ _ q=>up c _ q;rcases hc with z|z
   ·rw[z];exact ae b u e
   ·exact ae c _ z
theorem FV{t':Nat}{ch:ig}(I:Inv X pins σ H s)(hf: ∀b∈ch,qi X pins H b)(k: ∀b u,b∉ch->s.heap.get? b=some u->h'.get? b=some u):Inv X pins σ H {s with heap:=h',toks:=t'}:=by
 have ae: ∀b u,H b=some u->b∉ch:=fun b u e z=>by have:=(hf b z).1;rw[this] at e;cases e
 refine I.step (g':=s.gens) (d':=s.drawn) (ch:=ch) (fun b hb=>?_) (fun b u _ _ hc e _=>k b u hc e) (fun b u _ _ hc e _=>⟨u.slots,k b u hc e⟩) (fun b u _ e n=>n)
  (fun b u hc e=>⟨u,k b u hc e⟩) (fun b xs e=>e) (fun b _ _ e=>e) (fun b ps e=>⟨#[],by rw[e];simp⟩) (fun m hm=>?_) (fun b u e=>?_) I.bare
 ·obtain⟨_,f1,f2,f3,f4,f5⟩:=hf b hb;exact⟨f3,f1,f4,f5⟩
 ·obtain⟨u,es,ep,ho,r⟩:=hm;exact⟨u,es,ep,k _ u (fun z=>(hf _ z).2.1 rfl) ho,r⟩
 ·refine(I.hok b u e).stay (fun c v hc q=>k c v ?_ q) (fun c q=>q) fun c xs q=>q;rcases hc with z|z
  ·rw[z];exact ae b u e
  ·exact ae c _ z
end
def SqX(b:Bool)(K:fO)(H:Hp)(l:eX)(xs:List V):Prop:=if b=true then SqL K H l xs else SqT K H l xs
def ItX(b:Bool)(h:fP)(it l:eX)(i:Nat):Prop:=if b=true then h.IsListIter it l i else h.IsTupleIter it l i
theorem ItX.keep(x:ItX b h it l i)(k: ∀o,h.get? it=some o->h'.get? it=some o):ItX b h' it l i:=by
 cases b
 ·exact PySem.Heap.IsTupleIter.at (show h.IsTupleIter it l i from x) k
 ·exact PySem.Heap.IsListIter.at (show h.IsListIter it l i from x) k
theorem ItX.obj(x:ItX b h it l i): ∃o,h.get? it=some o/\ ∀v,o.data≠ .cell v:=by
 cases b<;>(obtain⟨o,e,c,d⟩:=x;exact⟨o,e,fun v z=>by rw[d] at z;cases z⟩)
section
variable {X:Cx}{pins:gc}{σ:L2.St}{H:Hp}{s:eZ}
theorem wg(I:Inv X pins σ H s)(q:SqX b X.K H l xs)(t:ItX b s.heap it l i): ∃b6,Vals xs b6/\Src s.heap it l i b6.toArray:=by
 cases b with
 |true=>obtain⟨b6,v,p,_⟩:=I.list q;exact⟨b6,v,.inl ⟨t,p.isList⟩⟩
 |false=>obtain⟨b6,v,p,_⟩:=I.tuple q;exact⟨b6,v,.inr ⟨t,p⟩⟩
theorem EJ(I:Inv X pins σ H s)(q:SqX b X.K H l xs)(q':SqX b X.K H l ys):xs=ys:=by
 cases b with
 |true=>exact I.list_inj q q'
 |false=>exact I.tuple_inj q q'
theorem J6(t:ItX b h it l i)(hs:Src h it l i xs)(w6:Src h' it l i' xs)(kl: ∀o,h.get? l=some o->h'.get? l=some o):ItX b h' it l i':=by
 cases b with
 |true=>
  rcases w6 with⟨a,_⟩|⟨a,c⟩
  ·exact a
  ·rcases hs with⟨_,o,h1,h2,_⟩|⟨⟨o,h1,h2,_⟩,_⟩
   ·obtain⟨o',g1,g2,_⟩:=c;rw[kl _ h1] at g1;cases g1;rw[h2] at g2;injection g2 with g2;exact absurd g2 (by decide)
   ·obtain⟨o',g1,g2,_⟩:=t;rw[h1] at g1;cases g1;rw[h2] at g2;injection g2 with g2;exact absurd g2 (by decide)
 |false=>
  rcases w6 with⟨a,c⟩|⟨a,_⟩
  ·rcases hs with⟨⟨o,h1,h2,_⟩,_⟩|⟨_,o,h1,h2,_⟩
   ·obtain⟨o',g1,g2,_⟩:=t;rw[h1] at g1;cases g1;rw[h2] at g2;injection g2 with g2;exact absurd g2 (by decide)
   ·obtain⟨o',g1,g2,_⟩:=c;rw[kl _ h1] at g1;cases g1;rw[h2] at g2;injection g2 with g2;exact absurd g2 (by decide)
  ·exact a
end
theorem DG{K H}(q:SqA b K H P a xs):SqX b K H a xs:=by
 cases b with
 |true=>exact q.l
 |false=>exact q.t
open AutoSeq1 (wpAny_loadPart')
section
variable {prog:fS}{w:fL}{A:fQ}{E:gm}{s:eZ}
end
section
variable {X:Cx}{pins:gc}{σ:L2.St}{H:Hp}{s:eZ}{elts:hW}{k1:Nat}{n6:Pos}
theorem Il(I:Inv X pins σ H s)(q:SqX b X.K H l xs): ∃b6,Vals xs b6/\(s.heap.IsList l b6.toArray\/s.heap.IsTuple l b6.toArray):=by
 cases b with
 |true=>obtain⟨b6,v,p,_⟩:=I.list q;exact⟨b6,v,.inl p.isList⟩
 |false=>obtain⟨b6,v,p,_⟩:=I.tuple q;exact⟨b6,v,.inr p⟩
end
section
variable {prog:fS}{w:fL}{A:fQ}{E:gm}{s:eZ}{z TI TO i1 i2 l1 l2:eX}{k:Nat}{xs ys:lq}{x y a b:fI}
theorem Ny{Q:gm}(D:ZipApart z TI TO i1 i2 l1 l2)(hz:IsZip s.heap z TI TO .none)(r6:IsPair s.heap TI (.ref i1) (.ref i2))(u3:IsPair s.heap TO a b)(h1:Src s.heap i1 l1 k xs)(h2:Src s.heap i2 l2 k ys)
  (hQ: ∀x y,xs[k]?=some x->ys[k]?=some y-> ∀h',IsZip h' z TI TO (rawInt s.heap.objs.size)->IsPair h' TO x y->Src h' i1 l1 (k+1) xs->Src h' i2 l2 (k+1) ys->IsPair h' s.heap.objs.size x y->(∀c o,c≠z->c≠TO->c≠i1->c≠i2->s.heap.get? c=some o->h'.get? c=some o)->Q (.ref s.heap.objs.size) {s with heap:=h'})
  (hE:xs[k]?=none\/ys[k]?=none->A.handled=none/\ ∀h' e,(∀c o,c≠z->c≠TO->c≠i1->c≠i2->s.heap.get? c=some o->h'.get? c=some o)->(∃o,h'.get? e=some o/\o.cls= .type "StopIteration")->E (.ref e) {s with heap:=h'}):
  wpAny (model prog w) A (Builtin.«zip.__next__» ⟨[.ref z],[]⟩) (fun fin s'=> ∃v,fin= .done (.ret v)/\Q v s') E s:=by
 have notzip: ∀{h:fP} {e:eX} {oe:Obj} {f0:fI},IsZip h z TI TO f0->h.get? e=some oe->oe.cls= .type "StopIteration"->e≠z:=fun hzz bw aN q=>by
  subst q;have hzz':_=_:=hzz;rw[bw] at hzz';cases hzz';injection aN with aN;exact absurd aN (by decide)
 refine eY (m:=field (.ref z) 2) (tE hz rfl (x:= .bool false) rfl (eY (m:=field (.ref z) 3) (tE hz rfl (x:= .ref TI) rfl (eY (pj r6 rfl (eY (m:=Builtin.SmallTypes.ownedTupleIsFree (.ref z)) ?_))))));unfold Builtin.SmallTypes.ownedTupleIsFree;refine eY (tE hz rfl (x:= .none) rfl (fH ?_));simp -iota only[iu];refine eY (pB (eY (tE hz rfl (x:= .ref TO) rfl (eY (wF hz (by simp) fun h₁ cy aG=>?_)))));replace cy:IsZip h₁ z TI TO .ellipsis:=cy;refine eY ?_;simp -iota only[List.zipIdx_cons,List.zipIdx_nil,List.forIn_cons,List.forIn_nil];have c1:Src h₁ i1 l1 k xs:=h1.keep (fun o e=>aG.extBut _ o D.i1z e) (fun o e=>aG.extBut _ o D.l1z e)
 cases hx:xs[k]? with
 |none=>
  obtain⟨hh,hE⟩:=hE (.inl hx);refine eY (eY (Ai (eY (m:=Builtin.SmallTypes.nextOf (.ref i1)) (c1.stop (s:={s with heap:=h₁}) hh hx fun h₂ e y7 ⟨oe,bw,aN⟩=>?_))));have hz₂:IsZip h₂ z TI TO .ellipsis:=y7 _ _ D.i1z.symm cy;exact wF (s:={s with heap:=h₂}) hz₂ (by simp) fun h₃ _ w5=>hE h₃ e (fun c o d1 _ d3 _ q=>w5.extBut _ _ d1 (y7 _ _ d3 (aG.extBut _ _ d1 q))) ⟨oe,w5.extBut _ _ (notzip hz₂ bw aN) bw,aN⟩
 |some x=>
  refine eY (eY (Ai (eY (m:=Builtin.SmallTypes.nextOf (.ref i1)) (c1.item (s:={s with heap:=h₁}) hx fun h₂ c1₂ y7=>fH ?_))));have hTO₂:IsPair h₂ TO a b:=y7.extBut _ _ D.TOi1 (aG.extBut _ _ D.TOz u3);refine eY (pj (s:={s with heap:=h₂}) hTO₂ rfl (eY (HB (s:={s with heap:=h₂}) hTO₂ fun h₃ bL w5=>eY (wpAny_letGo (fH ?_)))));replace bL:IsPair h₃ TO x b:=bL;have c2:Src h₃ i2 l2 k ys:=h2.keep (fun o e=>w5.extBut _ o D.TOi2.symm (y7.extBut _ o D.i12.symm (aG.extBut _ o D.i2z e))) (fun o e=>w5.extBut _ o D.l2TO (y7.extBut _ o D.l2i1 (aG.extBut _ o D.l2z e)))
  cases hy:ys[k]? with
  |none=>
   obtain⟨hh,hE⟩:=hE (.inr hy);refine eY (eY (Ai (eY (m:=Builtin.SmallTypes.nextOf (.ref i2)) (c2.stop (s:={s with heap:=h₃}) hh hy fun h₄ e aF ⟨oe,bw,aN⟩=>?_))));have hz₄:IsZip h₄ z TI TO .ellipsis:=aF _ _ D.i2z.symm (w5.extBut _ _ D.TOz.symm (y7.extBut _ _ D.i1z.symm cy));exact wF (s:={s with heap:=h₄}) hz₄ (by simp) fun h₅ _ aw=>hE h₅ e (fun c o d1 d2 d3 d4 q=>aw.extBut _ _ d1 (aF _ _ d4 (w5.extBut _ _ d2 (y7.extBut _ _ d3 (aG.extBut _ _ d1 q))))) ⟨oe,aw.extBut _ _ (notzip hz₄ bw aN) bw,aN⟩
  |some y=>
   refine eY (eY (Ai (eY (m:=Builtin.SmallTypes.nextOf (.ref i2)) (c2.item (s:={s with heap:=h₃}) hy fun h₄ c2₄ aF=>fH ?_))));have hTO₄:IsPair h₄ TO x b:=aF.extBut _ _ D.TOi2 bL;refine eY (pj (s:={s with heap:=h₄}) hTO₄ rfl (eY (HB (s:={s with heap:=h₄}) hTO₄ fun h₅ aO aw=>eY (wpAny_letGo (fH (fH ?_))))));replace aO:IsPair h₅ TO x y:=aO;refine eY (pj (s:={s with heap:=h₅}) aO rfl (eY (wpAny_newTuple (s:={s with heap:=h₅}) ?_)));have hsz:h₅.objs.size=s.heap.objs.size:=by rw[aw.1,aF.1,w5.1,y7.1,aG.1]
   have hz₅:IsZip h₅ z TI TO .ellipsis:=aw.extBut _ _ D.TOz.symm (aF.extBut _ _ D.i2z.symm (w5.extBut _ _ D.TOz.symm (y7.extBut _ _ D.i1z.symm cy)));have hk₅: ∀c o,c≠z->c≠TO->c≠i1->c≠i2->s.heap.get? c=some o->h₅.get? c=some o:=fun c o d1 d2 d3 d4 e=>aw.extBut _ _ d2 (aF.extBut _ _ d4 (w5.extBut _ _ d2 (y7.extBut _ _ d3 (aG.extBut _ _ d1 e))));have c1₅:Src h₅ i1 l1 (k+1) xs:=c1₂.keep (fun o e=>aw.extBut _ o D.TOi1.symm (aF.extBut _ o D.i12 (w5.extBut _ o D.TOi1.symm e))) (fun o e=>aw.extBut _ o D.l1TO (aF.extBut _ o D.l1i2 (w5.extBut _ o D.l1TO e)));have c2₅:Src h₅ i2 l2 (k+1) ys:=c2₄.keep (fun o e=>aw.extBut _ o D.TOi2.symm e) (fun o e=>aw.extBut _ o D.l2TO e);have hzlt:z<h₅.objs.size:=ie hz₅;refine eY (m:=Builtin.SmallTypes.ownedTupleHandOut (.ref z) (.ref h₅.objs.size)) ?_;unfold Builtin.SmallTypes.ownedTupleHandOut;have hz₆:IsZip (h₅.push {cls:= .type "tuple",data:= .seq #[x,y]}) z TI TO .ellipsis:=ik _ hz₅;refine eY (wF (s:={s with heap:=h₅.push {cls:= .type "tuple",data:= .seq #[x,y]}}) hz₆ (by simp) fun h₇ dR sb₇=>?_);replace dR:IsZip h₇ z TI TO (rawInt h₅.objs.size):=dR;refine wF (s:={s with heap:=h₇}) dR (by simp) fun h₈ df sb₈=>?_;replace df:IsZip h₈ z TI TO (rawInt h₅.objs.size):=df;have up: ∀c o,c≠z->h₅.get? c=some o->h₈.get? c=some o:=fun c o d1 e=>sb₈.extBut _ _ d1 (sb₇.extBut _ _ d1 (ik _ e));have hT₈:IsPair h₈ h₅.objs.size x y:=sb₈.extBut _ _ (nD hzlt) (sb₇.extBut _ _ (nD hzlt) (iK _ rfl));rw[hsz] at df hT₈;refine fH ⟨_,rfl,?_⟩;show Q (.ref h₅.objs.size) _;rw[hsz];exact hQ x y hx hy h₈ df (up _ _ D.TOz aO) (c1₅.keep (fun o e=>up _ o D.i1z e) fun o e=>up _ o D.l1z e) (c2₅.keep (fun o e=>up _ o D.i2z e) fun o e=>up _ o D.l2z e) hT₈ fun c o d1 d2 d3 d4 e=>up c o d1 (hk₅ c o d1 d2 d3 d4 e)
theorem xj{Q:G5}(D:ZipApart z TI TO i1 i2 l1 l2)(hz:IsZip s.heap z TI TO .none)(r6:IsPair s.heap TI (.ref i1) (.ref i2))(u3:IsPair s.heap TO a b)(h1:Src s.heap i1 l1 k xs)(h2:Src s.heap i2 l2 k ys)
  (hQ: ∀x y,xs[k]?=some x->ys[k]?=some y-> ∀h',IsZip h' z TI TO (rawInt s.heap.objs.size)->IsPair h' TO x y->Src h' i1 l1 (k+1) xs->Src h' i2 l2 (k+1) ys->IsPair h' s.heap.objs.size x y->(∀c o,c≠z->c≠TO->c≠i1->c≠i2->s.heap.get? c=some o->h'.get? c=some o)->Q (some (.ref s.heap.objs.size)) {s with heap:=h'})
  (hE:xs[k]?=none\/ys[k]?=none->A.handled=none/\ ∀h',(∀c o,c≠z->c≠TO->c≠i1->c≠i2->s.heap.get? c=some o->h'.get? c=some o)->Q none {s with heap:=h'}):
  wpAny (model prog w) A (pyNext (.ref z)) Q E s:=by
 have hT:s.TypeIs (.ref z) "zip":=⟨_,hz,rfl⟩
 unfold pyNext
 exact eY (uS (vF (name:=Str.ofString "__next__") hT F.slot_zip_next (nA F.slot_zip_next hT F.entry_zip_next
  (Ny D hz r6 u3 h1 h2 (fun x y q r h' a1 a2 a3 a4 a5 a6=>fH (hQ x y q r h' a1 a2 a3 a4 a5 a6)) fun q=>⟨(hE q).1,fun h' e hk ⟨o,ho,hc⟩=>eY (uR (T:="StopIteration") (b:=true) ⟨o,ho,hc⟩ De (fH ((hE q).2 _ hk)))⟩) (F.args_zip_next_1 _))))
end
theorem Lc(l1 l2:eX)(xs ys:lq):Meets (Builtin.«zip.__new__» ⟨[.type "zip",.ref l1,.ref l2],[]⟩) (fun _ R s=>(s.heap.IsList l1 xs\/s.heap.IsTuple l1 xs)/\(s.heap.IsList l2 ys\/s.heap.IsTuple l2 ys)/\
  ∀h1 h2,Src h1 s.heap.objs.size l1 0 xs->h1.objs.size=s.heap.objs.size+1->(∀b o,s.heap.get? b=some o->h1.get? b=some o)->Src h2 h1.objs.size l2 0 ys->h2.objs.size=h1.objs.size+1->(∀b o,h1.get? b=some o->h2.get? b=some o)->
   R (.ok (.ret (.ref ((h2.push {cls:= .type "tuple",data:= .seq #[.ref s.heap.objs.size,.ref h1.objs.size]}).push {cls:= .type "tuple",data:= .seq #[.none,.none]}).objs.size)))
    {s with heap:=((h2.push {cls:= .type "tuple",data:= .seq #[.ref s.heap.objs.size,.ref h1.objs.size]}).push {cls:= .type "tuple",data:= .seq #[.none,.none]}).push {cls:= .type "zip",data:= .fields #[.none,.bool false,.bool false,.ref h2.objs.size,.ref (h2.push {cls:= .type "tuple",data:= .seq #[.ref s.heap.objs.size,.ref h1.objs.size]}).objs.size]}}):=
 .of_wp fun prog w A R s h=>by
  obtain⟨hp,g,d,tk,os⟩:=s;obtain⟨bB,aU,h⟩:=h;have u6:=sub_zip
  wp_walk using Src.new bB
  intro h1 a1 a2 a3
  have hl2':h1.IsList l2 ys\/h1.IsTuple l2 ys:=by
   rcases aU with⟨o,e,r⟩|⟨o,e,r⟩
   ·exact .inl ⟨o,a3 _ _ e,r⟩
   ·exact .inr ⟨o,a3 _ _ e,r⟩
  wp_walk using Src.new (s:=⟨h1,g,d,tk,os⟩) hl2'
  intro h2 b1 b2 b3
  wp_walk
  exact⟨_,rfl,h h1 h2 a1 a2 a3 b1 b2 b3⟩
noncomputable def ItZ(b1 b2:Bool)(K:fO)(l1 l2:eX):It:=⟨fun i H=> ∃xs ys x y,SqX b1 K H l1 xs/\SqX b2 K H l2 ys/\xs[i]?=some x/\ys[i]?=some y,
 fun i H x H'=> ∃(T:eX) (u v:V),x= .ref T/\H T=none/\H'=upd H T (.tup [u,v])/\ ∀xs ys,SqX b1 K H l1 xs->SqX b2 K H l2 ys->xs[i]?=some u/\ys[i]?=some v,
 fun i H=> ∃xs ys,SqX b1 K H l1 xs/\SqX b2 K H l2 ys/\(xs.length<=i\/ys.length<=i)⟩
structure ZA(z TI TO i1 i2:eX):Prop where
 a1:TI≠z
 a2:TO≠z
 a3:i1≠z
 a4:i2≠z
 a5:TI≠TO
 a6:TI≠i1
 a7:TI≠i2
 a8:TO≠i1
 a9:TO≠i2
 a10:i1≠i2
theorem tM{b:Bool}{K:fO}{H:Hp}{l:eX}{xs:List V}{X:Cx}{pins:gc}{σ:L2.St}{s:eZ}(I:Inv X pins σ H s)(hK:X.K=K)(q:SqX b K H l xs){fp:ig}(hf: ∀a∈fp,qi X pins H a):l∉fp:=by
 subst hK;intro hm;have hn:=(hf l hm).1
 have base: ∀o,X.K.lookup l=some o->False:=fun o e=>by
  have e1:=I.mod.kin l o e;rcases(hf l hm).2.2.2.1 with z|z
  ·exact I.ok.noex l o e1 z
  ·have:=(I.ok.bs l o e1).1;exact absurd (ie this) (Nat.not_lt.mpr z)
 cases b with
 |true=>
  rcases q with(q|⟨o,q⟩)|⟨o,b6,n,e,_⟩
  ·rw[hn] at q;cases q
  ·rw[hn] at q;cases q
  ·exact base o e
 |false=>
  rcases q with(q|⟨o,q⟩)|⟨o,b6,n,e,_⟩
  ·rw[hn] at q;cases q
  ·rw[hn] at q;cases q
  ·exact base o e
theorem HU{P:fS}{w:fL}{K:fO}{elts:hW}{k1}{pos:Pos}(b1 b2:Bool)(z TI TO i1 i2 l1 l2:eX)(D:ZA z TI TO i1 i2):
  Turn P w K (.Tuple elts k1 pos) (ItZ b1 b2 K l1 l2) [z,TI,TO,i1,i2] z (fun i h=>IsZip h z TI TO .none/\IsPair h TI (.ref i1) (.ref i2)/\(∃a b,IsPair h TO a b)/\ItX b1 h i1 l1 i/\ItX b2 h i2 l2 i) where
 mem:=by simp
 obj:=fun i h st a ha=>by
  obtain⟨hz,r6,⟨u,v,u3⟩,s1,s2⟩:=st;simp only[iY,jD,kP] at ha;rcases ha with rfl|rfl|rfl|rfl|rfl
  ·exact⟨_,hz,fun v e=>by have e':Data.fields _=Data.cell v:=e;cases e'⟩
  ·exact⟨_,r6,fun v e=>by have e':Data.seq _ _=Data.cell v:=e;cases e'⟩
  ·exact⟨_,u3,fun v e=>by have e':Data.seq _ _=Data.cell v:=e;cases e'⟩
  ·exact s1.obj
  ·exact s2.obj
 keep:=fun i h h' st k=>by
  obtain⟨hz,r6,⟨u,v,u3⟩,s1,s2⟩:=st;exact⟨k z (by simp) _ hz,k TI (by simp) _ r6,⟨u,v,k TO (by simp) _ u3⟩,s1.keep fun o q=>k i1 (by simp) o q,s2.keep fun o q=>k i2 (by simp) o q⟩
 item:=by
  intro X hP hw hK hc i pins s σ H E I hf st hg;obtain⟨hz,r6,⟨a0,b0,u3⟩,s1,s2⟩:=st;obtain⟨xs,ys,x,y,aK,aJ,hx,hy⟩:=hg;have n1:=tM I hK aK hf;have n2:=tM I hK aJ hf;simp only[iY,jD,kP,nv] at n1 n2;subst hP hw hK;obtain⟨bj,dG,y3⟩:=wg I aK s1;obtain⟨b9,dF,y2⟩:=wg I aJ s2;obtain⟨u,hu,ru⟩:=dG.get hx;obtain⟨v,hv,rv⟩:=dF.get hy;have AP:ZipApart z TI TO i1 i2 l1 l2:=⟨D.a1,D.a2,D.a3,D.a4,D.a5,D.a6,D.a7,D.a8,D.a9,D.a10,n1.1,n1.2.2.1,n1.2.2.2.1,n1.2.2.2.2,n2.1,n2.2.2.1,n2.2.2.2.1,n2.2.2.2.2⟩
  refine xj AP hz r6 u3 y3 y2 (fun x' y' q r h' z' t1 c1 c2 hT kp=>?_) fun q=>absurd q (by simp[hu,hv]);obtain rfl:u=x':=by simpa[hu] using q
  obtain rfl:v=y':=by simpa[hv] using r
  refine⟨.ref s.heap.objs.size,rfl,?_⟩;refine wpAny_letOwnedTupleGo_zip (s:={s with heap:=h'}) z' fun bY z'' sb=>?_;replace sb:Heap.SameBut z h' bY:=sb
  have bh: ∀a o,a∉[z,TI,TO,i1,i2]->s.heap.get? a=some o->bY.get? a=some o:=fun a o na q=>by
   simp only[iY,jD,kP,nv] at na;exact sb.extBut a o na.1 (kp a o na.1 na.2.2.1 na.2.2.2.1 na.2.2.2.2 q)
  have lt: ∀{c o},s.heap.get? c=some o->s.heap.objs.size≠c:=fun e=>nD (ie e);have hT'':IsPair bY s.heap.objs.size u v:=sb.extBut _ _ (lt hz) hT
  have I1:Inv X pins σ (upd H s.heap.objs.size (.tup [x,y])) {s with heap:=bY}:=
   FU (t':=s.toks) I hf bh (gJ _) (show ObjOk X.prog X.w _ _ _ (.tup [x,y]) from⟨by show 2<=sizeLine;decide,[u,v],.cons ru (.cons rv .nil),_,hT'',rfl,0,rfl⟩)
  have t1'':ItX b1 bY i1 l1 (i+1):=J6 s1 y3 (c1.keep (fun o q=>sb.extBut _ o D.a3 q) fun o q=>sb.extBut _ o n1.1 q) fun o q=>bh l1 o (by simp only[iY,jD,kP,nv];exact n1) q;have t2'':ItX b2 bY i2 l2 (i+1):=J6 s2 y2 (c2.keep (fun o q=>sb.extBut _ o D.a4 q) fun o q=>sb.extBut _ o n2.1 q) fun o q=>bh l2 o (by simp only[iY,jD,kP,nv];exact n2) q;refine⟨.ref s.heap.objs.size,_,I1,rfl,⟨_,x,y,rfl,I.fresh,rfl,fun aX ys' q1 q2=>by rw[EJ I q1 aK,EJ I q2 aJ];exact⟨hx,hy⟩⟩,⟨z'',sb.extBut _ _ D.a1 (kp _ _ D.a1 D.a5 D.a6 D.a7 r6),⟨u,v,sb.extBut _ _ D.a2 t1⟩,t1'',t2''⟩,fun a ha=>?_⟩;have n0:=(hf a ha).1;rw[gi]
  ·exact n0
  ·intro e;simp only[iY,jD,kP] at ha;rcases ha with rfl|rfl|rfl|rfl|rfl
   ·exact lt hz e.symm
   ·exact lt r6 e.symm
   ·exact lt u3 e.symm
   ·exact absurd e (gE y3.lt.1)
   ·exact absurd e (gE y2.lt.1)
 done:=by
  intro X hP hw hK hc i pins s σ H E I hf st hg;obtain⟨hz,r6,⟨a0,b0,u3⟩,s1,s2⟩:=st;obtain⟨xs,ys,aK,aJ,hend⟩:=hg;have n1:=tM I hK aK hf;have n2:=tM I hK aJ hf;simp only[iY,jD,kP,nv] at n1 n2;subst hP hw hK;obtain⟨bj,dG,y3⟩:=wg I aK s1;obtain⟨b9,dF,y2⟩:=wg I aJ s2;have e1:=dG.length;have e2:=dF.length;have AP:ZipApart z TI TO i1 i2 l1 l2:=⟨D.a1,D.a2,D.a3,D.a4,D.a5,D.a6,D.a7,D.a8,D.a9,D.a10,n1.1,n1.2.2.1,n1.2.2.2.1,n1.2.2.2.2,n2.1,n2.2.2.1,n2.2.2.2.1,n2.2.2.2.2⟩
  refine xj AP hz r6 u3 y3 y2 (fun x y q r=>?_) fun _=>⟨I.ok.hd hc,fun h' kp=>⟨rfl,FV (t':=s.toks) I hf fun a o na q=>?_⟩⟩
  ·have z1:=(G6.mp q).1;have z2:=(G6.mp r).1;simp at z1 z2;omega
  simp only[iY,jD,kP,nv] at na;exact kp a o na.1 na.2.2.1 na.2.2.2.1 na.2.2.2.2 q
 self:=fun _ _ _ _ _ st h=>wpAny_pyIter_zip st.1 h
theorem J8{K:fO}{P O:AP'}{H1:Hp}{a1 a2:eX}{xs ys:List V}{ds es:List D}{b1 b2:Bool}(q1:SqA b1 K H1 P a1 xs)(r1:RepL K H1 O ds xs)(q2:SqA b2 K H1 P a2 ys)(r2:RepL K H1 O es ys)(hP: ∀a,P a->O a):
  ItOk K (ItZ b1 b2 K a1 a2) ((ds.zip es).map fun p=> .tup [p.1,p.2]) P O H1:=by
 have sq: ∀{b:Bool} {a:eX} {xs:List V},SqA b K H1 P a xs-> ∀Hi,(∀a o,H1 a=some o-> ¬P a->Hi a=some o)->SqX b K Hi a xs:=fun q Hi hp=>DG (q.mono hp fun _ z=>z);refine⟨fun i d Hi hd hp=>?_,fun i Hi hi hp=>⟨xs,ys,sq q1 Hi hp,sq q2 Hi hp,by rw[r1.length,r2.length];simp at hi;lia⟩⟩;rw[jU] at hd;obtain⟨⟨d1,d2⟩,h1,h2⟩:=gZ hd;obtain⟨h3,h4⟩:=CJ.mp h1;obtain⟨x,hx,rx⟩:=r1.get h3;obtain⟨y,hy,ry⟩:=r2.get h4;refine⟨⟨xs,ys,x,y,sq q1 Hi hp,sq q2 Hi hp,hx,hy⟩,fun v H' hy'=>?_⟩;obtain⟨T,u,w,rfl,hT,rfl,hz⟩:=hy';obtain⟨g1,g2⟩:=hz xs ys (sq q1 Hi hp) (sq q2 Hi hp);rw[hx] at g1;cases g1;rw[hy] at g2;cases g2;have ext:=iW (o:= .tup [x,y]) hT;refine⟨ext,fun O' h1 bM=>?_⟩;subst h2;exact Rep.mkTup ⟨fX,bM T hT⟩ (RepL.cons (Rep.mono (fun b o e n=>ext b o (hp b o e fun z=>n (hP b z))) (fun b hb z=>h1 b hb z) rx) (RepL.cons (Rep.mono (fun b o e n=>ext b o (hp b o e fun z=>n (hP b z))) (fun b hb z=>h1 b hb z) ry) RepL.nil))
section
variable {X:Cx}{elts:hW}{k1:Nat}{n6:Pos}
theorem PN:bootBuiltins "zip"=some (.type "zip"):=by decide+kernel
def T8(K:fO)(ta:TA):TI:=fun σ H R=>ta σ H fun vs H1=> ∃b1 b2 l1 l2 xs ys,vs=[.ref l1,.ref l2]/\SqX b1 K H1 l1 xs/\SqX b2 K H1 l2 ys/\R (ItZ b1 b2 K l1 l2) H1
theorem Fj(I:Inv X pins σ H s)(hq:SqX b X.K H l xs)(src:Src s.heap it l i b6):ItX b s.heap it l i:=by
 cases b with
 |true=>
  rcases src with⟨a,_⟩|⟨_,o,h1,h2,_⟩
  ·exact a
  ·obtain⟨_,_,p,_⟩:=I.list hq;obtain⟨o',g1,g2,_⟩:=p.isList;rw[h1] at g1;cases g1;rw[h2] at g2;injection g2 with g2;exact absurd g2 (by decide)
 |false=>
  rcases src with⟨_,o,h1,h2,_⟩|⟨a,_⟩
  ·obtain⟨_,_,p,_⟩:=I.tuple hq;obtain⟨o',g1,g2,_⟩:=p;rw[h1] at g1;cases g1;rw[h2] at g2;injection g2 with g2;exact absurd g2 (by decide)
  ·exact a
theorem OM{a b:fw}{ta:TA}{p pos:Pos}(hg:Gl X "zip")(hm:X.mg "zip"=none)(ha:PA X [a,b] ta)(hs:starEach [a,b] X.env=(false,eval a X.env)::starEach [b] X.env)(h9:(backTo pos (starEach [b] X.env)).any (·.1)=false):
  PI X (.Tuple elts k1 n6) (.Call (.Name "zip" p) [a,b] [] pos) (T8 X.K ta):=by
 intro pins s0 σ H0 R I0 h;refine Au (vp I0 hg hm PN (Av (thn (ha pos pins s0 σ H0 _ I0 h) fun us s ⟨vs,H,I,r1,b1,b2,l1,l2,xs,ys,hv,aK,aJ,q⟩=>?_) hs h9));subst hv;obtain⟨u,v,rfl,ru,rv⟩:=wV r1;cases ru;cases rv;obtain⟨bj,_,bB⟩:=Il I aK;obtain⟨b9,_,aU⟩:=Il I aJ;refine callType_new F.called_zip (by decide) (F.typeCall_zip_2 _ _) (F.newCall_zip_2 _ _) (fun obj=>F.args_object_init_3 obj _ _) F.entry_zip_new (Lc l1 l2 bj.toArray b9.toArray) ⟨bB,aU,fun h1 h2 c1 z1 k1 c2 z2 k2=>?_⟩;generalize ho3:({cls:= .type "tuple",data:= .seq #[.ref s.heap.objs.size,.ref h1.objs.size]}:Obj)=o3;generalize ho4:({cls:= .type "tuple",data:= .seq #[.none,.none]}:Obj)=o4;have z3:(h2.push o3).objs.size=h2.objs.size+1:=oG ..;have z4:((h2.push o3).push o4).objs.size=h2.objs.size+2:=by rw[oG,z3]
 generalize ho5:({cls:= .type "zip",data:= .fields #[.none,.bool false,.bool false,.ref h2.objs.size,.ref (h2.push o3).objs.size]}:Obj)=o5;have g5:(((h2.push o3).push o4).push o5).get? ((h2.push o3).push o4).objs.size=some o5:=iK _ (by rw[<-ho5];rfl);have g4:(((h2.push o3).push o4).push o5).get? (h2.push o3).objs.size=some o4:=ik _ (iK _ (by rw[<-ho4];rfl));have g3:(((h2.push o3).push o4).push o5).get? h2.objs.size=some o3:=ik _ (ik _ (iK _ (by rw[<-ho3];rfl)));have kp: ∀c o,h2.get? c=some o->(((h2.push o3).push o4).push o5).get? c=some o:=fun c o e=>ik _ (ik _ (ik _ e));have bo:IsZip (((h2.push o3).push o4).push o5) ((h2.push o3).push o4).objs.size h2.objs.size (h2.push o3).objs.size .none:=by show _=_;rw[g5,<-ho5]
 have r6:IsPair (((h2.push o3).push o4).push o5) h2.objs.size (.ref s.heap.objs.size) (.ref h1.objs.size):=by show _=_;rw[g3,<-ho3]
 have u3:IsPair (((h2.push o3).push o4).push o5) (h2.push o3).objs.size .none .none:=by show _=_;rw[g4,<-ho4]
 have I1:Inv X pins σ H {s with heap:=((h2.push o3).push o4).push o5}:=I.kept (t':=s.toks) fun c o e=>kp c o (k2 c o (k1 c o e));have d1:=c1.keep (h':=((h2.push o3).push o4).push o5) (fun o e=>kp _ o (k2 _ o e)) (fun o e=>kp _ o (k2 _ o e));have d2:=c2.keep (h':=((h2.push o3).push o4).push o5) (fun o e=>kp _ o e) (fun o e=>kp _ o e);refine⟨⟨_,bo,rfl⟩,wpAny_pyIter_zip (s:={s with heap:=((h2.push o3).push o4).push o5}) bo ?_⟩;refine⟨((h2.push o3).push o4).objs.size,[((h2.push o3).push o4).objs.size,h2.objs.size,(h2.push o3).objs.size,s.heap.objs.size,h1.objs.size],_,_,H,rfl,I1,HU b1 b2 _ _ _ _ _ l1 l2 ⟨?_,?_,?_,?_,?_,?_,?_,?_,?_,?_⟩,⟨bo,r6,⟨_,_,u3⟩,Fj I1 aK d1,Fj I1 aJ d2⟩,fun a ha=>?_,q⟩
 ·rw[z4];exact gE (Nat.lt_add_of_pos_right (by decide))
 ·rw[z4,z3];exact gE (tj _)
 ·rw[z4,z2,z1];exact gE (by
   have:s.heap.objs.size<s.heap.objs.size+1+1+2:=by lia
   exact this)
 ·rw[z4,z2];exact gE (by
   have:h1.objs.size<h1.objs.size+1+2:=by lia
   exact this)
 ·rw[z3];exact gE (tj _)
 ·rw[z2,z1];exact nD (by
   have:s.heap.objs.size<s.heap.objs.size+1+1:=by lia
   exact this)
 ·rw[z2];exact nD (tj _)
 ·rw[z3,z2,z1];exact nD (by
   have:s.heap.objs.size<s.heap.objs.size+1+1+1:=by lia
   exact this)
 ·rw[z3,z2];exact nD (by
   have:h1.objs.size<h1.objs.size+1+1:=by lia
   exact this)
 ·rw[z1];exact gE (tj _)
 ·have le:s.heap.objs.size<=a:=by
   simp only[iY,jD,kP] at ha;rcases ha with rfl|rfl|rfl|rfl|rfl
   ·rw[z4,z2,z1];have:s.heap.objs.size<=s.heap.objs.size+1+1+2:=by lia
    exact this
   ·rw[z2,z1];have:s.heap.objs.size<=s.heap.objs.size+1+1:=by lia
    exact this
   ·rw[z3,z2,z1];have:s.heap.objs.size<=s.heap.objs.size+1+1+1:=by lia
    exact this
   ·exact gJ _
   ·rw[z1];exact Aq _
  exact I.fpOk le (I.hok.fresh le)
noncomputable def qb(f g:FO):FIt:=fun δ=>(f δ).bind fun p=>(g p.2).bind fun q=>(res q.2 p.1).bind fun x=>(res q.2 q.1).bind fun y=>(qV x).bind fun l=>(qV y).bind fun m=>some ((l.zip m).map fun p=> .tup [p.1,p.2],q.2)
noncomputable def vO(f g:F):FIt:=fun δ=>(f δ).bind fun p=>(g p.2).bind fun q=>(qV p.1.1).bind fun l=>(qV q.1.1).bind fun m=>some ((l.zip m).map fun p=> .tup [p.1,p.2],q.2)
theorem BW{B:SB}{a b:fw}{f g:FO}{p pos:Pos}(hg:Gl X "zip")(hm:X.mg "zip"=none)(ha:PO X a f)(hb:PO X b g)(B1:SlB B f)(B2:SlB B g)(hs:starEach [a,b] X.env=(false,eval a X.env)::starEach [b] X.env)(t8:starEach [b] X.env=(false,eval b X.env)::starEach [] X.env)(h9:(backTo pos (starEach [b] X.env)).any (·.1)=false):
  PIX X B (.Tuple elts k1 n6) (.Call (.Name "zip" p) [a,b] [] pos) (qb f g):=PI.imp' (OM hg hm (tX ha (tX hb AR t8) hs) hs h9) fun σ H R hw=>by
 obtain⟨δ,T,ds,δ',E,e,k⟩:=hw;obtain⟨⟨o1,δ1⟩,h1,e⟩:=eU e;obtain⟨⟨o2,δ2⟩,h2,e⟩:=eU e;obtain⟨x,h3,e⟩:=eU e;obtain⟨y,h4,e⟩:=eU e;obtain⟨l,h5,e⟩:=eU e;obtain⟨m,h6,e⟩:=eU e;obtain⟨rfl,rfl⟩:=fK e;dsimp only at h2;refine⟨δ,T,[o1,o2],δ2,E,?_,fun vs H1 T1 W=>?_⟩
 ·simp only[hC,h1,h2,Option.bind]
 ·have hl:=W.len;rcases vs with _|⟨v,_|⟨u,_|⟨_,_⟩⟩⟩<;>try cases hl
  ·obtain⟨a1,xs,rfl,q1,rr1⟩:=W.seq E (j:=0) rfl rfl h3 h5 fun i hi=>B1 _ _ _ (hi▸h1);obtain⟨a2,ys,rfl,q2,rr2⟩:=W.seq E (j:=1) rfl rfl h4 h6 fun i hi=>B2 _ _ _ (hi▸h2);exact⟨_,_,a1,a2,xs,ys,rfl,DG q1,DG q2,k _ H1 W.keep (W.er.mono (fun _ _ e _=>e) (fun b _ z=>W.tt b z) (fun a z=>W.er.dom a (W.tt a z))) (J8 q1 rr1 q2 rr2 fun a z=>z.own)⟩
theorem L6{B:SB}{a b:fw}{f g:F}{p pos:Pos}(hg:Gl X "zip")(hm:X.mg "zip"=none)(ha:PX X a f)(hb:PX X b g)(hs:starEach [a,b] X.env=(false,eval a X.env)::starEach [b] X.env)(t8:starEach [b] X.env=(false,eval b X.env)::starEach [] X.env)(h9:(backTo pos (starEach [b] X.env)).any (·.1)=false):
  PIX X B (.Tuple elts k1 n6) (.Call (.Name "zip" p) [a,b] [] pos) (vO f g):=PI.imp' (BW (B:=B) hg hm (PX.po ha) (PX.po hb) AG AG hs t8 h9) fun σ H R hw=>by
 have:vO f g=qb (eW f) (eW g):=funext fun δ=>by
  unfold vO qb eW
  cases f δ with
  |none=>rfl
  |some p=>simp only[Option.bind];cases g p.2<;>rfl
 rwa [this] at hw
end
end PX
namespace TS
open PySem PyProof.Rows
def Ask(M:Model)(A:fQ)(G:Shared->Prop)(it:Nat->Keyed)(κ:SortKind)(N:Nat)(lt:Nat->Nat->Bool):Prop:= ∀i j,i<N->j<N-> ∀s,G s-> ∀E',wpAny M A (keyLt' κ (it i).1 (it j).1) (fun b s'=>G s'/\b=lt i j) E' s
structure Cs where
 M:Model
 A:Around
 E:Value->Shared->Prop
 G:Shared->Prop
 it:Nat->Keyed
 lt:Nat->Nat->Bool
 κ:SortKind
 N:Nat
 as: ∀i j,lt i j=true->lt j i=false
 tr: ∀{i j k},lt j i=false->lt k j=false->lt k i=false
 ask:Ask M A G it κ N lt
section
variable {X:Cs}{α β:Type}{f:α->StateT SortSt Sem β}{Q:β->SortSt->Prop}{st:oT}
def wp(X:Cs){α:Type}(m:StateT SortSt Sem α)(Q:α->SortSt->Prop)(st:oT):Prop:= ∀s,X.G s->wpAny X.M X.A (m.run st) (fun r s'=>X.G s'/\Q r.1 r.2) X.E s
theorem fm{a:β}(h:Q a st):wp X (pure a) Q st:=fun s g=>by rw[StateT.run_pure];exact fH ⟨g,h⟩
theorem hG{m:StateT SortSt Sem α}(h:wp X m (fun a d9=>wp X (f a) Q d9) st):wp X (m>>=f) Q st:=fun s g=>by
 rw[StateT.run_bind];exact eY (oH (h s g) (fun r s' h'=>h'.2 s' h'.1) fun _ _ e=>e)
theorem EA{m:StateT SortSt Sem α}{Q Q':α->SortSt->Prop}(h:wp X m Q st)(hq: ∀a d9,Q a d9->Q' a d9):wp X m Q' st:=fun s g=>oH (h s g) (fun r _ h'=>⟨h'.1,hq _ _ h'.2⟩) fun _ _ e=>e
theorem fZ{c:Prop}[Decidable c]{t e:StateT SortSt Sem β}(h1:c->wp X t Q st)(h2: ¬c->wp X e Q st):wp X (if c then t else e) Q st:=by split<;>simp_all
theorem lU{f:SortSt->StateT SortSt Sem β}(h:wp X (f st) Q st):wp X (get>>=f) Q st:=hG fun s g=>by rw[StateT.run_get];exact fH ⟨g,h⟩
theorem rQ{g:SortSt->SortSt}{f:PUnit->StateT SortSt Sem β}(h:wp X (f ⟨⟩) Q (g st)):wp X (modify g>>=f) Q st:=hG fun s g=>by rw[StateT.run_modify];exact fH ⟨g,h⟩
theorem EB{m:Sem α}(h: ∀s,X.G s->wpAny X.M X.A m (fun a s'=>X.G s'/\wp X (f a) Q st) X.E s):wp X (liftM m>>=f) Q st:=hG fun s g=>by
 show wpAny X.M X.A ((StateT.lift m:StateT SortSt Sem α).run st) _ X.E s;rw[StateT.run_lift];exact eY (oH (h s g) (fun a s' h'=>fH h') fun _ _ e=>e)
theorem qj{x:String}{f:Unit->StateT SortSt Sem β}(h:wp X (f ()) Q st):wp X (liftM (rule x)>>=f) Q st:=EB fun s g=>pB ⟨g,h⟩
theorem Lf{e:Nat}{g:Nat->α->StateT SortSt Sem (ForInStep α)}{I:Nat->α->SortSt->Prop}{J:α->SortSt->Prop}
  (hs: ∀i c st,i<e->I i c st->wp X (g i c) (fun r d9=>match r with| .done c'=>J c' d9| .yield c'=>I (i+1) c' d9) st)(he: ∀c st,I e c st->J c st):
  ∀(n a:Nat) (c:α) (st:oT),a+n=e->I a c st->wp X (forIn (List.range' a n 1) c g) J st:=by
 intro iV
 induction iV with
 |zero=>
  intro a c st rfl h;exact fm (he _ _ h)
 |succ n iH=>
  intro a c st q h;rw[List.range'_succ,List.forIn_cons];refine hG (EA (hs a c st (by lia) h) fun r d9 h'=>?_)
  cases r with
  |done b'=>exact fm h'
  |yield b'=>exact iH _ b' d9 (by lia) h'
theorem jZ{g:Nat->α->StateT SortSt Sem (ForInStep α)}(I:Nat->α->SortSt->Prop)(J:α->SortSt->Prop){a b:Nat}{c:α}(h0:I a c st)
  (hs: ∀i c st,i<a+(b-a)->I i c st->wp X (g i c) (fun r d9=>match r with| .done c'=>J c' d9| .yield c'=>I (i+1) c' d9) st)
  (he: ∀c st,I (a+(b-a)) c st->J c st)(hp: ∀c st,J c st->wp X (f c) Q st):wp X (forIn [a:b] c g>>=f) Q st:=by
 refine hG (EA ?_ hp);rw[Std.Legacy.Range.forIn_eq_forIn_range'];exact Lf hs he _ _ _ _ (by simp[Std.Legacy.Range.size]) h0
noncomputable abbrev ar(X:Cs)(l:hV):Array Keyed:=(l.map X.it).toArray
theorem jF{l:hV}{i x:Nat}{f:Keyed->StateT SortSt Sem β}(e:l[i]?=some x)(h:wp X (f (X.it x)) Q st):wp X (elem' (ar X l) i>>=f) Q st:=hG (by
 rw[elem'_eq,show(ar X l)[i]?=some (X.it x) by simp[e]];exact fm h)
theorem Bx{i j:Nat}{f:Option Bool->StateT SortSt Sem β}(hk:kindOf st=X.κ)(hi:i<X.N)(hj:j<X.N)(h: ∀b,X.lt i j=b->wp X (f (some b)) Q st):wp X (lt' (X.it i) (X.it j)>>=f) Q st:=hG (by
 rw[lt'_eq];refine lU ?_;rw[hk];refine EB fun s g=>uS (oH (X.ask i j hi hj s g fun _ _=>False) (fun b s' hb=>?_) fun e s' he=>he.elim);obtain⟨g',rfl⟩:=hb;exact⟨g',fm (h _ rfl)⟩)
structure Rp(X:Cs)(q:Array (Nat×Nat×Nat))(L:hV)(st:oT):Prop where
 a:arrOf st=ar X L
 k:kindOf st=X.κ
 f:failedOf st=none
 q:pendingOf st=q
 p:L.Perm (List.range X.N)
theorem Rp.n{q:Array (Nat×Nat×Nat)}{L:hV}(R:Rp X q L st){i x:Nat}(e:L[i]?=some x):x<X.N:=by
 simpa using R.p.mem_iff.mp (lG e)
theorem By{q:Array (Nat×Nat×Nat)}{L:hV}(R:Rp X q L st){i j x y:Nat}{f:Option Bool->StateT SortSt Sem β}(e1:L[i]?=some x)(e2:L[j]?=some y)(h: ∀b,X.lt x y=b->wp X (f (some b)) Q st):wp X (ltAt' i j>>=f) Q st:=hG (by
 rw[ltAt'_eq];refine lU ?_;rw[R.a];exact jF e1 (jF e2 (by rw[<-bind_pure (lt' _ _)];exact Bx R.k (R.n e1) (R.n e2) fun b e=>fm (h b e))))
theorem Ca{α:Type}(T A R:List α){d:Nat}(hd:d=A.length / 2):mirror (T++(A++R)).toArray T.length (T.length+A.length) d=(T++(A.reverse++R)).toArray:=by
 have hd:d=(T.length+A.length-T.length) / 2:=by lia
 subst hd;apply Array.ext_getElem?;intro k;rw[getElem?_mirror_all (by simp)];simp only[List.getElem?_toArray];by_cases h1:k<T.length
 ·rw[fR (by lia),qT h1,qT h1]
 ·obtain⟨k,rfl⟩:=Nat.exists_eq_add_of_le (Nat.le_of_not_lt h1);rw[nB (by lia) (l₂:=A.reverse++R),Dd];by_cases h2:k<A.length
  ·rw[fJ (by lia),nB (by lia),qT (by lia),qT (by simpa using h2),List.getElem?_reverse h2]
   congr 1;lia
  ·rw[fR (by lia),nB (by lia),Dd,nB (by lia),nB (by simpa using h2),HA]
theorem CG{α:Type}(R:List α)(x:α): ∀(A T:List α) {i:Nat},i=T.length+A.length->bubble (T++(A++x::R)).toArray i A.length=(T++(x::(A++R))).toArray:=by
 intro iV
 induction iV with
 |nil=>
  intro T i h;exact rfl
 |cons a A iH=>
  intro T i h;have:=iH (T++[a]) (i:=i) (by simp at h ⊢;lia);rw[jb,bubble_succ,show T++(a::A++x::R)=T++[a]++(A++x::R) by simp,this];have e:i-A.length=T.length+1:=by simp at h;lia
  rw[e,Nat.add_sub_cancel];simp[Array.swapIfInBounds]
variable {q:Array (Nat×Nat×Nat)}{T A R:hV}{i j x:Nat}
theorem HK{xs:yZ}{L L':hV}(S:Rp X q L st)(e:xs=ar X L')(p:L'.Perm L):Rp X q L' (setArr st xs):=⟨e,S.k,S.f,S.q,p.trans S.p⟩
theorem DA{f:Unit->StateT SortSt Sem β}(S:Rp X q (T++(A++R)) st)(hi:i=T.length)(hj:j=T.length+A.length)(h: ∀d9,Rp X q (T++(A.reverse++R)) d9->wp X (f ()) Q d9):wp X (reverseSlice' i j>>=f) Q st:=by
 rw[reverseSlice'_eq];subst hi hj;refine rQ (h _ (HK S ?_ (((wD A).append_right R).append_left T)));have:=Ca (T.map X.it) (A.map X.it) (R.map X.it) (d:=(T.length+A.length-T.length) / 2) (by simp);simpa[ar,S.a] using this
theorem NC{f:Unit->StateT SortSt Sem β}(S:Rp X q (T++(A++x::R)) st)(hi:i=T.length+A.length)(hj:j=T.length)(h: ∀d9,Rp X q (T++(x::(A++R))) d9->wp X (f ()) Q d9):wp X (moveDown' i j>>=f) Q st:=by
 rw[moveDown'_eq];subst hi hj;refine rQ (h _ (HK S ?_ (K0.symm.append_left T)));have:=CG (R.map X.it) (X.it x) (A.map X.it) (T.map X.it) (i:=T.length+A.length) (by simp);simpa[ar,S.a] using this
end
abbrev Cs.le(X:Cs)(i j:Nat):Prop:=X.lt j i=false
section
variable {X:Cs}{β:Type}{Q:β->SortSt->Prop}{st:oT}{q:Array (Nat×Nat×Nat)}{T A B D R L:hV}{i j x y:Nat}{r:Nat->Nat->Prop}
theorem ix0(h:i=T.length+A.length):(T++(A++x::R))[i]?=some x:=by subst h;simp
theorem ix1(h:i=T.length+A.length+1):(T++(A++x::y::R))[i]?=some y:=by subst h;rw[<-mE,nB (by simp)];simp
theorem BL(u:D.Pairwise r)(h: ∀z∈D,r z y):(D++[y]).Pairwise r:=rA.mpr ⟨u,Hz _ _,fun a ha b hb=>Ez.mp hb▸h a ha⟩
theorem Ci(tr: ∀{a b c},r a b->r b c->r a c)(u:(D++[x]).Pairwise r)(h:r x y): ∀z∈D++[x],r z y:=fun z hz=>by
 rcases nF.mp hz with hz|hz
 ·exact tr ((rA.mp u).2.2 z hz x gY) h
 ·rw[Ez.mp hz];exact h
theorem HP{g:Nat->Option (Option Nat)×Nat->StateT SortSt Sem (ForInStep (Option (Option Nat)×Nat))}{f:Option (Option Nat)×Nat->StateT SortSt Sem β}{lo n m:Nat}
  (hg: ∀i n,g i (none,n)=(ltAt' (lo+n) (lo+n-1)>>=fun x=>match x with|some b=>if b=true then pure (.done (none,n)) else pure (.yield (none,n+1))|_=>pure (.done (some none,n))))
  (S:Rp X q (T++(A++x::R)) st)(hl:T.length=lo)(hn:n=A.length+1)(hm:m=n+R.length)(u:(A++[x]).Pairwise X.le)
  (h: ∀A x R,Rp X q (T++(A++x::R)) st->m=A.length+1+R.length->(A++[x]).Pairwise X.le->(∀y l,R=y::l->X.lt y x=true)->wp X (f (none,A.length+1)) Q st):wp X (forIn [n:m] (none,n) g>>=f) Q st:=by
 refine jZ (fun i c s=>s=st/\c=(none,i)/\ ∃A x R,Rp X q (T++(A++x::R)) st/\i=A.length+1/\m=i+R.length/\(A++[x]).Pairwise X.le)
  (fun c s=>s=st/\ ∃A x R,Rp X q (T++(A++x::R)) st/\c=(none,A.length+1)/\m=A.length+1+R.length/\(A++[x]).Pairwise X.le/\ ∀y l,R=y::l->X.lt y x=true) ⟨rfl,rfl,A,x,R,S,hn,hm,u⟩ ?_ ?_ ?_
 ·rintro i c s hi ⟨rfl,rfl,A,x,R,S,rfl,h1,u⟩;rw[hg];obtain⟨y,l,rfl⟩:=ph (l:=R) (by lia);refine By S (ix1 (by lia)) (ix0 (by lia)) fun b e=>?_
  cases b with
  |true=>exact fm ⟨rfl,A,x,_,S,rfl,h1,u,fun _ _ e'=>by cases e';exact e⟩
  |false=>exact fm ⟨rfl,rfl,A++[x],y,l,by simpa using S,by simp,by simp at h1;lia,BL u (Ci X.tr u e)⟩
 ·rintro c s ⟨rfl,rfl,A,x,R,S,hi,h1,u⟩;exact⟨rfl,A,x,R,S,by rw[hi],by lia,u,fun y l e=>by subst e;simp at h1;lia⟩
 ·rintro c s ⟨rfl,A,x,R,S,rfl,hm,u,e⟩;exact h A x R S hm u e
theorem HL{c:Prop}[Decidable c]{k:StateT SortSt Sem β}(S:Rp X q (T++(A++R)) st)(hi:i=T.length)(hj:j=T.length+A.length)(hc: ¬c->A.length=1)(h: ∀d9,Rp X q (T++(A.reverse++R)) d9->wp X k Q d9):wp X (if c then reverseSlice' i j>>=fun _=>k else k) Q st:=fZ (fun _=>DA S hi hj h) fun z=>h _ (by
 obtain⟨a,rfl⟩:=List.length_eq_one_iff.mp (hc z);exact S)
theorem dnT(d:(A++B).Pairwise fun a b=>X.le b a)(u:B.Pairwise X.le):(A++B.reverse).Pairwise fun a b=>X.le b a:=by
 rw[rA] at d ⊢;exact⟨d.1,Dz.mpr u,fun a ha b hb=>d.2.2 a ha b (List.mem_reverse.mp hb)⟩
theorem Cs.rf(X:Cs)(i:Nat):X.le i i:=Bool.eq_false_iff.mpr fun h=>Bool.noConfusion (h.symm.trans (X.as i i h))
theorem M8{k m:StateT SortSt Sem β}(P:SortSt->Prop)(hm:(∀d9,P d9->wp X k Q d9)->wp X m Q st)(hk: ∀d9,P d9->wp X k Q d9):wp X m Q st:=hm hk
theorem HN{lo m:Nat}{Q:Option Nat->SortSt->Prop}(S:Rp X q (T++x::R) st)(hl:T.length=lo)(hm:m=1+R.length)(h: ∀A R d9,Rp X q (T++(A++R)) d9->A≠[]->A.Pairwise X.le->m=A.length+R.length->Q (some A.length) d9):wp X (countRun' lo m) Q st:=by
 have fin: ∀A x R d9,Rp X q (T++(A++x::R)) d9->m=A.length+1+R.length->(A++[x]).Pairwise X.le->Q (some (A.length+1)) d9:=fun A x R d9 S hm u=>by
  simpa using h (A++[x]) R d9 (by simpa using S) (by simp) u (by simpa using hm)
 have ge: ∀{a b c},X.le b a->X.le c b->X.le c a:=fun h1 h2=>X.tr h2 h1;rw[countRun'_eq];dsimp only;refine HP (fun _ _=>rfl) (A:=[]) S hl rfl hm (by simp) fun A x R S hm u hx=>?_;refine fZ (fun _=>fm (fin A x R _ S hm u)) fun j7=>?_;obtain⟨y,l,rfl⟩:=ph (l:=R) (by simp at j7;lia);apply M8 fun d9=>Rp X q (T++((A++[x]).reverse++y::l)) d9/\ ∀z∈A++[x],X.le y z
 ·intro F;have hy:=X.as _ _ (hx y l rfl);refine fZ (fun h1=>?_) fun h1=>F _ ?_
  ·obtain⟨a,A,rfl⟩:=ph (l:=A) (Nat.lt_of_succ_lt_succ h1);refine By S (x:=a) (y:=x) (ix0 (A:=[]) (by simpa using hl.symm)) (ix0 (by simp;lia)) fun b e=>?_
   cases b with
   |true=>exact fm (fin _ x _ _ S hm u)
   |false=>
    refine DA (A:=a::A++[x]) (by simpa using S) hl.symm (by simp;lia) fun d9 S'=>F _ ⟨S',fun z hz=>X.tr (X.tr hy e) ?_⟩;rcases iY.mp hz with rfl|hz
    ·exact X.rf _
    ·exact(CM.mp u).1 z hz
  ·obtain rfl:=wC (l:=A) (by simpa using h1);exact⟨S,by simpa using hy⟩
 ·rintro st ⟨S,d⟩;have h2:A.length+2<=m:=by simp at hm;lia
  dsimp only
  refine qj (jZ (fun i c s=> ∃C B x R,c=(none,i,B.length)/\Rp X q (T++(C++(B++x::R))) s/\i=C.length+B.length+1/\m=i+R.length/\(C++(B++[x])).Pairwise (fun a b=>X.le b a)/\(B++[x]).Pairwise X.le)
   (fun c s=> ∃C B x R,c=(none,C.length+B.length+1,B.length)/\Rp X q (T++(C++(B++x::R))) s/\m=C.length+B.length+1+R.length/\(C++(B++[x])).Pairwise (fun a b=>X.le b a)/\(B++[x]).Pairwise X.le) ⟨(A++[x]).reverse,[],y,l,rfl,S,by simp,by simp at hm ⊢;lia,?_,by simp⟩ ?_ ?_ ?_)
  ·exact BL (Dz.mpr u) fun z hz=>d z (List.mem_reverse.mp hz)
  ·rintro i c s hi ⟨C,B,x,R,rfl,S,rfl,hm,d,u⟩;obtain⟨y,l,rfl⟩:=ph (l:=R) (by lia);rw[<-mE] at S;refine By S (ix1 (by simp;lia)) (ix0 (by simp;lia)) fun b e=>?_
   cases b with
   |true=>
    refine HL (T:=T++C) (A:=B++[x]) (by simpa using S) (by simp;lia) (by simp;lia) (fun z=>by simp at z ⊢;exact z) fun d9 S'=>fm ⟨C++(B++[x]).reverse,[],y,l,rfl,by simpa using S',by simp;lia,by simp at hm;lia,BL (dnT d u) fun z hz=>?_,by simp⟩;rw[<-mE] at d;exact Ci (r:=fun a b=>X.le b a) ge d (X.as _ _ e) z (by simpa[or_comm] using hz)
   |false=>
    refine By S (ix0 (by simp;lia)) (ix1 (by simp;lia)) fun b e2=>?_
    cases b with
    |true=>exact fm ⟨C,B,x,_,rfl,by simpa using S,hm,d,u⟩
    |false=>
     refine fm ⟨C,B++[x],y,l,by simp,by simpa using S,by simp;lia,by simp at hm;lia,?_,BL u (Ci X.tr u e)⟩;rw[<-mE] at d ⊢;rw[<-mE];exact BL d (Ci (r:=fun a b=>X.le b a) ge d e2)
  ·rintro c s ⟨C,B,x,R,rfl,S,hi,hm,d,u⟩;exact⟨C,B,x,R,by rw[hi],S,by lia,d,u⟩
  ·rintro c s ⟨C,B,x,R,rfl,S,hm,d,u⟩;refine HL (T:=T++C) (A:=B++[x]) (by simpa using S) (by simp;lia) (by simp;lia) (fun z=>by simp at z ⊢;exact z) fun d9 S'=>?_;refine DA (T:=T) (A:=C++(B++[x]).reverse) (by simpa using S') hl.symm (by simp;lia) fun d9 S'=>?_;have u:=Dz.mpr (dnT d u);rcases Hy (C++(B++[x]).reverse).reverse with e|⟨A',x',e⟩
   ·simp at e
   ·rw[e,Hx] at S' u;have hz:=lH List.length e;simp at hz;exact HP (fun _ _=>rfl) (A:=A') (x:=x') (R:=R) (by simpa using S') hl (by dsimp only;lia) (by dsimp only;lia) u fun A x R S hm u _=>fm (fin A x R _ S hm u)
end
section
variable {X:Cs}{β:Type}{Q:β->SortSt->Prop}{st:oT}{q:Array (Nat×Nat×Nat)}{T A B D R L:hV}{i j x y:Nat}{p:Nat->Bool}
abbrev Mo(X:Cs)(p:Nat->Bool):Prop:= ∀a b,X.le a b->p b=true->p a=true
abbrev Lo(p:Nat->Bool)(A:hV)(a:Nat):Prop:= ∀i,i<a->p (A.getD i 0)=true
abbrev Hi(p:Nat->Bool)(A:hV)(a:Nat):Prop:= ∀i,a<=i->i<A.length->p (A.getD i 0)=false
theorem JL:Mo X fun z=>!X.lt x z:=fun a b h h2=>by simp only[Bool.not_eq_true'] at h2 ⊢;exact X.tr h h2
theorem Rt:Mo X fun z=>X.lt z x:=fun a b h h2=>by
 cases e:X.lt a x with
 |true=>exact e
 |false=>exact Bool.noConfusion ((X.tr e h).symm.trans h2)
theorem upD(u:A.Pairwise X.le)(ij:i<=j)(h:j<A.length):X.le (A.getD i 0) (A.getD j 0):=by
 have hi:i<A.length:=by lia
 simp only[uQ,ir h,ir hi,Option.getD_some];rcases Nat.lt_or_eq_of_le ij with e|rfl
 ·exact K8.mp u i j hi h e
 ·exact X.rf _
theorem Cd(u:A.Pairwise X.le)(m:Mo X p)(h:i<A.length)(e:p (A.getD i 0)=true):Lo p A (i+1):=fun j hj=>m _ _ (upD u (by lia) h) e
theorem Cn(u:A.Pairwise X.le)(m:Mo X p)(e:p (A.getD i 0)=false):Hi p A i:=fun j hj h=>by
 cases c:p (A.getD j 0) with
 |false=>rfl
 |true=>exact(m _ _ (upD u hj h) c).symm.trans e
theorem Ff(h:Lo p A i): ∀z∈A.take i,p z=true:=fun z hz=>by
 obtain⟨k,hk,rfl⟩:=Dc hz;have hk:=qU▸hk;have:=h k (by lia);simpa[show k<A.length by lia] using this
theorem Fl(h:Hi p A i): ∀z∈A.drop i,p z=false:=fun z hz=>by
 obtain⟨k,hk,rfl⟩:=Dc hz;simp at hk;have:=h (i+k) (by lia) (by lia);simpa[show i+k<A.length by lia] using this
theorem ixD(hl:T.length=j)(h:i<A.length):(T++(A++R))[j+i]?=some (A.getD i 0):=by
 subst hl;rw[nB (by lia),Dd,qT h];simp[h]
theorem T7(u:A.Pairwise X.le)(h1: ∀z∈A.take i,(!X.lt y z)=true)(h2: ∀z∈A.drop i,(!X.lt y z)=false):(A.take i++y::A.drop i).Pairwise X.le:=by
 rw[<-rH i A,rA] at u;refine rA.mpr ⟨u.1,CM.mpr ⟨fun z hz=>X.as _ _ (by simpa using h2 z hz),u.2.1⟩,fun a ha b hb=>?_⟩;rcases iY.mp hb with rfl|hb
 ·simpa using h1 a ha
 ·exact u.2.2 a ha b hb
theorem ND{lo n k:Nat}{Q:Bool->SortSt->Prop}(S:Rp X q (T++(A++R)) st)(hl:T.length=lo)(ha:A.length=k)(h0:0<k)(hn:n<=k+R.length)(hk:k<=n)(u:A.Pairwise X.le)
  (h: ∀A R d9,Rp X q (T++(A++R)) d9->A.length=n->A.Pairwise X.le->Q true d9):wp X (binarySort' lo n k) Q st:=by
 rw[binarySort'_eq,show max k 1=k by lia];dsimp only;refine jZ (fun k c s=>c=(none,())/\ ∃A R,Rp X q (T++(A++R)) s/\A.length=k/\A.Pairwise X.le/\n<=k+R.length) (fun c s=>c=(none,())/\ ∃A R,Rp X q (T++(A++R)) s/\A.length=n/\A.Pairwise X.le) ⟨rfl,A,R,S,ha,u,hn⟩ ?_ ?_ ?_
 ·rintro k c s hi ⟨rfl,A,R,S,rfl,u,hn⟩;obtain⟨y,l,rfl⟩:=ph (l:=R) (by lia)
  refine jZ (fun i c s'=>s'=s/\ ∃a b,c=(none,a,b)/\a<=b/\b<=A.length/\b<=a+(A.length-i)/\Lo (fun z=>!X.lt y z) A a/\Hi (fun z=>!X.lt y z) A b)
   (fun c s'=>s'=s/\ ∃a b,c=(none,a,b)/\a<=A.length/\Lo (fun z=>!X.lt y z) A a/\Hi (fun z=>!X.lt y z) A a) ⟨rfl,0,A.length,rfl,by lia,by lia,by lia,fun i h=>by lia,fun i h h'=>by lia⟩ ?_ ?_ ?_
  ·rintro i c _ hi ⟨rfl,a,b,rfl,h1,h2,h3,h4,h5⟩;dsimp only;refine fZ (fun e=>fm ⟨rfl,a,b,rfl,by lia,h4,(show a=b by lia)▸h5⟩) fun e=>?_;refine By S (ix0 (by lia)) (ixD hl (by lia)) fun c e=>?_
   cases c with
   |true=>exact fm ⟨rfl,a,_,rfl,by lia,by lia,by lia,h4,Cn u JL (by rw[e];rfl)⟩
   |false=>exact fm ⟨rfl,_,b,rfl,by lia,by lia,by lia,Cd u JL (by lia) (by rw[e];rfl),h5⟩
  ·rintro c _ ⟨rfl,a,b,rfl,h1,h2,h3,h4,h5⟩;exact⟨rfl,a,b,rfl,by lia,h4,(show a=b by lia)▸h5⟩
  ·rintro c _ ⟨rfl,a,b,rfl,h1,h2,h3⟩;refine NC (T:=T++A.take a) (A:=A.drop a) (by rw[mE,<-mE (A.take a),rH];exact S) (by simp;lia) (by simp;lia) fun s' S'=>fm ⟨rfl,A.take a++y::A.drop a,l,by simpa using S',by simp;lia,T7 u (Ff h2) (Fl h3),by simp at hn;lia⟩
 ·rintro c s ⟨rfl,A,R,S,hi,u,hn⟩;exact⟨rfl,A,R,S,by lia,u⟩
 ·rintro c s ⟨rfl,A,R,S,hi,u⟩;exact fm (h A R s S hi u)
noncomputable def ME:Bool->Keyed->Array Keyed->Nat->Nat->Nat->StateT SortSt Sem (Option Nat):=sortPriv%PySem.Builtin.gallop
noncomputable def JM:Array Keyed->Array Keyed->StateT SortSt Sem (Array Keyed):=sortPriv%PySem.Builtin.mergeLo
noncomputable def JN:Array Keyed->Array Keyed->StateT SortSt Sem (Array Keyed):=sortPriv%PySem.Builtin.mergeHi
noncomputable def Ln:Nat->StateT SortSt Sem Unit:=sortPriv%PySem.Builtin.setMinGallop
theorem Qj{k:Nat->Nat->StateT SortSt Sem β}{m:StateT SortSt Sem β}(P:Nat->Nat->Prop)(hm:(∀a b,P a b->wp X (k a b) Q st)->wp X m Q st)(hk: ∀a b,P a b->wp X (k a b) Q st):wp X m Q st:=hm hk
noncomputable abbrev gp(X:Cs)(left:Bool)(x z:Nat):Bool:=if left=true then X.lt z x else !X.lt x z
theorem Az{left:Bool}{base:Nat}{f:Option Bool->StateT SortSt Sem β}(hk:kindOf st=X.κ)(hN: ∀z∈A,z<X.N)(hx:x<X.N)(hb:T.length=base)(hi:i<A.length)(h: ∀b,gp X left x (A.getD i 0)=b->wp X (f (some b)) Q st):
  wp X ((elem' (ar X (T++(A++R))) (base+i)>>=fun z=>if left=true then lt' z (X.it x) else lt' (X.it x) z>>=fun r=>pure (Option.map (fun x=>!x) r))>>=f) Q st:=by
 have hz:A.getD i 0<X.N:=hN _ (by simp[hi]);refine hG (jF (ixD hb hi) ?_)
 cases left with
 |true=>rw[fJ rfl,<-bind_pure (lt' _ _)];exact Bx hk hz hx fun b e=>fm (h b e)
 |false=>exact Bx hk hx hz fun b e=>fm (h (!b) (lH not e))
theorem vb{left:Bool}{base n hint:Nat}{Q:Option Nat->SortSt->Prop}(hk:kindOf st=X.κ)(hN: ∀z∈A,z<X.N)(hx:x<X.N)(u:A.Pairwise X.le)(hL:L=T++(A++R))(hb:T.length=base)(hn:A.length=n)(hh:hint<n)
  (h: ∀r,r<=n->(∀z∈A.take r,gp X left x z=true)->(∀z∈A.drop r,gp X left x z=false)->Q (some r) st):wp X (ME left (X.it x) (ar X L) base n hint) Q st:=by
 subst hL
 have m:Mo X (gp X left x):=by
  cases left with
  |true=>exact Rt
  |false=>exact JL
 apply Qj fun a b=>a<=b/\b<=n/\Lo (gp X left x) A a/\Hi (gp X left x) A b
 ·intro F;refine Az hk hN hx hb (hn▸hh) fun b e=>?_;refine fZ (fun z=>?_) fun z=>?_
  ·subst z
   refine jZ (fun i c s=>st=s/\ ∃a b,c=(none,a,b)/\a<b/\i<b/\hint+a<n/\Lo (gp X left x) A (hint+a+1)) (fun c s=>st=s/\ ∃a b,c=(none,a,b)/\a<b/\hint+a<n/\Lo (gp X left x) A (hint+a+1)/\(n-hint<=b\/Hi (gp X left x) A (hint+b)))
    ⟨rfl,0,1,rfl,by lia,by lia,hh,Cd u m (hn▸hh) e⟩ ?_ ?_ ?_
   ·rintro i c _ hi ⟨rfl,a,b,rfl,h1,h2,h3,h4⟩;dsimp only;refine fZ (fun z=>fm ⟨rfl,a,b,rfl,h1,h3,h4,.inl z⟩) fun z=>Az hk hN hx hb (by lia) fun c e=>?_
    cases c with
    |true=>exact fm ⟨rfl,_,_,rfl,by lia,by lia,by lia,Cd u m (by lia) e⟩
    |false=>exact fm ⟨rfl,a,b,rfl,h1,h3,h4,.inr (Cn u m e)⟩
   ·rintro c _ ⟨rfl,a,b,rfl,h1,h2,h3,h4⟩;exact⟨rfl,a,b,rfl,h1,h3,h4,.inl (by lia)⟩
   ·rintro c _ ⟨rfl,a,b,rfl,h1,h3,h4,h5⟩;dsimp only;generalize e1:hint+a+1=c at*;generalize e2:hint+min b (n-hint)=d;refine F c d ⟨by lia,by lia,h4,fun i i1 i2=>?_⟩;rcases h5 with h5|h5
    ·lia
    ·exact h5 i (by lia) i2
  ·refine jZ (fun i c s=>st=s/\ ∃a b,c=(none,a,b)/\a<b/\i<b/\a<=hint/\Hi (gp X left x) A (hint-a)) (fun c s=>st=s/\ ∃a b,c=(none,a,b)/\a<b/\a<=hint/\Hi (gp X left x) A (hint-a)/\(hint<b\/Lo (gp X left x) A (hint-b+1)))
    ⟨rfl,0,1,rfl,by lia,by lia,by lia,Cn u m (by simpa[z] using e)⟩ ?_ ?_ ?_
   ·rintro i c _ hi ⟨rfl,a,b,rfl,h1,h2,h3,h4⟩;dsimp only;refine fZ (fun z=>fm ⟨rfl,a,b,rfl,h1,h3,h4,.inl z⟩) fun z=>Az hk hN hx hb (by lia) fun c e=>?_
    cases c with
    |true=>exact fm ⟨rfl,a,b,rfl,h1,h3,h4,.inr (Cd u m (by lia) e)⟩
    |false=>exact fm ⟨rfl,_,_,rfl,by lia,by lia,by lia,Cn u m e⟩
   ·rintro c _ ⟨rfl,a,b,rfl,h1,h2,h3,h4⟩;exact⟨rfl,a,b,rfl,h1,h3,h4,.inl (by lia)⟩
   ·rintro c _ ⟨rfl,a,b,rfl,h1,h3,h4,h5⟩;dsimp only;generalize e2:hint-a=d at*;generalize e1:hint+1-min b (hint+1)=c;refine F c d ⟨by lia,by lia,fun i i1=>?_,h4⟩;rcases h5 with h5|h5
    ·lia
    ·exact h5 i (by lia)
 ·rintro a b ⟨h1,h2,h3,h4⟩;refine jZ (fun i c s=>st=s/\ ∃a b,c=(none,a,b)/\a<=b/\b<=n/\b<=a+(n-i)/\Lo (gp X left x) A a/\Hi (gp X left x) A b) (fun c s=>st=s/\ ∃a,c=(none,a,a)/\a<=n/\Lo (gp X left x) A a/\Hi (gp X left x) A a) ⟨rfl,a,b,rfl,h1,h2,by lia,h3,h4⟩ ?_ ?_ ?_
  ·rintro i c _ hi ⟨rfl,a,b,rfl,h1,h2,h3,h4,h5⟩;refine fZ (fun z=>?_) fun z=>Az hk hN hx hb (by dsimp only at z ⊢;lia) fun c e=>?_
   ·have:a=b:=by dsimp only at z;lia
    subst this;exact fm ⟨rfl,a,rfl,h2,h4,h5⟩
   ·dsimp only at z
    cases c with
    |true=>exact fm ⟨rfl,_,b,rfl,by dsimp only;lia,h2,by dsimp only;lia,Cd u m (by dsimp only;lia) e,h5⟩
    |false=>exact fm ⟨rfl,a,_,rfl,by dsimp only;lia,by dsimp only;lia,by dsimp only;lia,h4,Cn u m e⟩
  ·rintro c _ ⟨rfl,a,b,rfl,h1,h2,h3,h4,h5⟩;have:a=b:=by lia
   subst this;exact⟨rfl,a,rfl,h2,h4,h5⟩
  ·rintro c _ ⟨rfl,a,rfl,h2,h4,h5⟩;exact fm (h a h2 (Ff h4) (Fl h5))
end
section
variable {X:Cs}{β:Type}{Q:β->SortSt->Prop}{st:oT}{pq:Array (Nat×Nat×Nat)}{q r L Z a b o k:hV}{i j x y:Nat}{le:Nat->Nat->Prop}{out:yZ}
structure MG(le:Nat->Nat->Prop)(Z a b o:hV):Prop where
 s:o.Pairwise le
 c: ∀x∈o,∀y∈a++b,le x y
 p:(o++(a++b)).Perm Z
 ua:a.Pairwise le
 ub:b.Pairwise le
theorem MG.put(m:MG le Z (k++a) b o)(h: ∀x∈k,∀y∈b,le x y):MG le Z a b (o++k):=by
 have ha:=rA.mp m.ua;refine⟨rA.mpr ⟨m.s,ha.1,fun x hx y hy=>m.c x hx y (by simp[hy])⟩,fun x hx y hy=>?_,by simpa using m.p,ha.2.1,m.ub⟩;rcases nF.mp hx with hx|hx
 ·refine m.c x hx y ?_;simp at hy ⊢;exact .inr hy
 ·rcases nF.mp hy with hy|hy
  ·exact ha.2.2 x hx y hy
  ·exact h x hx y hy
def Mg(X:Cs)(le:Nat->Nat->Prop)(Z a b:hV)(out:yZ):Prop:= ∃o,out=ar X o/\MG le Z a b o
def Rs(X:Cs)(Z:hV)(out:yZ):Prop:= ∃o,out=ar X o/\o.Pairwise X.le/\o.Perm Z
theorem Mg.sw(m:Mg X le Z a b out):Mg X le Z b a out:=by
 obtain⟨o,e,m⟩:=m;exact⟨o,e,m.s,fun x hx y hy=>m.c x hx y (by simpa[or_comm] using hy),(M6.append_left o).trans m.p,m.ub,m.ua⟩
theorem Mg.put(m:Mg X le Z a b out){a':hV}{out':yZ}(e:a=k++a')(h: ∀x∈k,∀y∈b,le x y)(e2:out'=out++ar X k):Mg X le Z a' b out':=by
 obtain⟨o,rfl,m⟩:=m;exact⟨o++k,by simpa[ar] using e2,(e▸m).put h⟩
theorem Mg.a1(m:Mg X le Z (q.drop i) b out)(hi:i<q.length)(h: ∀y∈b,le q[i] y):Mg X le Z (q.drop (i+1)) b (out.push (X.it q[i])):=m.put (k:=[q[i]]) (rM hi) (by simpa using h) (by simp[ar])
theorem Mg.ak(m:Mg X le Z (q.drop i) b out)(h: ∀x∈(q.drop i).take j,∀y∈b,le x y):Mg X le Z (q.drop (i+j)) b (out++(ar X q).extract i (i+j)):=m.put (by rw[<-List.drop_drop,rH]) h (by simp[ar,Ah])
theorem Mg.fin(m:Mg X X.le Z (q.drop i) (r.drop j) out)(h: ∀x∈q.drop i,∀y∈r.drop j,X.le x y):Rs X Z (out++(ar X q).extract i (ar X q).size++(ar X r).extract j (ar X r).size):=by
 obtain⟨o,e,m⟩:=((m.put (k:=q.drop i) (a':=[]) (by simp) h rfl).sw).put (k:=r.drop j) (a':=[]) (by simp) (by simp) rfl;exact⟨o,by rw[<-e];simp[ar,Ah,List.take_of_length_le],m.s,by simpa using m.p⟩
theorem Mg.end(m:Mg X X.le Z (q.drop i) (r.drop j) out)(h:q.length<=i\/r.length<=j):Rs X Z (out++(ar X q).extract i (ar X q).size++(ar X r).extract j (ar X r).size):=m.fin fun x hx y hy=>by
 rcases h with h|h
 ·rw[rL h] at hx;cases hx
 ·rw[rL h] at hy;cases hy
theorem Mg.hd(m:Mg X le Z (q.drop i) b out)(tr: ∀{a b c},le a b->le b c->le a c)(hi:i<q.length)(h:le x q[i]): ∀y∈q.drop i,le x y:=fun y hy=>by
 obtain⟨o,_,m⟩:=m;have:=m.ua;rw[rM hi] at this hy;rcases iY.mp hy with rfl|hy
 ·exact h
 ·exact tr h ((CM.mp this).1 y hy)
theorem Ay{f:Unit->StateT SortSt Sem β}{n:Nat}(S:Rp X pq L st)(h: ∀d9,Rp X pq L d9->wp X (f ()) Q d9):wp X (Ln n>>=f) Q st:=rQ (g:=fun s=>SortSt.mk' (kindOf s) (arrOf s) (pendingOf s) n (failedOf s)) (h _ ⟨S.a,S.k,S.f,S.q,S.p⟩)
theorem EC{γ:Type}{k:γ->Nat->StateT SortSt Sem β}{m:StateT SortSt Sem β}(P:γ->Nat->SortSt->Prop)(hm:(∀c n d9,P c n d9->wp X (k c n) Q d9)->wp X m Q st)(hk: ∀c n d9,P c n d9->wp X (k c n) Q d9):wp X m Q st:=hm hk
theorem HM{k:Nat->StateT SortSt Sem β}{m:StateT SortSt Sem β}(P:Nat->SortSt->Prop)(hm:(∀n d9,P n d9->wp X (k n) Q d9)->wp X m Q st)(hk: ∀n d9,P n d9->wp X (k n) Q d9):wp X m Q st:=hm hk
theorem Qi{Q:Array Keyed->SortSt->Prop}(S:Rp X pq L st)(u1:q.Pairwise X.le)(u2:r.Pairwise X.le)(hq: ∀z∈q,z<X.N)(hr: ∀z∈r,z<X.N)(h1:0<q.length)(h2:0<r.length)(hd: ∀y∈q,X.le r[0] y)(top: ∀x∈r,X.le x q[q.length-1])
  (h: ∀out s,Rp X pq L s->Rs X (q++r) out->Q out s):wp X (JM (ar X q) (ar X r)) Q st:=by
 have sq:(ar X q).size=q.length:=by simp
 have sr:(ar X r).size=r.length:=by simp
 have m0:Mg X X.le (q++r) (q.drop 0) (r.drop 1) #[X.it r[0]]:=Mg.sw (Mg.a1 (q:=r) (i:=0) (out:= #[]) ⟨[],rfl,.nil,by simp,by simpa using M6,by simpa using u2,by simpa using u1⟩ h2 hd)
 have last: ∀{out i j},Mg X X.le (q++r) (q.drop i) (r.drop j) out->i+1=q.length->Rs X (q++r) (out++(ar X r).extract j (ar X r).size++(ar X q).extract i (ar X q).size):=fun {_ i j} m e=>m.sw.fin fun x hx y hy=>by
  have hi:i<q.length:=by lia
  rw[rM hi,rL (by lia),Ez] at hy;have:=top x (Ag hx);simpa only[hy,<-e,Nat.add_sub_cancel] using this
 refine qj (jF (x:=r[0]) (by simp[h2]) ?_);refine fZ (fun e=>fm (h _ _ S (m0.end (.inr (by simp at e;lia))))) fun e=>fZ (fun e2=>fm (h _ _ S (last m0 (by simpa using e2)))) fun e2=>lU ?_
 let I:=fun(c:Nat) out ia ib s=>Rp X pq L s/\Mg X X.le (q++r) (q.drop ia) (r.drop ib) out/\ia+1<q.length/\ib<r.length/\c<=ia+ib
 refine jZ (fun i c s=> ∃out ia ib mg,c=(none,out,ia,ib,mg)/\I (i+1) out ia ib s) (fun c s=> ∃out t,c=(some out,t)/\Rp X pq L s/\Rs X (q++r) out) ⟨_,0,1,_,rfl,S,m0,by simp at e2;lia,by simp at e;lia,by lia⟩ ?_ ?_ ?_
 ·rintro i c s _ ⟨out,ia,ib,mg,rfl,i0⟩;refine jZ (fun j c s=> ∃out ia ib ac bc,c=(none,out,ia,ib,ac,bc)/\I (i+1+j) out ia ib s) (fun c s=>(∃out t,c=(some out,t)/\Rp X pq L s/\Rs X (q++r) out)\/ ∃out ia ib ac bc,c=(none,out,ia,ib,ac,bc)/\I (i+1) out ia ib s) ⟨_,_,_,_,_,rfl,i0⟩ ?_ ?_ ?_
  ·rintro j c s _ ⟨out,ia,ib,ac,bc,rfl,S,m,b1,b2,b3⟩;dsimp only;refine jF (x:=r[ib]) (by simp[b2]) (jF (x:=q[ia]) (by simp) (Bx S.k (hr _ (by simp)) (hq _ (by simp)) fun b e=>?_))
   cases b with
   |true=>
    have m2:=(m.sw.a1 b2 (m.hd X.tr (by lia) (X.as _ _ e))).sw;exact jF (x:=r[ib]) (by simp[b2]) (fZ (fun e=>fm (.inl ⟨_,_,rfl,S,m2.end (.inr (by simp at e;lia))⟩)) fun e=>fZ (fun _=>fm (.inr ⟨_,_,_,_,_,rfl,S,m2,b1,by simp at e;lia,by lia⟩)) fun _=>fm ⟨_,_,_,_,_,rfl,S,m2,b1,by simp at e;lia,by lia⟩)
   |false=>
    have m2:=m.a1 (by lia) (m.sw.hd X.tr b2 e);exact jF (x:=q[ia]) (by simp) (fZ (fun e=>fm (.inl ⟨_,_,rfl,S,last m2 (by simpa using e)⟩)) fun e=>fZ (fun _=>fm (.inr ⟨_,_,_,_,_,rfl,S,m2,by simp at e;lia,b2,by lia⟩)) fun _=>fm ⟨_,_,_,_,_,rfl,S,m2,by simp at e;lia,b2,by lia⟩)
  ·rintro c s ⟨out,ia,ib,ac,bc,rfl,S,m,b1,b2,b3⟩;exfalso;lia
  ·rintro c s (⟨out,t,rfl,hs⟩|⟨out,ia,ib,ac,bc,rfl,i0⟩)
   ·exact fm ⟨out,_,rfl,hs⟩
   ·refine qj (jZ (fun j c s=> ∃out ia ib mg ac bc,c=(none,out,ia,ib,mg,ac,bc)/\I (i+1+j) out ia ib s) (fun c s=>(∃out t,c=(some out,t)/\Rp X pq L s/\Rs X (q++r) out)\/ ∃out ia ib mg ac bc,c=(none,out,ia,ib,mg,ac,bc)/\I (i+2) out ia ib s) ⟨_,_,_,_,_,_,rfl,i0⟩ ?_ ?_ ?_)
    ·rintro j c s _ ⟨out,ia,ib,mg,ac,bc,rfl,S,m,b1,b2,b3⟩;dsimp only;apply HM fun _ s=>Rp X pq L s
     ·intro F;refine fZ (fun _=>?_) fun _=>?_
      ·generalize mg-1=g;exact F g s S
      ·exact F mg s S
     intro g s S;refine Ay S fun s S=>jF (x:=r[ib]) (by simp[b2]) (hG (vb (T:=q.take ia) (A:=q.drop ia) (R:=[]) S.k (fun z hz=>hq z (Ag hz)) (hr _ (by simp)) (u1.sublist (C9 _ _)) (by simp) (by simp;lia) (by simp) (by simp;lia) fun k _ t1 t2=>?_));dsimp only;apply EC fun out ia s=>Rp X pq L s/\Mg X X.le (q++r) (q.drop ia) (r.drop ib) out/\ia+1<q.length/\i+1+j<=ia+ib/\ ∀y∈q.drop ia,X.le r[ib] y
     ·intro F;have mk:=m.ak (j:=k) fun x hx y hy=>m.sw.hd (x:=x) X.tr b2 (by simpa using t1 x hx) y hy;have hb: ∀y∈q.drop (ia+k),X.le r[ib] y:=fun y hy=>X.as _ _ (by simpa using t2 y (by simpa using hy));refine fZ (fun e=>?_) fun e=>?_
      ·refine fZ (fun e1=>fm (.inl ⟨_,_,rfl,S,last mk (by simpa using e1)⟩)) fun e1=>fZ (fun e2=>fm (.inl ⟨_,_,rfl,S,mk.end (.inl (by simp at e2;lia))⟩)) fun e2=>?_;generalize out++(ar X q).extract ia (ia+k)=out at mk ⊢;generalize ea:ia+k=ic at mk hb e1 e2 ⊢;exact F out ic s ⟨S,mk,by simp at e1 e2;lia,by lia,hb⟩
      ·rw[show k=0 by lia] at hb;exact F out ia s ⟨S,m,b1,b3,hb⟩
     rintro out ia s ⟨S,m,b1,b3,hb⟩;have m2:=(m.sw.a1 b2 hb).sw;refine jF (x:=r[ib]) (by simp[b2]) (fZ (fun e=>fm (.inl ⟨_,_,rfl,S,m2.end (.inr (by simp at e;lia))⟩)) fun e=>jF (x:=q[ia]) (by simp) (hG (vb (T:=r.take (ib+1)) (A:=r.drop (ib+1)) (R:=[]) S.k (fun z hz=>hr z (Ag hz)) (hq _ (by simp)) (u2.sublist (C9 _ _)) (by simp) (by simp;lia) (by simp) (by simp at e ⊢;lia) fun k2 _ t1 t2=>?_)));dsimp only;apply EC fun out ib s=>Rp X pq L s/\Mg X X.le (q++r) (q.drop ia) (r.drop ib) out/\ib<r.length/\i+1+j<ia+ib/\ ∀y∈r.drop ib,X.le q[ia] y
     ·intro F;have mk:=(m2.sw.ak (j:=k2) fun x hx y hy=>m2.hd X.tr (by lia) (X.as _ _ (t1 x hx)) y hy).sw;have hb: ∀y∈r.drop (ib+1+k2),X.le q[ia] y:=fun y hy=>t2 y (by simpa using hy);refine fZ (fun _=>?_) fun e3=>?_
      ·refine fZ (fun e2=>fm (.inl ⟨_,_,rfl,S,mk.end (.inr (by simp at e2;lia))⟩)) fun e2=>?_;generalize out.push (X.it r[ib])++(ar X r).extract (ib+1) (ib+1+k2)=out at mk ⊢;generalize ea:ib+1+k2=ic at mk hb e2 ⊢;exact F out ic s ⟨S,mk,by simp at e2;lia,by lia,hb⟩
      ·rw[show k2=0 by lia] at hb;exact F _ _ s ⟨S,m2,by simp at e;lia,by lia,hb⟩
     rintro out ib s ⟨S,m,b2,b3,hb⟩;have m2:=m.a1 (by lia) hb;exact jF (x:=q[ia]) (by simp) (fZ (fun e=>fm (.inl ⟨_,_,rfl,S,last m2 (by simpa using e)⟩)) fun e=>fZ (fun _=>fm (.inr ⟨_,_,_,_,_,_,rfl,S,m2,by simp at e;lia,b2,by lia⟩)) fun _=>fm ⟨_,_,_,_,_,_,rfl,S,m2,by simp at e;lia,b2,by lia⟩)
    ·rintro c s ⟨out,ia,ib,mg,ac,bc,rfl,S,m,b1,b2,b3⟩;exfalso;lia
    ·rintro c s (⟨out,t,rfl,hs⟩|⟨out,ia,ib,mg,ac,bc,rfl,S,i0⟩)
     ·exact fm ⟨out,_,rfl,hs⟩
     ·exact Ay S fun s S=>fm ⟨_,_,_,_,rfl,S,i0⟩
 ·rintro c s ⟨out,ia,ib,mg,rfl,S,m,b1,b2,b3⟩;exfalso;lia
 ·rintro c s ⟨out,t,rfl,S,m⟩;exact fm (h _ _ S m)
end
section
variable {X:Cs}{β:Type}{Q:β->SortSt->Prop}{st:oT}{pq:Array (Nat×Nat×Nat)}{q r L Z a b o k:hV}{i j x y n:Nat}{out:yZ}
theorem ss1(n:Nat):n+1-1=n:=rfl
abbrev Cs.ge(X:Cs)(i j:Nat):Prop:=X.le j i
theorem Mg.h1(m:Mg X X.ge Z (q.take (n+1)).reverse b out)(hi:n<q.length)(h: ∀y∈b,X.le y q[n]):Mg X X.ge Z (q.take n).reverse b (out.push (X.it q[n])):=m.put (k:=[q[n]]) (by rw[C8];simp[hi]) (by simpa using h) (by simp[ar])
theorem Mg.hk(m:Mg X X.ge Z (q.take n).reverse b out)(hi:i<=n)(h: ∀x∈(q.take n).drop i,∀y∈b,X.le y x):Mg X X.ge Z (q.take i).reverse b (out++((ar X q).extract i n).reverse):=m.put (k:=((q.take n).drop i).reverse) (by rw[<-List.reverse_append,<-wB hi,<-List.take_take,wB hi,rH]) (by simpa using h) (by simp[ar,List.extract_eq_drop_take'])
theorem Mg.finH(m:Mg X X.ge Z (q.take i).reverse (r.take j).reverse out)(h: ∀x∈q.take i,∀y∈r.take j,X.le x y):Rs X Z ((ar X q).extract 0 i++(ar X r).extract 0 j++out.reverse):=by
 obtain⟨o,e,m⟩:=(m.sw.put (k:=(r.take j).reverse) (a':=[]) (by simp) (by simpa using fun x hx y hy=>h y hy x hx) rfl).sw.put (k:=(q.take i).reverse) (a':=[]) (by simp) (by simp) rfl;refine⟨o.reverse,?_,Dz.mpr m.s,(wD o).trans (by simpa using m.p)⟩;have:=lH Array.reverse e;simpa[ar,Ah] using this
theorem Mg.endH(m:Mg X X.ge Z (q.take i).reverse (r.take j).reverse out)(h:i=0\/j=0):Rs X Z ((ar X q).extract 0 i++(ar X r).extract 0 j++out.reverse):=m.finH fun x hx y hy=>by
 rcases h with rfl|rfl
 ·cases hx
 ·cases hy
theorem Mg.hdH(m:Mg X X.ge Z (q.take (n+1)).reverse b out)(hi:n<q.length)(h:X.le q[n] x): ∀y∈(q.take (n+1)).reverse,X.le y x:=fun y hy=>by
 obtain⟨o,_,m⟩:=m;have:=m.ua;rw[show(q.take (n+1)).reverse=q[n]::(q.take n).reverse by rw[C8];simp[hi]] at this hy;rcases iY.mp hy with rfl|hy
 ·exact h
 ·exact X.tr ((CM.mp this).1 y hy) h
theorem Qk{Q:Array Keyed->SortSt->Prop}(S:Rp X pq L st)(u1:q.Pairwise X.le)(u2:r.Pairwise X.le)(hq: ∀z∈q,z<X.N)(hr: ∀z∈r,z<X.N)(h1:0<q.length)(h2:0<r.length)(hd: ∀y∈q,X.le r[0] y)(top: ∀x∈r,X.le x q[q.length-1])
  (h: ∀out s,Rp X pq L s->Rs X (q++r) out->Q out s):wp X (JN (ar X q) (ar X r)) Q st:=by
 have sq:(ar X q).size=q.length:=by simp
 have sr:(ar X r).size=r.length:=by simp
 have m0:Mg X X.ge (q++r) (q.take (q.length-1)).reverse (r.take r.length).reverse #[X.it q[q.length-1]]:=Mg.h1 (out:= #[]) ⟨[],rfl,.nil,by simp,by simpa[Nat.sub_add_cancel h1] using(wD q).append (wD r),by simpa[Nat.sub_add_cancel h1,Dz] using u1,by simpa[Dz] using u2⟩ (by lia) (by simpa using top)
 have last: ∀{out i},Mg X X.ge (q++r) (q.take i).reverse (r.take 1).reverse out->Rs X (q++r) ((ar X r).extract 0 1++(ar X q).extract 0 i++out.reverse):=fun m=>m.sw.finH fun x hx y hy=>by
  obtain⟨b,r,rfl⟩:=ph h2;simp at hx;subst hx;exact hd y (uP hy)
 refine qj (jF (x:=q[q.length-1]) (by simp[h1]) ?_);rw[sq,sr];refine fZ (fun e=>fm (h _ _ S (m0.endH (.inl (by simpa using e))))) fun e=>fZ (fun e2=>fm (h _ _ S ?_)) fun e2=>lU ?_
 ·have e2:r.length=1:=by simpa using e2
  rw[e2] at m0 ⊢;exact last m0
 let I:=fun(c:Nat) out na nb s=>Rp X pq L s/\Mg X X.ge (q++r) (q.take na).reverse (r.take nb).reverse out/\0<na/\na<=q.length/\1<nb/\nb<=r.length/\c+na+nb<=q.length+r.length
 refine jZ (fun i c s=> ∃na nb out mg,c=(none,na,nb,out,mg)/\I (i+1) out na nb s) (fun c s=> ∃out t,c=(some out,t)/\Rp X pq L s/\Rs X (q++r) out) ⟨_,_,_,_,rfl,S,m0,by simp at e;lia,by lia,by simp at e2;lia,by lia,by lia⟩ ?_ ?_ ?_
 ·rintro i c s _ ⟨na,nb,out,mg,rfl,i0⟩;refine jZ (fun j c s=> ∃na nb out ac bc,c=(none,na,nb,out,ac,bc)/\I (i+1+j) out na nb s) (fun c s=>(∃out t,c=(some out,t)/\Rp X pq L s/\Rs X (q++r) out)\/ ∃na nb out ac bc,c=(none,na,nb,out,ac,bc)/\I (i+1) out na nb s) ⟨_,_,_,_,_,rfl,i0⟩ ?_ ?_ ?_
  ·rintro j c s _ ⟨na,nb,out,ac,bc,rfl,S,m,b1,b2,b3,b4,b5⟩;obtain⟨n,rfl⟩: ∃n,na=n+1:=⟨na-1,by lia⟩
   obtain⟨p,rfl⟩: ∃n,nb=n+1:=⟨nb-1,by lia⟩
   dsimp only[ss1];refine jF (x:=r[p]) (by simp) (jF (x:=q[n]) (by simp) (Bx S.k (hr _ (by simp)) (hq _ (by simp)) fun b e=>?_))
   cases b with
   |true=>
    have m2:=m.h1 (by lia) (m.sw.hdH (by lia) (X.as _ _ e));exact jF (x:=q[n]) (by simp) (fZ (fun e=>fm (.inl ⟨_,_,rfl,S,m2.endH (.inl (by simpa using e))⟩)) fun e=>fZ (fun _=>fm (.inr ⟨_,_,_,_,_,rfl,S,m2,by simp at e;lia,by lia,b3,b4,by lia⟩)) fun _=>fm ⟨_,_,_,_,_,rfl,S,m2,by simp at e;lia,by lia,b3,b4,by lia⟩)
   |false=>
    have m2:=(m.sw.h1 (by lia) (m.hdH (by lia) e)).sw;refine jF (x:=r[p]) (by simp) (fZ (fun e=>?_) fun e=>fZ (fun _=>fm (.inr ⟨_,_,_,_,_,rfl,S,m2,b1,b2,by simp at e;lia,by lia,by lia⟩)) fun _=>fm ⟨_,_,_,_,_,rfl,S,m2,b1,b2,by simp at e;lia,by lia,by lia⟩);obtain rfl:p=1:=by simpa using e
    exact fm (.inl ⟨_,_,rfl,S,last m2⟩)
  ·rintro c s ⟨na,nb,out,ac,bc,rfl,S,m,b1,b2,b3,b4,b5⟩;exfalso;lia
  ·rintro c s (⟨out,t,rfl,hs⟩|⟨na,nb,out,ac,bc,rfl,i0⟩)
   ·exact fm ⟨out,_,rfl,hs⟩
   ·refine qj (jZ (fun j c s=> ∃na nb out mg ac bc,c=(none,na,nb,out,mg,ac,bc)/\I (i+1+j) out na nb s) (fun c s=>(∃out t,c=(some out,t)/\Rp X pq L s/\Rs X (q++r) out)\/ ∃na nb out mg ac bc,c=(none,na,nb,out,mg,ac,bc)/\I (i+2) out na nb s) ⟨_,_,_,_,_,_,rfl,i0⟩ ?_ ?_ ?_)
    ·rintro j c s _ ⟨na,nb,out,mg,ac,bc,rfl,S,m,b1,b2,b3,b4,b5⟩;obtain⟨p,rfl⟩: ∃n,nb=n+1:=⟨nb-1,by lia⟩
     dsimp only[ss1];apply HM fun _ s=>Rp X pq L s
     ·intro F;refine fZ (fun _=>?_) fun _=>?_
      ·generalize mg-1=g;exact F g s S
      ·exact F mg s S
     intro g s S;refine Ay S fun s S=>jF (x:=r[p]) (by simp) (hG (vb (T:=[]) (A:=q.take na) (R:=q.drop na) S.k (fun z hz=>hq z (uP hz)) (hr _ (by simp)) (u1.sublist (uV _ _)) (by simp) rfl (by simp;lia) (by lia) fun k hk t1 t2=>?_));dsimp only;apply EC fun out na s=>Rp X pq L s/\Mg X X.ge (q++r) (q.take na).reverse (r.take (p+1)).reverse out/\0<na/\na<=q.length/\i+1+j+na+p<q.length+r.length/\ ∀y∈q.take na,X.le y r[p]
     ·intro F;have mk:=m.hk hk fun x hx y hy=>m.sw.hdH (x:=x) (by lia) (X.as _ _ (by simpa using t2 x hx)) y hy;have hb: ∀y∈q.take k,X.le y r[p]:=fun y hy=>by simpa using t1 y (by rwa [List.take_take,wB hk])
      refine fZ (fun e=>?_) fun e=>?_
      ·refine fZ (fun e1=>fm (.inl ⟨_,_,rfl,S,mk.endH (.inl (by simpa using e1))⟩)) fun e1=>?_;generalize out++((ar X q).extract k na).reverse=out at mk ⊢;generalize ea:k=ic at mk hb e1 ⊢;exact F out ic s ⟨S,mk,by simp at e1;lia,by lia,by lia,hb⟩
      ·obtain rfl:k=na:=by lia
       exact F out _ s ⟨S,m,b1,b2,by lia,hb⟩
     rintro out na' s ⟨S,m,b1,b2,b5,hb⟩;have m2:=(m.sw.h1 (by lia) (by simpa using hb)).sw;obtain⟨n,rfl⟩: ∃n,na'=n+1:=⟨na'-1,by lia⟩
     dsimp only[ss1];refine jF (x:=r[p]) (by simp) (fZ (fun e=>?_) fun e=>jF (x:=q[n]) (by simp) (hG (vb (T:=[]) (A:=r.take p) (R:=r.drop p) S.k (fun z hz=>hr z (uP hz)) (hq _ (by simp)) (u2.sublist (uV _ _)) (by simp) rfl (by simp;lia) (by lia) fun k2 bC t1 t2=>?_)))
     ·obtain rfl:p=1:=by simpa using e
      exact fm (.inl ⟨_,_,rfl,S,last m2⟩)
     dsimp only;apply EC fun out nb s=>Rp X pq L s/\Mg X X.ge (q++r) (q.take (n+1)).reverse (r.take nb).reverse out/\1<nb/\nb<=r.length/\i+1+j+(n+1)+nb<q.length+r.length/\ ∀y∈r.take nb,X.le y q[n]
     ·intro F;have mk:=(m2.sw.hk bC fun x hx y hy=>m2.hdH (x:=x) (by lia) (t2 x hx) y hy).sw;have hc: ∀y∈r.take k2,X.le y q[n]:=fun y hy=>X.as _ _ (t1 y (by rwa [List.take_take,wB bC]));refine fZ (fun _=>?_) fun e3=>?_
      ·refine fZ (fun e1=>?_) fun e1=>fZ (fun e2=>fm (.inl ⟨_,_,rfl,S,mk.endH (.inr (by simpa using e2))⟩)) fun e2=>?_
       ·obtain rfl:k2=1:=by simpa using e1
        exact fm (.inl ⟨_,_,rfl,S,last mk⟩)
       generalize out.push (X.it r[p])++((ar X r).extract k2 p).reverse=out at mk ⊢;generalize ea:k2=ic at mk hc e1 e2 ⊢;exact F out ic s ⟨S,mk,by simp at e1 e2;lia,by lia,by lia,hc⟩
      ·obtain rfl:k2=p:=by lia
       exact F _ _ s ⟨S,m2,by simp at e;lia,by lia,b5,hc⟩
     rintro out nb s ⟨S,m,b3,b4,b5,hb⟩;have m2:=m.h1 (by lia) (by simpa using hb);exact jF (x:=q[n]) (by simp) (fZ (fun e=>fm (.inl ⟨_,_,rfl,S,m2.endH (.inl (by simpa using e))⟩)) fun e=>fZ (fun _=>fm (.inr ⟨_,_,_,_,_,_,rfl,S,m2,by simp at e;lia,by lia,b3,b4,by lia⟩)) fun _=>fm ⟨_,_,_,_,_,_,rfl,S,m2,by simp at e;lia,by lia,b3,b4,by lia⟩)
    ·rintro c s ⟨na,nb,out,mg,ac,bc,rfl,S,m,b1,b2,b3,b4,b5⟩;exfalso;lia
    ·rintro c s (⟨out,t,rfl,hs⟩|⟨na,nb,out,mg,ac,bc,rfl,S,i0⟩)
     ·exact fm ⟨out,_,rfl,hs⟩
     ·exact Ay S fun s S=>fm ⟨_,_,_,_,rfl,S,i0⟩
 ·rintro c s ⟨na,nb,out,mg,rfl,S,m,b1,b2,b3,b4,b5⟩;exfalso;lia
 ·rintro c s ⟨out,t,rfl,S,m⟩;exact fm (h _ _ S m)
end
section
variable {X:Cs}{β:Type}{Q:β->SortSt->Prop}{st:oT}{pq:Array (Nat×Nat×Nat)}{T A B R L:hV}{i j x y n s:Nat}{Ls Ms:List (List Nat)}{ps qs:List (Nat×Nat×Nat)}
theorem Kl{α:Type}: ∀(m K T R:List α) (j a:Nat),a+j=T.length->K.length=m.length->(m.zipIdx j).foldl (fun(x:Array α) (p:α×Nat)=>x.setIfInBounds (a+p.2) p.1) (T++(K++R)).toArray=(T++(m++R)).toArray:=by
 intro iV
 induction iV with
 |nil=>
  intro K T R j a h hl;rw[wC hl];rfl
 |cons y m iH=>
  intro K T R j a h hl;obtain⟨k,K,rfl⟩:=ph (l:=K) (by simp[hl]);rw[List.zipIdx_cons,pz];have:=iH K (T++[y]) R (j+1) a (by simp;lia) (by simpa using hl);simpa[h] using this
def Rn(X:Cs):Nat->List (List Nat)->List (Nat×Nat×Nat)->Prop
 |_,[],[]=>True
 |s,A::Ls,p::ps=>p.1=s/\p.2.1=A.length/\A≠[]/\A.Pairwise X.le/\Rn X (s+A.length) Ls ps
 |_,_,_=>False
theorem Rn.cut: ∀{ps:List (Nat×Nat×Nat)} {s:Nat} {Ls:List (List Nat)},Rn X s Ls (ps++qs)-> ∃L1 L2,Ls=L1++L2/\Rn X (s+L1.flatten.length) L2 qs/\ ∀M q,Rn X (s+L1.flatten.length) M q->Rn X s (L1++M) (ps++q)
 |[],s,Ls,h=>⟨[],Ls,rfl,h,fun _ _ h=>h⟩
 |p::ps,s,[],h=>h.elim
 |p::ps,s,A::Ls,h=>by
  obtain⟨h1,h2,h3,h4,h5⟩:=h;obtain⟨L1,L2,rfl,h6,h7⟩:=Rn.cut h5;have e:s+(A::L1).flatten.length=s+A.length+L1.flatten.length:=by simp;lia
  exact⟨A::L1,L2,rfl,e▸h6,fun M q h=>⟨h1,h2,h3,h4,h7 M q (e▸h)⟩⟩
theorem NB{s:oT}{f:PUnit->StateT SortSt Sem β}(h:wp X (f ⟨⟩) Q s):wp X (set s>>=f) Q st:=hG fun _ g=>by rw[StateT.run_set];exact fH ⟨g,h⟩
theorem upA(u:A.Pairwise X.le)(v:B.Pairwise X.le)(h: ∀a∈A,∀b∈B,X.le a b):(A++B).Pairwise X.le:=rA.mpr ⟨u,v,h⟩
theorem Nx(hL:L=T++(A++R))(hi:i=T.length)(hj:j=T.length+A.length):(ar X L).extract i j=ar X A:=by
 subst hL hi hj;simp[ar,Ah]
theorem M7{Q:Bool->SortSt->Prop}(S:Rp X pq (Ls.flatten++R) st)(hr:Rn X 0 Ls pq.toList)(hi:i+1<pq.size)(h: ∀d9 ba eS,Rp X ba (eS.flatten++R) d9->Rn X 0 eS ba.toList->ba.size+1=pq.size->eS.flatten.length=Ls.flatten.length->Q true d9):wp X (mergeAt' i) Q st:=by
 obtain⟨pq⟩:=pq
 obtain⟨p1,⟨sa,na,pw⟩,⟨sb,nb,cV⟩,p2,rfl,rfl⟩: ∃p1 x y p2,pq=p1++x::y::p2/\p1.length=i:=by
  have hi:i+1<pq.length:=hi;exact⟨pq.take i,pq[i],pq[i+1],pq.drop (i+2),by simp,by simp;lia⟩
 obtain⟨L1,L2,rfl,h2,h3⟩:=Rn.cut hr
 obtain⟨A,B,L2,rfl⟩: ∃A B L,L2=A::B::L:=by
  match L2,h2 with
  |A::B::L,_=>exact⟨A,B,L,rfl⟩
  |[A],h=>exact h.2.2.2.2.elim
  |[],h=>exact h.elim
 obtain⟨ha,t6,a1,a2,hb,bz,b1,b2,h4⟩:=h2;dsimp only at ha t6 hb bz;obtain⟨κ',a',p',g,f'⟩:=st;have e1:a'=_:=S.a;have e2:p'=_:=S.q;subst e1 e2;rw[show(L1++A::B::L2).flatten++R=L1.flatten++(A++(B++(L2.flatten++R))) by simp] at S ⊢
 have fin: ∀d9 M,Rp X (p1++(sa,na+nb,pw)::p2).toArray (L1.flatten++(M++(L2.flatten++R))) d9->M.Perm (A++B)->M.Pairwise X.le->Q true d9:=fun d9 M S' em u=>by
  have em:=em.length_eq;rw[lr,<-t6,<-bz] at em;refine h _ (p1++(sa,na+nb,pw)::p2).toArray (L1++M::L2) (by simpa using S') (h3 _ _ ⟨ha,em.symm,fun e=>a1 ?_,u,by rwa [em,t6,bz,<-uO]⟩) (by simp;lia) (by simp;lia);exact wC (by rw[e] at em;simp at em;lia)
 have ep: ∀z,((p1++(sa,na,pw)::(sb,nb,cV)::p2).toArray.setIfInBounds p1.length z).eraseIdxIfInBounds (p1.length+1)=(p1++z::p2).toArray:=fun z=>by simp[List.set_append,List.eraseIdx_append];intro;lia
 clear h h3 h4 hr;generalize L1.flatten=T at*;generalize L2.flatten++R=R at*;have hN: ∀z,z∈A\/z∈B->z<X.N:=fun z hz=>by simpa using S.p.mem_iff.mp (nC _ (by rcases hz with h|h<;>simp[h]))
 obtain⟨y,B',eB⟩:=List.exists_cons_of_ne_nil b1
 have hy: ∀z∈B,X.le y z:=fun z hz=>by
  rw[eB] at b2 hz;rcases iY.mp hz with rfl|hz
  ·exact X.rf _
  ·exact(CM.mp b2).1 z hz
 refine lU ?_;dsimp only;rw[show(p1++(sa,na,pw)::(sb,nb,cV)::p2).toArray[p1.length]?=some (sa,na,pw) by simp,show(p1++(sa,na,pw)::(sb,nb,cV)::p2).toArray[p1.length+1]?=some (sb,nb,cV) by simp];dsimp only;rw[ep];refine NB (jF (x:=y) (by rw[eB];exact ix0 (by lia)) (hG (vb S.k (fun z h=>hN z (.inl h)) (hN y (.inr (by simp[eB]))) a2 rfl (by lia) t6.symm (by have:=Lb.mpr a1;lia) fun k hk t1 t2=>?_)));have S2:Rp X (p1++(sa,na+nb,pw)::p2).toArray (T++(A++(B++R))) (SortSt.mk' κ' (ar X (T++(A++(B++R)))) (p1++(sa,na+nb,pw)::p2).toArray g f'):=⟨rfl,S.k,S.f,rfl,S.p⟩
 have done:(∀a∈A,X.le a y)->Q true (SortSt.mk' κ' (ar X (T++(A++(B++R)))) (p1++(sa,na+nb,pw)::p2).toArray g f'):=fun z=>fin _ (A++B) (by simpa using S2) (.refl _) (upA a2 b2 fun a ha b hb=>X.tr (z a ha) (hy b hb));rw[t6] at hk;obtain⟨A1,A2,rfl,rfl⟩: ∃A1 A2,A=A1++A2/\A1.length=k:=⟨A.take k,A.drop k,by simp,by simp;lia⟩
 have t1: ∀z∈A1,X.le z y:=fun z hz=>by simpa using t1 z (by simpa using hz)
 have t2: ∀z∈A2,X.le y z:=fun z hz=>X.as _ _ (by simpa using t2 z (by simpa using hz));rw[lr] at t6 hb;dsimp only;rcases Hy A2 with e|⟨A3,x,e⟩
 ·subst e;rw[fJ (by simp[t6])];exact fm (done (by simpa using t1))
 rw[Hx] at e;have l1:0<A2.length:=by simp[e]
 rw[fR (by simp;lia)];refine jF (x:=x) (by rw[e,show T++(A1++(A3++[x])++(B++R))=T++((A1++A3)++x::(B++R)) by simp];exact ix0 (by have:=lH List.length e;simp at this ⊢;lia)) (hG (vb (T:=T++(A1++A2)) (R:=R) S.k (fun z h=>hN z (.inr h)) (hN x (.inl (by simp[e]))) b2 (by rw[<-mE]) (by simp;lia) bz.symm (by have:=Lb.mpr b1;lia) fun k2 bC t3 t4=>?_));rw[bz] at bC;obtain⟨B1,B2,rfl,rfl⟩: ∃B1 B2,B=B1++B2/\B1.length=k2:=⟨B.take k2,B.drop k2,by simp,by simp;lia⟩
 have v3: ∀z∈B1,X.le z x:=fun z hz=>X.as _ _ (by simpa using t3 z (by simpa using hz));have v4: ∀z∈B2,X.le x z:=fun z hz=>by simpa using t4 z (by simpa using hz)
 have lx: ∀a∈A1++A2,X.le a x:=by
  rw[e,<-mE] at a2 ⊢;exact Ci X.tr a2 (X.rf x)
 cases B1 with
 |nil=>exact fm (done fun a ha=>X.tr (lx a ha) (v4 y (by simp[show B2=y::B' from eB])))
 |cons b B1=>
  obtain rfl:b=y:=(pe eB).1;refine fZ (fun c=>by simp at c) fun _=>?_;rw[Nx (A:=A2) (T:=T++A1) (R:=b::B1++B2++R) (by simp) (by simp;lia) (by simp;lia),Nx (A:=b::B1) (T:=T++(A1++A2)) (R:=B2++R) (by simp) (by simp;lia) (by simp;lia)]
  have fin3: ∀out s,Rp X (p1++(sa,na+nb,pw)::p2).toArray (T++(A1++A2++(b::B1++B2++R))) s->Rs X (A2++b::B1) out->Q (failedOf s).isNone (setArr s (out.toList.zipIdx.foldl (fun a x=>a.setIfInBounds (sa+A1.length+x.2) x.1) (arrOf s))):=fun out s S' ho=>by
   obtain⟨M,rfl,u,hp⟩:=ho;rw[S'.f,S'.a];refine fin _ (A1++(M++B2)) ⟨?_,S'.k,S'.f,S'.q,List.Perm.trans ?_ S'.p⟩ ?_ ?_
   ·have:=Kl (M.map X.it) ((A2++b::B1).map X.it) ((T++A1).map X.it) ((B2++R).map X.it) 0 (sa+A1.length) (by simp;lia) (by simpa using hp.length_eq.symm);simpa[ar] using this
   ·simpa using(((hp.append_right (B2++R)).append_left A1).append_left T)
   ·simpa using((hp.append_right B2).append_left A1)
   ·rw[rA] at a2 b2;refine upA a2.1 (upA u b2.2.1 fun a ha c hc=>?_) fun a ha c hc=>?_
    ·rcases nF.mp (hp.mem_iff.mp ha) with ha|ha
     ·exact X.tr (lx a (by simp[ha])) (v4 c hc)
     ·exact b2.2.2 a ha c hc
    ·have hc:c∈A2\/c∈b::B1++B2:=by
      rcases nF.mp hc with hc|hc
      ·rcases nF.mp (hp.mem_iff.mp hc) with hc|hc
       ·exact .inl hc
       ·exact .inr (Aw _ hc)
      ·exact .inr (nC _ hc)
     rcases hc with hc|hc
     ·exact a2.2.2 a ha c hc
     ·exact X.tr (t1 a ha) (hy c hc)
  have hd: ∀z∈A2,X.le (b::B1)[0] z:=t2;have top: ∀z∈b::B1,X.le z A2[A2.length-1]:=fun z hz=>by subst e;simpa using v3 z hz
  have l2:0<(b::B1).length:=by simp
  have h3: ∀z∈A2,z<X.N:=fun z hz=>hN z (.inl (by simp[hz]));have h4: ∀z∈b::B1,z<X.N:=fun z hz=>hN z (.inr (Aw _ hz));have u1:=(rA.mp a2).2.1;have u2:=(rA.mp b2).1;exact fZ (fun c=>hG (Qi S2 u1 u2 h3 h4 l1 l2 hd top fun out s S' ho=>rQ (lU (fm (fin3 out s S' ho))))) fun c=>hG (Qk S2 u1 u2 h3 h4 l1 l2 hd top fun out s S' ho=>rQ (lU (fm (fin3 out s S' ho))))
end
section
variable {X:Cs}{st:oT}{pq:Array (Nat×Nat×Nat)}{A L:hV}
theorem Rn.mod{w:Nat}: ∀{ps:List (Nat×Nat×Nat)} {s:Nat} {Ls:List (List Nat)} (i:Nat),Rn X s Ls ps->Rn X s Ls (ps.modify i fun x=>(x.1,x.2.1,w))
 |[],s,Ls,i,h=>by cases i<;>exact h
 |p::ps,s,[],i,h=>h.elim
 |p::ps,s,A::Ls,0,h=>h
 |p::ps,s,A::Ls,i+1,h=>⟨h.1,h.2.1,h.2.2.1,h.2.2.2.1,Rn.mod i h.2.2.2.2⟩
theorem Rn.le: ∀{ps:List (Nat×Nat×Nat)} {s:Nat} {Ls:List (List Nat)},Rn X s Ls ps->ps.length<=Ls.flatten.length
 |[],s,Ls,h=>kA _
 |p::ps,s,[],h=>h.elim
 |p::ps,s,A::Ls,h=>by
  have:=Rn.le h.2.2.2.2;have:=Lb.mpr h.2.2.1;simp at*;omega
theorem Rn.push{A:hV}{w:Nat}: ∀{ps:List (Nat×Nat×Nat)} {s:Nat} {Ls:List (List Nat)},Rn X s Ls ps->A≠[]->A.Pairwise X.le->Rn X s (Ls++[A]) (ps++[(s+Ls.flatten.length,A.length,w)])
 |[],s,[],h,a,u=>⟨rfl,rfl,a,u,trivial⟩
 |[],s,A::Ls,h,a,u=>h.elim
 |p::ps,s,[],h,a,u=>h.elim
 |p::ps,s,B::Ls,h,a,u=>⟨h.1,h.2.1,h.2.2.1,h.2.2.2.1,by simpa[uO] using Rn.push (w:=w) h.2.2.2.2 a u⟩
theorem Le{Q:Unit->SortSt->Prop}(S:Rp X #[] L st)(h: ∀d9 pq L,Rp X pq L d9->L.Pairwise X.le->Q () d9):wp X sortRuns' Q st:=by
 have hz:(arrOf st).size=X.N:=by rw[S.a];simpa using S.p.length_eq
 have hn: ∀{pq L st},Rp X pq L st->L.length=X.N:=fun S=>by simpa using S.p.length_eq
 rw[sortRuns'_eq];refine lU ?_;rw[hz];dsimp only;refine jZ (fun i c s=> ∃pq,∃Ls:List (List Nat),∃R,c=(none,Ls.flatten.length)/\Rp X pq (Ls.flatten++R) s/\Rn X 0 Ls pq.toList/\i<=Ls.flatten.length) (fun c s=>c.1=none/\ ∃pq Ls,Rp X pq Ls.flatten s/\Rn X 0 Ls pq.toList) ⟨#[],[],L,rfl,S,trivial,kA _⟩ ?_ ?_ ?_
 ·rintro i c s hi ⟨pq,Ls,R,rfl,S,hr,hl⟩;have hN:=hn S;dsimp only;refine fZ (fun e=>?_) fun e=>?_
  ·obtain rfl:R=[]:=wC (by simp at hN e;omega);exact fm ⟨rfl,pq,Ls,by simpa using S,hr⟩
  obtain⟨x,R,rfl⟩:=ph (l:=R) (by simp at hN e;omega);refine hG (HN S rfl (by simp at hN ⊢;omega) fun A R s S a1 u hm=>?_);apply HM fun n s=> ∃A R,n=A.length/\Rp X pq (Ls.flatten++(A++R)) s/\A≠[]/\A.Pairwise X.le
  ·intro F;have h0:=Lb.mpr a1;refine fZ (fun e=>?_) fun e=>?_
   ·refine qj (hG (ND S rfl rfl h0 (by simp at hN;omega) (by omega) u fun A R s S hl u=>fZ (fun c=>by simp at c) fun _=>?_));generalize ec:min (X.N-Ls.flatten.length) (minRun' X.N X.N 0)=n at hl ⊢;exact F n s ⟨A,R,hl.symm,S,by intro z;subst z;simp at hl e;omega,u⟩
   ·exact F A.length s ⟨A,R,rfl,S,a1,u⟩
  rintro _ s ⟨A,R,rfl,S,a1,u⟩;refine lU ?_;apply M8 fun s=> ∃pq Ms,Rp X pq (Ms.flatten++(A++R)) s/\Rn X 0 Ms pq.toList/\Ms.flatten.length=Ls.flatten.length
  ·intro F;rw[S.q]
   cases pq.back? with
   |none=>exact F s ⟨pq,Ls,S,hr,rfl⟩
   |some z=>
    refine jZ (fun _ c s=>c=(none,())/\ ∃pq Ms,Rp X pq (Ms.flatten++(A++R)) s/\Rn X 0 Ms pq.toList/\Ms.flatten.length=Ls.flatten.length) (fun c s=>c=(none,())/\ ∃pq Ms,Rp X pq (Ms.flatten++(A++R)) s/\Rn X 0 Ms pq.toList/\Ms.flatten.length=Ls.flatten.length) ⟨rfl,pq,Ls,S,hr,rfl⟩ ?_ (fun _ _ h=>h) ?_
    ·rintro j c s _ ⟨rfl,pq,Ms,S,hr,hl⟩;refine lU ?_;rw[S.q]
     cases hc:(if pq.size>1 then pq[pq.size-2]? else none) with
     |none=>exact fm ⟨rfl,pq,Ms,S,hr,hl⟩
     |some z=>
      refine fZ (fun _=>fm ⟨rfl,pq,Ms,S,hr,hl⟩) fun _=>hG (M7 S hr ?_ fun s ba eR S hr _ du=>fZ (fun c=>by simp at c) fun _=>fm ⟨rfl,ba,eR,S,hr,du.trans hl⟩);split at hc
      ·omega
      ·cases hc
    ·rintro c s ⟨rfl,pq,Ms,S,hr,hl⟩;exact rQ (F _ ⟨_,Ms,⟨S.a,S.k,S.f,rfl,S.p⟩,by rw[S.q,Array.toList_modify];exact hr.mod _,hl⟩)
  ·rintro s ⟨pq,Ms,S,hr,hl⟩;refine rQ (fm ⟨_,Ms++[A],R,?_,⟨by simpa using S.a,S.k,S.f,rfl,by simpa using S.p⟩,?_,?_⟩)
   ·rw[List.flatten_append,lr,hl];simp
   ·rw[S.q,Array.toList_push,<-hl,<-Nat.zero_add Ms.flatten.length];exact hr.push a1 u
   ·have:=Lb.mpr a1;simp at*;omega
 ·rintro c s ⟨pq,Ls,R,rfl,S,hr,hl⟩;have hN:=hn S;obtain rfl:R=[]:=wC (by simp at hN hl;omega);exact⟨rfl,pq,Ls,by simpa using S,hr⟩
 ·rintro⟨_,c⟩ s ⟨rfl,pq,Ls,S,hr⟩;have hN:=hn S;have hp:=hr.le;refine jZ (fun i c s=>c=(none,())/\ ∃pq Ls,Rp X pq Ls.flatten s/\Rn X 0 Ls pq.toList/\(pq.size<=1\/pq.size+i<=X.N)) (fun c s=>c=(none,())/\ ∃pq Ls,Rp X pq Ls.flatten s/\Rn X 0 Ls pq.toList/\pq.size<=1) ⟨rfl,pq,Ls,S,hr,.inr (by rw[iw] at hp;omega)⟩ ?_ ?_ ?_
  ·rintro i c s _ ⟨rfl,pq,Ls,S,hr,hi⟩;refine lU ?_;rw[S.q];refine fZ (fun e=>fm ⟨rfl,pq,Ls,S,hr,e⟩) fun e=>hG (M7 (R:=[]) (by simpa using S) hr ((fun c:Bool=>show(if c=true then pq.size-2-1 else pq.size-2)+1<pq.size by split<;>omega) _) fun s ba eR S hr hz _=>fZ (fun c=>by simp at c) fun _=>fm ⟨rfl,ba,eR,by simpa using S,hr,.inr (by omega)⟩)
  ·rintro c s ⟨rfl,pq,Ls,S,hr,hi⟩;exact⟨rfl,pq,Ls,S,hr,by omega⟩
  ·rintro c s ⟨rfl,pq,Ls,S,hr,hi⟩;refine fm (h s pq _ S ?_);obtain⟨ps⟩:=pq
   match ps,Ls,hr,hi with
   |[],[],_,_=>exact .nil
   |[p],[A],hr,_=>simpa using hr.2.2.2.1
   |p::[],A::B::Ls,hr,_=>exact hr.2.2.2.2.elim
   |[],A::Ls,hr,_=>exact hr.elim
   |p::ps,[],hr,_=>exact hr.elim
   |p::p'::ps,Ls,hr,hi=>simp at hi
end
end TS
namespace PX
open PySem PySem.Spec PyProof.Rows L2 PySem.SeqAt
open PySem.AutoSeq1 (wpAny_loadPart')
open PySem.MeetsSeq PySem.MeetsSeq2 PySem.MeetsSeq3
noncomputable def iN(op:CmpOp)(i j:Int):Bool:=match op with
 | .Lt=>decide (i<j)| .LtE=>decide (i<=j)| .Gt=>decide (i>j)|_=>decide (i>=j)
def nO(op:CmpOp):Prop:=op= .Lt\/op= .LtE\/op= .Gt\/op= .GtE
def M5(op:CmpOp)(A:fQ)(s:eZ)(y x:fI)(b:Bool):Prop:= ∀(prog:fS) (w:fL) (E:gm) (Q:gm),Q (.bool b) s->wpAny (model prog w) A (richCompare op y x) Q E s
def yB(op:CmpOp)(A:fQ)(s:eZ)(fin:Bool):List (Value×Value)->Bool->Prop
 |[],r=>r=fin
 |(y,x)::fY,r=> ∃e,EqAt A s y x e/\(if e=true then yB op A s fin fY r else M5 op A s y x r)
theorem HX(l b:eX)(items c8:lq)(n n2:Nat)(dd o9:Option Addr)(sl n8:sO)(r:Bool):
  Meets (Builtin.«tuple.__lt__» ⟨[.ref l,.ref b],[]⟩) (fun A R s=>s.heap.get? l=some {cls:= .type "tuple",dict:=dd,data:= .seq items n,slots:=sl}/\s.heap.get? b=some {cls:= .type "tuple",dict:=o9,data:= .seq c8 n2,slots:=n8}/\
   yB .Lt A.in1 s (iN .Lt items.size c8.size) (items.toList.zip c8.toList) r/\R (.ok (.ret (.bool r))) s):=
 .of_wp fun prog w A R s h=>by
  obtain⟨hp,g,d,tk,os⟩:=s;obtain⟨hl,hb,hx,h⟩:=h;have f2:=Af
  wp_walk using wpAny_loadPart' hl,wpAny_loadPart' hb,sV _ (fun fY b s'=>b.1=none/\s'=⟨hp,g,d,tk,os⟩/\yB .Lt A.in1 ⟨hp,g,d,tk,os⟩ (iN .Lt items.size c8.size) fY r) _
  case turn=>
   rintro⟨y,x⟩ fY b s' ⟨m5,rfl,e,he,hx⟩;refine eY (he prog w _ _ ?_)
   cases e with
   |true=>
    simp only[iu] at hx
    wp_walk
    exact⟨rfl,rfl,hx⟩
   |false=>
    simp only[gv,gO] at hx;have bq:=hx prog w
    wp_walk using bq
    exact⟨_,rfl,by simpa using h⟩
  case fin=>
   rintro⟨b1,b2⟩ s' ⟨m5,rfl,hx⟩;simp only at m5;subst m5;have hx:r=iN .Lt items.size c8.size:=hx;rw[hx] at h
   wp_walk
   exact⟨_,rfl,by simpa[Builtin.Tuple.tupleCompareSizes,iN] using h⟩
  case h=>exact⟨rfl,rfl,hx⟩
theorem HY(l b:eX)(items c8:lq)(n n2:Nat)(dd o9:Option Addr)(sl n8:sO)(r:Bool):
  Meets (Builtin.«tuple.__le__» ⟨[.ref l,.ref b],[]⟩) (fun A R s=>s.heap.get? l=some {cls:= .type "tuple",dict:=dd,data:= .seq items n,slots:=sl}/\s.heap.get? b=some {cls:= .type "tuple",dict:=o9,data:= .seq c8 n2,slots:=n8}/\
   yB .LtE A.in1 s (iN .LtE items.size c8.size) (items.toList.zip c8.toList) r/\R (.ok (.ret (.bool r))) s):=
 .of_wp fun prog w A R s h=>by
  obtain⟨hp,g,d,tk,os⟩:=s;obtain⟨hl,hb,hx,h⟩:=h;have f2:=Af
  wp_walk using wpAny_loadPart' hl,wpAny_loadPart' hb,sV _ (fun fY b s'=>b.1=none/\s'=⟨hp,g,d,tk,os⟩/\yB .LtE A.in1 ⟨hp,g,d,tk,os⟩ (iN .LtE items.size c8.size) fY r) _
  case turn=>
   rintro⟨y,x⟩ fY b s' ⟨m5,rfl,e,he,hx⟩;refine eY (he prog w _ _ ?_)
   cases e with
   |true=>
    simp only[iu] at hx
    wp_walk
    exact⟨rfl,rfl,hx⟩
   |false=>
    simp only[gv,gO] at hx;have bq:=hx prog w
    wp_walk using bq
    exact⟨_,rfl,by simpa using h⟩
  case fin=>
   rintro⟨b1,b2⟩ s' ⟨m5,rfl,hx⟩;simp only at m5;subst m5;have hx:r=iN .LtE items.size c8.size:=hx;rw[hx] at h
   wp_walk
   exact⟨_,rfl,by simpa[Builtin.Tuple.tupleCompareSizes,iN] using h⟩
  case h=>exact⟨rfl,rfl,hx⟩
theorem HZ(l b:eX)(items c8:lq)(n n2:Nat)(dd o9:Option Addr)(sl n8:sO)(r:Bool):
  Meets (Builtin.«tuple.__gt__» ⟨[.ref l,.ref b],[]⟩) (fun A R s=>s.heap.get? l=some {cls:= .type "tuple",dict:=dd,data:= .seq items n,slots:=sl}/\s.heap.get? b=some {cls:= .type "tuple",dict:=o9,data:= .seq c8 n2,slots:=n8}/\
   yB .Gt A.in1 s (iN .Gt items.size c8.size) (items.toList.zip c8.toList) r/\R (.ok (.ret (.bool r))) s):=
 .of_wp fun prog w A R s h=>by
  obtain⟨hp,g,d,tk,os⟩:=s;obtain⟨hl,hb,hx,h⟩:=h;have f2:=Af
  wp_walk using wpAny_loadPart' hl,wpAny_loadPart' hb,sV _ (fun fY b s'=>b.1=none/\s'=⟨hp,g,d,tk,os⟩/\yB .Gt A.in1 ⟨hp,g,d,tk,os⟩ (iN .Gt items.size c8.size) fY r) _
  case turn=>
   rintro⟨y,x⟩ fY b s' ⟨m5,rfl,e,he,hx⟩;refine eY (he prog w _ _ ?_)
   cases e with
   |true=>
    simp only[iu] at hx
    wp_walk
    exact⟨rfl,rfl,hx⟩
   |false=>
    simp only[gv,gO] at hx;have bq:=hx prog w
    wp_walk using bq
    exact⟨_,rfl,by simpa using h⟩
  case fin=>
   rintro⟨b1,b2⟩ s' ⟨m5,rfl,hx⟩;simp only at m5;subst m5;have hx:r=iN .Gt items.size c8.size:=hx;rw[hx] at h
   wp_walk
   exact⟨_,rfl,by simpa[Builtin.Tuple.tupleCompareSizes,iN] using h⟩
  case h=>exact⟨rfl,rfl,hx⟩
theorem H9(l b:eX)(items c8:lq)(n n2:Nat)(dd o9:Option Addr)(sl n8:sO)(r:Bool):
  Meets (Builtin.«tuple.__ge__» ⟨[.ref l,.ref b],[]⟩) (fun A R s=>s.heap.get? l=some {cls:= .type "tuple",dict:=dd,data:= .seq items n,slots:=sl}/\s.heap.get? b=some {cls:= .type "tuple",dict:=o9,data:= .seq c8 n2,slots:=n8}/\
   yB .GtE A.in1 s (iN .GtE items.size c8.size) (items.toList.zip c8.toList) r/\R (.ok (.ret (.bool r))) s):=
 .of_wp fun prog w A R s h=>by
  obtain⟨hp,g,d,tk,os⟩:=s;obtain⟨hl,hb,hx,h⟩:=h;have f2:=Af
  wp_walk using wpAny_loadPart' hl,wpAny_loadPart' hb,sV _ (fun fY b s'=>b.1=none/\s'=⟨hp,g,d,tk,os⟩/\yB .GtE A.in1 ⟨hp,g,d,tk,os⟩ (iN .GtE items.size c8.size) fY r) _
  case turn=>
   rintro⟨y,x⟩ fY b s' ⟨m5,rfl,e,he,hx⟩;refine eY (he prog w _ _ ?_)
   cases e with
   |true=>
    simp only[iu] at hx
    wp_walk
    exact⟨rfl,rfl,hx⟩
   |false=>
    simp only[gv,gO] at hx;have bq:=hx prog w
    wp_walk using bq
    exact⟨_,rfl,by simpa using h⟩
  case fin=>
   rintro⟨b1,b2⟩ s' ⟨m5,rfl,hx⟩;simp only at m5;subst m5;have hx:r=iN .GtE items.size c8.size:=hx;rw[hx] at h
   wp_walk
   exact⟨_,rfl,by simpa[Builtin.Tuple.tupleCompareSizes,iN] using h⟩
  case h=>exact⟨rfl,rfl,hx⟩
section
variable {A:fQ}{s:eZ}{l b:eX}{items c8:lq}{r:Bool}
theorem IF(ho:nO op)(hl:s.heap.IsTuple l items)(hb:s.heap.IsTuple b c8)(hu:A.units<cLine)(hx:yB op A.in1 s (iN op items.size c8.size) (items.toList.zip c8.toList) r):M5 op A s (.ref l) (.ref b) r:=fun prog w E Q h=>by
 obtain⟨⟨cls,dd,data,sl⟩,o7,hc,n,hd⟩:=id hl;obtain⟨⟨bP,o9,data2,n8⟩,m8,v8,n2,hd2⟩:=id hb;simp only at hc hd v8 hd2;subst hc hd v8 hd2;rcases ho with rfl|rfl|rfl|rfl
 ·exact Ae (op:= .Lt) ⟨_,o7,rfl⟩ ⟨_,m8,rfl⟩ PySem.F.slot_tuple_lt PySem.F.entry_tuple_lt (PySem.F.args_tuple_lt_2 _ _) (HX l b items c8 n n2 dd o9 sl n8 r) ⟨o7,m8,hx,show Value.bool r≠Value.notImplemented/\Q (.bool r) s from⟨(fun x=>nomatch x),h⟩⟩ hu
 ·exact Ae (op:= .LtE) ⟨_,o7,rfl⟩ ⟨_,m8,rfl⟩ PySem.F.slot_tuple_le PySem.F.entry_tuple_le (PySem.F.args_tuple_le_2 _ _) (HY l b items c8 n n2 dd o9 sl n8 r) ⟨o7,m8,hx,show Value.bool r≠Value.notImplemented/\Q (.bool r) s from⟨(fun x=>nomatch x),h⟩⟩ hu
 ·exact Ae (op:= .Gt) ⟨_,o7,rfl⟩ ⟨_,m8,rfl⟩ PySem.F.slot_tuple_gt PySem.F.entry_tuple_gt (PySem.F.args_tuple_gt_2 _ _) (HZ l b items c8 n n2 dd o9 sl n8 r) ⟨o7,m8,hx,show Value.bool r≠Value.notImplemented/\Q (.bool r) s from⟨(fun x=>nomatch x),h⟩⟩ hu
 ·exact Ae (op:= .GtE) ⟨_,o7,rfl⟩ ⟨_,m8,rfl⟩ PySem.F.slot_tuple_ge PySem.F.entry_tuple_ge (PySem.F.args_tuple_ge_2 _ _) (H9 l b items c8 n n2 dd o9 sl n8 r) ⟨o7,m8,hx,show Value.bool r≠Value.notImplemented/\Q (.bool r) s from⟨(fun x=>nomatch x),h⟩⟩ hu
end
mutual
noncomputable def kN(op:CmpOp):D->D->Option Bool
 | .int i,.int j=>some (iN op i j)
 | .tup l,.tup m=>oA op l m
 |_,_=>none
noncomputable def oA(op:CmpOp):List D->List D->Option Bool
 |[],m=>some (iN op 0 m.length)
 |x::l,[]=>some (iN op ((x::l).length) 0)
 |x::l,y::m=>if D.eqb x y=true then oA op l m else kN op x y
end
theorem oi(op:CmpOp)(a b k:Int):iN op (a+k) (b+k)=iN op a b:=by
 cases op<;>simp[iN]
section
variable {X:Cx}{pins:gc}{σ:L2.St}{H:Hp}{s:eZ}
theorem BR(ho:nO op):M5 op A s (.int i t) (.int j u) (iN op i j):=fun prog w E Q h=>by
 rcases ho with rfl|rfl|rfl|rfl
 ·exact(PyProof.Rows.lt_int h:wpAny (model prog w) A (compareOp .Lt _ _) Q E s)
 ·exact(PyProof.Rows.le_int h:wpAny (model prog w) A (compareOp .LtE _ _) Q E s)
 ·exact(PyProof.Rows.gt_int h:wpAny (model prog w) A (compareOp .Gt _ _) Q E s)
 ·exact(PyProof.Rows.ge_int h:wpAny (model prog w) A (compareOp .GtE _ _) Q E s)
theorem IG(ho:nO op)(I:Inv X pins σ H s): ∀(n:Nat) (d e:D) (v u:V) (a b:fI) (O O':AP') (A:fQ) (r:Bool),ip X.K H O d v->ip X.K H O' e u->RelV v a->RelV u b->d.dep<=n->e.dep<20000->A.units+n<cLine->kN op d e=some r->M5 op A s a b r:=by
 intro n
 induction n with
 |zero=>
  intro d e v u a b O O' A r hd he ra rb hn n4 hA hc
  cases d with
  |int i=>
   cases e with
   |int j=>
    have:=gb hd;subst this;have:=gb he;subst this;obtain⟨t,rfl⟩:=ra;obtain⟨t',rfl⟩:=rb;rw[kN] at hc;rw[<-iz hc];exact BR ho
   |_=>rw[kN] at hc<;>first|cases hc|(intros;simp_all)
  |tup l=>rw[D.dep] at hn;lia
  |_=>rw[kN] at hc<;>first|cases hc|(intros;simp_all)
 |succ n ih=>
  intro d e v u a b O O' A r hd he ra rb hn n4 hA hc
  cases d with
  |int i=>
   cases e with
   |int j=>
    have:=gb hd;subst this;have:=gb he;subst this;obtain⟨t,rfl⟩:=ra;obtain⟨t',rfl⟩:=rb;rw[kN] at hc;rw[<-iz hc];exact BR ho
   |_=>rw[kN] at hc<;>first|cases hc|(intros;simp_all)
  |tup l=>
   cases e with
   |tup m=>
    rw[kN] at hc;rw[D.dep] at hn n4;obtain⟨p,xs,rfl,q,r1⟩:=jm hd;obtain⟨p2,ys,rfl,q2,r2⟩:=jm he;cases ra;cases rb;obtain⟨b6,v1,pl,_⟩:=I.tuple q;obtain⟨b9,v2,f9,_⟩:=I.tuple q2;have j0:A.in1.units=A.units+1:=rfl
    have key: ∀(l m:List D) (xs ys:List V) (b6 b9:gH) (k:Int),D.depL l+1<=n+1->D.depL m<20000->RepL X.K H O l xs->RepL X.K H O' m ys->Vals xs b6->Vals ys b9->oA op l m=some r->yB op A.in1 s (iN op (b6.length+k) (b9.length+k)) (b6.zip b9) r:=by
     intro l
     induction l with
     |nil=>
      intro m xs ys b6 b9 k v7 x8 r1 r2 v1 v2 hc;rw[RepL] at r1;subst r1;cases v1;rw[oA] at hc;have e1:=r2.length;have e2:=v2.length;show r=_;rw[oi,<-iz hc]
      congr 1
      lia
     |cons x l ihl=>
      intro m xs ys b6 b9 k v7 x8 r1 r2 v1 v2 hc;rw[RepL] at r1;obtain⟨vx,xr,rfl,g1,g2⟩:=r1
      cases v1 with
      |cons a1 a2=>
       cases m with
       |nil=>
        rw[RepL] at r2;subst r2;cases v2;rw[oA] at hc;have e1:=g2.length;have e2:=a2.length;rw[List.zip_nil_right];show r=_;rw[oi,<-iz hc]
        congr 1
        simp only[jb];lia
       |cons y m=>
        rw[RepL] at r2;obtain⟨vy,yr,rfl,g3,g4⟩:=r2
        cases v2 with
        |cons b1 b2=>
         rw[oA] at hc;rw[D.depL] at v7 x8;rw[pd];refine⟨D.eqb x y,yn I n x y vx vy _ _ O O' A.in1 (.inl g1) (.inl g3) a1 b1 (by lia) (by lia) (by rw[j0];lia),?_⟩
         cases hq:D.eqb x y with
         |true=>
          rw[hq,fJ rfl] at hc;rw[fJ rfl];have:=ihl m xr yr _ _ (k+1) (by lia) (by lia) g2 g4 a2 b2 hc;simp only[jb];have e: ∀a:Nat,(((a+1:Nat):Int)+k)=(a:Int)+(k+1):=fun a=>by lia
          rw[e,e];exact this
         |false=>
          rw[hq,fR je] at hc;rw[fR je];exact ih x y vx vy _ _ O O' A.in1 r (.inl g1) (.inl g3) a1 b1 (by lia) (by lia) (by rw[j0];lia) hc
    have:=key l m xs ys b6 b9 0 (by lia) (by lia) r1 r2 v1 v2 hc;refine IF ho pl f9 (by lia) ?_;simpa using this
   |_=>rw[kN] at hc<;>first|cases hc|(intros;simp_all)
  |_=>rw[kN] at hc<;>first|cases hc|(intros;simp_all)
noncomputable def kf(op:CmpOp)(d e:D):Option (D×Bool):=if d.dep<=50/\e.dep<=50 then(kN op d e).map fun b=>(.bl b,false) else none
theorem lO(ho:nO op)(hu:X.A.units+60<cLine):OpR X (compareOp op) (rD X.K (kf op)):=by
 intro pins s σ H x y v u Q I rx ry h;obtain⟨O,d,e,z,np,h1,h2,hg,G⟩:=h;unfold kf at hg;split at hg
 ·rename_i hd;obtain⟨r,hr,rfl⟩:=gZ hg;have:=IG ho I 50 d e x y v u O O X.A r h1 h2 rx ry hd.1 (by lia) (by lia) hr X.prog X.w X.xe (EP X pins σ Q) ⟨.bl r,H,I,rfl,G.bl⟩;rcases ho with rfl|rfl|rfl|rfl<;>exact this
 ·cases hg
end
open TS
section
variable {prog:fS}{w:fL}{A:fQ}{E:gm}{s:eZ}
noncomputable def nH(h:fP)(a:eX)(vs:gH):Heap:=((h.update a (Obj.mapSeq fun _=> #[])).push (seqObj "tuple" vs.toArray 0)).push (seqObj "list" #[] 0)
noncomputable def Ka(vs:gH)(i:Nat):Keyed:=(vs.getD i Value.none,vs.getD i Value.none)
theorem rk{a:eX}{vs:gH}{n:Nat}{P:PySem.Fin->Shared->Prop}{κ:SortKind}{lt:Nat->Nat->Bool}(ho:s.heap.get? a=some (seqObj "list" vs.toArray n))(hz:vs.length<=sizeLine)(as: ∀i j,lt i j=true->lt j i=false)(tr: ∀{i j k},lt j i=false->lt k j=false->lt k i=false)
  (hk:2<=vs.length->wpAny (model prog w) A (keyKind' vs.toArray) (fun κ' s'=>s'={s with heap:=nH s.heap a vs}/\κ'=κ) (fun _ _=>False) {s with heap:=nH s.heap a vs})
  (ask:2<=vs.length->Ask (model prog w) A (fun s'=>s'={s with heap:=nH s.heap a vs}) (Ka vs) κ vs.length lt)
  (h: ∀p:List Nat,p.Perm (List.range vs.length)->p.Pairwise (fun i j=>lt j i=false)->P (.done (.ret .none)) {s with heap:=(nH s.heap a vs).update a (Obj.mapSeq fun _=>(p.map fun i=>vs.getD i Value.none).toArray)}):
  wpAny (model prog w) A (Builtin.«list.sort» ⟨[.ref a],[]⟩) P E s:=by
 rw[list_sort_plain];have ha:a<s.heap.objs.size:=ie ho;refine eY (listItems_at ho rfl (eY (C7 ho rfl ?_ (by rw[gr];exact hz) (kA _))));obtain⟨e1,o7⟩: ∃e1,(s.heap.update a (Obj.mapSeq fun _=>(#[]:Array Value))).get? a=some (seqObj "list" #[] e1):=⟨_,C6 ho fun _=> #[]⟩
 refine eY (C5 o7 rfl (eY (wpAny_newTuple ?_ (by show vs.length<=_;exact hz))));refine eY (wpAny_newList ?_ (kA _));refine ku ?_;have dr:(nH s.heap a vs).get? a=some (seqObj "list" #[] e1):=ik _ (ik _ o7);show wpAny (model prog w) A _ P E {s with heap:=nH s.heap a vs};dsimp only;by_cases h2:vs.toArray.size<2
 ·rw[fJ h2,fJ h2];refine eY (fH ?_);rw[StateT.run_pure];refine eY (fH ?_);dsimp only;refine eY (C5 dr rfl (eY (C7 dr rfl ?_ (kA _) ?_)))
  ·simp only[tw,gv,gO];refine fH ?_;have bM:vs.length<2:=by simpa using h2
   have:=h (List.range vs.length) (rG _) (by
    rw[K8];intro i j hi hj m9;simp at hi hj;lia)
   have e:((vs.toArray.zip vs.toArray).map (·.2))=((List.range vs.length).map fun i=>vs.getD i Value.none).toArray:=by
    apply Array.ext
    ·simp
    ·intro i h1 h3;have hi:i<vs.length:=by simpa using h1
     simp[hi]
   rw[e];exact this
  ·rw[Array.size_map,Array.size_zip];simp;lia
 ·rw[fR h2,fR h2];have bM:2<=vs.length:=by simpa using h2
  refine eY (oH (hk bM) (fun κ' s' hκ=>?_) fun _ _ x=>x.elim);obtain⟨rfl,rfl⟩:=hκ;refine eY (oH (Le (X:=⟨_,A,E,fun s'=>s'={s with heap:=nH s.heap a vs},Ka vs,lt,κ',vs.length,as,tr,ask bM⟩) (L:=List.range vs.length) ⟨?_,rfl,rfl,rfl,.refl _⟩ (Q:=fun _ d9=> ∃p,(arrOf d9).map (·.2)=(p.map fun i=>vs.getD i Value.none).toArray/\failedOf d9=none/\p.Perm (List.range vs.length)/\p.Pairwise fun i j=>lt j i=false) (fun d9 _ p R hp=>⟨p,?_,R.f,R.p,hp⟩) _ rfl) ?_ fun _ _ e=>e)
  ·show vs.toArray.zip vs.toArray=_;apply Array.ext
   ·simp
   ·intro i h1 h3;have hi:i<vs.length:=by simpa using h1
    simp[Ka,hi]
  ·rw[R.a];simp[Ka]
  rintro⟨⟨⟩,d9⟩ s' ⟨rfl,p',out,w6,pp,hp⟩;dsimp only;have pl:p'.length=vs.length:=by simpa using pp.length_eq
  refine eY (C5 dr rfl (eY (C7 dr rfl ?_ (kA _) ?_)))
  ·rw[w6];simp only[tw,gv,gO];rw[out];exact fH (h p' pp hp)
  ·rw[out,gr,gW,pl];lia
end
mutual
noncomputable def cT:D->D->Ordering
 | .int i,.int j=>if i<j then .lt else if i=j then .eq else .gt
 | .int _,_=> .lt
 | .tup _,.int _=> .gt
 | .tup l,.tup m=>cL l m
 | .tup _,_=> .lt
 |_,.int _=> .gt
 |_,.tup _=> .gt
 |_,_=> .eq
noncomputable def cL:List D->List D->Ordering
 |[],[]=> .eq
 |[],_::_=> .lt
 |_::_,[]=> .gt
 |x::l,y::m=>match cT x y with
  | .lt=> .lt
  | .gt=> .gt
  | .eq=>cL l m
end
mutual
theorem FC: ∀x:D,cT x x= .eq
 | .int i=>by simp[cT]
 | .tup l=>by rw[cT];exact FE l
 | .non=>by simp[cT]
 | .bl _=>by simp[cT]
 | .str _=>by simp[cT]
 | .lst _=>by simp[cT]
 | .oth _ _ _=>by simp[cT]
theorem FE: ∀l:List D,cL l l= .eq
 |[]=>by simp[cL]
 |x::l=>by rw[cL,FC x];exact FE l
end
mutual
theorem uA: ∀x y:D,cT y x=(cT x y).swap
 | .int i,.int j=>by
  rw[cT,cT];by_cases h1:i<j
  ·rw[fJ h1,fR (by lia),fR (by lia)];rfl
  ·rw[fR h1];by_cases h2:i=j
   ·rw[fJ h2,fR (by lia),fJ h2.symm];rfl
   ·rw[fR h2,fJ (by lia)];rfl
 | .tup l,.tup m=>by rw[cT,cT];exact FD l m
 | .int _,.tup _=>by simp[cT]
 | .int _,.non=>by simp[cT]
 | .int _,.bl _=>by simp[cT]
 | .int _,.str _=>by simp[cT]
 | .int _,.lst _=>by simp[cT]
 | .int _,.oth _ _ _=>by simp[cT]
 | .tup _,.int _=>by simp[cT]
 | .tup _,.non=>by simp[cT]
 | .tup _,.bl _=>by simp[cT]
 | .tup _,.str _=>by simp[cT]
 | .tup _,.lst _=>by simp[cT]
 | .tup _,.oth _ _ _=>by simp[cT]
 | .non,y=>by cases y<;>simp[cT]
 | .bl _,y=>by cases y<;>simp[cT]
 | .str _,y=>by cases y<;>simp[cT]
 | .lst _,y=>by cases y<;>simp[cT]
 | .oth _ _ _,y=>by cases y<;>simp[cT]
theorem FD: ∀l m:List D,cL m l=(cL l m).swap
 |[],[]=>by simp[cL]
 |[],_::_=>by simp[cL]
 |_::_,[]=>by simp[cL]
 |x::l,y::m=>by
  rw[cL,cL,uA x y];cases h:cT x y<;>simp[Ordering.swap]
  exact FD l m
end
theorem JT(h1:cT x y≠ .gt)(h2:cT y x≠ .gt):cT x y= .eq:=by
 rw[uA x y] at h2
 cases h:cT x y with
 |lt=>rw[h] at h2;exact absurd rfl h2
 |eq=>rfl
 |gt=>exact absurd h h1
mutual
theorem uz: ∀x y z:D,cT x y≠ .gt->cT y z≠ .gt->cT x z≠ .gt
 | .int i,y,z,h1,h2=>by
  cases z with
  |int k=>
   cases y with
   |int j=>
    rw[cT] at h1 h2 ⊢
    have a:i<=j:=by
     by_cases a:i<j
     ·lia
     ·rw[fR a] at h1;by_cases b:i=j
      ·lia
      ·rw[fR b] at h1;exact absurd rfl h1
    have b:j<=k:=by
     by_cases a:j<k
     ·lia
     ·rw[fR a] at h2;by_cases b:j=k
      ·lia
      ·rw[fR b] at h2;exact absurd rfl h2
    by_cases c:i<k
    ·rw[fJ c];simp
    ·rw[fR c,fJ (by lia)];simp
   |_=>simp[cT] at h2
  |_=>simp[cT]
 | .tup l,y,z,h1,h2=>by
  cases y with
  |int j=>simp[cT] at h1
  |tup m=>
   cases z with
   |int k=>simp[cT] at h2
   |tup n=>rw[cT] at h1 h2 ⊢;exact CD l m n h1 h2
   |_=>simp[cT]
  |_=>cases z<;>simp_all [cT]
 | .non,y,z,h1,h2=>by cases y<;>cases z<;>simp_all [cT]
 | .bl _,y,z,h1,h2=>by cases y<;>cases z<;>simp_all [cT]
 | .str _,y,z,h1,h2=>by cases y<;>cases z<;>simp_all [cT]
 | .lst _,y,z,h1,h2=>by cases y<;>cases z<;>simp_all [cT]
 | .oth _ _ _,y,z,h1,h2=>by cases y<;>cases z<;>simp_all [cT]
 termination_by x y z=>sizeOf x+sizeOf y+sizeOf z
theorem CD: ∀l m n:List D,cL l m≠ .gt->cL m n≠ .gt->cL l n≠ .gt
 |[],m,n,_,_=>by cases n<;>simp[cL]
 |x::l,[],n,h1,_=>by simp[cL] at h1
 |x::l,y::m,[],_,h2=>by simp[cL] at h2
 |x::l,y::m,z::n,h1,h2=>by
  have a1:cT x y≠ .gt:=fun h=>by rw[cL,h] at h1;exact h1 rfl
  have a2:cT y z≠ .gt:=fun h=>by rw[cL,h] at h2;exact h2 rfl
  have a3:=uz x y z a1 a2;rw[cL]
  cases hxz:cT x z with
  |lt=>simp
  |gt=>exact absurd hxz a3
  |eq=>
   have zx:cT z x≠ .gt:=by rw[uA x z,hxz];simp[Ordering.swap]
   have exy:cT x y= .eq:=JT a1 (uz y z x a2 zx);have eyz:cT y z= .eq:=JT a2 (uz z x y zx a1);rw[cL,exy] at h1;rw[cL,eyz] at h2;exact CD l m n h1 h2
 termination_by l m n=>sizeOf l+sizeOf m+sizeOf n
end
noncomputable def ltT(x y:D):Bool:=cT x y== .lt
theorem K6:ltT x y=true↔cT x y= .lt:=by simp[ltT]
theorem vo:ltT x y=false↔cT x y≠ .lt:=by simp[ltT]
theorem Nl:ltT y x=false↔cT x y≠ .gt:=by rw[vo,uA x y];cases cT x y<;>simp[Ordering.swap]
theorem RZ(x y:D)(h:ltT x y=true):ltT y x=false:=by rw[Nl,K6.mp h];simp
theorem Qp(h1:ltT y x=false)(h2:ltT z y=false):ltT z x=false:=Nl.mpr (uz _ _ _ (Nl.mp h1) (Nl.mp h2))
mutual
/-- ints,and tuples of such -/
noncomputable def D.pr:D->Bool
 | .int _=>true
 | .tup l=>D.prL l
 |_=>false
noncomputable def D.prL:List D->Bool
 |[]=>true
 |x::l=>D.pr x&&D.prL l
end
mutual
theorem El: ∀x y:D,D.pr x=true->D.pr y=true->D.eqb x y=(cT x y== .eq)
 | .int i,.int j,_,_=>by
  rw[D.eqb,cT];by_cases h:i=j
  ·subst h;simp
  ·rw[fR h];by_cases h2:i<j<;>simp[h,h2]
 | .int _,.tup _,_,_=>by simp[D.eqb,cT]
 | .tup _,.int _,_,_=>by simp[D.eqb,cT]
 | .tup l,.tup m,h1,h2=>by rw[D.eqb,cT];rw[D.pr] at h1 h2;exact Fs l m h1 h2
 | .non,_,h,_=>by simp[D.pr] at h
 | .bl _,_,h,_=>by simp[D.pr] at h
 | .str _,_,h,_=>by simp[D.pr] at h
 | .lst _,_,h,_=>by simp[D.pr] at h
 | .oth _ _ _,_,h,_=>by simp[D.pr] at h
 |_,.non,_,h=>by simp[D.pr] at h
 |_,.bl _,_,h=>by simp[D.pr] at h
 |_,.str _,_,h=>by simp[D.pr] at h
 |_,.lst _,_,h=>by simp[D.pr] at h
 |_,.oth _ _ _,_,h=>by simp[D.pr] at h
theorem Fs: ∀l m:List D,D.prL l=true->D.prL m=true->D.eqbL l m=(cL l m== .eq)
 |[],[],_,_=>by simp[D.eqbL,cL]
 |[],_::_,_,_=>by simp[D.eqbL,cL]
 |_::_,[],_,_=>by simp[D.eqbL,cL]
 |x::l,y::m,h1,h2=>by
  rw[D.prL,kB] at h1 h2;rw[D.eqbL,cL,El x y h1.1 h2.1,Fs l m h1.2 h2.2];cases cT x y<;>simp
end
mutual
theorem uB: ∀x y:D,D.pr x=true->D.pr y=true->cT x y= .eq->x=y
 | .int i,.int j,_,_,h=>by
  rw[cT] at h;by_cases h1:i<j
  ·rw[fJ h1] at h;cases h
  ·rw[fR h1] at h;by_cases h2:i=j
   ·rw[h2]
   ·rw[fR h2] at h;cases h
 | .tup l,.tup m,a,b,h=>by rw[cT] at h;rw[D.pr] at a b;rw[CF l m a b h]
 | .int _,.tup _,_,_,h=>by simp[cT] at h
 | .tup _,.int _,_,_,h=>by simp[cT] at h
 | .non,_,a,_,_=>by simp[D.pr] at a
 | .bl _,_,a,_,_=>by simp[D.pr] at a
 | .str _,_,a,_,_=>by simp[D.pr] at a
 | .lst _,_,a,_,_=>by simp[D.pr] at a
 | .oth _ _ _,_,a,_,_=>by simp[D.pr] at a
 |_,.non,_,a,_=>by simp[D.pr] at a
 |_,.bl _,_,a,_=>by simp[D.pr] at a
 |_,.str _,_,a,_=>by simp[D.pr] at a
 |_,.lst _,_,a,_=>by simp[D.pr] at a
 |_,.oth _ _ _,_,a,_=>by simp[D.pr] at a
theorem CF: ∀l m:List D,D.prL l=true->D.prL m=true->cL l m= .eq->l=m
 |[],[],_,_,_=>rfl
 |[],_::_,_,_,h=>by simp[cL] at h
 |_::_,[],_,_,h=>by simp[cL] at h
 |x::l,y::m,a,b,h=>by
  rw[D.prL,kB] at a b;rw[cL] at h
  cases e:cT x y with
  |eq=>rw[e] at h;rw[uB x y a.1 b.1 e,CF l m a.2 b.2 h]
  |lt=>rw[e] at h;cases h
  |gt=>rw[e] at h;cases h
end
mutual
theorem wu: ∀x y:D,D.pr x=true->D.pr y=true-> ∀b,kN .Lt x y=some b->b=ltT x y
 | .int i,.int j,_,_,b,h=>by
  rw[kN] at h;rw[<-iz h,ltT,cT,iN];by_cases h1:i<j
  ·simp[h1]
  ·rw[fR h1];by_cases h2:i=j<;>simp[h1,h2]
 | .int _,.tup _,_,_,b,h=>by simp[kN] at h
 | .tup _,.int _,_,_,b,h=>by simp[kN] at h
 | .tup l,.tup m,h1,h2,b,h=>by
  rw[kN] at h;rw[D.pr] at h1 h2;rw[ltT,cT];exact Fw l m h1 h2 b h
 | .non,_,h,_,_,_=>by simp[D.pr] at h
 | .bl _,_,h,_,_,_=>by simp[D.pr] at h
 | .str _,_,h,_,_,_=>by simp[D.pr] at h
 | .lst _,_,h,_,_,_=>by simp[D.pr] at h
 |_,.non,_,h,_,_=>by simp[D.pr] at h
 |_,.bl _,_,h,_,_=>by simp[D.pr] at h
 |_,.str _,_,h,_,_=>by simp[D.pr] at h
 |_,.lst _,_,h,_,_=>by simp[D.pr] at h
theorem Fw: ∀l m:List D,D.prL l=true->D.prL m=true-> ∀b,oA .Lt l m=some b->b=(cL l m== .lt)
 |[],[],_,_,b,h=>by rw[oA] at h;rw[<-iz h];simp[iN,cL]
 |[],_::_,_,_,b,h=>by rw[oA] at h;rw[<-iz h];simp[iN,cL]<;>lia
 |_::_,[],_,_,b,h=>by rw[oA] at h;rw[<-iz h];simp[iN,cL]<;>lia
 |x::l,y::m,h1,h2,b,h=>by
  rw[D.prL,kB] at h1 h2;rw[oA,El x y h1.1 h2.1] at h;rw[cL]
  cases hc:cT x y with
  |eq=>rw[hc] at h;simp at h;exact Fw l m h1.2 h2.2 b h
  |lt=>rw[hc] at h;simp at h;have:=wu x y h1.1 h2.1 b h;rw[this,ltT,hc]
  |gt=>rw[hc] at h;simp at h;have:=wu x y h1.1 h2.1 b h;rw[this,ltT,hc]
end
section
variable {α:Type}(lt:α->α->Bool)
noncomputable def GH(x:α):List α->List α
 |[]=>[x]
 |y::l=>if lt y x=true then y::GH x l else x::y::l
noncomputable def pK:List α->List α
 |[]=>[]
 |x::l=>GH lt x (pK l)
theorem vt(x:α): ∀l:List α,(GH lt x l).Perm (x::l)
 |[]=>rG _
 |y::l=>by
  rw[GH];split
  ·exact((vt x l).cons y).trans (List.Perm.swap x y l)
  ·exact rG _
theorem jG: ∀l:List α,(pK lt l).Perm l
 |[]=>rG _
 |x::l=>(vt lt x _).trans ((jG l).cons x)
end
theorem Kc{x:D}: ∀{l:List D},(l.Pairwise fun x y=>ltT y x=false)->(GH ltT x l).Pairwise fun x y=>ltT y x=false:=by
 intro iV
 induction iV with
 |nil=>
  intro _;exact Hz _ _
 |cons y l iH=>
  intro h;have h:=CM.mp h;rw[GH]
  cases hl:ltT y x with
  |true=>
   refine CM.mpr ⟨fun z hz=>?_,iH h.2⟩;rcases iY.mp ((vt ltT x l).mem_iff.mp hz) with rfl|hz
   ·exact RZ _ _ hl
   ·exact h.1 z hz
  |false=>
   refine CM.mpr ⟨fun z hz=>?_,CM.mpr h⟩;rcases iY.mp hz with rfl|hz
   ·exact hl
   ·exact Qp hl (h.1 z hz)
theorem lS: ∀l:List D,(pK ltT l).Pairwise fun x y=>ltT y x=false
 |[]=>List.Pairwise.nil
 |x::l=>Kc (lS l)
theorem Ik{l m:List D}(h: ∀x∈m,D.pr x=true)(hp:l.Perm m)(hl:l.Pairwise fun x y=>ltT y x=false):l=pK ltT m:=
 List.Perm.eq_of_pairwise (fun x y hx hy h1 h2=>uB x y (h x (hp.mem_iff.mp hx)) (h y ((jG ltT m).mem_iff.mp hy)) (JT (Nl.mp h1) (Nl.mp h2))) hl (lS m) (hp.trans (jG ltT m).symm)
theorem FZ{ds:List D}{p:hV}(pr: ∀x∈ds,D.pr x=true)(hp:p.Perm (List.range ds.length))(hs:p.Pairwise fun i j=>ltT (ds.getD j .non) (ds.getD i .non)=false):p.map (fun i=>ds.getD i .non)=pK ltT ds:=by
 have e:(List.range ds.length).map (fun i=>ds.getD i .non)=ds:=by
  apply Am;intro i;by_cases hi:i<ds.length<;>simp[hi]
 have pm:=hp.map fun i=>ds.getD i .non;rw[e] at pm;exact Ik pr pm (yD.mpr hs)
noncomputable def jo:D->Option Nat
 | .int _=>some 0
 | .tup (.int _::_)=>some 1
 | .tup (.tup _::_)=>some 2
 |_=>none
noncomputable def Fi:Nat->SortKind
 |0=>oneType'
 |1=>tuples' true
 |_=>tuples' false
structure SortsBy(k:Nat)(l:List D):Prop where
 hd: ∀x∈l,jo x=some k
 pr: ∀x∈l,D.pr x=true
 dp: ∀x∈l,x.dep<=50
 cm: ∀x∈l,∀y∈l,(kN .Lt x y).isSome=true
noncomputable def kU(l:List D):Bool:=l.length<=1||match l with
 |[]=>true
 |x::_=>(jo x).isSome&&(l.all fun y=>jo y==jo x&&D.pr y&&decide (y.dep<=50))&&l.all fun y=>l.all fun z=>(kN .Lt y z).isSome
theorem zf(h:kU l=true):l.length<=1\/ ∃k,SortsBy k l:=by
 unfold kU at h;rw[uN] at h;rcases h with h|h
 ·left;simpa using h
 ·right
  cases l with
  |nil=>exact⟨0,fun x hx=>absurd hx jD,fun x hx=>absurd hx jD,fun x hx=>absurd hx jD,fun x hx=>absurd hx jD⟩
  |cons x m=>
   simp only[kB,my,pv] at h;obtain⟨⟨h1,h2⟩,h3⟩:=h;obtain⟨k,hk⟩:=G7.mp h1;refine⟨k,fun y hy=>?_,fun y hy=>(h2 y hy).1.2,fun y hy=>(h2 y hy).2,fun y hy z hz=>h3 y hy z hz⟩;have:=(h2 y hy).1.1;rw[hk] at this;simpa using this
section
variable {X:Cx}{pins:gc}{σ:L2.St}{H:Hp}{s:eZ}
theorem qm(v:Vals xs b6)(hi:i<b6.length):RelV (xs.getD i .non) (b6.getD i Value.none):=by
 have e:=v.length;have hx:xs[i]?=some xs[i]:=ir (by omega);obtain⟨w,w1,w2⟩:=v.get hx;have h1:xs.getD i .non=xs[i]:=by simp[show i<xs.length by omega]
 have h2:b6.getD i Value.none=w:=by
  rw[ir hi] at w1;have:=iz w1;simp[hi,this]
 rw[h1,h2];exact w2
theorem qq(r:RepL X.K H O ds xs)(hi:i<ds.length):Rep X.K H O (ds.getD i .non) (xs.getD i .non):=by
 have e:=r.length;have hd:ds[i]?=some ds[i]:=ir hi;obtain⟨v,v1,v2⟩:=r.get hd;have h1:ds.getD i .non=ds[i]:=by simp[hi]
 have h2:xs.getD i .non=v:=by
  rw[ir (by lia)] at v1;have:=iz v1;simp[show i<xs.length by lia,this]
 rw[h1,h2];exact v2
theorem xN{ds:List D}{i:Nat}(hi:i<ds.length):ds.getD i .non∈ds:=by simp[hi]
theorem Cm(I:Inv X pins σ H s){A:fQ}{b:Bool}{O O':AP'}(hA:A.units+60<cLine){r:Bool}{Q:oU}(hQ:Q r s): ∀(l m:List D) (xs ys:List V) (b6 b9:gH) (k:Int) (i:Nat),D.depL l<=50->D.depL m<=50->
  ((b&&i==0)=true-> ∀x y l' m',l=x::l'->m=y::m'->(∃a,x= .int a)/\ ∃c,y= .int c)->RepL X.K H O l xs->RepL X.K H O' m ys->Vals xs b6->Vals ys b9->oA .Lt l m=some r->
  ∀fin:Bool,fin=iN .Lt (b6.length+k) (b9.length+k)->PySem.W.KatLex X.prog X.w A b fin Q (b6.zip b9) i s
 |[],m,xs,ys,b6,b9,k,i,_,_,_,r1,r2,v1,v2,hc,fin,hf=>by
  rw[RepL] at r1;subst r1;cases v1;rw[oA] at hc;have e1:=r2.length;have e2:=v2.length;show Q fin s;rw[hf,oi];rw[<-iz hc] at hQ;have:iN .Lt ((([]:List Value).length:Nat):Int) (b9.length:Int)=iN .Lt 0 (m.length:Int):=by congr 1;lia
  rw[this];exact hQ
 |x::l,[],xs,ys,b6,b9,k,i,_,_,_,r1,r2,v1,v2,hc,fin,hf=>by
  rw[RepL] at r2;subst r2;cases v2;rw[oA] at hc;have e1:=r1.length;have e2:=v1.length;rw[List.zip_nil_right];show Q fin s;rw[hf,oi];rw[<-iz hc] at hQ;have:iN .Lt (b6.length:Int) ((([]:List Value).length:Nat):Int)=iN .Lt (((x::l).length:Nat):Int) 0:=by congr 1;lia
  rw[this];exact hQ
 |x::l,y::m,xs,ys,b6,b9,k,i,v7,x8,hb,r1,r2,v1,v2,hc,fin,hf=>by
  rw[RepL] at r1 r2;obtain⟨vx,xr,rfl,g1,g2⟩:=r1;obtain⟨vy,yr,rfl,g3,g4⟩:=r2
  cases v1 with
  |cons a1 a2=>
   cases v2 with
   |cons b1 b2=>
    rw[oA] at hc;rw[D.depL] at v7 x8;rw[pd];refine PySem.W.kat_cons (yn I 50 x y vx vy _ _ O O' A (.inl g1) (.inl g3) a1 b1 (by lia) (by lia) (by lia) X.prog X.w _ _ ?_)
    cases hq:D.eqb x y with
    |true=>
     rw[hq,fJ rfl] at hc;refine PySem.W.kat_yes (Cm I hA hQ l m xr yr _ _ (k+1) (i+1) (by lia) (by lia) (fun h=>by simp at h) g2 g4 a2 b2 hc fin ?_);rw[hf];simp only[jb];have e: ∀a:Nat,(((a+1:Nat):Int)+k)=(a:Int)+(k+1):=fun a=>by lia
     rw[e,e]
    |false=>
     rw[hq,fR je] at hc;refine PySem.W.kat_no ?_
     cases hbi:(b&&i==0) with
     |true=>
      obtain⟨⟨a,rfl⟩,c,rfl⟩:=hb hbi x y l m rfl rfl;have:=g1.int;subst this;have:=g3.int;subst this;obtain⟨t,rfl⟩:=a1;obtain⟨t',rfl⟩:=b1;rw[kN] at hc;rw[<-iz hc] at hQ;exact oneLt_int hQ
     |false=>
      exact PySem.W.kat_one _ _ (IG (.inl rfl) I 50 x y vx vy _ _ O O' A r (.inl g1) (.inl g3) a1 b1 (by lia) (by lia) (by lia) hc X.prog X.w _ _ hQ)
theorem RY(I:Inv X pins σ H s){O:AP'}{ds:List D}{xs:List V}{b6:gH}{A:fQ}(hA:A.units+60<cLine)(rr:RepL X.K H O ds xs)(v:Vals xs b6){k:Nat}(B:SortsBy k ds):
  Ask (model X.prog X.w) A (fun s'=>s'=s) (Ka b6) (Fi k) b6.length (fun i j=>ltT (ds.getD i .non) (ds.getD j .non)):=by
 intro i j hi hj s' w6 E';subst w6;have e1:=rr.length;have e2:=v.length;have mi:ds.getD i .non∈ds:=xN (by lia);have mj:ds.getD j .non∈ds:=xN (by lia);have ri:=qq rr (i:=i) (by lia);have rj:=qq rr (i:=j) (by lia);have vi:=qm v hi;have vj:=qm v hj;obtain⟨b,hb⟩:=G7.mp (B.cm _ mi _ mj);have i8:=wu _ _ (B.pr _ mi) (B.pr _ mj) b hb;have aC:=B.hd _ mi;have aB:=B.hd _ mj;have di:=B.dp _ mi;have dj:=B.dp _ mj;show wpAny _ _ (keyLt' (Fi k) (b6.getD i Value.none) (b6.getD j Value.none)) _ _ _;dsimp only;rw[<-i8];generalize ds.getD i .non=x at*;generalize ds.getD j .non=y at*;generalize xs.getD i .non=vx at*;generalize xs.getD j .non=vy at*;generalize b6.getD i Value.none=a at*;generalize b6.getD j Value.none=c at*
 have tups: ∀(l m:List D) (bb:Bool),x= .tup l->y= .tup m->(bb=true-> ∀x y l' m',l=x::l'->m=y::m'->(∃a,x= .int a)/\ ∃c,y= .int c)->wpAny (model X.prog X.w) A (keyLt' (tuples' bb) a c) (fun b' aQ=>aQ=s'/\b'=b) E' s':=fun l m bb hl hm hh=>by
  subst hl hm;obtain⟨p,us,rfl,q,r1⟩:=ri.tup;obtain⟨p2,ws,rfl,q2,r2⟩:=rj.tup;cases vi;cases vj;obtain⟨de,w1,⟨o,ho,hc,n,hd⟩,_⟩:=I.tuple q.sq;obtain⟨is2,w2,⟨o2,m8,v8,n2,hd2⟩,_⟩:=I.tuple q2.sq;rw[kN] at hb;rw[D.dep] at di dj;refine PySem.W.kat_lt ho hd m8 hd2 ?_;have:=Cm I (b:=bb) hA (Q:=fun b' aQ=>aQ=s'/\b'=b) ⟨rfl,rfl⟩ l m us ws de is2 0 0 (by lia) (by lia) (fun h=>hh (by simpa using h)) r1 r2 w1 w2 hb (decide (de.toArray.size<is2.toArray.size)) (by simp[iN]);simpa using this
 match k,aC,aB with
 |0,aC,aB=>
  cases x with
  |int ix=>
   cases y with
   |int iy=>
    have:=ri.int;subst this;have:=rj.int;subst this;obtain⟨t,rfl⟩:=vi;obtain⟨t',rfl⟩:=vj;rw[kN] at hb;rw[<-iz hb];show wpAny _ _ (keyLt' oneType' _ _) _ _ _;rw[keyLt'_oneType];exact oneLt_int ⟨rfl,rfl⟩
   |tup m=>cases m with
    |nil=>simp[jo] at aB
    |cons z m=>cases z<;>simp[jo] at aB
   |_=>simp[jo] at aB
  |tup m=>cases m with
   |nil=>simp[jo] at aC
   |cons z m=>cases z<;>simp[jo] at aC
  |_=>simp[jo] at aC
 |1,aC,aB=>
  cases x with
  |tup l=>
   cases y with
   |tup m=>
    refine tups l m true rfl rfl fun _ x y l' m' hl hm=>?_;subst hl hm;refine⟨?_,?_⟩
    ·cases x with
     |int a=>exact⟨a,rfl⟩
     |_=>simp[jo] at aC
    ·cases y with
     |int a=>exact⟨a,rfl⟩
     |_=>simp[jo] at aB
   |_=>simp[jo] at aB
  |_=>simp[jo] at aC
 |(n+2),aC,aB=>
  cases x with
  |tup l=>
   cases y with
   |tup m=>exact tups l m false rfl rfl fun h=>absurd h je
   |_=>simp[jo] at aB
  |_=>simp[jo] at aC
end
open PySem.W
section
variable {X:Cx}{pins:gc}{σ:L2.St}{H:Hp}{s:eZ}
theorem Cr(I:Inv X pins σ H s){O:AP'}{T:fI}(P:D->Prop)(hP: ∀x v u,P x->Rep X.K H O x v->RelV v u->Looks (model X.prog X.w) s.heap (typeOf u) T): ∀{ds:List D} {xs:List V} {b6:gH},RepL X.K H O ds xs->Vals xs b6->
  (∀d∈ds,∃x l,d= .tup (x::l)/\P x)-> ∃fs,KatTups s.heap b6 fs/\fs.length=b6.length/\ ∀f∈fs,Looks (model X.prog X.w) s.heap (typeOf f) T:=by
 intro iV
 induction iV with
 |nil=>
  intro xs b6 r v _;rw[RepL] at r;subst r;cases v;exact⟨[],KatTups.nil,rfl,fun f hf=>absurd hf jD⟩
 |cons d ds iH=>
  intro xs b6 r v h;rw[RepL] at r;obtain⟨vx,xr,rfl,g1,g2⟩:=r
  cases v with
  |cons a1 a2=>
   obtain⟨fs,k1,k2,k3⟩:=iH g2 a2 fun d hd=>h d (gX _ hd);obtain⟨x,l,rfl,px⟩:=h d gY;obtain⟨p,us,rfl,q,r1⟩:=g1.tup;cases a1;obtain⟨de,w1,⟨o,ho,hc,n,hd⟩,_⟩:=I.tuple q.sq;rw[RepL] at r1;obtain⟨vy,yr,rfl,g3,g4⟩:=r1
   cases w1 with
   |cons b1 b2=>
    rename_i f fr;refine⟨f::fs,KatTups.cons ho hc hd (by simp) k1,by simp[k2],fun g hg=>?_⟩;rcases iY.mp hg with rfl|hg
    ·exact hP x vy _ px g3 b1
    ·exact k3 g hg
theorem Pj(I:Inv X pins σ H s){O:AP'}{ds:List D}{xs:List V}{b6:gH}{A:fQ}(rr:RepL X.K H O ds xs)(v:Vals xs b6){k:Nat}(B:SortsBy k ds)(h2:2<=b6.length):
  wpAny (model X.prog X.w) A (keyKind' b6.toArray) (fun κ' s'=>s'=s/\κ'=Fi k) (fun _ _=>False) s:=by
 have e1:=rr.length;have e2:=v.length
 match k,B with
 |0,B=>
  refine kas_kind (T:= .type "int") h2 (fun u hu=>?_) rfl rfl ⟨rfl,rfl⟩;obtain⟨i,hi,e⟩:=Dc hu;have ri:=qq rr (i:=i) (by lia);have vi:=qm v hi;have hd:=B.hd _ (xN (ds:=ds) (i:=i) (by lia));have:b6.getD i Value.none=u:=by simp[hi,e]
  rw[this] at vi
  cases hx:ds.getD i .non with
  |int a=>
   rw[hx] at ri;have:=ri.int;rw[this] at vi;obtain⟨t,rfl⟩:=vi;exact Looks.of_pure rfl
  |tup l=>
   rw[hx] at hd
   cases l with
   |nil=>simp[jo] at hd
   |cons z m=>cases z<;>simp[jo] at hd
  |_=>rw[hx] at hd;simp[jo] at hd
 |1,B=>
  obtain⟨fs,f1,f2,f3⟩:=Cr I (T:= .type "int") (fun x=> ∃a,x= .int a) (fun x vv u px rx rv=>by
   obtain⟨a,rfl⟩:=px;have:=rx.int;subst this;obtain⟨t,rfl⟩:=rv
   exact Looks.of_pure rfl) rr v fun d hd=>by
    have:=B.hd d hd
    cases d with
    |tup l=>
     cases l with
     |nil=>simp[jo] at this
     |cons z m=>
      cases z with
      |int a=>exact⟨_,m,rfl,a,rfl⟩
      |_=>simp[jo] at this
    |_=>simp[jo] at this
  exact kat_kind f1 (by lia) f3 rfl ⟨rfl,rfl⟩
 |(n+2),B=>
  obtain⟨fs,f1,f2,f3⟩:=Cr I (T:= .type "tuple") (fun x=> ∃a,x= .tup a) (fun x vv u px rx rv=>by
   obtain⟨a,rfl⟩:=px;obtain⟨p,us,rfl,q,r1⟩:=rx.tup;cases rv;obtain⟨de,w1,⟨o,ho,hc,n,hd⟩,_⟩:=I.tuple q.sq;have:Looks (model X.prog X.w) s.heap (typeOf (.ref p)) o.cls:=(Looks.ld ho).andThen .now
   rw[hc] at this;exact this) rr v fun d hd=>by
    have:=B.hd d hd
    cases d with
    |tup l=>
     cases l with
     |nil=>simp[jo] at this
     |cons z m=>
      cases z with
      |tup a=>exact⟨_,m,rfl,a,rfl⟩
      |_=>simp[jo] at this
    |_=>simp[jo] at this
  exact kat_kind f1 (by lia) f3 rfl ⟨rfl,rfl⟩
noncomputable def iE(l:List D):Option (D×Bool):=if kU l=true/\l.length<=sizeLine then some (.lst (pK ltT l),true) else none
noncomputable def mQ(d:D):Option (D×Bool):=(qV d).bind iE
theorem HR{xs:List V}{b6:gH}(v:Vals xs b6): ∀(p:hV),(∀i∈p,i<b6.length)->Vals (p.map fun i=>xs.getD i .non) (p.map fun i=>b6.getD i Value.none):=by
 intro iV
 induction iV with
 |nil=>
  intro _;exact .nil
 |cons i p iH=>
  intro h;exact .cons (qm v (h i gY)) (iH fun j hj=>h j (gX _ hj))
theorem IA{O:AP'}{ds:List D}{xs:List V}(r:RepL X.K H O ds xs): ∀(p:hV),(∀i∈p,i<ds.length)->RepL X.K H O (p.map fun i=>ds.getD i .non) (p.map fun i=>xs.getD i .non):=by
 intro iV
 induction iV with
 |nil=>
  intro _;exact RepL.nil
 |cons i p iH=>
  intro h;exact RepL.cons (qq r (h i gY)) (iH fun j hj=>h j (gX _ hj))
theorem DH{ds:List D}{n:Nat}(hl:n=ds.length)(h1:ds.length<=1){p:hV}(hp:p.Perm (List.range n)):p.map (fun i=>ds.getD i .non)=pK ltT ds:=by
 subst hl
 match ds,h1,hp with
 |[],_,hp=>
  have:p=[]:=by simpa using hp.length_eq
  subst this;rfl
 |[d],_,hp=>
  have hl:p.length=1:=by simpa using hp.length_eq
  match p,hl,hp with
  |[i],_,hp=>
   have:i=0:=by have:=hp.mem_iff.mp (Ez.mpr rfl);simpa using this
   subst this;rfl
theorem qp(hu:X.A.units+62<cLine)(I:Inv X pins σ H s){O:AP'}{ds:List D}{xs:List V}{b6:gH}{x:fI}{Q:VK}{z:D×Bool}(rr:RepL X.K H O ds xs)(v:Vals xs b6)(hg:iE ds=some z)(G:Gen X.K H O z Q)
  (hc: ∀(Q':List Value->Shared->Prop) (E':gm) (A':fQ),A'.handled=X.A.handled->(∀(h':fP) (tk:Nat),(∀b o,s.heap.get? b=some o->h'.get? b=some o)->Q' b6 {s with heap:=h',toks:=tk})->wpAny (model X.prog X.w) A' (collect x) Q' E' s):
  wpAny (model X.prog X.w) X.A (call (.builtin "sorted") [x]) (EP X pins σ Q) X.xe s:=by
 unfold iE at hg;obtain⟨⟨hok,hz⟩,rfl⟩:=fU hg;have e1:=rr.length;have e2:=v.length;refine Calls.call_function_entry kind_sorted plain_sorted entry_sorted (args_sorted1 _) ?_;unfold Builtin.«sorted»;refine eY (m:=checkCount "sorted" 1 1 _) (fH ?_);refine eY (hc _ _ _ rfl fun h1 tk k1=>?_);refine eY (wpAny_newList ?_ (by lia));have ho:(h1.push (seqObj "list" b6.toArray 0)).get? h1.objs.size=some (seqObj "list" b6.toArray 0):=iK _ rfl;have I1:Inv X pins σ H {s with heap:=h1,toks:=tk}:=I.kept k1
 have keep: ∀b o,h1.get? b=some o->(nH (h1.push (seqObj "list" b6.toArray 0)) h1.objs.size b6).get? b=some o:=fun b o e'=>by
  have hb:b≠h1.objs.size:=gE (ie e');refine ik _ (ik _ ?_);rw[Hw _ _ _ _ hb];exact ik _ e'
 have I2:Inv X pins σ H {s with heap:=nH (h1.push (seqObj "list" b6.toArray 0)) h1.objs.size b6,toks:=tk}:=I1.kept keep;have bB: ∀i∈List.range b6.length,i<b6.length:=fun i hi=>by simpa using hi
 refine eY (ku (nA (s:={s with heap:=h1.push (seqObj "list" b6.toArray 0),toks:=tk}) slot_list_sort ⟨_,ho,rfl⟩ entry_list_sort ?body (args_list_sort _)))
 case body=>
  have fin: ∀p:List Nat,p.Perm (List.range b6.length)->p.map (fun i=>ds.getD i .non)=pK ltT ds->EP X pins σ Q (.ref h1.objs.size) {s with heap:=(nH (h1.push (seqObj "list" b6.toArray 0)) h1.objs.size b6).update h1.objs.size (Obj.mapSeq fun _=>(p.map fun i=>b6.getD i Value.none).toArray),toks:=tk}:=fun p hp hs=>by
   have pi: ∀i∈p,i<b6.length:=fun i hi=>by simpa using hp.mem_iff.mp hi
   have ob: ∃n,(nH (h1.push (seqObj "list" b6.toArray 0)) h1.objs.size b6).get? h1.objs.size=some (seqObj "list" #[] n):=by
    obtain⟨e1,o7⟩: ∃e1,((h1.push (seqObj "list" b6.toArray 0)).update h1.objs.size (Obj.mapSeq fun _=>(#[]:Array Value))).get? h1.objs.size=some (seqObj "list" #[] e1):=⟨_,C6 ho fun _=> #[]⟩
    exact⟨e1,ik _ (ik _ o7)⟩
   obtain⟨n,ob⟩:=ob;obtain⟨c2,v8⟩: ∃c2,((nH (h1.push (seqObj "list" b6.toArray 0)) h1.objs.size b6).update h1.objs.size (Obj.mapSeq fun _=>(p.map fun i=>b6.getD i Value.none).toArray)).get? h1.objs.size=some (seqObj "list" (p.map fun i=>b6.getD i Value.none).toArray c2):=⟨_,C6 ob fun _=>(p.map fun i=>b6.getD i Value.none).toArray⟩
   have keep2: ∀b o,h1.get? b=some o->((nH (h1.push (seqObj "list" b6.toArray 0)) h1.objs.size b6).update h1.objs.size (Obj.mapSeq fun _=>(p.map fun i=>b6.getD i Value.none).toArray)).get? b=some o:=fun b o e'=>by
    rw[Hw _ _ _ _ (gE (ie e'))];exact keep b o e'
   have pl:p.length=b6.length:=by simpa using hp.length_eq
   refine⟨.ref h1.objs.size,_,I1.laid (t':=tk) keep2 (gJ _) (show ObjOk X.prog X.w _ _ _ (.lst (p.map fun i=>xs.getD i .non)) from⟨by rw[gW];lia,_,c2,HR v p pi,v8⟩),rfl,?_⟩;refine G.lst I1.fresh ?_;rw[<-hs];exact IA rr p fun i hi=>by have:=pi i hi;lia
  rcases zf hok with hlen|⟨k,B⟩
  ·refine rk (κ:=general') (lt:=fun _ _=>false) (s:={s with heap:=h1.push (seqObj "list" b6.toArray 0),toks:=tk}) ho (by lia) (fun _ _ _=>rfl) (fun _ _=>rfl) (fun h=>by lia) (fun h=>by lia) fun p hp _=>⟨_,rfl,fH ⟨_,rfl,fin p hp ?_⟩⟩
   exact DH (by lia) hlen hp
  ·refine rk (κ:=Fi k) (lt:=fun i j=>ltT (ds.getD i .non) (ds.getD j .non)) (s:={s with heap:=h1.push (seqObj "list" b6.toArray 0),toks:=tk}) ho (by lia) (fun _ _=>RZ _ _) Qp (fun h=>Pj I2 rr v B h) (fun _=>RY (A:=X.A.in1.in1) I2 (by show X.A.units+1+1+60<cLine;lia) rr v B) fun p hp hs=>⟨_,rfl,fH ⟨_,rfl,fin p hp (FZ B.pr (by rw[show ds.length=b6.length by lia];exact hp) hs)⟩⟩
theorem uw(hu:X.A.units+62<cLine):hX X (.builtin "sorted") (rDn X.K (g1 mQ)):=mw fun pins s σ H x u Q O d z I ru np hd hg G=>by
 obtain⟨l,hl,hg⟩:=eU hg
 have hz:l.length<=sizeLine:=by
  unfold iE at hg;exact(fU hg).1.2
 cases d with
 |lst m=>
  cases hl;obtain⟨p,xs,rfl,q,r⟩:=jf hd;cases ru;obtain⟨b6,v,pl,_⟩:=I.list q;have e1:=r.length;have e2:=v.length;obtain⟨o,ho,hc,n,hd⟩:=pl.isList;refine qp hu I r v hg G fun Q' E' A' _ hQ=>wpAny_collect_seq p (.inl rfl) ho hc hd (fun h' k=>by simpa using hQ h' s.toks k) (by rw[gr];lia)
 |tup m=>
  cases hl;obtain⟨p,xs,rfl,q,r⟩:=jm hd;cases ru;obtain⟨b6,v,⟨o,ho,hc,n,hd⟩,_⟩:=I.tuple q;have e1:=r.length;have e2:=v.length;refine qp hu I r v hg G fun Q' E' A' _ hQ=>wpAny_collect_seq p (.inr rfl) ho hc hd (fun h' k=>by simpa using hQ h' s.toks k) (by rw[gr];lia)
 |_=>cases hl
end
theorem nq:bootBuiltins "isinstance"=some (.builtin "isinstance"):=by decide+kernel
structure Tx(mg:jY):Prop where
 n_len:mg "len"=none
 n_abs:mg "abs"=none
 n_int:mg "int"=none
 n_tuple:mg "tuple"=none
 n_list:mg "list"=none
 n_range:mg "range"=none
 n_isinstance:mg "isinstance"=none
 n_bool:mg "bool"=none
 n_max:mg "max"=none
 n_min:mg "min"=none
 n_all:mg "all"=none
 n_any:mg "any"=none
 n_sorted:mg "sorted"=none
 n_enumerate:mg "enumerate"=none
 n_zip:mg "zip"=none
 n_set:mg "set"=none
theorem MI{P:fS}{w:fL}{K:fO}{mg:jY}{base:fP}{f:eX}{fd:kO}{ps:fV}{k:Nat}:FnOk P w K mg base CX0 k f fd ps (spF K fun _=>none) where
 len:=fun vs H Q E h=>by
  obtain⟨T,args,r,outs,_,e,_⟩:=h;cases e
 run:=fun A outer s H args us vs Q E _ _ _ _ h=>by
  obtain⟨T,args,r,outs,_,e,_⟩:=h;cases e
theorem F7{K:fO}{H:Hp}{O:AP'}: ∀ns:List Int,RepL K H O (ns.map .int) (ns.map V.int):=by
 intro iV
 induction iV with
 |nil=>
  exact RepL.nil
 |cons n ns iH=>
  exact RepL.cons Rep.mkInt (iH)
theorem Ph{K:fO}{ev:EvF}{H:Hp}{a:eX}{ns:fN}(hS:SqL K H a (ns.map V.int)){o:Bool}{outs:Dn}(h:ev [(.lst (ns.map .int),false)]=some ((.bl true,o),outs)):spF K ev [.ref a] H (fun v _=>v= .bl true) fun _ _ _=>False:=by
 have no: ∀b,¬OwnA [some (V.ref a)] [some (D.lst (ns.map .int),false)] b:=fun b ⟨i,d,h1,h2⟩=>by
  cases i with
  |zero=>simp at h1
  |succ i=>simp at h1
 refine⟨fun _=>False,[(.lst (ns.map .int),false)],_,outs,⟨rfl,fun i d hd=>?_,fun i d hd=>?_,fun i j d e b h1=>?_,fun b z=>absurd z (no b),fun b z=>z.elim⟩,h,fun v H' P=>?_⟩
 ·cases i with
  |zero=>
   simp at hd;subst hd;refine⟨_,rfl,Rep.mkLst (a:=a) (xs:=ns.map V.int) ?_ (F7 ns)⟩;exact hS.imp (fun z=>⟨z,fun z=>z.elim (no a) id⟩) id
  |succ i=>simp at hd
 ·cases i with
  |zero=>simp at hd
  |succ i=>simp at hd
 ·cases i with
  |zero=>simp at h1
  |succ i=>simp at h1
 ·cases o with
  |false=>exact P.2.2.bl
  |true=>
   obtain⟨p,_,_,_,ok⟩:=P.2;exact ok.elim
noncomputable def mq(op k7:CmpOp)(fa fb fc:FO):F:=fun δ=>(fa δ).bind fun p=>(fb p.2).bind fun q=>match res q.2 p.1,res q.2 q.1 with
 |some (.int i),some (.int j)=>if iN op i j=true then(fc q.2).bind fun r=>match res r.2 r.1 with
   |some (.int k)=>some ((.bl (iN k7 j k),false),r.2)
   |_=>none
  else some ((.bl false,false),q.2)
 |_,_=>none
section
variable {X:Cx}{a b c:fw}{fa fb fc:FO}{pos:Pos}{op k7:CmpOp}
theorem wm(h:nO op):OpR X (compareOp op) (rI0 fun i j=> .bl (iN op i j)):=by
 rcases h with rfl|rfl|rfl|rfl
 ·exact Rk
 ·exact Rl
 ·exact Rm
 ·exact Ro
theorem zE(hw:tF X.K (mq op k7 fa fb fc) σ H Q):DE (rI0 fun i j=> .bl (iN op i j)) (rI0 fun i j=> .bl (iN k7 i j)) (tO X.K fa) (tO X.K fb) (tO X.K fc) σ H Q:=by
 obtain⟨δ,T,rr,δ',E,e,k⟩:=hw;unfold mq at e;obtain⟨⟨o1,δ1⟩,h1,e⟩:=eU e;obtain⟨⟨o2,δ2⟩,h2,e⟩:=eU e;refine⟨δ,T,o1,δ1,E,h1,fun v H1 P1=>⟨δ1,yY T o1 v,o2,δ2,P1.er E,h2,fun u H2 P2=>?_⟩⟩;have B:=Ops.cons E P1 (Ops.cons (P1.er E) P2 (Ops.nil (P2.er (P1.er E))));dsimp only at e;split at e
 ·rename_i i j hx hy;have hv:=gb (B.view (j:=0) rfl rfl hx);have hu:=gb (B.view (j:=1) rfl rfl hy);refine⟨i,j,hv,hu,iN op i j,rfl,?_⟩;by_cases c:iN op i j=true
  ·rw[fJ c] at e ⊢;obtain⟨⟨o3,δ3⟩,h3,e⟩:=eU e;dsimp only at e;split at e
   ·rename_i k' hz;obtain⟨rfl,rfl⟩:=fK e;refine⟨δ2,_,o3,δ3,P2.er (P1.er E),h3,fun w H3 P3=>?_⟩;have B3:=Ops.cons E P1 (Ops.cons (P1.er E) P2 (Ops.cons (P2.er (P1.er E)) P3 (Ops.nil (P3.er (P2.er (P1.er E))))));exact⟨j,k',hu,gb (B3.view (j:=2) rfl rfl hz),(B3.done k).bl⟩
   ·cases e
  ·rw[fR c] at e ⊢;obtain⟨rfl,rfl⟩:=fK e;exact(B.done k).bl
 ·cases e
theorem IS(ho:nO op)(s9:nO k7)(ha:PO X a fa)(hb:PO X b fb)(hc:PO X c fc)(hm:lastMarks [op,k7] [b,c]=false:=by with_unfolding_all rfl):PX X (.Compare a [op,k7] [b,c] pos) (mq op k7 fa fb fc):=
 PX.imp (Jv (wm ho) (wm s9) ha hb hc hm) fun σ H Q hw=>zE hw
theorem Gd(ho:nO op)(s9:nO k7)(ha:PO X a fa)(hb:PO X b fb)(hc:PO X c fc)(hm:lastMarks [op,k7] [b,c]=false:=by with_unfolding_all rfl):PTX X (.Compare a [op,k7] [b,c] pos) (fT (mq op k7 fa fb fc)):=
 PT.imp' (IU (wm ho) (wm s9) ha hb hc hm) fun σ H Q hw=>zE (Ic hw)
end
section
variable {X:Cx}
end
end PX
namespace HT
open PySem PySem.Spec PyProof.Rows L2
section
variable {prog:fS}{w:fL}{A:fQ}{E:gm}{s:eZ}
theorem Ef{t sl:eX}{items:lq}{vl vu:fI}{lo hi:Option Int}{Q:gm}(ht:IsTup s.heap t items)(hs:s.heap.IsSliceOf sl vl vu .none)(pl:IsPart vl lo)(pu:IsPart vu hi)
  (hw:sIx items.size 0 lo=0/\sIx items.size items.size hi=items.size)(h:Q (.ref t) s):wpAny (model prog w) A (getItem (.ref t) (.ref sl)) Q E s:=by
 obtain⟨os,aA,bI,cJ⟩:=id hs;have eD:s.TypeIs (.ref sl) "slice":=⟨os,aA,bI⟩
 unfold getItem
 try with_reducible refine ku ?_
 first|refine eY (fH ?_)|skip
 refine eY (wpAny_sequenceKey ht.typeIs (by decide) ?_)
 refine eY (vF (name:=Str.ofString "__getitem__") ht.typeIs yE
  (nA yE ht.typeIs HH ?_ (args_tuple_getitem _ _)))
 show wpAny _ _ (Builtin.Tuple.tupleItemsOf (.ref t)>>=_) _ _ s;refine eY (tupleItemsOf_ ht ?_);refine eY (tD eD ?_);rw[fJ (by decide)];refine eY (nJ hs pl pu ?_);rw[hw.1,hw.2];show wpAny _ _ (if((((0:Nat):Int)==0&&(1:Int)==1&&(items.size-0)==items.size)=true) then _ else _) _ _ s;rw[fJ (by simp)];refine eY (m:=Builtin.Tuple.tupleIsExact _) ?_;unfold Builtin.Tuple.tupleIsExact;refine eY (tD ht.typeIs ?_);refine fH ?_;rw[fJ (by decide)];refine eY (pB ?_)
 first
  |exact eY (fH ⟨_,rfl,fH h⟩)
  |exact fH ⟨_,rfl,fH h⟩
  |exact eY (fH (fH ⟨_,rfl,fH h⟩))
  |(refine eY ?_;trace_state;done)
end
end HT
namespace PX
open PySem PySem.Spec PyProof.Rows L2 PySem.SeqAt
noncomputable def we(l:List D)(lo hi:Option Int):List D:=(l.drop (HT.sIx l.length 0 lo)).take (HT.sIx l.length l.length hi-HT.sIx l.length 0 lo)
noncomputable def gSl(lo hi:Option Int):D->Option (D×Bool)
 | .tup l=>some (.tup (we l lo hi),false)
 | .lst l=>some (.lst (we l lo hi),true)
 |_=>none
def TU(K:fO):V->Option Int->Option Int->Hp->VK->Prop:=fun x lo hi H Q=> ∃(O:AP') (d:D) (z:D×Bool),(∀p,¬Ow (H p)-> ¬O p)/\ip K H O d x/\gSl lo hi d=some z/\Gen K H O z Q
theorem RepL.cut{K H}(r:RepL K H O l xs)(lo hi:Option Int):RepL K H O (we l lo hi) (Cw xs lo hi):=by
 unfold we Cw;rw[r.length];exact(r.drop _).take _
section
variable {X:Cx}
theorem BM{pins:gc}{s:eZ}{σ:L2.St}{H:Hp}{a:eX}{v vl vu:fI}{lo hi:Option Int}{sl:eX}{Q:VK}{O:AP'}{l:List D}{xs:List V}(I:Inv X pins σ H s)(rx:RelV (.ref a) v)(hs:s.heap.IsSliceOf sl vl vu .none)(pl:IsPart vl lo)(pu:IsPart vu hi)
  (q:SqL X.K H a xs)(r:RepL X.K H O l xs)(G:Gen X.K H O (.lst (we l lo hi),true) Q): ∃T id,typeLookup (.type T) "__getitem__"=pure (some (.builtin id))/\s.TypeIs v T/\wpAny (model X.prog X.w) X.A (getItem v (.ref sl)) (EP X pins σ Q) X.xe s:=
 Lm pins s σ H (.ref a) v vl vu lo hi sl Q I rx hs pl pu ⟨a,xs,rfl,q,fun p hp=>G.lst hp (r.cut lo hi)⟩
theorem QR:SlR X (TU X.K):=by
 intro pins s σ H x v vl vu lo hi sl Q I rx hs pl pu h;obtain⟨O,d,z,np,hd,hg,G⟩:=h
 cases d with
 |tup l=>
  cases hg;rcases hd with hd|⟨a,_,h⟩
  ·obtain⟨a,xs,rfl,q,r⟩:=hd.tup;by_cases hw:HT.sIx xs.length 0 lo=0/\HT.sIx xs.length xs.length hi=xs.length
   ·cases rx;obtain⟨b6,rv,ht,hz⟩:=I.tuple q.sq;have hlen:b6.toArray.size=xs.length:=by rw[gr];exact rv.length.symm
    refine⟨"tuple",_,yE.lookup,ht.typeIs,?_⟩;refine HT.Ef ht hs pl pu (by rw[hlen];exact hw) ⟨.ref a,H,I,rfl,?_⟩
    have e:we l lo hi=l:=by
     unfold we;rw[<-r.length,hw.1,hw.2];simp[r.length]
    rw[e] at G;exact G (.ref a) H (fun _ _ e=>e) hd
   ·exact NV pins s σ H (.ref a) v vl vu lo hi sl Q I rx hs pl pu ⟨a,xs,rfl,q.sq,hw,fun p hp=>G.tup hp (np p (nOw hp)) (r.cut lo hi)⟩
  ·exact h.elim
 |lst l=>
  cases hg;rcases hd with hd|⟨a,rfl,h⟩
  ·obtain⟨a,xs,rfl,q,r⟩:=hd.lst;exact BM I rx hs pl pu q.sq r G
  ·obtain⟨xs,e,r⟩:=h;exact BM I rx hs pl pu (.inl (.inl e)) r G
 |_=>cases hg
end
noncomputable def oK(fa fl:FO):F:=fun δ=>(fa δ).bind fun p=>(fl p.2).bind fun q=>match res q.2 q.1 with
 |some (.int i)=>(res q.2 p.1).bind fun x=>(gSl (some i) none x).bind fun z=>some (z,q.2)
 |_=>none
noncomputable def uq(fa fh:FO):F:=fun δ=>(fa δ).bind fun p=>(fh p.2).bind fun q=>match res q.2 q.1 with
 |some (.int i)=>(res q.2 p.1).bind fun x=>(gSl none (some i) x).bind fun z=>some (z,q.2)
 |_=>none
section
variable {X:Cx}{a lo hi:fw}{fa fl fh:FO}{pos p2:Pos}
theorem LF(ha:PO X a fa)(hl:PO X lo fl):PX X (.Subscript a (.Slice (some lo) none none p2) pos) (oK fa fl):=
 PX.imp (BX QR ha (EX hl) EY) fun σ H Q hw=>by
  obtain⟨δ,T,rr,δ',E,e,k⟩:=hw;unfold oK at e;obtain⟨⟨o1,δ1⟩,h1,e⟩:=eU e;obtain⟨⟨o2,δ2⟩,h2,e⟩:=eU e;dsimp only at e;split at e
  ·rename_i i hi;obtain⟨x,hx,e⟩:=eU e;obtain⟨z,hz,e⟩:=eU e;obtain⟨rfl,rfl⟩:=fK e;refine⟨δ,T,o1,δ1,E,h1,fun v H1 P1=>⟨δ1,yY T o1 v,o2,δ2,P1.er E,h2,fun u H2 P2=>?_⟩⟩;have B:=Ops.cons E P1 (Ops.cons (P1.er E) P2 (Ops.nil (P2.er (P1.er E))));exact⟨i,gb (B.view (j:=1) rfl rfl hi),_,x,z,fun p hp=>B.np hp,B.view (j:=0) rfl rfl hx,hz,B.done k⟩
  ·cases e
theorem LG(ha:PO X a fa)(hl:PO X hi fh):PX X (.Subscript a (.Slice none (some hi) none p2) pos) (uq fa fh):=
 PX.imp (BX QR ha EY (EX hl)) fun σ H Q hw=>by
  obtain⟨δ,T,rr,δ',E,e,k⟩:=hw;unfold uq at e;obtain⟨⟨o1,δ1⟩,h1,e⟩:=eU e;obtain⟨⟨o2,δ2⟩,h2,e⟩:=eU e;dsimp only at e;split at e
  ·rename_i i hi;obtain⟨x,hx,e⟩:=eU e;obtain⟨z,hz,e⟩:=eU e;obtain⟨rfl,rfl⟩:=fK e;refine⟨δ,T,o1,δ1,E,h1,fun v H1 P1=>⟨δ1,yY T o1 v,o2,δ2,P1.er E,h2,fun u H2 P2=>?_⟩⟩;have B:=Ops.cons E P1 (Ops.cons (P1.er E) P2 (Ops.nil (P2.er (P1.er E))));exact⟨i,gb (B.view (j:=1) rfl rfl hi),_,x,z,fun p hp=>B.np hp,B.view (j:=0) rfl rfl hx,hz,B.done k⟩
  ·cases e
end
end PX
namespace L2
open PySem PySem.Spec PyProof.Rows
section
variable {X:Cx}
def Qy(J:It)(g:TG)(ti:TT)(tb:Addr->TB)(pre:St->St)(σ:St)(H:Hp)(Q:VK):Prop:=EI (.set (fun _=>false) 0) J g ti tb pre σ H Q
noncomputable def AE(wi:TI)(g:TG)(ti:TT)(tb:Addr->TB)(pre:St->St):TE:=fun σ H Q=>wi σ H fun J H1=>Qy J g ti tb pre σ H1 Q
theorem Jr{elt:fw}{c:oE}{fY:nr}{scope:hJ}{pos:Pos}{N':fV}{pre:St->St}{wi:TI}{g:TG}{ti:TT}{tb:Addr->TB}
  (S:CompScope X N' scope pre)(hc:X.calm=true)(ha:c.is_async=0)(l4: ∀g',fY[0]?=some g'->g'.is_async=0)
  (hs: ∀x,foldedSetIterable c.iter X.env x=pure x)(pi:PI X c.target c.iter wi)
  (p5: ∀(cl:jy) (C:eX) (s3:eZ) (H3:Hp) (fp:ig) (pins:gc),let X':=X.comp N' scope cl C s3 H3 fp pins
   PG X' c.target g/\PIf X' c.ifs ti/\ ∀d,PB X' (gU (.SetComp elt (c::fY) scope pos) 0 (.ref d) X'.env) (tb d)):
  PE X (.SetComp elt (c::fY) scope pos) (AE wi g ti tb pre):=by
 intro pins s σ H Q I h;obtain⟨tg,aH,ifs,az⟩:=c;obtain rfl:az=0:=ha;obtain⟨cl,l9,k9,k5⟩:=sJ X.env scope fun x hx hf=>I.ok.has x.1 (S.free x hx hf);rw[arm_eval_SetComp];show wpAny _ X.A (comprehension _ scope X.env _ (newSet (.type "set")) false (eval aH X.env)) _ _ s;refine Dj (use:=none) (g:=⟨tg,aH,ifs,0⟩) (gs:=fY) rfl hs l9 S.kind S.names (thn (pi pins s σ H _ I h) fun v s1 h1=>thn h1 fun cw s2 h2=>?_);obtain⟨it,fp,tn,J,H2,rfl,I2,T,v9,f2,hw⟩:=h2;refine wpAny_newSet_of (knd:=intKind X.prog X.w) fun led hS=>?_;refine vB (RR:=fun acc C=>compPost (model X.prog X.w) X.A X.xe none (EP X pins σ Q) acc C) (.inr ⟨_,_,_,_,rfl⟩) rfl S hc rfl l4 p5 k9 k5 I2 T v9 f2 (I2.laid (t':=s2.toks) (o:= .set (fun _=>false) 0) (fun b ob q=>ik _ q) (gJ _) hS) hw fun d cl' s3 H3 H4 σ' s4 I3 ff J4 q=>?_;obtain⟨m,hn,_⟩:=id J4.loc;exact⟨m,hn,fun h' ay=>⟨.ref d,H4,yu I3 ff J4 ay,rfl,q⟩⟩
def NM(d:eX)(te:TE):TB:=fun σ H N=>te σ H fun y H1=> ∃k S n,y= .int k/\H1 d=some (.set S n)/\n+1<scanBound/\N σ (upd H1 d (.set (fun k'=>S k'||decide (k'=k)) (if S k then n else n+1)))
theorem Jx{elt:fw}{gens:nr}{sc:hJ}{p:Pos}{depth:Nat}{d:eX}{te:TE}(hn:gens[depth+1]?=none)(he:PE X elt te):PB X (gU (.SetComp elt gens sc p) depth (.ref d) X.env) (NM d te):=by
 intro pins s σ H N I h
 have e1:gU (.SetComp elt gens sc p) depth (.ref d) X.env=(do let v <-eval elt X.env;standAt elt.pos;let _ <-call (.builtin "set.add") [.ref d,v]):=by
  unfold gU;simp -iota only[clausesOf.eq_def];rw[hn]
 rw[e1];refine eY (thn (he pins s σ H _ I h) fun u s1 ⟨y,H1,I1,ru,k,S,n,ey,hd,hz,q⟩=>?_);subst ey;obtain⟨t,rfl⟩:=ru;have hS:s1.heap.SetOf (intKind X.prog X.w) d S n:=I1.hok d _ hd;refine eY (uY (eY (call_set_add (knd:=intKind X.prog X.w) (k:=k) (intKind_is _ _ k t) rfl hS hz fun h' ay u4=>fH ⟨σ,_,?_,q⟩)));refine I1.write (x:=d) (e:=d) (by rw[hd];exact trivial) (.inl rfl) (fun b u hb hu=>by rw[ay.2 b hb];exact hu) ?_ u4;obtain⟨o,_,_,_,ho,_⟩:=u4;exact⟨o,ho⟩
end
end L2
namespace PX
open PySem PySem.Spec PyProof.Rows L2 PySem.SeqAt
noncomputable def yy(f:F):FB:=fun acc δ=>(f δ).bind fun p=>match p.1.1 with
 | .int k=>if acc.length+1<scanBound then some (acc++[.int k],p.2) else none
 |_=>none
section
variable {X:Cx}{A:gR}{d:eX}{elt:fw}{f:F}
theorem Gn{gens:nr}{sc:hJ}{p:Pos}{depth:Nat}(hn:gens[depth+1]?=none)(he:PX X elt f):PB X (gU (.SetComp elt gens sc p) depth (.ref d) X.env) (tBx true X.K A d (yy f)):=PB.imp' (Jx hn he) fun σ H N hw=>by
 obtain⟨δ,T,acc,i3,δ',B,e,k⟩:=hw;obtain⟨⟨r,δ1⟩,h1,e⟩:=eU e;obtain⟨r1,r2⟩:=r
 cases r1 with
 |int i=>
  obtain⟨hz,e⟩:=fU e;obtain⟨rfl,rfl⟩:=tq e;refine⟨δ,T,(.int i,r2),δ1,B.er,h1,fun v H1 P=>?_⟩;obtain⟨E1,rv⟩:=P.rep B.er;have hv:v= .int i:=rv.int;have S1:SK A σ δ H σ δ1 H1:=P.1.sk;have B1:=B.step S1 E1;have hle:=Lq acc (fun _=>false,0);refine⟨i,_,_,hv,B1.at',by unfold kW;lia,k σ _ ?_ ?_⟩
  ·have:SKd A d σ δ1 H1 σ δ1 (upd H1 d (.set (fun k'=>(kW acc).1 k'||decide (k'=i)) (if(kW acc).1 i then(kW acc).2 else(kW acc).2+1))):=⟨fun a o e n nd=>by rw[gi nd];exact e,fun i a z=> .inl z,fun a z=>by
    by_cases ha:a=d
    ·subst ha;rw[fX];simp
    ·rw[gi ha];exact z,fun _ _=>rfl⟩
   exact S1.skd.trans this
  ·refine⟨E1.mono (fun b o e n=>by rw[gi (by intro z;subst z;exact n B.td)];exact e) (fun _ _ z=>z) (fun a z=>?_),B.td,?_⟩
   ·by_cases ha:a=d
    ·subst ha;rw[fX];trivial
    ·rw[gi ha];exact E1.dom a z
   ·show upd _ _ _ _=_;rw[fX,zg]
 |_=>cases e
end
def qy(caps:hV)(k:Nat)(fi:FIt)(tg:Tg)(ti:FT)(fb:FB):F:=fun δ=>(fi δ).bind fun p=>(iJ p.2 (caps.map .slot)).bind fun args=>
 if(fW (caps.map .slot) args).Nodup then(jA tg ti fb p.1 [] (args.map some++List.replicate k none)).bind fun q=>some ((.int (kW q.1).2,false),wb (caps.map .slot) args (gk args q.2) p.2) else none
theorem GQ{K:fO}{caps:hV}{k:Nat}{fi:FIt}{tg:Tg}{ti:FT}{fb:FB}{σ:L2.St}{H:Hp}{Q:VK}(h:tF K (qy caps k fi tg ti fb) σ H Q):
  AE (tI K (fun i=>i∉caps) fi) (tG K (fun i=>caps.length<=i) tg) (tT K ti) (fun d=>tBx true K (fun i=>caps.length<=i) d fb) (yI caps k) σ H (fun x H1=> ∃S n,∃a,x= .ref a/\H1 a=some (.set S n)/\Q (.int n) H1):=zC (S:=true) h
section
variable {X:Cx}{elt:fw}{c:oE}{fY:nr}{scope:hJ}{pos pos' p:Pos}{N':fV}{caps:hV}{k:Nat}{fi:FIt}{tg:Tg}{ti:FT}{fb:FB}
theorem GX:hX X (.builtin "len") (fun xs H Q=> ∃S n,∃a,xs=[.ref a]/\H a=some (.set S n)/\Q (.int n) H):=by
 intro pins s σ H xs us Q I r h;obtain⟨S,n,a,rfl,e,q⟩:=h;obtain⟨u,rfl,ru⟩:=lJ r;cases ru;obtain⟨o,es,ep,t,ho,hex,hd,_,_,hb,hf,hn⟩:=(show s.heap.SetOf (intKind X.prog X.w) a S n from I.hok a _ e)
 have h63:(es.size:Int)<2^63:=by
  have:scanBound=4096:=rfl
  lia
 refine call_len_set ho hex hd hf h63 ⟨.int n,H,?_,⟨_,by rw[hn]⟩,q⟩;exact(I.tok _)
theorem F9{z:Str}(C:CompOk X N' scope caps k)(hc:X.calm=true)(ha:c.is_async=0)(l4: ∀g',fY[0]?=some g'->g'.is_async=0)
  (hs: ∀x,foldedSetIterable c.iter X.env x=pure x)(pi:PIX X (fun i=>i∉caps) c.target c.iter fi)
  (p5: ∀(cl:jy) (C:eX) (s3:eZ) (H3:Hp) (fp:ig) (pins:gc),let X':=X.comp N' scope cl C s3 H3 fp pins
   PGX X' (fun i=>caps.length<=i) c.target tg/\PIf X' c.ifs (tT X.K ti)/\ ∀d,PB X' (gU (.SetComp elt (c::fY) scope pos) 0 (.ref d) X'.env) (tBx true X.K (fun i=>caps.length<=i) d fb))
  (hg:Gl X z)(hm:X.mg z=none)(hv:bootBuiltins z=some (.builtin "len"))(hn:z≠"__name__")(j6:(z==("__debug__":Str))=false)
  (h1:starEach [.SetComp elt (c::fY) scope pos] X.env=(false,eval (.SetComp elt (c::fY) scope pos) X.env)::starEach [] X.env)(h9:(backTo pos' (starEach [] X.env)).any (·.1)=false):
  PX X (.Call (.Name z p) [.SetComp elt (c::fY) scope pos] [] pos') (qy caps k fi tg ti fb):=
 PX.imp (tV GX hg hm hv (iX (Jr (g:=tG X.K (fun i=>caps.length<=i) tg) (ti:=tT X.K ti) (tb:=fun d=>tBx true X.K (fun i=>caps.length<=i) d fb) C.sco hc ha l4 hs pi p5) ko h1) hn j6 h1 h9) fun σ H Q h=>by
  have q:=GQ h
  have mono: ∀{Q1 Q2:VK},(∀v H,Q1 v H->Q2 v H)->AE (tI X.K (fun i=>i∉caps) fi) (tG X.K (fun i=>caps.length<=i) tg) (tT X.K ti) (fun d=>tBx true X.K (fun i=>caps.length<=i) d fb) (yI caps k) σ H Q1->AE (tI X.K (fun i=>i∉caps) fi) (tG X.K (fun i=>caps.length<=i) tg) (tT X.K ti) (fun d=>tBx true X.K (fun i=>caps.length<=i) d fb) (yI caps k) σ H Q2:=by
   rintro Q1 Q2 hq ⟨δ,T,ds,δ1,E,h1,kk⟩;refine⟨δ,T,ds,δ1,E,h1,fun J H1 K1 E1 ok d hd=>?_⟩;obtain⟨W,w0,step⟩:=kk J H1 K1 E1 ok d hd;refine⟨W,w0,fun i m σ2 H2 w=>?_⟩;rcases step i m σ2 H2 w with⟨s1,s2⟩|s
   ·exact .inl ⟨s1,hq _ _ s2⟩
   ·exact .inr s
  exact mono (fun v H1 ⟨S,n,a,e,h2,h3⟩=>⟨S,n,a,by rw[e],h2,h3⟩) q
end
end PX
namespace HT
open PySem PySem.Spec PyProof.Rows L2
section
variable {prog:fS}{w:fL}{A:fQ}{E:gm}{s:eZ}
end
end HT
namespace L2
open PySem PySem.Spec PyProof.Rows
section
variable {X:Cx}{e st:fw}{te ts:TE}{pos p2:Pos}
end
end L2
namespace PX
open PySem PySem.Spec PyProof.Rows L2 PySem.SeqAt
section
variable {X:Cx}{a st:fw}{fa fs:FO}{pos p2:Pos}
end
section
variable {es:hW}{env:Env}
end
end PX
namespace TT
open PySem
noncomputable def S:Nat->Nat
 |0=>0
 |n+1=>5*S n+1
theorem FL(m:Nat): ∀n:Nat,S (m+n)=5^n*S m+S n
 |0=>by simp[S]
 |n+1=>by
  rw[<-uO,S,FL m n,S,qM,rF,<-sU,uM 5 (5^n)];lia
theorem yj: ∀n:Nat,∃c,5^n=4*c+1
 |0=>⟨0,rfl⟩
 |n+1=>by
  obtain⟨c,e⟩:=yj n;exact⟨5*c+1,by rw[qM,e];lia⟩
theorem KY: ∀k:Nat,∃c,S (2^k)=2^k*(2*c+1)
 |0=>⟨0,rfl⟩
 |k+1=>by
  obtain⟨c,e⟩:=KY k;obtain⟨d,f⟩:=yj (2^k)
  have h:S (2^(k+1))=(5^2^k+1)*S (2^k):=by
   rw[qM,Nat.mul_two,FL,Ad,C4]
  refine⟨2*(d*c)+d+c,?_⟩;rw[h,f,e,qM];have:4*d+1+1=2*(2*d+1):=by lia
  rw[this,sU 2,uM (2*d+1),sU (2^k),sU (2^k),<-sU 2 (2^k),uM 2 (2^k),sU (2^k) 2]
  congr 2
  rw[Ad,rF,C4,uL,sU 2 c,Ac c 2 d,uM c d]
  lia
theorem KZ(k n:Nat):S (2^k+n)%2^k=S n%2^k:=by
 obtain⟨c,e⟩:=KY k;rw[FL,e,Ac,Nat.mul_add_mod]
theorem FK: ∀(k e:Nat),e<2^k-> ∃n,n<2^k/\S n%2^k=e:=by
 intro iV
 induction iV with
 |zero=>
  intro e h;exact⟨0,by simp,by simp at h;subst h;rfl⟩
 |succ k iH=>
  intro e h;have hP:0<2^k:=Nat.two_pow_pos k;obtain⟨n,hn,hs⟩:=iH (e%2^k) (uK _ hP);obtain⟨c,e1⟩:=KY k;obtain⟨d,e2⟩:=yj n
  have h2:S (2^k+n)=2^(k+1)*(4*d*c+2*d+c)+2^k+S n:=by
   rw[FL,e1,e2,qM,Ac,sU (2^k) 2]
   have:(4*d+1)*(2*c+1)=2*(4*d*c+2*d+c)+1:=by
    rw[Ad,rF,C4,uL,Ac (4*d) 2 c];lia
   rw[this,rF,uL]
  rw[qM] at h h2 ⊢;generalize 2^k=P at*;have d1:=Nat.div_add_mod (S n) P;have d2:=Nat.div_add_mod e P;rw[hs] at d1;have hq:e / P<2:=Nat.div_lt_of_lt_mul (by rw[uM] at h;lia)
  have mk: ∀a q x,a=P*2*q+x->x<P*2->a%(P*2)=x:=fun a q x h1 h2=>by
   rw[h1,Nat.mul_add_mod,Nat.mod_eq_of_lt h2]
  have hm:=uK e hP;have q2:S n / P=2*(S n / P / 2)+S n / P%2:=by lia
  have sn:S n=P*2*(S n / P / 2)+(P*(S n / P%2)+e%P):=by
   rw[sU,<-uO,<-rF,<-q2];exact d1.symm
  generalize S n / P / 2=q at sn;have r2:S n / P%2<2:=uK _ (by decide);generalize S n / P%2=r at sn r2;generalize e / P=f at*;by_cases hr:r=f
  ·exact⟨n,by lia,mk _ q _ (by rw[sn,hr,d2]) h⟩
  ·refine⟨P+n,by lia,mk _ (4*d*c+2*d+c+q+r) _ ?_ h⟩;rw[h2,sn,rF (P*2) _ r,rF (P*2) _ q];rcases(show r=0\/r=1 by lia) with rfl|rfl
   ·have:f=1:=by lia
    subst this;rw[C3,C3];rw[uL] at d2;lia
   ·have:f=0:=by lia
    subst this;rw[uL,uL];rw[C3] at d2;lia
noncomputable def ls(mask:Nat)(h:Int):Nat->Nat×Nat
 |0=>(SetTable.bits h%(mask+1),SetTable.bits h)
 |k+1=>SetTable.leap mask (ls mask h k).1 (ls mask h k).2
theorem MT(h:Int):SetTable.bits h<2^64:=by
 unfold SetTable.bits;have:=C2 h (show(0:Int)<2^64 by decide);have:=C1 h (show(2^64:Int)≠0 by decide)
 lia
theorem Fd(mask:Nat)(h:Int): ∀k,(ls mask h k).1<=mask
 |0=>by have:=uK (SetTable.bits h) (show 0<mask+1 by lia);show _%(mask+1)<=_;lia
 |k+1=>by
  show(_%(mask+1))<=_;have:=uK ((ls mask h k).1*5+1+(ls mask h k).2 / 32) (show 0<mask+1 by lia);lia
theorem Fc(mask:Nat)(h:Int): ∀k,(ls mask h k).2=SetTable.bits h / 32^k
 |0=>by simp[ls]
 |k+1=>by
  show(ls mask h k).2 / 32=_;rw[Fc mask h k,qM,Nat.div_div_eq_div_mul]
theorem Mx(mask:Nat)(h:Int)(k:Nat)(hk:13<=k):(ls mask h k).2=0:=by
 rw[Fc];refine Nat.div_eq_of_lt (lI (MT h) ?_);exact mH (show 2^64<=32^13 by decide) (wA (by decide) hk)
theorem JO(mask:Nat)(h:Int)(m:Nat)(h0:(ls mask h 13).1=S m%(mask+1)): ∀n,(ls mask h (13+n)).1=S (m+n)%(mask+1)
 |0=>h0
 |n+1=>by
  show(((ls mask h (13+n)).1*5+1+(ls mask h (13+n)).2 / 32)%(mask+1))=_;rw[Mx mask h _ (by lia),JO mask h m h0 n,Nat.zero_div,Nat.add_zero,<-uO m n 1,S,Nat.add_mod,Nat.mod_mul_mod,<-Nat.add_mod,uM 5]
theorem Cc(hk:mask+1=2^k)(h:Int)(he:e<=mask): ∃n,n<mask+14/\(ls mask h n).1=e:=by
 have hl:=Fd mask h 13;obtain⟨m,hm,em⟩:=FK k (ls mask h 13).1 (by lia);obtain⟨q,hq,eq⟩:=FK k e (by lia);rw[<-hk] at em eq hm hq;have far:=JO mask h m em.symm;by_cases hqm:m<=q
 ·exact⟨13+(q-m),by lia,by rw[far,show m+(q-m)=q by lia];exact eq⟩
 ·refine⟨13+(q+(mask+1)-m),by lia,?_⟩;rw[far,show m+(q+(mask+1)-m)=2^k+q by lia,hk,KZ,<-hk];exact eq
theorem DM(mask i:Nat)(h:i<=mask):i<=SetTable.runEnd mask i/\SetTable.runEnd mask i<=mask/\SetTable.runEnd mask i<=i+9:=by
 unfold SetTable.runEnd;split<;>lia
noncomputable def tm(mask:Nat)(h:Int):Nat->Nat
 |0=>0
 |k+1=>tm mask h k+(SetTable.runEnd mask (ls mask h k).1-(ls mask h k).1)+1
theorem Na(mask:Nat)(h:Int): ∀k,tm mask h k<=10*k
 |0=>gJ _
 |k+1=>by
  have:=Na mask h k;have:=DM mask _ (Fd mask h k);unfold tm;lia
noncomputable def at_(mask:Nat)(h:Int)(k t:Nat):SetTable.Probe:=⟨(ls mask h k).1+t,SetTable.runEnd mask (ls mask h k).1-(ls mask h k).1-t,(ls mask h k).1,(ls mask h k).2,none⟩
theorem rX(mask:Nat)(h:Int): ∀k t,t<=SetTable.runEnd mask (ls mask h k).1-(ls mask h k).1->pr mask h (tm mask h k+t)=at_ mask h k t
 |0,0,_=>rfl
 |k+1,0,_=>by
  have e:=rX mask h k (SetTable.runEnd mask (ls mask h k).1-(ls mask h k).1) (gJ _);show adv mask (pr mask h (tm mask h k+(SetTable.runEnd mask (ls mask h k).1-(ls mask h k).1)))=_;rw[e];unfold adv at_;simp only[Nat.sub_self,nE,gO,gt_iff_lt];rfl
 |k,t+1,ht=>by
  have e:=rX mask h k t (by lia);show adv mask (pr mask h (tm mask h k+t))=_;rw[e];unfold adv at_;rw[fJ (show SetTable.runEnd mask (ls mask h k).1-(ls mask h k).1-t>0 by lia)];simp only[SetTable.Probe.mk.injEq,and_true,true_and]
  lia
theorem Jh(hk:mask+1=2^k)(h:Int)(he:e<=mask): ∃n,n<10*(mask+14)/\(pr mask h n).j=e:=by
 obtain⟨r,hr,er⟩:=Cc hk h he;have:=Na mask h r;refine⟨tm mask h r,by lia,?_⟩;have:=rX mask h r 0 (kA _);rw[Nat.add_zero] at this;rw[this];exact er
theorem Jg(mask:Nat)(h:Int): ∀n,(pr mask h n).dummy=none
 |0=>rfl
 |n+1=>by
  show(adv mask (pr mask h n)).dummy=none;unfold adv;split<;>exact Jg mask h n
theorem BV(mask:Nat)(h:Int): ∀n,∃k t,n=tm mask h k+t/\t<=SetTable.runEnd mask (ls mask h k).1-(ls mask h k).1
 |0=>⟨0,0,rfl,kA _⟩
 |n+1=>by
  obtain⟨k,t,e,ht⟩:=BV mask h n;by_cases hq:t+1<=SetTable.runEnd mask (ls mask h k).1-(ls mask h k).1
  ·exact⟨k,t+1,by lia,hq⟩
  ·exact⟨k+1,0,by unfold tm;lia,kA _⟩
theorem Jf(mask:Nat)(h:Int)(n:Nat):(pr mask h n).j<=mask:=by
 obtain⟨k,t,e,ht⟩:=BV mask h n;rw[e,rX mask h k t ht];have:=DM mask _ (Fd mask h k);show(ls mask h k).1+t<=mask;lia
theorem AJ{xs:Array Nat}(hr:xs.toList.Pairwise (· < ·)){i j:Nat}{a b:Nat}(m9:i<j)(h1:xs[i]?=some a)(h2:xs[j]?=some b):a<b:=by
 rw[<-jT] at h1 h2;obtain⟨hi,rfl⟩:=sN.mp h1;obtain⟨hj,rfl⟩:=sN.mp h2;exact K8.mp hr i j hi hj m9
theorem KI{xs:Array Nat}(hr:xs.toList.Pairwise (· < ·))(j:Nat): ∀(fuel lo hi:Nat),lo<=hi->hi<=xs.size->hi-lo<=fuel->
  (∀i a,i<lo->xs[i]?=some a->a<j)->(∀i a,hi<=i->xs[i]?=some a->j<=a)->
  let p:=SetTable.below.go xs j fuel lo hi
  p<=xs.size/\(∀i a,i<p->xs[i]?=some a->a<j)/\(∀i a,p<=i->xs[i]?=some a->j<=a):=by
 intro iV
 induction iV with
 |zero=>
  intro lo hi h1 h2 h3 h4 h5;have:lo=hi:=by lia
  subst this;exact⟨h2,h4,h5⟩
 |succ fuel iH=>
  intro lo hi h1 h2 h3 h4 h5;unfold SetTable.below.go;by_cases i8:lo<hi
  ·rw[fJ i8];have hm:(lo+hi) / 2<xs.size:=by lia
   have hg:xs[(lo+hi) / 2]?=some xs[(lo+hi) / 2]:=mD hm;have hd:xs.getD ((lo+hi) / 2) j=xs[(lo+hi) / 2]:=by simp[Array.getD,hm]
   dsimp only;rw[hd];by_cases hc:xs[(lo+hi) / 2]<j
   ·rw[fJ hc];refine iH ((lo+hi) / 2+1) hi (by lia) h2 (by lia) (fun i a cI ha=>?_) h5;by_cases e:i=(lo+hi) / 2
    ·subst e;rw[hg] at ha;cases ha;exact hc
    ·exact Ap (AJ hr (by lia) ha hg) hc
   ·rw[fR hc];refine iH lo ((lo+hi) / 2) (by lia) (by lia) (by lia) h4 (fun i a cI ha=>?_);by_cases e:i=(lo+hi) / 2
    ·subst e;rw[hg] at ha;cases ha;lia
    ·have:=AJ hr (show(lo+hi) / 2<i by lia) hg ha;lia
  ·rw[fR i8];have:lo=hi:=by lia
   subst this;exact⟨h2,h4,h5⟩
theorem mx{xs:Array Nat}(hr:xs.toList.Pairwise (· < ·))(j:Nat):SetTable.below xs j<=xs.size/\(∀i a,i<SetTable.below xs j->xs[i]?=some a->a<j)/\(∀i a,SetTable.below xs j<=i->xs[i]?=some a->j<=a):=
 KI hr j xs.size 0 xs.size (kA _) (gJ _) (by lia) (fun i a h=>by lia) (fun i a h1 h2=>by
  have:=(G6.mp h2).1;lia)
theorem yx{xs:Array Nat}(hr:xs.toList.Pairwise (· < ·)){i j:Nat}(h:xs[i]?=some j):SetTable.below xs j=i:=by
 obtain⟨h1,h2,h3⟩:=mx hr j;by_cases hl:i<SetTable.below xs j
 ·exact absurd (h2 i j hl h) (nE _)
 ·by_cases hg:SetTable.below xs j<i
  ·have hi:=(G6.mp h).1;have hb:xs[SetTable.below xs j]?=some xs[SetTable.below xs j]:=mD (by omega);have:=h3 _ _ (gJ _) hb;have:=AJ hr hg hb h;omega
  ·omega
theorem Be(j:Nat):SetTable.has #[] j=false:=rfl
theorem nI{t:ke}(hr:t.place.toList.Pairwise (· < ·)){i j:Nat}(h:t.place[i]?=some j):t.slot j= .live i:=by
 unfold SetTable.slot;dsimp only;rw[yx hr h,h];simp
theorem DJ{t:ke}(hd:t.dummies= #[]){j:Nat}(h:j∉t.place.toList):t.slot j= .empty:=by
 unfold SetTable.slot;dsimp only
 have:(t.place[SetTable.below t.place j]?==some j)=false:=by
  rw[yC];intro e;rw[<-jT] at e;exact h (lG e)
 rw[this,hd,Be];rfl
theorem KR(t:ke)(p:SetTable.Probe):t.advance p=adv t.mask p:=by
 unfold SetTable.advance adv;split<;>rfl
theorem Je{hs:fN}{t:ke}(ok:TabOk hs t)(hashAt:Nat->Int)(h:Int): ∀(fuel n:Nat),(∃M,n<=M/\M<n+fuel/\(pr t.mask h M).j∉t.place.toList)->
    ∃m,n<=m/\(∀q,n<=q->q<m-> ∃i,t.place[i]?=some (pr t.mask h q).j/\hashAt i≠h)/\
      (((pr t.mask h m).j∉t.place.toList/\SetTable.probe.go t hashAt h fuel (pr t.mask h n)=some (.empty (pr t.mask h m).j none))\/
       (∃i,t.place[i]?=some (pr t.mask h m).j/\hashAt i=h/\SetTable.probe.go t hashAt h fuel (pr t.mask h n)=some (.candidate (pr t.mask h m).j i (pr t.mask h (m+1))))):=by
  intro iV
  induction iV with
  |zero=>
    rintro n ⟨M,h1,h2,h3⟩
    lia
  |succ fuel iH=>
    rintro n ⟨M,h1,h2,h3⟩;unfold SetTable.probe.go;by_cases hm:(pr t.mask h n).j∈t.place.toList
    · obtain⟨i,hi⟩:=tu hm
      rw[jT] at hi;rw[nI ok.ris hi];dsimp only;by_cases hh:hashAt i=h
      · refine⟨n,gJ _,fun q h1 h2=>by lia,.inr ⟨i,hi,hh,?_⟩⟩
        rw[fJ (by simpa using hh),KR];rfl
      · rw[fR (by simpa using hh),KR]
        have hn:M≠n:=fun e=>h3 (e▸hm);obtain⟨m,g1,g2,g3⟩:=iH (n+1) ⟨M,by lia,by lia,h3⟩;refine⟨m,by lia,fun q k1 k2=>?_,g3⟩;by_cases e:q=n
        · subst e;exact⟨i,hi,hh⟩
        · exact g2 q (by lia) k2
    · rw[DJ ok.dum hm]
      dsimp only;rw[Jg];exact⟨n,gJ _,fun q h1 h2=>by lia,.inl ⟨hm,rfl⟩⟩
theorem Cf: ∀(n:Nat) (l:hV),l.length<=n-> ∃e,e<=n/\e∉l:=by
 intro iV
 induction iV with
 |zero=>
  intro l h;exact⟨0,gJ _,by cases l with|nil=>simp|cons _ _=>simp at h⟩
 |succ n iH=>
  intro l h;by_cases hm:n+1∈l
  ·obtain⟨e,h1,h2⟩:=iH (l.erase (n+1)) (by rw[List.length_erase_of_mem hm];lia);exact⟨e,by lia,fun z=>h2 ((C0 (by lia)).mpr z)⟩
  ·exact⟨n+1,gJ _,hm⟩
theorem TabOk.free(ok:TabOk hs t)(h:Int): ∃M,M<10*(t.mask+14)/\(pr t.mask h M).j∉t.place.toList:=by
 obtain⟨k,_,_,hk⟩:=ok.pow
 have h1:t.place.toList.length<=t.mask:=by
  have:=ok.len;have:=ok.room;rw[iw];lia
 obtain⟨e,he,hn⟩:=Cf t.mask _ h1;obtain⟨n,h2,h3⟩:=Jh hk h he;exact⟨n,h2,by rw[h3];exact hn⟩
theorem jH{α:Type}(xs:Array α)(p:Nat)(x:α):(SetTable.insertAt xs p x).toList=xs.toList.take p++x::xs.toList.drop p:=by
 unfold SetTable.insertAt;simp[Array.toList_extract,List.extract];rw[List.take_of_length_le (by simp)]
theorem DN(hr:xs.toList.Pairwise (· < ·))(hj:j∉xs.toList):(SetTable.insertAt xs (SetTable.below xs j) j).toList.Pairwise (· < ·):=by
 obtain⟨h1,h2,h3⟩:=mx hr j;rw[jH,rA];refine⟨hr.sublist (uV _ _),?_,?_⟩
 ·rw[CM];refine⟨fun a ha=>?_,hr.sublist (C9 _ _)⟩;obtain⟨i,hi⟩:=tu ha;rw[List.getElem?_drop] at hi;have h4:=h3 _ _ (show SetTable.below xs j<=SetTable.below xs j+i by lia) (by rw[<-jT];exact hi);have:a≠j:=fun e=>hj (e▸lG hi)
  lia
 ·intro a ha b hb
  have haj:a<j:=by
   obtain⟨i,hi⟩:=tu ha;rw[List.getElem?_take] at hi;split at hi
   ·rename_i i8;exact h2 i a i8 (by rw[<-jT];exact hi)
   ·cases hi
  rcases iY.mp hb with rfl|hb
  ·exact haj
  ·obtain⟨i,hi⟩:=tu hb;rw[List.getElem?_drop] at hi;have h4:=h3 _ _ (show SetTable.below xs j<=SetTable.below xs j+i by lia) (by rw[<-jT];exact hi)
   lia
theorem TabOk.fresh(finger moves:Nat)(led:Bool):TabOk [] (SetTable.fresh finger moves led) where
 pow:=⟨3,by lia,by lia,rfl⟩
 dum:=rfl
 len:=rfl
 room:=by show 5*0<3*7;lia
 ris:= .nil
 bd:=fun j h=>by simp[SetTable.fresh] at h
 road:=fun i h j h1=>by simp at h1
theorem TabOk.put(ok:TabOk hs t)(he:(pr t.mask h n).j∉t.place.toList)(hb: ∀m,m<n->(pr t.mask h m).j∈t.place.toList)(hr:5*(hs.length+1)<3*t.mask)(hj:j=(pr t.mask h n).j)(hp:p=SetTable.below t.place j):
  TabOk (hs.take p++h::hs.drop p) (t.put j).1/\(t.put j).2=p:=by
 subst hj;subst hp
 have e1:(t.put (pr t.mask h n).j).1={t with place:=SetTable.insertAt t.place (SetTable.below t.place (pr t.mask h n).j) (pr t.mask h n).j,dummies:= #[]}:=by
  unfold SetTable.put;dsimp only;rw[ok.dum,Be];rfl
 obtain⟨h1,_,_⟩:=mx ok.ris (pr t.mask h n).j;have hl:=ok.len
 have mem: ∀x,x∈t.place.toList->x∈(SetTable.insertAt t.place (SetTable.below t.place (pr t.mask h n).j) (pr t.mask h n).j).toList:=fun x hx=>by
  rw[jH];rw[<-rH (SetTable.below t.place (pr t.mask h n).j) t.place.toList] at hx;rcases nF.mp hx with hx|hx
  ·exact nF.mpr (.inl hx)
  ·exact nF.mpr (.inr (gX _ hx))
 refine⟨?_,rfl⟩;rw[e1];generalize hP:SetTable.below t.place (pr t.mask h n).j=P at*;refine⟨ok.pow,rfl,?_,?_,?_,fun x hx=>?_,fun i h' j' g1 g2=>?_⟩
 ·show(SetTable.insertAt t.place P (pr t.mask h n).j).size=_;rw[<-iw,jH];simp only[lr,jb,qU,List.length_drop,iw];lia
 ·show 5*_<3*t.mask;simp only[lr,jb,qU,List.length_drop];lia
 ·have:=DN ok.ris he;rw[hP] at this;exact this
 ·have bS:x∈(SetTable.insertAt t.place P (pr t.mask h n).j).toList:=hx;rw[jH] at bS;show x<=t.mask;rcases nF.mp bS with hx|hx
  ·exact ok.bd x (uP hx)
  ·rcases iY.mp hx with rfl|hx
   ·exact Jf _ _ _
   ·exact ok.bd x (Ag hx)
 ·have l8:(SetTable.insertAt t.place P (pr t.mask h n).j).toList[i]?=some j':=by rw[jT];exact g2
  rw[jH] at l8;show ∃n',(pr t.mask h' n').j=j'/\ ∀m,m<n'->(pr t.mask h' m).j∈(SetTable.insertAt t.place P (pr t.mask h n).j).toList;have dN:(t.place.toList.take P).length=P:=by rw[qU,iw];lia
  have lt2:(hs.take P).length=P:=by rw[qU];lia
  by_cases hi:i<P
  ·rw[qT (by lia),Du hi] at g1 l8;rw[jT] at l8;obtain⟨q,q1,q2⟩:=ok.road i h' j' g1 l8;exact⟨q,q1,fun m hm=>mem _ (q2 m hm)⟩
  ·rw[nB (by lia),dN] at l8;rw[nB (by lia),lt2] at g1
   cases hd:i-P with
   |zero=>
    rw[hd] at g1 l8;simp at g1 l8;subst g1;subst l8;exact⟨n,rfl,fun m hm=>mem _ (hb m hm)⟩
   |succ d=>
    rw[hd] at g1 l8;simp only[wz,List.getElem?_drop] at g1 l8;rw[jT] at l8;obtain⟨q,q1,q2⟩:=ok.road _ h' j' g1 l8;exact⟨q,q1,fun m hm=>mem _ (q2 m hm)⟩
def occ(ow:sP)(j:Nat):Prop:= ∃i,ow.getD j none=some i
theorem Bf{ow:sP}{j:Nat}{d:Option Nat}(h:j<ow.size):ow.getD j d=ow.getD j none:=by simp[Array.getD,h]
theorem GL{mask:Nat}{ow:sP}(hz:ow.size=mask+1)(h:Int): ∀(fuel k:Nat),(∃r,k<=r/\r<k+fuel/\ ¬occ ow (ls mask h r).1)->(∀m,m<tm mask h k->occ ow (pr mask h m).j)->
  ∃n,SetTable.layClean.free mask ow fuel (ls mask h k).1 (ls mask h k).2=some (pr mask h n).j/\ ¬occ ow (pr mask h n).j/\ ∀m,m<n->occ ow (pr mask h m).j:=by
 intro iV
 induction iV with
 |zero=>
  rintro k ⟨r,h1,h2,_⟩ _
  lia
 |succ fuel iH=>
  rintro k ⟨r,h1,h2,h3⟩ hb;unfold SetTable.layClean.free;have hl:=Fd mask h k;have hrn:=DM mask _ hl
  cases hf:(List.range (SetTable.runEnd mask (ls mask h k).1+1-(ls mask h k).1)).find? fun t=>(ow.getD ((ls mask h k).1+t) (some 0)).isNone with
  |some t=>
   rw[List.find?_range_eq_some] at hf;obtain⟨a1,a2,a3⟩:=hf;rw[qE] at a2;have ht:t<=SetTable.runEnd mask (ls mask h k).1-(ls mask h k).1:=by lia
   have e:=rX mask h k t ht;refine⟨tm mask h k+t,by rw[e];rfl,?_,fun m hm=>?_⟩
   ·rw[e];rintro⟨i,hi⟩;rw[Bf (by show(ls mask h k).1+t<_;lia)] at a1;have cI:ow.getD ((ls mask h k).1+t) none=some i:=hi;rw[cI] at a1;simp at a1
   ·by_cases i8:m<tm mask h k
    ·exact hb m i8
    ·have e2:=rX mask h k (m-tm mask h k) (by lia);rw[show tm mask h k+(m-tm mask h k)=m by lia] at e2;rw[e2];have:=a3 (m-tm mask h k) (by lia);rw[Bf (by show(ls mask h k).1+(m-tm mask h k)<_;lia)] at this;show occ ow ((ls mask h k).1+(m-tm mask h k));unfold occ
     cases hq:ow.getD ((ls mask h k).1+(m-tm mask h k)) none with
     |none=>rw[hq] at this;simp at this
     |some i=>exact⟨i,rfl⟩
  |none=>
   rw[List.find?_range_eq_none] at hf
   have all: ∀t,t<=SetTable.runEnd mask (ls mask h k).1-(ls mask h k).1->occ ow ((ls mask h k).1+t):=fun t ht=>by
    have:=hf t (by lia);rw[Bf (by lia)] at this;unfold occ
    cases hq:ow.getD ((ls mask h k).1+t) none with
    |none=>rw[hq] at this;simp at this
    |some i=>exact⟨i,rfl⟩
   have hr:r≠k:=fun e=>h3 (by subst e;have:=all 0 (kA _);simpa using this)
   have:=iH (k+1) ⟨r,by lia,by lia,h3⟩ (fun m hm=>by
    by_cases i8:m<tm mask h k
    ·exact hb m i8
    ·unfold tm at hm;have e2:=rX mask h k (m-tm mask h k) (by lia);rw[show tm mask h k+(m-tm mask h k)=m by lia] at e2;rw[e2];exact all _ (by lia))
   exact this
theorem Cq{α β:Type}{f g:α->Option β}: ∀{l:List α},(∀x∈l,f x=g x)->l.filterMap f=l.filterMap g:=by
 intro iV
 induction iV with
 |nil=>
  intro _;exact rfl
 |cons x l iH=>
  intro h;rw[tJ,tJ,h x gY,iH fun y hy=>h y (gX _ hy)]
noncomputable def mf(mask:Nat)(ow:sP):List (Nat×Nat):=(List.range (mask+1)).filterMap fun j=>(ow.getD j none).map (j,·)
theorem K5:(j,i)∈mf mask ow↔j<=mask/\ow.getD j none=some i:=by
 unfold mf;simp only[List.mem_filterMap,qE,FN,Prod.mk.injEq];constructor
 ·rintro⟨a,h1,b,h2,rfl,rfl⟩;exact⟨by lia,h2⟩
 ·rintro⟨h1,h2⟩;exact⟨j,by lia,i,h2,rfl,rfl⟩
theorem JS(mask:Nat)(ow:sP):((mf mask ow).map (·.1)).Pairwise (· < ·):=by
 unfold mf;rw[List.map_filterMap,List.pairwise_filterMap];refine Qe.imp fun {a b} bX x hx y hy=>?_;simp only[Option.mem_def,Option.map_map,FN,Function.comp] at hx hy;obtain⟨_,_,rfl⟩:=hx;obtain⟨_,_,rfl⟩:=hy;exact bX
theorem JR{mask:Nat}{ow:sP}(hz:ow.size=mask+1){j k:Nat}(hj:j<=mask)(hn:ow.getD j none=none):(mf mask (ow.setIfInBounds j (some k))).Perm ((j,k)::mf mask ow):=by
 have g: ∀i,(ow.setIfInBounds j (some k)).getD i none=if i=j then some k else ow.getD i none:=fun i=>by
  simp only[rE,Ab];by_cases e:i=j
  ·subst e;simp[show i<ow.size by lia]
  ·rw[fR (fun z=>e z.symm),fR e]
 have split:List.range (mask+1)=List.range j++j::(List.range (mask-j)).map (fun x=>j+1+x):=by
  rw[show mask+1=j+(mask-j+1) by lia,List.range_add,List.range_succ_eq_map];simp[Function.comp_def,uO,Nat.add_comm 1]
 unfold mf;rw[split,Hv,Hv,tJ,tJ];simp only[g,hn,fJ rfl,Option.map_none,Option.map_some]
 have a1:(List.range j).filterMap (fun i=>(if i=j then some k else ow.getD i none).map (i,·))=(List.range j).filterMap (fun i=>(ow.getD i none).map (i,·)):=
  Cq fun i hi=>by rw[qE] at hi;rw[fR (by lia)]
 have a2:((List.range (mask-j)).map (fun x=>j+1+x)).filterMap (fun i=>(if i=j then some k else ow.getD i none).map (i,·))=((List.range (mask-j)).map (fun x=>j+1+x)).filterMap (fun i=>(ow.getD i none).map (i,·)):=
  Cq fun i hi=>by
   obtain⟨x,_,rfl⟩:=kx.mp hi;rw[fR (by lia)]
 rw[a1,a2];exact K0
structure LayOk(mask:Nat)(hs:fN)(ow:sP):Prop where
 size:ow.size=mask+1
 perm:((mf mask ow).map (·.2)).Perm (List.range hs.length)
 road: ∀j i h,ow.getD j none=some i->hs[i]?=some h-> ∃n,(pr mask h n).j=j/\ ∀m,m<n->occ ow (pr mask h m).j
theorem E9(h:occ ow x):occ (ow.setIfInBounds j (some k)) x:=by
 obtain⟨i,hi⟩:=h;unfold occ;simp only[rE,Ab] at hi ⊢;by_cases e:j=x
 ·subst e;rw[fJ rfl];split
  ·exact⟨k,rfl⟩
  ·rename_i hz;rw[Aa (by lia)] at hi;simp at hi
 ·rw[fR e];exact⟨i,hi⟩
theorem LayOk.step{mask k:Nat}(hk:mask+1=2^k){hs:fN}{ow:sP}(ok:LayOk mask hs ow)(h:Int)(hr:hs.length<=mask):
  ∃j,SetTable.layClean.free mask ow (SetTable.turns mask) (SetTable.bits h%(mask+1)) (SetTable.bits h)=some j/\LayOk mask (hs++[h]) (ow.setIfInBounds j (some hs.length)):=by
 have hlen:(mf mask ow).length=hs.length:=by have:=ok.perm.length_eq;simpa using this
 obtain⟨e,he,hn⟩:=Cf mask ((mf mask ow).map (·.1)) (by rw[gW];lia)
 have aS: ¬occ ow e:=by
  rintro⟨i,hi⟩;exact hn (kx.mpr ⟨(e,i),K5.mpr ⟨he,hi⟩,rfl⟩)
 obtain⟨r,hr1,hr2⟩:=Cc hk h he;obtain⟨n,f1,f2,f3⟩:=GL ok.size h (SetTable.turns mask) 0 ⟨r,kA _,by unfold SetTable.turns;lia,by rw[hr2];exact aS⟩ (fun m hm=>by simp[tm] at hm);have hj:=Jf mask h n
 have af:ow.getD (pr mask h n).j none=none:=by
  cases hq:ow.getD (pr mask h n).j none with
  |none=>rfl
  |some i=>exact absurd ⟨i,hq⟩ f2
 refine⟨_,f1,⟨by rw[Array.size_setIfInBounds];exact ok.size,?_,fun j i h' g1 g2=>?_⟩⟩
 ·refine((JR ok.size hj af).map _).trans ?_;rw[gP,lr,wH,List.range_succ];exact(List.Perm.cons _ ok.perm).trans (Hu _ _).symm
 ·by_cases hjj:j=(pr mask h n).j
  ·subst hjj
   have:i=hs.length:=by
    simp only[rE,Ab,fJ rfl] at g1;rw[fJ True.intro,fJ (by rw[ok.size];lia)] at g1;exact(iz g1).symm
   subst this;rw[nB (gJ _)] at g2;simp at g2;subst g2;exact⟨n,rfl,fun m hm=>E9 (f3 m hm)⟩
  ·have y1:ow.getD j none=some i:=by
    simp only[rE,Ab] at g1 ⊢;rw[fR (fun z=>hjj z.symm)] at g1;exact g1
   have hi:i<hs.length:=by
    have hjm:j<=mask:=by
     by_cases q:j<ow.size
     ·have:=ok.size;lia
     ·rw[rE,Aa (by lia)] at y1;simp at y1
    have:=ok.perm.mem_iff.mp (kx.mpr ⟨(j,i),K5.mpr ⟨hjm,y1⟩,rfl⟩);exact qE.mp this
   rw[qT hi] at g2;obtain⟨q,q1,q2⟩:=ok.road j i h' y1 g2;exact⟨q,q1,fun m hm=>E9 (q2 m hm)⟩
theorem LayOk.start(mask:Nat):LayOk mask [] (Array.replicate (mask+1) none) where
 size:=by simp
 perm:=by
  have:mf mask (Array.replicate (mask+1) none)=[]:=by
   unfold mf;refine List.filterMap_eq_nil_iff.mpr fun j hj=>?_;rw[rE,Ht];split<;>rfl
  rw[this];exact rG _
 road:=fun j i h h1=>by
  rw[rE,Ht] at h1;split at h1<;>cases h1
noncomputable def uh(mask:Nat)(acc:Option (Array (Option Nat)×Nat))(h:Int):Option (Array (Option Nat)×Nat):=do
 let(owner,k) <-acc
 let j <-SetTable.layClean.free mask owner (SetTable.turns mask) (SetTable.bits h%(mask+1)) (SetTable.bits h)
 pure (owner.setIfInBounds j (some k),k+1)
theorem JU{mask k:Nat}(hk:mask+1=2^k): ∀(l hs:fN) (ow:sP),LayOk mask hs ow->hs.length+l.length<=mask+1->
  ∃cX,l.foldl (uh mask) (some (ow,hs.length))=some (cX,hs.length+l.length)/\LayOk mask (hs++l) cX:=by
 intro iV
 induction iV with
 |nil=>
  intro hs ow ok _;exact⟨ow,rfl,by rw[wK];exact ok⟩
 |cons h l iH=>
  intro hs ow ok hl;rw[jb] at hl;obtain⟨j,e,ok'⟩:=ok.step hk h (by lia);obtain⟨cX,e',ok''⟩:=iH (hs++[h]) _ ok' (by rw[lr,wH];lia);refine⟨cX,?_,by rw[mE] at ok'';exact ok''⟩;rw[pz]
  have:uh mask (some (ow,hs.length)) h=some (ow.setIfInBounds j (some hs.length),hs.length+1):=by
   unfold uh;show(SetTable.layClean.free mask ow (SetTable.turns mask) (SetTable.bits h%(mask+1)) (SetTable.bits h)>>=_)=_;rw[e];rfl
  rw[this];rw[lr,wH] at e';rw[e',jb]
  congr 2;lia
theorem Cg(hk:mask+1=2^k)(hs:fN)(hl:hs.length<=mask): ∃ow,SetTable.layClean mask hs.toArray=some ow/\LayOk mask hs ow:=by
 obtain⟨ow,e,ok⟩:=JU hk hs [] _ (LayOk.start mask) (by simp;lia);refine⟨ow,?_,by simpa using ok⟩;unfold SetTable.layClean;rw[<-Array.foldl_toList];show Option.map _ (List.foldl (uh mask) _ hs)=_;have e':List.foldl (uh mask) (some (Array.replicate (mask+1) none,0)) hs=some (ow,hs.length):=by simpa using e
 rw[e'];rfl
theorem MB(hk:mask+1=2^k)(h3:3<=k)(h11:k<=11)(finger moves:Nat)(led plain:Bool)(hs:fN)(hl:5*hs.length<3*mask):
  ∃t order,SetTable.laid mask finger moves led plain hs.toArray=some (t,order)/\order.toList.Perm (List.range hs.length)/\TabOk (order.toList.map fun i=>hs.getD i 0) t/\t.plain=plain/\t.led=led:=by
 obtain⟨ow,e,ok⟩:=Cg hk hs (by lia);refine⟨{mask,place:=((mf mask ow).map (·.1)).toArray,dummies:= #[],finger,led,moves,plain},((mf mask ow).map (·.2)).toArray,?_,by simpa using ok.perm,?_,rfl,rfl⟩
 ·unfold SetTable.laid;rw[e];rfl
 ·have hlen:(mf mask ow).length=hs.length:=by have:=ok.perm.length_eq;simpa using this
  refine⟨⟨k,h3,h11,hk⟩,rfl,by simp,by simp[hlen];lia,by simpa using JS mask ow,fun j hj=>?_,fun i h j g1 g2=>?_⟩
  ·have ej:j∈(mf mask ow).map (·.1):=by simpa using hj
   obtain⟨⟨a,b⟩,hm,rfl⟩:=kx.mp ej;exact(K5.mp hm).1
  ·have y1:((mf mask ow).map (·.2)).map (fun i=>hs.getD i 0)=(((mf mask ow).map (·.2)).toArray).toList.map fun i=>hs.getD i 0:=by simp
   rw[<-y1,jU,jU] at g1;have l8:((mf mask ow).map (·.1))[i]?=some j:=by simpa using g2
   rw[jU] at l8
   cases hq:(mf mask ow)[i]? with
   |none=>rw[hq] at l8;cases l8
   |some p=>
    obtain⟨a,b⟩:=p;rw[hq] at g1 l8;simp at g1 l8;subst l8;have hm:=K5.mp (lG hq)
    have hb:b<hs.length:=by
     have:=ok.perm.mem_iff.mp (kx.mpr ⟨(a,b),lG hq,rfl⟩);exact qE.mp this
    have hh:hs[b]?=some h:=by rw[ir hb] at g1 ⊢;simpa using g1
    obtain⟨n,q1,q2⟩:=ok.road a b h hm.2 hh;refine⟨n,q1,fun m hm'=>?_⟩;obtain⟨i',cI⟩:=q2 m hm';show(pr mask h m).j∈(((mf mask ow).map (·.1)).toArray).toList;have:(pr mask h m).j∈(mf mask ow).map (·.1):=kx.mpr ⟨(_,i'),K5.mpr ⟨Jf mask h m,cI⟩,rfl⟩;simpa using this
theorem AI: ∀n,n<2048-> ∃k,3<=k/\k<=11/\SetTable.sizeAbove n=2^k/\n<2^k:=by
 intro n hn
 have step: ∀(f k:Nat),3<=k->k<=11->11<k+f-> ∃k',3<=k'/\k'<=11/\SetTable.sizeAbove.go n f (2^k)=2^k'/\n<2^k':=by
  intro f
  induction f with
  |zero=>intro k h1 h2 h3;lia
  |succ f ih=>
   intro k h1 h2 h3;unfold SetTable.sizeAbove.go;by_cases hle:2^k<=n
   ·rw[fJ hle,<-qM];have:k≠11:=fun e=>by subst e;lia
    exact ih (k+1) (by lia) (by lia) (by lia)
   ·rw[fR hle];exact⟨k,h1,h2,rfl,by lia⟩
 exact step 64 3 (by lia) (by lia) (by lia)
open PyProof.Rows PySem.SeqAt
theorem Gi{hs:fN}{t:ke}(ok:TabOk hs t){hashAt:Nat->Int}{h:Int}{p:SetTable.Probe}{n:Nat}(hp:p=pr t.mask h n)(hn: ∀m,m<n->(pr t.mask h m).j∈t.place.toList):
    ∃m,n<=m/\m<10*(t.mask+14)/\(∀q,n<=q->q<m-> ∃i,t.place[i]?=some (pr t.mask h q).j/\hashAt i≠h)/\
      (((pr t.mask h m).j∉t.place.toList/\t.probe hashAt h p=some (.empty (pr t.mask h m).j none))\/
       (∃i,t.place[i]?=some (pr t.mask h m).j/\hashAt i=h/\t.probe hashAt h p=some (.candidate (pr t.mask h m).j i (pr t.mask h (m+1))))):=by
  subst hp;obtain⟨M,h1,h2⟩:=ok.free h
  have hM:n<=M:=by
    by_cases hq:M<n
    · exact absurd (hn M hq) h2
    · lia
  obtain⟨m,g1,g2,g3⟩:=Je ok hashAt h (10*SetTable.turns t.mask) n ⟨M,hM,by unfold SetTable.turns;lia,h2⟩
  have hm:m<=M:=by
    by_cases hq:M<m
    · obtain⟨i,hi,_⟩:=g2 M hM hq
      rw[<-jT] at hi;exact absurd (lG hi) h2
    · lia
  exact⟨m,g1,by lia,g2,g3⟩
section
variable {prog:fS}{w:fL}{A:fQ}{E:gm}{s:eZ}
structure Srch(A:fQ)(s:eZ)(a:eX)(es:qD)(n:Nat)(t:ke)(x:fI)(h:Int)(eqs:Nat->Bool):Prop where
 at_: ∃o,s.heap.get? a=some o/\o.data= .set es n t
 tab:TabOk (es.toList.map (·.1)) t
 refs: ∀(i:Nat) (e:Int×Value),es[i]?=some e-> ∃b,e.2= .ref b
 eq: ∀(i:Nat) (e:Int×Value),es[i]?=some e->EqAt A s e.2 x (eqs i)
 hash: ∀(i:Nat) (e:Int×Value),es[i]?=some e->eqs i=true->e.1=h
 quiet: ∀(l:gH) (prog:fS) (w:fL) (E:gm) (Q:oU),(∀v∈l,∃e∈es.toList,e.2=v)->Q false s->wpAny (model prog w) A (searchCouldBeSeen x l) Q E s
theorem JE(ok:TabOk hs t):t.gaveWay=false:=by
 obtain⟨k,h1,_,h3⟩:=ok.pow;obtain⟨k',rfl⟩: ∃k',k=k'+1:=⟨k-1,by lia⟩
 rw[qM] at h3;unfold SetTable.gaveWay;rw[yC];lia
theorem Fo(ok:TabOk hs t)(h:hs.length=n):t.fits n=true:=by
 have:=ok.len;have:=ok.room;unfold SetTable.fits SetTable.fill;rw[ok.dum];simp only[kB,beq_iff_eq,pv];exact⟨by lia,by show _+0<=_;lia⟩
theorem Srch.fits{a es n t x h eqs}(S:Srch A s a es n t x h eqs):t.fits es.size=true:=Fo S.tab (by simp)
theorem BN{a:eX}{es:qD}{nn:Nat}{t:ke}{x:fI}{h:Int}{eqs:Nat->Bool}{adding:Bool}(S:Srch A s a es nn t x h eqs){Q:SetFound->Shared->Prop}
  (n9: ∀i r,eqs i=true->i<es.size->(r=none\/r=some i)->(adding=false->r=some i)->Q (.there r) s)
  (l6:(∀i,i<es.size->eqs i=false)-> ∀n,(pr t.mask h n).j∉t.place.toList->(∀m,m<n->(pr t.mask h m).j∈t.place.toList)->Q (.free (pr t.mask h n).j false) s):
  ∀(fuel n:Nat) (p7:Option SetTable.Probe),p7.getD (t.probeStart h)=pr t.mask h n->(∀q,q<n-> ∃i,t.place[i]?=some (pr t.mask h q).j/\eqs i=false)->10*(t.mask+14)<n+fuel->n<=10*(t.mask+14)->
   wpAny (model prog w) A (setSearchFrom a x h adding fuel p7) Q E s:=by
 intro iV
 induction iV with
 |zero=>
  intro n p7 _ _ hf hn
  lia
 |succ fuel iH=>
  intro n p7 l5 hb hf hn;obtain⟨o,ho,hd⟩:=S.at_
  have occ: ∀m,m<n->(pr t.mask h m).j∈t.place.toList:=fun m hm=>by
   obtain⟨i,hi,_⟩:=hb m hm;rw[<-jT] at hi;exact lG hi
  unfold setSearchFrom;refine eY (qL ho hd S.fits ?_);dsimp only;rw[JE S.tab];simp only[gv,↓reduceIte];generalize hP:t.probe _ h _=P;obtain⟨m,m1,m2,m3,m4⟩:=Gi S.tab l5 occ (hashAt:=fun i=>(es[i]?.map (·.1)).getD 0);have hP':t.probe (fun i=>(es[i]?.map (·.1)).getD 0) h (p7.getD (t.probeStart h))=P:=hP;rw[hP'] at m4
  have dk: ∀(i:Nat) (j:Nat),t.place[i]?=some j-> ∃e,es[i]?=some e/\(es[i]?.map (·.1)).getD 0=e.1:=fun i j hi=>by
   have h1:=(G6.mp hi).1;have h2:=S.tab.len;rw[gW,iw] at h2;exact⟨es[i],mD (by lia),by rw[mD (by lia)];rfl⟩
  have ne: ∀(i:Nat) (j:Nat),t.place[i]?=some j->(es[i]?.map (·.1)).getD 0≠h->eqs i=false:=fun i j hi j7=>by
   obtain⟨e,he,hh⟩:=dk i j hi
   cases hq:eqs i with
   |false=>rfl
   |true=>exact absurd (hh.trans (S.hash i e he hq)) j7
  have seen: ∀q,q<m-> ∃i,t.place[i]?=some (pr t.mask h q).j/\eqs i=false:=fun q hq=>by
   by_cases i8:q<n
   ·exact hb q i8
   ·obtain⟨i,hi,j7⟩:=m3 q (by lia) hq;exact⟨i,hi,ne i _ hi j7⟩
  rcases m4 with⟨a1,a2⟩|⟨i,a1,a2,a3⟩
  ·subst a2;dsimp only;refine fH (l6 (fun i hi=>?_) m a1 fun q hq=>?_)
   ·cases hq:eqs i with
    |false=>rfl
    |true=>
     exfalso;have he:es[i]?=some es[i]:=mD hi;have h1:=S.hash i _ he hq;have h2:=S.tab.len;rw[gW,iw] at h2;have h9:t.place[i]?=some t.place[i]:=mD (by lia);obtain⟨n',r1,r2⟩:=S.tab.road i h t.place[i] (by rw[jU,jT,he];exact lH some h1) h9
     have:n'<m:=by
      by_cases i8:n'<m
      ·exact i8
      ·exfalso;rcases Nat.lt_or_eq_of_le (Nat.not_lt.mp i8) with i8|heq
       ·exact a1 (r2 m i8)
       ·subst heq;rw[<-jT] at h9;rw[r1] at a1;exact a1 (lG h9)
     obtain⟨i',g1,g2⟩:=seen n' this;rw[r1] at g1;have:i'=i:=by rw[<-yx S.tab.ris g1,yx S.tab.ris h9]
     rw[this,hq] at g2;cases g2
   ·obtain⟨i,hi,_⟩:=seen q hq;rw[<-jT] at hi;exact lG hi
  ·subst a3;dsimp only;obtain⟨e,he,hh⟩:=dk i _ a1;obtain⟨h',y⟩:=e;obtain⟨b,hy⟩:=S.refs i _ he;dsimp only at hy;subst hy;have sm:t.sameMemory t.moves t.mask=some true:=by simp[SetTable.sameMemory]
   have dc:i<es.size:=(G6.mp he).1;cases hl:t.led
   ·simp only[Bool.not_false,↓reduceIte];refine eY (S.quiet _ _ _ _ _ (fun v hv=>?_) ?_)
    ·obtain⟨e,aD,rfl⟩:=kx.mp hv;exact⟨e,(Qd.mp (by simpa using(Array.mem_filter.mp (Qd.mp aD)).1) |> fun z=>by simpa using z),rfl⟩
    simp only[gv,↓reduceIte];rw[he];dsimp only;refine eY (ku (S.eq i _ he _ _ _ _ ?_));refine eY (qL ho hd S.fits ?_);dsimp only
    cases hq:eqs i with
    |true=>
     cases adding with
     |true=>simp only[Bool.and_self,↓reduceIte];exact fH (n9 i none hq dc (.inl rfl) (fun z=>by cases z))
     |false=>
      simp only[Bool.false_and,gv,↓reduceIte,sm,nI S.tab.ris a1,he];refine eY (zZ ?_);simp only[↓reduceIte];exact eY (fH (fH (n9 i _ hq dc (.inr rfl) fun _=>rfl)))
    |false=>
     simp only[Bool.and_false,gv,↓reduceIte,sm,nI S.tab.ris a1,he];refine eY (zZ ?_);simp only[↓reduceIte];refine eY (fH ?_)
     exact iH (m+1) _ rfl (fun q hq'=>by
      by_cases e:q=m
      ·subst e;exact⟨i,a1,hq⟩
      ·exact seen q (by lia)) (by lia) (by lia)
   ·simp only[nu,gv,↓reduceIte];rw[he];dsimp only;refine eY (ku (S.eq i _ he _ _ _ _ ?_));refine eY (qL ho hd S.fits ?_);dsimp only
    cases hq:eqs i with
    |true=>
     cases adding with
     |true=>simp only[Bool.and_self,↓reduceIte];exact fH (n9 i none hq dc (.inl rfl) (fun z=>by cases z))
     |false=>
      simp only[Bool.false_and,gv,↓reduceIte,sm,nI S.tab.ris a1,he];refine eY (zZ ?_);simp only[↓reduceIte];exact eY (fH (fH (n9 i _ hq dc (.inr rfl) fun _=>rfl)))
    |false=>
     simp only[Bool.and_false,gv,↓reduceIte,sm,nI S.tab.ris a1,he];refine eY (zZ ?_);simp only[↓reduceIte];refine eY (fH ?_)
     exact iH (m+1) _ rfl (fun q hq'=>by
      by_cases e:q=m
      ·subst e;exact⟨i,a1,hq⟩
      ·exact seen q (by lia)) (by lia) (by lia)
end
noncomputable abbrev iC(es:qD)(n:Nat)(t:ke):Obj:={cls:= .type "set",data:= .set es n t}
section
variable {prog:fS}{w:fL}{A:fQ}{E:gm}{s:eZ}
theorem BH{h:fP}{a:eX}{es es':qD}{n:Nat}{t t':ke}(ho:h.get? a=some (iC es n t)):(h.update a (Obj.putSet es' t')).get? a=some (iC es' (n+1) t'):=by
 have:=qQ (Obj.putSet es' t') ho (by rw[putSet_of es' t' rfl];rfl);rw[putSet_of es' t' rfl] at this;exact this
theorem II{α:Type}(es:Array α):(List.range es.size).filterMap (fun i=>es[i]?)=es.toList:=by
 have: ∀(l:List α),(List.range l.length).filterMap (fun i=>l[i]?)=l:=by
  intro l
  induction l with
  |nil=>rfl
  |cons x l ih=>
   rw[jb,List.range_succ_eq_map,tJ];simp only[zY,List.filterMap_map,Function.comp_def,wz,ih]
 have h:=this es.toList;simpa using h
theorem MJ{es:qD}: ∀(l:hV),(∀i∈l,i<es.size)->(l.filterMap (fun i=>es[i]?)).map (·.1)=l.map fun i=>(es.toList.map (·.1)).getD i 0:=by
 intro iV
 induction iV with
 |nil=>
  intro _;exact rfl
 |cons i l iH=>
  intro h;have hi:=h i gY;rw[tJ,mD hi];simp only[gP];rw[iH fun j hj=>h j (gX _ hj)]
  congr 1
  simp[hi]
theorem ID{a:eX}{es:qD}{n:Nat}{t:ke}(ho:s.heap.get? a=some (iC es n t))(hf:t.fits es.size=true)(h5:5<=es.size)(hz:es.size<=500){Q:Unit->Shared->Prop}
  (h: ∀h' es' n' t',Heap.SameBut a s.heap h'->h'.get? a=some (iC es' n' t')->es'.toList.Perm es.toList->TabOk (es'.toList.map (·.1)) t'->t'.plain=t.plain->t'.led=t.led->Q () {s with heap:=h'}):
  wpAny (model prog w) A (setRelay a (SetTable.grown es.size)) Q E s:=by
 have hg:SetTable.grown es.size=es.size*4:=by unfold SetTable.grown;rw[fR (by lia)]
 obtain⟨k,k3,da,ek,lk⟩:=AI (es.size*4) (by lia);have hm:SetTable.sizeAbove (es.size*4)-1+1=2^k:=by have:=Nat.two_pow_pos k;lia
 obtain⟨t',order,e1,e2,e3,e4,e5⟩:=MB hm k3 da t.finger (t.movedTo (SetTable.sizeAbove (es.size*4)-1)) t.led t.plain (es.toList.map (·.1)) (by rw[gW,iw];lia);rw[gW,iw] at e2
 have er:t.relaid (es.map (·.1)) (es.size*4)=some (t',order):=by
  unfold SetTable.relaid;rw[<-e1,<-Array.toList_map]
 have hmem: ∀i∈order.toList,i<es.size:=fun i hi=>qE.mp (e2.mem_iff.mp hi);have pl:(order.filterMap (es[·]?)).toList=order.toList.filterMap (fun i=>es[i]?):=by simp
 have perm:(order.filterMap (es[·]?)).toList.Perm es.toList:=by
  rw[pl];refine(e2.filterMap _).trans ?_;rw[II]
 have sz:(order.filterMap (es[·]?)).size=es.size:=by rw[<-iw,perm.length_eq,iw]
 rw[hg];unfold setRelay;refine eY (qL ho rfl hf ?_);dsimp only
 have hs:2^k<=sizeLine:=by
  have:2^k<=2^11:=wA (by decide) da;rw[gA];lia
 rw[fR (by rw[ek];lia),er];refine eY ?_;change wpAny _ _ (if((order.filterMap (es[·]?)).size !=es.size)=true then _ else _) _ _ _;rw[fR (by rw[sz];simp)];refine fH ?_;dsimp only;refine wpAny_storeSet_of ho rfl ?_ (by rw[sz,gA];lia);refine h _ (order.filterMap (es[·]?)) (n+1) t' (sY s.heap a _) (BH ho) perm ?_ e4 e5;rw[pl,MJ _ hmem];exact e3
theorem mP{α:Type}(xs:Array α)(p:Nat)(x:α):(SetTable.insertAt xs p x).toList.Perm (x::xs.toList):=by
 rw[jH];refine K0.trans ?_;rw[rH]
theorem Su{a b:eX}{es:qD}{n:Nat}{t:ke}{h:Int}{eqs:Nat->Bool}(S:Srch A s a es n t (.ref b) h eqs)(ho:s.heap.get? a=some (iC es n t))(h9:t.plain=true)(hz:es.size+1<=500)
  (hbv: ∀(Q':oU),Q' true s->wpAny (model prog w) A (hashByValue 8 (.ref b)) Q' E s){Q:oU}
  (hold:(∃i,i<es.size/\eqs i=true)->Q false s)
  (t5:(∀i,i<es.size->eqs i=false)-> ∀h' es' n' t',Heap.SameBut a s.heap h'->h'.get? a=some (iC es' n' t')->es'.toList.Perm ((h,.ref b)::es.toList)->TabOk (es'.toList.map (·.1)) t'->t'.plain=true->t'.led=t.led->Q true {s with heap:=h'}):
  wpAny (model prog w) A (setAddHashed a (.ref b) h) Q E s:=by
 unfold setAddHashed setAddHashedIn;refine ku (eY (qL ho rfl S.fits ?_));dsimp only;have hbs:byScan (.ref b) es=false:=rfl;rw[hbs];simp only[gv,↓reduceIte]
 have hm:t.mask+1<=2048:=by
  obtain⟨k,_,da,ek⟩:=S.tab.pow;have:2^k<=2^11:=wA (by decide) da
  lia
 refine eY (BN S (adding:=true) (fun i r h1 h2 _ _=>?_) (fun aS m h1 h2=>?_) 100000 0 none rfl (fun q hq=>by lia) (by lia) (by lia))
 ·dsimp only;exact fH (hold ⟨i,h2,h1⟩)
 ·dsimp only;refine eY (qL ho rfl S.fits ?_);dsimp only
  have e1:(t.put (pr t.mask h m).j).1={t with place:=SetTable.insertAt t.place (SetTable.below t.place (pr t.mask h m).j) (pr t.mask h m).j,dummies:= #[]}:=by
   unfold SetTable.put;dsimp only;rw[S.tab.dum,Be];rfl
  have e2:(t.put (pr t.mask h m).j).2=SetTable.below t.place (pr t.mask h m).j:=rfl;have br:(t.put (pr t.mask h m).j).1.plain=true:=by rw[e1];exact h9
  rw[fJ br];refine eY (hbv _ ?_);simp only[↓reduceIte]
  have cj:(SetTable.insertAt es (t.put (pr t.mask h m).j).2 (h,Value.ref b)).size=es.size+1:=by
   rw[<-iw,(mP es _ _).length_eq,jb,iw]
  refine eY (wpAny_storeSet_of ho rfl ?_ (by rw[cj,gA];lia));have o7:=BH (es':=SetTable.insertAt es (t.put (pr t.mask h m).j).2 (h,Value.ref b)) (t':=(t.put (pr t.mask h m).j).1) ho;have sb1:=sY s.heap a (Obj.putSet (SetTable.insertAt es (t.put (pr t.mask h m).j).2 (h,Value.ref b)) (t.put (pr t.mask h m).j).1);have hlen:es.toList.length=es.size:=iw;have tlen:=S.tab.len;rw[gW,hlen] at tlen
  have hpsz:(t.put (pr t.mask h m).j).1.place.size=es.size+1:=by
   rw[e1];show(SetTable.insertAt t.place _ _).size=_;rw[<-iw,(mP t.place _ _).length_eq,jb,iw,tlen]
  have aq:(t.put (pr t.mask h m).j).1.fill=es.size+1:=by
   unfold SetTable.fill;rw[hpsz,e1];rfl
  have ag:(t.put (pr t.mask h m).j).1.mask=t.mask:=by rw[e1]
  have hled:(t.put (pr t.mask h m).j).1.led=t.led:=by rw[e1]
  by_cases htf:(t.put (pr t.mask h m).j).1.tooFull=true
  ·rw[htf];simp only[Bool.not_false,Bool.and_self,↓reduceIte];have hroom:=S.tab.room;rw[gW,hlen] at hroom
   have hbig:3*t.mask<=5*(es.size+1):=by
    unfold SetTable.tooFull at htf;rw[aq,ag] at htf;have:=of_decide_eq_true htf;lia
   have m7:7<=t.mask:=by
    obtain⟨k,k3,_,ek⟩:=S.tab.pow;have:2^3<=2^k:=wA (by decide) k3
    lia
   have hfit:(t.put (pr t.mask h m).j).1.fits (SetTable.insertAt es (t.put (pr t.mask h m).j).2 (h,Value.ref b)).size=true:=by
    unfold SetTable.fits;rw[hpsz,cj,aq,ag];simp only[BEq.rfl,Bool.true_and,pv];lia
   rw[<-cj];refine eY (ID o7 hfit (by rw[cj];lia) (by rw[cj];lia) fun h' es' n' t' g1 g2 g3 g4 g5 g6=>?_);exact fH (t5 aS h' es' n' t' (sb1.trans g1) g2 (g3.trans (mP es _ _)) g4 (by rw[g5];exact br) (by rw[g6];exact hled))
  ·have htf':(t.put (pr t.mask h m).j).1.tooFull=false:=by simpa using htf
   rw[htf'];simp only[Bool.and_false,gv,↓reduceIte]
   have hsm:5*(es.size+1)<3*t.mask:=by
    unfold SetTable.tooFull at htf;rw[aq,ag] at htf;have: ¬(es.size+1)*5>=t.mask*3:=fun z=>htf (ny z)
    lia
   obtain⟨p1,p2⟩:=S.tab.put h1 h2 (by rw[gW,hlen];exact hsm) rfl rfl;refine fH (t5 aS _ _ _ _ sb1 o7 (mP es _ _) ?_ br hled);rw[jH,qK,gP,<-List.map_take,<-List.map_drop] at*;rw[e2];exact p1
end
end TT
namespace PX
open PySem PySem.Spec PyProof.Rows L2 PySem.SeqAt TS
theorem D.hashL_map: ∀l:List D,D.hashL l=l.map D.hash:=by
 intro iV
 induction iV with
 |nil=>
  rw[D.hashL];rfl
 |cons d l iH=>
  rw[D.hashL,iH];rfl
theorem AL: ∀{l:List D} {d:D},D.prL l=true->d∈l->D.pr d=true:=by
 intro iV
 induction iV with
 |nil=>
  intro d _ h;simp at h
 |cons e l iH=>
  intro d hp h;rw[D.prL,kB] at hp;rcases iY.mp h with rfl|h
  ·exact hp.1
  ·exact iH hp.2 h
theorem oy: ∀{l:List D} {d:D},d∈l->d.dep<=D.depL l:=fun {l d} h=>by
 obtain⟨j,hj⟩:=tu h;exact D.dep_mem hj
section
variable {X:Cx}{pins:gc}{σ:L2.St}{H:Hp}{s:eZ}
def RepV(X:Cx)(H:Hp)(O:AP')(ds:List D)(b6:gH):Prop:= ∃xs,RepL X.K H O ds xs/\Vals xs b6
theorem RepV.cons(h:RepV X H O (d::ds) (v::b6)):(∃x,Rep X.K H O d x/\RelV x v)/\RepV X H O ds b6:=by
 obtain⟨xs,r,vs⟩:=h;rw[RepL] at r;obtain⟨x,xr,rfl,r1,r2⟩:=r
 cases vs with
 |cons a b=>exact⟨⟨x,r1,a⟩,xr,r2,b⟩
theorem RepV.nil_of{O:AP'}{ds:List D}(h:RepV X H O ds []):ds=[]:=by
 obtain⟨xs,r,vs⟩:=h;cases vs
 cases ds with
 |nil=>rfl
 |cons d ds=>rw[RepL] at r;obtain⟨_,_,e,_⟩:=r;cases e
theorem RepV.cons_of(h:RepV X H O ds (v::b6)): ∃d ds',ds=d::ds':=by
 cases ds with
 |nil=>obtain⟨xs,r,vs⟩:=h;rw[RepL] at r;subst r;cases vs
 |cons d ds=>exact⟨d,ds,rfl⟩
theorem Pn: ∀(n:Nat) {s:eZ} (I:Inv X pins σ H s) (d:D) (v:V) (u:fI) (O:AP') (A:fQ) (E:gm) (Q:Int->Shared->Prop),Rep X.K H O d v->RelV v u->D.pr d=true->d.dep<=n->A.units+n<cLine->(∀tk,s.toks<=tk->Q d.hash {s with toks:=tk})->
  wpAny (model X.prog X.w) A (pyHash u) Q E s:=by
 intro n
 induction n with
 |zero=>
  intro s I d v u O A E Q hr rv hp hd hA hQ
  cases d with
  |int i=>
   have:=hr.int;subst this;obtain⟨t,rfl⟩:=rv;have:=hQ (s.toks+1) (Aq _);rw[D.hash] at this;exact Dy this
  |tup l=>rw[D.dep] at hd;lia
  |_=>simp[D.pr] at hp
 |succ n ih=>
  intro s I d v u O A E Q hr rv hp hd hA hQ
  cases d with
  |int i=>
   have:=hr.int;subst this;obtain⟨t,rfl⟩:=rv;have:=hQ (s.toks+1) (Aq _);rw[D.hash] at this;exact Dy this
  |tup l=>
   rw[D.pr] at hp;rw[D.dep] at hd;obtain⟨a,xs,rfl,q,r⟩:=hr.tup;cases rv;obtain⟨b6,vs,⟨o,ho,hc,nn,bF⟩,_⟩:=I.tuple q.sq;have hT:s.TypeIs (.ref a) "tuple":=⟨o,ho,hc⟩
   have hu:A.units<cLine:=by lia
   unfold pyHash;unfold pyHashByItsType;refine eY (wpAny_cRoomFor_or (.inr hu) ?_);refine eY (oZ hT Ey.lookup ?_);show wpAny _ _ (if(some (Value.builtin "tuple.__hash__")==some Value.none)=true then _ else _) Q E s;rw[fR (by rw[beq_builtin_none];exact je)];refine eY (oZ hT Ey.lookup ?_);show wpAny _ _ (callSpecialIfBoundUnlessNone? (.ref a) "__hash__" _>>=_) Q E s;refine eY (wpAny_callSpecialIfBoundUnlessNone?_slot hT Ey (nA Ey hT PySem.F.entry_tuple_hash ?_ (PySem.F.args_tuple_hash_1 _)));show wpAny _ _ (Builtin.Tuple.tupleItemsOf (.ref a)>>=_) _ _ s;refine eY (wpAny_tupleItemsOf ho bF ?_);refine eY ?_;rw[<-zW]
   refine sV _
    (fun fY (b:Array Int) s'=> ∃done left,l=done++left/\RepV X H (fun a=>O a) left fY/\b.toList=done.map D.hash/\ ∃tk,s.toks<=tk/\s'={s with toks:=tk})
    _ ?_ ?_ _ _ ⟨[],l,rfl,⟨xs,r,by simpa using vs⟩,rfl,s.toks,gJ _,rfl⟩
   ·rintro x fY b s' ⟨done,left,rfl,hl,hb,tk,ax,rfl⟩;obtain⟨d,left,rfl⟩:=hl.cons_of;obtain⟨⟨y,h1,h2⟩,h3⟩:=hl.cons;have hm:d∈done++d::left:=by simp
    have aM:=oy hm;refine eY (ih (I.kept (h':=s.heap) (t':=tk) fun _ _ e=>e) d y x O A.in1 E _ h1 h2 (AL hp hm) (by lia) (by show A.units+1+n<cLine;lia) fun aP htk'=>?_)
    first
     |exact fH ⟨done++[d],left,by simp,h3,by simp[hb],aP,mH ax htk',rfl⟩
     |exact eY (fH (fH ⟨done++[d],left,by simp,h3,by simp[hb],aP,mH ax htk',rfl⟩))
   ·rintro b s' ⟨done,left,rfl,hl,hb,tk,ax,rfl⟩;have:=hl.nil_of;subst this;have h:=hQ (tk+1) (Nat.le_succ_of_le ax);rw[D.hash,D.hashL_map,wK] at h;show wpAny _ _ (retInt (Builtin.Tuple.tupleHashOf b.toList)) _ _ _;rw[hb];refine wpAny_ret_mkInt ?_;show wpAny _ _ (if(decide (-(2:Int)^63<=Builtin.Tuple.tupleHashOf (done.map D.hash))&&decide (Builtin.Tuple.tupleHashOf (done.map D.hash)<2^63))=true then _ else _) Q E _;unfold reduceHash at h;by_cases hr:(decide (-(2:Int)^63<=Builtin.Tuple.tupleHashOf (done.map D.hash))&&decide (Builtin.Tuple.tupleHashOf (done.map D.hash)<2^63))=true
    ·rw[fJ hr];rw[fJ hr] at h;exact fH h
    ·rw[fR hr];rw[fR hr] at h;exact eY (pB (fH h))
  |_=>simp[D.pr] at hp
theorem RC(I:Inv X pins σ H s): ∀(n:Nat) (d:D) (v:V) (u:fI) (O:AP') (A:fQ) (E:gm) (Q:oU),Rep X.K H O d v->RelV v u->D.pr d=true->d.dep<=n->Q true s->wpAny (model X.prog X.w) A (hashByValue n u) Q E s:=by
 intro n
 induction n with
 |zero=>
  intro d v u O A E Q hr rv hp hd hQ
  cases d with
  |int i=>
   have:=hr.int;subst this;obtain⟨t,rfl⟩:=rv;exact oV (show hashByValue 0 (.int i t)=pure true by simp[hashByValue]) hQ
  |tup l=>rw[D.dep] at hd;lia
  |_=>simp[D.pr] at hp
 |succ n ih=>
  intro d v u O A E Q hr rv hp hd hQ
  cases d with
  |int i=>
   have:=hr.int;subst this;obtain⟨t,rfl⟩:=rv;exact oV (show hashByValue (n+1) (.int i t)=pure true by simp[hashByValue]) hQ
  |tup l=>
   rw[D.pr] at hp;rw[D.dep] at hd;obtain⟨a,xs,rfl,q,r⟩:=hr.tup;cases rv;obtain⟨b6,vs,⟨o,ho,hc,nn,bF⟩,_⟩:=I.tuple q.sq;have hT:s.TypeIs (.ref a) "tuple":=⟨o,ho,hc⟩
   unfold hashByValue;refine eY (oZ hT Ey.lookup ?_);dsimp only;refine eY (pj ho bF ?_);refine eY ?_;show wpAny _ _ (forIn b6.toArray _ _) _ _ s;rw[<-zW];refine sV _ (fun fY rr s'=>rr.1=none/\s'=s/\ ∃left,(∀d∈left,d∈l)/\RepV X H O left fY) _ ?_ ?_ _ _ ⟨rfl,rfl,l,fun d h=>h,xs,r,by simpa using vs⟩
   ·rintro x fY rr s' ⟨h0,rfl,left,hm,hl⟩;obtain⟨d,left,rfl⟩:=hl.cons_of;obtain⟨⟨y,h1,h2⟩,h3⟩:=hl.cons;have aT:=hm d gY;have aM:=oy aT;refine eY (ih d y x O A E _ h1 h2 (AL hp aT) (by lia) ?_);simp -iota only[nu,gv,gO];exact fH ⟨rfl,rfl,left,fun d h=>hm d (gX _ h),h3⟩
   ·rintro⟨r1,r2⟩ s' ⟨h0,rfl,_⟩;simp only at h0;subst h0;exact fH hQ
  |_=>simp[D.pr] at hp
theorem LA{P:fS}{W:fL}(I:Inv X pins σ H s): ∀(n:Nat) (d:D) (v:V) (u:fI) (O:AP') (A:fQ) (E:gm) (Q:oU),Rep X.K H O d v->RelV v u->D.pr d=true->d.dep<=n->Q true s->wpAny (model P W) A (eqIsQuiet n u) Q E s:=by
 intro n
 induction n with
 |zero=>
  intro d v u O A E Q hr rv hp hd hQ
  cases d with
  |int i=>
   have:=hr.int;subst this;obtain⟨t,rfl⟩:=rv;exact oV (eqIsQuiet_byValue 0 rfl) hQ
  |tup l=>rw[D.dep] at hd;omega
  |_=>simp[D.pr] at hp
 |succ n ih=>
  intro d v u O A E Q hr rv hp hd hQ
  cases d with
  |int i=>
   have:=hr.int;subst this;obtain⟨t,rfl⟩:=rv;exact oV (eqIsQuiet_byValue (n+1) rfl) hQ
  |tup l=>
   rw[D.pr] at hp;rw[D.dep] at hd;obtain⟨a,xs,rfl,q,r⟩:=hr.tup;cases rv;obtain⟨b6,vs,⟨o,ho,hc,nn,bF⟩,_⟩:=I.tuple q.sq;have hT:s.TypeIs (.ref a) "tuple":=⟨o,ho,hc⟩
   unfold eqIsQuiet;refine eY (oZ hT PySem.F.slot_tuple_eq.lookup ?_);show wpAny _ _ (isInstance (.ref a) (.type "tuple")>>=_) _ _ s;refine eY (uR hT isSubtype_tuple_tuple ?_);simp -iota only[nu,gv,gO];refine eY (pj ho bF ?_);refine eY ?_;show wpAny _ _ (forIn b6.toArray _ _) _ _ s;rw[<-zW];refine sV _ (fun fY rr s'=>rr.1=none/\s'=s/\ ∃left,(∀d∈left,d∈l)/\RepV X H O left fY) _ ?_ ?_ _ _ ⟨rfl,rfl,l,fun d h=>h,xs,r,by simpa using vs⟩
   ·rintro x fY rr s' ⟨h0,rfl,left,hm,hl⟩;obtain⟨d,left,rfl⟩:=hl.cons_of;obtain⟨⟨y,h1,h2⟩,h3⟩:=hl.cons;have aT:=hm d gY;have aM:=oy aT;refine eY (ih d y x O A E _ h1 h2 (AL hp aT) (by omega) ?_);simp -iota only[nu,gv,gO];exact fH ⟨rfl,rfl,left,fun d h=>hm d (gX _ h),h3⟩
   ·rintro⟨r1,r2⟩ s' ⟨h0,rfl,_⟩;simp only at h0;subst h0;exact fH hQ
  |_=>simp[D.pr] at hp
theorem Gv{P:fS}{W:fL}(I:Inv X pins σ H s): ∀(n:Nat) (d:D) (v:V) (u:fI) (O:AP') (A:fQ) (E:gm) (Q:oU),Rep X.K H O d v->RelV v u->D.pr d=true->d.dep<=n->Q false s->wpAny (model P W) A (ofAClassStatement n u) Q E s:=by
 intro n
 induction n with
 |zero=>
  intro d v u O A E Q hr rv hp hd hQ
  cases d with
  |int i=>
   have:=hr.int;subst this;obtain⟨t,rfl⟩:=rv;exact oV (show ofAClassStatement 0 (.int i t)=pure false by simp[ofAClassStatement]) hQ
  |tup l=>rw[D.dep] at hd;omega
  |_=>simp[D.pr] at hp
 |succ n ih=>
  intro d v u O A E Q hr rv hp hd hQ
  cases d with
  |int i=>
   have:=hr.int;subst this;obtain⟨t,rfl⟩:=rv;exact oV (show ofAClassStatement (n+1) (.int i t)=pure false by simp[ofAClassStatement]) hQ
  |tup l=>
   rw[D.pr] at hp;rw[D.dep] at hd;obtain⟨a,xs,rfl,q,r⟩:=hr.tup;cases rv;obtain⟨b6,vs,⟨o,ho,hc,nn,bF⟩,_⟩:=I.tuple q.sq;have hT:s.TypeIs (.ref a) "tuple":=⟨o,ho,hc⟩
   unfold ofAClassStatement;refine eY (tD hT ?_);dsimp only;rw[fJ (by decide)];refine eY (fH ?_);simp -iota only[nu,gv,gO];refine eY (pj ho bF ?_);dsimp only;refine eY ?_;show wpAny _ _ (forIn b6.toArray _ _) _ _ s;rw[<-zW];refine sV _ (fun fY rr s'=>rr.1=none/\s'=s/\ ∃left,(∀d∈left,d∈l)/\RepV X H O left fY) _ ?_ ?_ _ _ ⟨rfl,rfl,l,fun d h=>h,xs,r,by simpa using vs⟩
   ·rintro x fY rr s' ⟨h0,rfl,left,hm,hl⟩;obtain⟨d,left,rfl⟩:=hl.cons_of;obtain⟨⟨y,h1,h2⟩,h3⟩:=hl.cons;have aT:=hm d gY;have aM:=oy aT;refine eY (ih d y x O A E _ h1 h2 (AL hp aT) (by omega) ?_);simp -iota only[gv,gO];exact fH ⟨rfl,rfl,left,fun d h=>hm d (gX _ h),h3⟩
   ·rintro⟨r1,r2⟩ s' ⟨h0,rfl,_⟩;simp only at h0;subst h0;exact fH hQ
  |_=>simp[D.pr] at hp
end
end PX
namespace TT
open PySem PyProof.Rows PySem.SeqAt
theorem yo:entryFor table "set.__iter__"=some Builtin.«frozenset.__iter__»:=entryFor_alias (id':="frozenset.__iter__") (by kernel_rfl) rfl (by decide+kernel) (by kernel_rfl)
theorem lD:Slot "set_iterator" "__next__" "set_iterator.__next__":= .of (owner:="set_iterator") (n:="__next__") (by rw[typeLookup_type,Hs];kernel_rfl) (by decide+kernel) (by decide+kernel) (by decide+kernel) (by first|exact .inl (by decide+kernel)|exact .inr (by decide+kernel)) (by rw[zV];kernel_rfl)
theorem tP:Slot "set_iterator" "__iter__" "set_iterator.__iter__":= .of (owner:="set_iterator") (n:="__iter__") (by rw[typeLookup_type,Hs];kernel_rfl) (by decide+kernel) (by decide+kernel) (by decide+kernel) (by first|exact .inl (by decide+kernel)|exact .inr (by decide+kernel)) (by rw[zV];kernel_rfl)
theorem rn:entryFor table "set_iterator.__next__"=some Builtin.«set_iterator.__next__»:=entryFor_of_fast (by kernel_rfl)
theorem yV:entryFor table "set_iterator.__iter__"=some Builtin.«dict_keyiterator.__iter__»:=entryFor_alias (id':="dict_keyiterator.__iter__") (by kernel_rfl) rfl (by decide+kernel) (by kernel_rfl)
theorem uD(a:fI):argsOk "set_iterator.__next__" ⟨[a],[]⟩:=by unfold argsOk;kernel_rfl
theorem Br(a:fI):argsOk "set_iterator.__iter__" ⟨[a],[]⟩:=by unfold argsOk;kernel_rfl
theorem oM{α:Type}: ∀(l:List α) {i:Nat} (h:i<l.length),(l[i]::l.eraseIdx i).Perm l
 |x::l,0,_=>by simp
 |x::l,i+1,h=>by
  have:=oM l (i:=i) (by simpa using h);simp only[List.getElem_cons_succ,List.eraseIdx_cons_succ];exact(List.Perm.swap x _ _).trans (List.Perm.cons x this)
theorem AM{α:Type}(next:Nat->Nat): ∀(fuel k:Nat) (left:List α) (out:Array α),left.length<=fuel->(pickOrder.go next fuel k left out).toList.Perm (out.toList++left):=by
 intro iV
 induction iV with
 |zero=>
  intro k left out h;have:left=[]:=La.mp (by lia);subst this;unfold pickOrder.go;simp
 |succ fuel iH=>
  intro k left out h;unfold pickOrder.go
  cases left with
  |nil=>simp
  |cons y l=>
   have i8:next k%(y::l).length<(y::l).length:=uK _ (by simp);rw[ir i8];dsimp only;refine(iH (k+1) _ _ (by rw[rC,fJ i8];simp at h ⊢;lia)).trans ?_;rw[Array.toList_push,mE];refine Hr _ ?_;exact oM _ i8
theorem xm{α:Type}(next:Nat->Nat)(xs:Array α):(pickOrder next xs).toList.Perm xs.toList:=by
 unfold pickOrder;have:=AM next xs.size 0 xs.toList #[] (by simp);simpa using this
noncomputable def lA(w:fL)(a:eX)(n:Nat)(es:qD):Array (Int×Value):=if w.params.followText "set-order"=true then pickOrder (w.params.setOrder a n) es else es
theorem CK(w:fL)(a:eX)(n:Nat)(es:qD):(lA w a n es).toList.Perm es.toList:=by
 unfold lA;split
 ·exact xm _ _
 ·exact rG _
theorem lV(w:fL)(a:eX)(n:Nat)(es:qD):(lA w a n es).size=es.size:=by
 rw[<-iw,(CK w a n es).length_eq,iw]
noncomputable def EL(t:ke):Nat->Nat
 |0=>0
 |i+1=>t.place.getD i 0+1
noncomputable def kb(w:fL)(t:ke)(i:Nat):Nat:=if w.params.followText "set-order"=true then 0 else EL t i
structure SetIs(w:fL)(h:fP)(a:eX)(es:qD)(n:Nat)(t:ke):Prop where
 at_:h.get? a=some (iC es n t)
 tab:TabOk (es.toList.map (·.1)) t
 plain:t.plain=true
 led:t.led=!w.params.followText "set-order"
def SetIter(w:fL)(h:fP)(it a:eX)(t:ke)(size n i:Nat):Prop:= ∃o,h.get? it=some o/\o.cls= .type "set_iterator"/\o.data= .fields #[.int (kb w t i) 0,.int i 0,.ref a,.int size 0,.int n 0]
section
variable {prog:fS}{w:fL}{A:fQ}{E:gm}{s:eZ}
theorem SetIs.fits{h a es n t}(S:SetIs w h a es n t):t.fits es.size=true:=Fo S.tab (by simp)
theorem Et(hr:t.place.toList.Pairwise (· < ·))(hi:i<=t.place.size):SetTable.below t.place (EL t i)=i:=by
 cases i with
 |zero=>
  obtain⟨h1,h2,_⟩:=mx hr 0
  cases hb:SetTable.below t.place 0 with
  |zero=>exact hb
  |succ k=>
   have hz:0<t.place.size:=by lia
   have:=h2 0 _ (by lia) (mD hz)
   lia
 |succ i=>
  have hd:t.place.getD i 0=t.place[i]:=by simp[Array.getD,show i<t.place.size by lia]
  show SetTable.below t.place (t.place.getD i 0+1)=i+1;rw[hd];have hg:t.place[i]?=some t.place[i]:=mD (by lia);obtain⟨h1,h2,h3⟩:=mx hr (t.place[i]+1);by_cases i8:SetTable.below t.place (t.place[i]+1)<i+1
  ·have:=h3 i _ (by lia) hg;lia
  ·by_cases hgt:i+1<SetTable.below t.place (t.place[i]+1)
   ·have bV:t.place[i+1]?=some t.place[i+1]:=mD (by lia);have:=h2 (i+1) _ hgt bV;have:=AJ hr (tj i) hg bV
    lia
   ·lia
theorem xb{a:eX}{es:qD}{n:Nat}{t:ke}(S:SetIs w s.heap a es n t){i:Nat}(hi:i<=es.size){Q:Option (Value×Nat)->Shared->Prop}
  (h1: ∀e,(lA w a n es)[i]?=some e->Q (some (e.2,kb w t (i+1))) s)(h2:i=es.size->Q none s):wpAny (model prog w) A (setNext a (kb w t i) i n) Q E s:=by
 have tl:=S.tab.len;rw[gW,iw] at tl;unfold setNext;refine eY (qL S.at_ rfl S.fits ?_);dsimp only;unfold setsByText;refine eY (eY (uT (fH ?_)));by_cases hb:w.params.followText "set-order"=true
 ·have m5:(model prog w).w.params.followText "set-order"=true:=hb;rw[fJ m5,fR (by simp)];unfold setWalk setsByText;refine eY (eY (qL S.at_ rfl S.fits ?_));dsimp only;refine eY (eY (uT (fH ?_)));rw[fJ m5];refine eY (uT (fH (fH ?_)));have e1:lA w a n es=pickOrder (w.params.setOrder a n) es:=by unfold lA;rw[fJ hb]
  have e2: ∀k,kb w t k=0:=fun k=>by unfold kb;rw[fJ hb]
  show Q (((pickOrder (w.params.setOrder a n) es)[i]?).map fun e=>(e.2,kb w t i)) s;rw[<-e1];rw[e2] at h1;rw[e2]
  cases hg:(lA w a n es)[i]? with
  |some e=>exact h1 e hg
  |none=>
   have:=Array.getElem?_eq_none_iff.mp hg;rw[lV] at this;exact h2 (by lia)
 ·have m5: ¬(model prog w).w.params.followText "set-order"=true:=hb;rw[fR m5];change wpAny _ _ (if(!t.plain&&decide (es.size>1))=true then _ else _) _ _ _;rw[fR (by rw[S.plain];simp)];have hl:t.led=true:=by rw[S.led];simpa using hb
  refine eY ?_;change wpAny _ _ (if(!t.led&&!es.isEmpty)=true then _ else _) _ _ _;rw[fR (by rw[hl];simp)];refine fH ?_;have e1:lA w a n es=es:=by unfold lA;rw[fR hb]
  have e2: ∀k,kb w t k=EL t k:=fun k=>by unfold kb;rw[fR hb]
  have e3:SetTable.below t.place (kb w t i)=i:=by rw[e2];exact Et S.tab.ris (by lia)
  rw[e3];rw[e1] at h1;by_cases i8:i<es.size
  ·have g1:es[i]?=some es[i]:=mD i8;have g2:t.place[i]?=some t.place[i]:=mD (by lia);rw[g1,g2];have:=h1 es[i] g1;rw[e2] at this;rw[show EL t (i+1)=t.place.getD i 0+1 from rfl] at this;have hd:t.place.getD i 0=t.place[i]:=by simp[Array.getD,show i<t.place.size by lia]
   rw[hd] at this;exact fH this
  ·rw[Aa (by lia)];exact fH (h2 (by lia))
theorem SetIs.typeIs{a es n t}(S:SetIs w s.heap a es n t):s.TypeIs (.ref a) "set":=⟨_,S.at_,rfl⟩
theorem SetIter.typeIs{it a t z n i}(S:SetIter w s.heap it a t z n i):s.TypeIs (.ref it) "set_iterator":=let⟨o,ho,hc,_⟩:=S;⟨o,ho,hc⟩
theorem J7(S:SetIs w s.heap a es n t) 
  (hQ: ∀h',SetIter w h' s.heap.objs.size a t es.size n 0->(∀b o,s.heap.get? b=some o->h'.get? b=some o)->h'.objs.size=s.heap.objs.size+1->Q (.ref s.heap.objs.size) {s with heap:=h'}):
  wpAny (model prog w) A (pyIter (.ref a)) Q E s:=by
 refine CZ S.typeIs Hq (nA Hq S.typeIs yo ?_ (PySem.F.args_set_iter_1 _));unfold Builtin.«frozenset.__iter__» Builtin.Frozenset.slot0 slotArgs;simp -iota only[List.isEmpty_nil,nu,gv,↓reduceIte,pD,oF,tw];unfold Builtin.Frozenset.addrOf Builtin.Frozenset.sizeOf;refine eY (fH ?_);dsimp only;refine eY (fH ?_);refine eY (eY (CY S.at_ rfl S.fits (fH ?_)));unfold setDrawn setsByText;refine eY (eY (qL S.at_ rfl S.fits ?_));dsimp only;refine eY (eY (uT (fH ?_)));refine fH ?_;change wpAny _ _ (if(!w.params.followText "set-order"&&(!t.plain&&decide (es.size>1)))=true then _ else _) _ _ _;rw[fR (by rw[S.plain];simp)];refine eY (fH ?_);unfold setEpoch;refine eY (eY (qL S.at_ rfl S.fits (fH ?_)));refine eY (kQ (fH ⟨_,rfl,"set_iterator",_,⟨_,iK _ rfl,rfl⟩,lD.lookup,?_⟩));refine hQ _ ⟨_,iK _ rfl,rfl,?_⟩ (fun b o e=>ik _ e) (oG _ _);have:kb w t 0=0:=by unfold kb;split<;>rfl
 rw[this];rfl
theorem yO{it a:eX}{es:qD}{n:Nat}{t:ke}(S:SetIs w s.heap a es n t){i:Nat}(hI:SetIter w s.heap it a t es.size n i)(j7:it≠a){e:Int×Value}(he:(lA w a n es)[i]?=some e){Q:G5}
  (hQ: ∀h',SetIter w h' it a t es.size n (i+1)->Heap.SameBut it s.heap h'->Q (some e.2) {s with heap:=h'}):wpAny (model prog w) A (pyNext (.ref it)) Q E s:=by
 obtain⟨o,ho,hc,hd⟩:=id hI;have hi:i<es.size:=by have:=(G6.mp he).1;rw[lV] at this;exact this
 unfold pyNext;refine eY (uS (vF (name:=Str.ofString "__next__") hI.typeIs lD (nA lD hI.typeIs rn ?_ (uD _))));unfold Builtin.«set_iterator.__next__» slotArgs;simp only[List.isEmpty_nil,nu,gv,↓reduceIte,pD,oF,tw];refine eY (fH ?_);unfold fieldsOf;simp only[pD];refine eY (uX ho ?_);rw[hd];refine eY (fH ?_);dsimp only;refine eY (CY S.at_ rfl S.fits ?_);rw[fR (by simp)];have h1:((kb w t i:Nat):Int).toNat=kb w t i:=oX _;have h2:((i:Nat):Int).toNat=i:=oX _;have h3:((n:Nat):Int).toNat=n:=oX _;rw[h1,h2,h3];refine eY (xb S (uZ hi) (fun e' aD=>?_) fun z=>by lia);rw[he] at aD;cases aD;dsimp only;refine eY (rJ ho hd (by simp) ?_);have o7:=qQ (Obj.mapFields fun vs=>vs.setIfInBounds 0 (rawInt (kb w t (i+1)))) ho (Ak (qN hd _));refine eY (rJ o7 (qN hd _) (by simp) (fH ⟨_,rfl,fH (hQ _ ?_ ((sY ..).trans (sY ..)))⟩));refine⟨_,qQ _ o7 (Ak (qN (qN hd _) _)),?_,?_⟩
 ·rw[Aj,Aj];exact hc
 ·rw[qN (qN hd _)];simp[rawInt]
theorem A5(hh:A.handled=none)(S:SetIs w s.heap a es n t)(hI:SetIter w s.heap it a t es.size n es.size)(j7:it≠a) 
  (hQ: ∀h',Heap.ExtBut it s.heap h'->Q none {s with heap:=h'}):wpAny (model prog w) A (pyNext (.ref it)) Q E s:=by
 obtain⟨o,ho,hc,hd⟩:=id hI;unfold pyNext;refine eY (uS (vF (name:=Str.ofString "__next__") hI.typeIs lD (nA lD hI.typeIs rn ?_ (uD _))));unfold Builtin.«set_iterator.__next__» slotArgs;simp only[List.isEmpty_nil,nu,gv,↓reduceIte,pD,oF,tw];refine eY (fH ?_);unfold fieldsOf;simp only[pD];refine eY (uX ho ?_);rw[hd];refine eY (fH ?_);dsimp only;refine eY (CY S.at_ rfl S.fits ?_);rw[fR (by simp)];have h1:((kb w t es.size:Nat):Int).toNat=kb w t es.size:=oX _;have h2:((es.size:Nat):Int).toNat=es.size:=oX _;have h3:((n:Nat):Int).toNat=n:=oX _;rw[h1,h2,h3];refine eY (xb S (gJ _) (fun e' aD=>?_) fun _=>?_)
 ·have:=(G6.mp aD).1;rw[lV] at this;omega
 dsimp only;refine eY (rJ ho hd (by simp) ?_);show wpAny _ _ (newExc (.type "StopIteration") []>>=_) _ _ _;refine eY ?_;simp -iota only[newExc,newTuple];refine eY (kQ ?_ (by size_fits));refine eY (m:=firstArgMember _ _) (oV (a:=Value.none) (by first|rfl|(simp -iota only[firstArgMember];rfl)) ?_);refine kQ ?_ (by size_fits);simp -iota only[raiseNew];refine eY (Dg ?_);rw[show A.in1.handled=none from hh];refine eY (fH (Df ?_));refine eY (uR (T:="StopIteration") (b:=true) ⟨_,iK _ rfl,rfl⟩ De ?_);exact fH (hQ _ (((sY ..).extBut.push _).push _))
theorem GD(hI:SetIter w s.heap it a t z n i)(hQ:Q (.ref it) s):wpAny (model prog w) A (pyIter (.ref it)) Q E s:=by
 refine CZ hI.typeIs tP (nA tP hI.typeIs yV ?_ (Br _));unfold Builtin.«dict_keyiterator.__iter__» slotArgs;simp -iota only[List.isEmpty_nil,nu,gv,↓reduceIte,pD,oF,tw];exact eY (fH (fH ⟨_,rfl,"set_iterator",_,hI.typeIs,lD.lookup,hQ⟩))
theorem SetIs.stay{a es n t}(S:SetIs w h a es n t)(k: ∀o,h.get? a=some o->h'.get? a=some o):SetIs w h' a es n t:=⟨k _ S.at_,S.tab,S.plain,S.led⟩
theorem F1(hh:A.handled=none)(I a:eX)(j7:I≠a)(es:qD)(n:Nat)(t:ke):
  Walks prog w A I [I,a] [I] es.size (fun i v=> ∃e,(lA w a n es)[i]?=some e/\v=e.2) (fun i h=>SetIter w h I a t es.size n i/\SetIs w h a es n t) where
 sub:=fun b hb=>by simp at hb;simp[hb]
 frame:=fun _ _ _ st hk=>⟨(by obtain⟨o,h1,h2⟩:=st.1;exact⟨o,hk I (by simp) o h1,h2⟩),st.2.stay fun o e=>hk a (by simp) o e⟩
 item:=fun i s Q E hi st hQ=>by
  have i8:i<(lA w a n es).size:=by rw[lV];exact hi
  have hg:(lA w a n es)[i]?=some (lA w a n es)[i]:=mD i8;refine yO st.2 st.1 j7 hg fun h' u9 w6=>?_;exact hQ _ h' s.toks ⟨_,hg,rfl⟩ ⟨u9,st.2.stay fun o e=>w6.extBut a o (fun h=>j7 h.symm) e⟩ fun b o hb e=>w6.extBut b o (fun h=>hb (by simp[h])) e
 done:=fun s Q E st hQ=>A5 hh st.2 st.1 j7 fun h' aD=>hQ h' s.toks fun b o hb e=>aD b o (fun h=>hb (by simp[h])) e
 self:=fun _ _ _ _ st hQ=>GD st.1 hQ
theorem MR(hh:A.handled=none)(S:SetIs w s.heap a es n t)(hn:es.size<=sizeLine) 
  (hQ: ∀h' tk,(∀b o,s.heap.get? b=some o->h'.get? b=some o)->Q ((lA w a n es).toList.map (·.2)) {s with heap:=h',toks:=tk}):wpAny (model prog w) A (collect (.ref a)) Q E s:=by
 have cF:a<s.heap.objs.size:=ie S.at_;have t6:a≠s.heap.objs.size:=gE cF;have bA:a≠s.heap.objs.size+1:=gE (pA cF);have cA:s.heap.objs.size≠s.heap.objs.size+1:=gE (tj _);unfold collect;refine eY (Al (oW Ho ?_));rw[qO Hn _];show wpAny _ A.in1 (newList []>>=fun l=>again (.builtin "list.__iadd__" ⟨[l,.ref a],[]⟩)) _ _ s;refine eY (kQ ?_);refine fH ⟨pk zU _,oW Hm ?_⟩;rw[qO zU _];show wpAny _ A.in1 (Builtin.List.listExtendWith (.ref s.heap.objs.size) (.ref a) (.ref s.heap.objs.size)) _ _ _;generalize cG:({cls:= .type "list",data:= .seq ([]:List Value).toArray}:Obj)=l0;have S1:SetIs w (s.heap.push l0) a es n t:=S.stay fun o e=>ik _ e;unfold Builtin.List.listExtendWith;refine eY (tD (T:="set") (s:={s with heap:=s.heap.push l0}) S1.typeIs ?_);have h1:Builtin.List.listSameRef (.ref s.heap.objs.size) (.ref a)=false:=by simp only[Builtin.List.listSameRef,yC];exact t6.symm
 have h2:(Value.type "set"==Value.type "list")=false:=by decide
 have h3:(Value.type "set"==Value.type "tuple")=false:=by decide
 simp -iota only[h1,h2,h3,Bool.or_false,gv,gO];refine eY (J7 (s:={s with heap:=s.heap.push l0}) S1 fun h2 cx k2 z2=>?_);have ck:(s.heap.push l0).objs.size=s.heap.objs.size+1:=oG _ _;have S2:SetIs w h2 a es n t:=S1.stay fun o e=>k2 _ _ e;refine eY (ku ?_);unfold Builtin.List.listLengthHint;refine eY (oZ (T:="set") (s:={s with heap:=h2}) S2.typeIs PySem.F.slot_set_len.lookup ?_);generalize cH:("set.__len__":String)=id0;dsimp only;rw[show splitId id0=some ("set","__len__") from by subst cH;decide+kernel];dsimp only;refine eY (uR (T:="set") (s:={s with heap:=h2}) (b:=true) S2.typeIs (by rw[zV];kernel_rfl) ?_);simp -iota only[nu,gv,gO];change wpAny _ _ (if _=true then _ else _) _ _ _;rw[fJ (by subst cH;decide+kernel)];refine eY (tD (T:="set") (s:={s with heap:=h2}) S2.typeIs ?_);dsimp only;refine fH ?_;change wpAny _ _ (if _=true then _ else _) _ _ _;rw[fJ (by decide+kernel)];refine eY (pB ?_);have cN:h2.get? s.heap.objs.size=some l0:=k2 _ _ (iK _ (by subst cG;rfl));subst cG;refine eY ?_;show wpAny _ A.in1 (updateSeq s.heap.objs.size (·.push .none)>>=fun _=>updateSeq s.heap.objs.size (·.pop)) _ _ _;refine eY (zT (s:={s with heap:=h2}) cN rfl ?_);have cM:=qQ (Obj.mapSeq (·.push Value.none)) cN rfl;refine zT cM rfl ?_;have eE:=qQ (Obj.mapSeq (·.pop)) cM rfl
 have oth: ∀b o,b≠s.heap.objs.size->h2.get? b=some o->((h2.update s.heap.objs.size (Obj.mapSeq (·.push Value.none))).update s.heap.objs.size (Obj.mapSeq (·.pop))).get? b=some o:=
  fun b o hb e=>(uU _ _ (kR hb)).trans ((uU _ _ (kR hb)).trans e)
 have W:=(F1 (prog:=prog) (w:=w) (A:=A.in1) (by show A.handled=none;exact hh) (s.heap.objs.size+1) a bA.symm es n t).toS;rw[ck] at cx;refine fH ⟨pk Hl _,?_⟩;rw[ck];refine Hk W hn s.heap.objs.size (by simp -iota only[iY,jD,kP,nv];exact⟨cA,t6.symm⟩) _ es.size 0 _ _ _ rfl (kA _) ?_ eE (ItemsOf.nil _) fun s' i3 c' hm u4 l3=>?_
 ·refine⟨?_,S2.stay fun o e=>oth a o t6 e⟩;obtain⟨o,g1,g2⟩:=cx;exact⟨o,oth _ o cA.symm g1,g2⟩
 show wpAny _ A (load s.heap.objs.size>>=_) _ _ s';refine eY (uX u4 ?_);obtain⟨h',g',d',aP,bf⟩:=s';have eg:g'=s.gens:=hm.gens;have ed:d'=s.drawn:=hm.drawn;have eo:bf=s.os:=hm.os;subst eg;subst ed;subst eo
 have bN:i3.toList=(lA w a n es).toList.map (·.2):=by
  obtain⟨a1,a2⟩:=l3;apply Di
  ·rw[gW,iw,iw,a1,lV]
  ·intro j g1 g2;have gj:i3[j]?=some i3.toList[j]:=by rw[<-jT];exact ir g1
   obtain⟨e,he,hv⟩:=a2 j _ gj;rw[hv];rw[gW,iw] at g2;rw[List.getElem_map];rw[<-jT,ir (by rw[iw];exact g2)] at he;cases he;rfl
 refine fH ?_;show Q i3.toList _;rw[bN];refine hQ h' aP fun b o e=>?_;have hb:=ie e;exact hm.heap b o (by simp -iota only[iY,jD,kP,nv];exact⟨gE hb,gE (pA hb)⟩) (oth b o (gE hb) (k2 _ _ (ik _ e)))
end
section
variable {prog:fS}{w:fL}{A:fQ}{R:Result->Shared->Prop}{I:eX}{fp wr:ig}{G:Array GenState->Array GenState->Prop}{n:Nat}{P:Nat->Value->Prop}{St:Nat->Shared->Prop}
theorem HS(W:WalksS prog w A.in1 I fp wr G n P St)(S:eX)(dy:S∉fp)(s0:eZ)(SI:Nat->Heap->Prop)(stay: ∀i h h',SI i h->(∀o,h.get? S=some o->h'.get? S=some o)->SI i h')
  (step: ∀i v (s':eZ) (Q:oU) (E:gm),i<n->P i v->SI i s'.heap->Moved (S::wr) G s0 s'->(∀r h' tk,s'.toks<=tk->Heap.SameBut S s'.heap h'->SI (i+1) h'->Q r {s' with heap:=h',toks:=tk})->wpAny (model prog w) A.in1 (setAdd S v) Q E s'):
  ∀(k i:Nat) (s:eZ),n-i=k->i<=n->St i s->SI i s.heap->Moved (S::wr) G s0 s->(∀s',Moved (S::wr) G s0 s'->SI n s'.heap->R (.ok (.ret .none)) s')->
   codeAny (model prog w) A (.builtin "set.update.loop" ⟨[.ref S,.ref I],[]⟩) R s:=by
 have hSw:S∉wr:=fun h=>dy (W.sub _ h);have u6: ∀b∈wr,b∈S::wr:=fun b hb=>gX _ hb;intro k
 induction k with
 |zero=>
  intro i s hk hi l5 hS dZ hR;have hin:i=n:=by lia
  subst hin;refine oW Hj ?_;rw[qO CW _];show wpAny _ A.in1 (pyNext (.ref I)>>=_) _ _ s;refine eY (W.done s _ _ l5 fun s' hm=>?_);show wpAny _ A.in1 (ret Value.none) _ _ s';exact fH (hR s' (Moved.trans W.gtrans dZ (hm.mono u6)) (stay _ _ _ hS fun o e=>hm.heap S o hSw e))
 |succ k ih=>
  intro i s hk hi l5 hS dZ hR;have i8:i<n:=by lia
  refine oW Hj ?_;rw[qO CW _];show wpAny _ A.in1 (pyNext (.ref I)>>=_) _ _ s;refine eY (W.item i s _ _ i8 l5 fun v s' hP hst' hm=>?_);have hm1:=Moved.trans W.gtrans dZ (hm.mono u6);show wpAny _ A.in1 (holding [v] (setAdd S v)>>=_) _ _ s';refine eY (ku (step i v s' _ _ i8 hP (stay _ _ _ hS fun o e=>hm.heap S o hSw e) hm1 fun r h' tk ax ay hS2=>?_));refine fH ⟨pk CW _,ih (i+1) _ (by lia) i8 (W.frame _ s' _ _ hst' ax fun b hb o e=>?_) hS2 (hm1.then_heap ax fun b o hb e=>?_) hR⟩
  ·rw[ay.2 b (fun h:b=S=>dy (by rw[<-h];exact hb))];exact e
  ·rw[ay.2 b (fun h:b=S=>hb (by rw[h];exact gY))];exact e
end
section
variable {prog:fS}{w:fL}{A:fQ}{E:gm}{s:eZ}
theorem Mr(a:fI)(h:Q₁ (.ref s.heap.objs.size) {s with heap:=s.heap.push (iC #[] 0 (.fresh 0 0 (!w.params.followText "set-order")))}):
  codeAny (model prog w) A (.call (.builtin "set.__new__") ⟨[.type "set",a],[]⟩) (wants Q₁ E) s:=by
 refine wG ?_;show wpAny _ A.in1 (do checkBuiltinCall "set.__new__" ⟨[.type "set",a],[]⟩;again (.builtin "set.__new__" ⟨[.type "set",a],[]⟩)) _ _ s;refine eY (oV (PySem.F.newCall_set_1 a) (fH ⟨pk Hh _,oW PySem.F.entry_set_new ?_⟩));rw[qO Hh _];unfold Builtin.«set.__new__» Builtin.Frozenset.newClass;have u6:=sub_set_self;obtain⟨hp,g,d,tk,os⟩:=s;dsimp only
 wp_walk
 refine uT (fH ?_);dsimp only;simp only[newObj];refine eY (wpAny_alloc (fH ?_));exact fH h
noncomputable abbrev jw(w:fL):SetTable:= .fresh 0 0 (!w.params.followText "set-order")
theorem P7{h:fP}{a:eX}(e:h.get? a=some (iC #[] 0 (jw w))):SetIs w h a #[] 0 (jw w):=⟨e,TabOk.fresh _ _ _,rfl,rfl⟩
set_option maxHeartbeats 8000000 in
theorem P8{l:eX}{items:lq}{Q:gm}(hh:A.handled=none)(hl:s.heap.IsList l items\/s.heap.IsTuple l items)(SI:Nat->Heap->Prop)
  (stay: ∀i h h',SI i h->(∀o,h.get? s.heap.objs.size=some o->h'.get? s.heap.objs.size=some o)->SI i h')
  (oP: ∀h',h'.get? s.heap.objs.size=some (iC #[] 0 (jw w))->SI 0 h')
  (step: ∀i v (s':eZ) (B:fQ) (Q:oU) (E:gm),B.units<=A.units+20->items[i]?=some v->SI i s'.heap->(∀b o,s.heap.get? b=some o->s'.heap.get? b=some o)->s'.gens=s.gens->s'.drawn=s.drawn->s'.os=s.os->
   (∀r h' tk,s'.toks<=tk->Heap.SameBut s.heap.objs.size s'.heap h'->SI (i+1) h'->Q r {s' with heap:=h',toks:=tk})->wpAny (model prog w) B (setAdd s.heap.objs.size v) Q E s')
  (h: ∀(h':fP) (tk:Nat),SI items.size h'->(∀b o,s.heap.get? b=some o->h'.get? b=some o)->Q (.ref s.heap.objs.size) {s with heap:=h',toks:=tk}):
  wpAny (model prog w) A (call (.type "set") [.ref l]) Q E s:=by
 obtain⟨c,tl,hmro⟩:=HJ.mro;have hmade:=HJ.made;have u6:=HJ.sub;refine wpAny_call (wG ?_);show wpAny _ _ (callAny (.type "set") _) _ _ _;refine fH ⟨Code.quiet_builtin _ (by decide+kernel),oW PySem.F.entry_type_call ?_⟩;rw[Around.under_plain (weight_type_call_type "set" [.ref l] []) rfl];have h1:=HJ.notType;have h2:=HJ.canCreate;have hct:=PySem.F.typeCall_set_1 (.ref l)
 repeat (any_goals (first|assumption|wp_step))
 refine rO (Mr (.ref l) (E:=E) (Q₁:=fun obj s₁=>obj= .ref s.heap.objs.size/\s₁={s with heap:=s.heap.push (iC #[] 0 (jw w))}) ⟨rfl,rfl⟩) fun r s₁ hr=>?_
 cases r with
 |error e=>exact hr
 |ok fl=>
  cases fl with
  |ret obj=>
   obtain⟨rfl,rfl⟩:=hr;have hS:(s.heap.push (iC #[] 0 (jw w))).get? s.heap.objs.size=some (iC #[] 0 (jw w)):=iK _ rfl;have hT:Shared.TypeIs {s with heap:=s.heap.push (iC #[] 0 (jw w))} (.ref s.heap.objs.size) "set":=⟨_,hS,rfl⟩
   have hli:=HJ.init.lookup;have hbi:=HJ.init.bind (.ref s.heap.objs.size)
   repeat (any_goals (first|assumption|wp_step))
   refine rO (codeAny_call_builtin (R:=wants (fun r s₂=>r= .none/\ ∃h' tk,s₂={s with heap:=h',toks:=tk}/\SI items.size h'/\(∀b o,s.heap.get? b=some o->h'.get? b=some o)) E) HJ.init.plain PySem.F.entry_set_init (check_set_init_1 hT ?_)) fun r₂ s₂ dX=>?_
   ·obtain⟨c,hc,ol,dq,l9,nl,x9⟩: ∃c,(c="list"\/c="tuple")/\ ∃o,s.heap.get? l=some o/\o.cls= .type c/\ ∃n,o.data= .seq items n:=hl.elim (fun h=>⟨_,.inl rfl,h⟩) (fun h=>⟨_,.inr rfl,h⟩)
    obtain⟨hsls,hslf,j7⟩:isSubtype (.type c) (.type "set")=pure false/\isSubtype (.type c) (.type "frozenset")=pure false/\(Value.type c==Value.type "dict")=false:=by
     rcases hc with rfl|rfl
     ·exact⟨PySem.F.sub_list_set,PySem.F.sub_list_frozenset,by decide⟩
     ·exact⟨PySem.F.sub_tuple_set,PySem.F.sub_tuple_frozenset,by decide⟩
    obtain⟨ocls,odict,odata,oslots⟩:=ol;simp only at l9 x9;subst l9;subst x9;have hol':(s.heap.push (iC #[] 0 (jw w))).get? l=some {cls:= .type c,dict:=odict,data:= .seq items nl,slots:=oslots}:=ik _ dq;have hlS:l<s.heap.objs.size:=ie dq;have hh3:A.in1.in1.in1.handled=none:=by simp[hh]
    have sz:(s.heap.push (iC #[] 0 (jw w))).objs.size=s.heap.objs.size+1:=oG _ _;have hneI:l≠(s.heap.push (iC #[] 0 (jw w))).objs.size:=by rw[sz];exact gE (pA hlS)
    have dy:s.heap.objs.size∉[(s.heap.push (iC #[] 0 (jw w))).objs.size,l]:=by
     rw[sz];simp only[iY,jD,kP,nv];exact⟨gE (tj _),nD hlS⟩
    obtain⟨St,W,o0,h0,hIt⟩: ∃St,Walks prog w A.in1.in1.in1 (s.heap.push (iC #[] 0 (jw w))).objs.size [(s.heap.push (iC #[] 0 (jw w))).objs.size,l] [(s.heap.push (iC #[] 0 (jw w))).objs.size] items.size (fun i v=>items[i]?=some v) St/\ ∃o0,St 0 ((s.heap.push (iC #[] 0 (jw w))).push o0)/\
      ∀{A':fQ} {Q:gm} {E},Q (.ref (s.heap.push (iC #[] 0 (jw w))).objs.size) {s with heap:=(s.heap.push (iC #[] 0 (jw w))).push o0}->wpAny (model prog w) A' (pyIter (.ref l)) Q E {s with heap:=s.heap.push (iC #[] 0 (jw w))}:=by
     rcases hl with hl|hl
     ·exact⟨_,Walks.list hh3 _ l hneI items,_,⟨⟨_,iK _ rfl,rfl,rfl⟩,(hl.push _).push _⟩,fun h=>wM (hl.push _) h⟩
     ·exact⟨_,Walks.tuple hh3 _ l hneI items,_,⟨⟨_,iK _ rfl,rfl,rfl⟩,(hl.push _).push _⟩,fun h=>Dw (hl.push _) h⟩
    unfold Builtin.«set.__init__» noKeywords Builtin.Frozenset.updateFrom;generalize hPI:pyIter=PI
    wp_walk
    subst hPI;refine hIt ?_;refine eY (Al ?_);refine HS W.toS s.heap.objs.size dy _ SI stay (fun i v s' Q' E' hi hP hSI hm hk=>?_) (items.size-0) 0 _ (by lia) (kA _) h0 (oP _ (ik _ hS)) (Moved.refl fun _=>rfl) ?hR
    ·refine step i v s' _ Q' E' ?_ hP hSI (fun b o e=>?_) hm.gens hm.drawn hm.os hk
     ·show A.units+1+1+1<=A.units+20;lia
     ·have hb:=ie e;exact hm.heap b o (by rw[sz];simp only[iY,jD,kP,nv];exact⟨gE hb,gE (pA hb)⟩) (ik _ (ik _ e))
    case hR=>
     intro s' hm u4;obtain⟨h',g',d',aP,bf⟩:=s';have eg:g'=s.gens:=hm.gens;have ed:d'=s.drawn:=hm.drawn;have eo:bf=s.os:=hm.os;subst eg;subst ed;subst eo;show wpAny _ _ _ _ _ _;refine fH ?_;show wpAny _ _ (ret Value.none) _ _ _;refine fH ⟨rfl,h',aP,rfl,u4,fun b o e=>?_⟩;have hb:=ie e;exact hm.heap b o (by rw[sz];simp only[iY,jD,kP,nv];exact⟨gE hb,gE (pA hb)⟩) (ik _ (ik _ e))
   ·cases r₂ with
    |error e=>exact dX
    |ok fl₂=>
     cases fl₂ with
     |ret r=>
      obtain⟨rfl,h',tk,rfl,u4,ei⟩:=dX
      repeat (any_goals (first|assumption|wp_step))
      exact h _ _ u4 ei
     |_=>exact dX.elim
  |_=>exact hr.elim
end
end TT
namespace PX
open PySem PySem.Spec PyProof.Rows L2 PySem.SeqAt TS
def okS:D->Bool
 | .tup l=>D.prL l&&decide (D.depL l<=6)
 |_=>false
theorem nZ(h:okS d=true): ∃l,d= .tup l:=by cases d<;>first|exact⟨_,rfl⟩|(simp[okS] at h)
theorem sf(h:okS d=true):D.pr d=true:=by
 obtain⟨l,rfl⟩:=nZ h;simp only[okS,kB] at h;rw[D.pr];exact h.1
theorem qr(h:okS d=true):d.dep<=7:=by
 obtain⟨l,rfl⟩:=nZ h;simp -iota only[okS,kB,pv] at h;rw[D.dep];lia
theorem Ek(h1:D.pr x=true)(h2:D.pr y=true):D.eqb x y=true↔x=y:=by
 rw[El x y h1 h2];constructor
 ·intro h;exact uB x y h1 h2 (by simpa using h)
 ·rintro rfl;rw[FC];rfl
def qh(vs:List D)(d:D):List D:=if vs.any (D.eqb · d)=true then vs else vs++[d]
def nj(l:List D):List D:=l.foldl qh []
theorem MX(h1:vs.all okS=true)(h2:okS d=true):(qh vs d).all okS=true:=by
 unfold qh;split
 ·exact h1
 ·rw[List.all_append,h1];simp[h2]
theorem KS(vs:List D)(d:D):(qh vs d).length<=vs.length+1:=by unfold qh;split<;>simp
theorem lb{α β:Type}(f:α->β){zs m:List β}(h:zs.Perm m): ∀l:List α,m=l.map f-> ∃l':List α,l'.Perm l/\zs=l'.map f:=by
 induction h with
 |nil=>
  intro l e;have:l=[]:=by simpa using e.symm
  subst this;exact⟨[],.refl _,rfl⟩
 |cons x _ ih=>
  intro l e
  cases l with
  |nil=>simp at e
  |cons y l=>
   simp -iota only[gP,List.cons.injEq] at e;obtain⟨l',p,q⟩:=ih l e.2;exact⟨y::l',p.cons y,by rw[q,e.1];rfl⟩
 |swap x y l0=>
  intro l e
  cases l with
  |nil=>simp at e
  |cons a l=>
   cases l with
   |nil=>simp at e
   |cons b l=>
    simp -iota only[gP,List.cons.injEq] at e;exact⟨b::a::l,.swap a b l,by rw[e.1,e.2.1,e.2.2];rfl⟩
 |trans _ _ dQ dP=>
  intro l e;obtain⟨l1,p1,q1⟩:=dP l e;obtain⟨l2,p2,q2⟩:=dQ l1 q1;exact⟨l2,p2.trans p1,q2⟩
theorem vH{α β:Type}{F:α->β->Prop}{es m:List β}(h:es.Perm m): ∀{z:List α},Paired F z m-> ∃z':List α,Paired F z' es/\z'.Perm z:=by
 induction h with
 |nil=>intro z p;exact⟨z,p,.refl _⟩
 |cons x _ ih=>
  intro z p
  cases p with
  |cons r t=>
   obtain⟨z',h1,h2⟩:=ih t;exact⟨_::z',.cons r h1,h2.cons _⟩
 |swap x y l0=>
  intro z p
  cases p with
  |cons r t=>
   cases t with
   |cons r' t=>exact⟨_,.cons r' (.cons r t),.swap _ _ _⟩
 |trans _ _ dQ dP=>
  intro z p;obtain⟨z1,p1,q1⟩:=dP p;obtain⟨z2,p2,q2⟩:=dQ p1;exact⟨z2,p2,q2.trans q1⟩
theorem RepL.zip{K H}{O:AP'}: ∀{l:List D} {vs:List V},RepL K H O l vs-> ∀p∈l.zip vs,Rep K H O p.1 p.2:=by
 intro iV
 induction iV with
 |nil=>
  intro vs h p hp;simp at hp
 |cons d l iH=>
  intro vs h p hp;rw[RepL] at h;obtain⟨v,r,rfl,h1,h2⟩:=h;rw[pd] at hp;rcases iY.mp hp with rfl|hp
  ·exact h1
  ·exact iH h2 p hp
theorem RepL.ofZip{K H}{O:AP'}: ∀{l:List (D×V)},(∀p∈l,Rep K H O p.1 p.2)->RepL K H O (l.map (·.1)) (l.map (·.2)):=by
 intro iV
 induction iV with
 |nil=>
  intro _;exact RepL.nil
 |cons p l iH=>
  intro h;exact RepL.cons (h p gY) (iH fun q hq=>h q (gX _ hq))
abbrev hv(p:D×V):Int×V:=(D.hash p.1,p.2)
theorem wQ: ∀(vs:List D) (us:List V),(D.hashL vs).zip us=(vs.zip us).map hv
 |[],us=>by simp[D.hashL]
 |d::vs,[]=>by simp
 |d::vs,u::us=>by rw[D.hashL,pd,pd,gP,wQ vs us]
section
variable {X:Cx}{pins:gc}{σ:L2.St}{H:Hp}{s:eZ}
structure SetV(X:Cx)(H:Hp)(O:AP')(h:fP)(a:eX)(vs:List D)(es:qD)(n:Nat)(t:ke)(l:List (D×V)):Prop where
 is:TT.SetIs X.w h a es n t
 perm:(l.map (·.1)).Perm vs
 rep: ∀p∈l,Rep X.K H O p.1 p.2
 par:Paired (fun(z:Int×V) (e:Int×Value)=>z.1=e.1/\RelV z.2 e.2) (l.map hv) es.toList
theorem SetV.stay{a vs es n t l}(S:SetV X H O h a vs es n t l)(k: ∀o,h.get? a=some o->h'.get? a=some o):SetV X H O h' a vs es n t l:=⟨S.is.stay k,S.perm,S.rep,S.par⟩
theorem DY{α β:Type}{F:α->β->Prop}{l:List α}{m:List β}(h:Paired F l m): ∀{i:Nat} {b:β},m[i]?=some b-> ∃a,l[i]?=some a/\F a b:=by
 induction h with
 |nil=>intro i b h;simp at h
 |cons r t ih=>
  intro i b h
  cases i with
  |zero=>simp at h;subst h;exact⟨_,rfl,r⟩
  |succ i=>obtain⟨a,h1,h2⟩:=ih (i:=i) (b:=b) (by simpa using h);exact⟨a,by simpa using h1,h2⟩
theorem DX{α β:Type}{F:α->β->Prop}: ∀{l:List α} {m:List β},Paired F l m->l.length=m.length:=va
theorem xp{l:List (Int×V)}{m:List (Int×Value)}(h:Paired (fun(z:Int×V) (e:Int×Value)=>z.1=e.1/\RelV z.2 e.2) l m):l.map (·.1)=m.map (·.1):=by
 induction h with
 |nil=>rfl
 |cons r t ih=>rw[gP,gP,r.1,ih]
theorem SetV.srch(I:Inv X pins σ H s){O O':AP'}{a:eX}{vs:List D}{es n t l}(S:SetV X H O s.heap a vs es n t l)(hok:vs.all okS=true){d:D}{v:V}{u:fI}(hd:ip X.K H O' d v)(ru:RelV v u)(v5:okS d=true){A:fQ}(hA:A.units+60<cLine):
  ∃b,u= .ref b/\TT.Srch A s a es n t u d.hash (fun i=>match l[i]? with|some p=>D.eqb p.1 d|none=>false):=by
 obtain⟨ld,rfl⟩:=nZ v5;obtain⟨b,xs,rfl,q,r⟩:=jm hd;cases ru;have hdp:=qr v5;have cB:=sf v5;have mem: ∀p∈l,okS p.1=true:=fun p hp=>my.mp hok _ (S.perm.mem_iff.mp (zS hp))
 have at_: ∀(i:Nat) (e:Int×Value),es[i]?=some e-> ∃p,l[i]?=some p/\p∈l/\D.hash p.1=e.1/\RelV p.2 e.2:=fun i e he=>by
  obtain⟨z,h1,h2,h3⟩:=DY S.par (i:=i) (b:=e) (by rw[jT];exact he);rw[jU] at h1
  cases hl:l[i]? with
  |none=>rw[hl] at h1;cases h1
  |some p=>rw[hl] at h1;cases h1;exact⟨p,rfl,lG hl,h2,h3⟩
 have hqu: ∀(e:D) (y:V) (uu:fI) (OO:AP') (B:fQ) (P:fS) (W:fL) (Q:oU) (E:gm),okS e=true->ip X.K H OO e y->RelV y uu->Q true s->wpAny (model P W) B (eqIsQuiet 8 uu) Q E s:=fun e y uu OO B P W Q E ho hv hr hq=>by
  obtain⟨le,rfl⟩:=nZ ho;rcases hv with hv|⟨_,_,hv⟩
  ·exact LA I 8 _ _ _ OO B E Q hv hr (sf ho) (by have:=qr ho;lia) hq
  ·exact hv.elim
 have l9: ∀(e:D) (y:V) (uu:fI) (OO:AP') (B:fQ) (P:fS) (W:fL) (Q:oU) (E:gm),okS e=true->ip X.K H OO e y->RelV y uu->Q false s->wpAny (model P W) B (ofAClassStatement 8 uu) Q E s:=fun e y uu OO B P W Q E ho hv hr hq=>by
  obtain⟨le,rfl⟩:=nZ ho;rcases hv with hv|⟨_,_,hv⟩
  ·exact Gv I 8 _ _ _ OO B E Q hv hr (sf ho) (by have:=qr ho;lia) hq
  ·exact hv.elim
 refine⟨b,rfl,⟨_,S.is.at_,rfl⟩,S.is.tab,fun i e he=>?_,fun i e he=>?_,fun i e he hq=>?_,fun ls prog w E Q hls hq=>?_⟩
 ·obtain⟨p,h1,h2,h3,h4⟩:=at_ i e he;obtain⟨lp,hp⟩:=nZ (mem p h2);have:=S.rep p h2;rw[hp] at this;obtain⟨c,xs,e1,_⟩:=this.tup;rw[e1] at h4;exact⟨c,h4⟩
 ·obtain⟨p,h1,h2,h3,h4⟩:=at_ i e he;rw[h1];have:=qr (mem p h2);exact yn I 50 p.1 (.tup ld) p.2 (.ref b) _ _ O O' A (.inl (S.rep p h2)) hd h4 rfl (by lia) (by lia) (by lia)
 ·obtain⟨p,h1,h2,h3,h4⟩:=at_ i e he;rw[h1] at hq;rw[(Ek (sf (mem p h2)) cB).mp hq] at h3;exact h3.symm
 ·unfold searchCouldBeSeen;refine eY ?_;refine sV _ (fun fY rr s'=>rr.1=none/\s'=s/\ ∀v∈fY,∃e∈es.toList,e.2=v) _ ?_ ?_ _ _ ⟨rfl,rfl,hls⟩
  ·rintro y fY rr s' ⟨h0,rfl,hm⟩;have hrest: ∀v∈fY,∃e∈es.toList,e.2=v:=fun v hv=>hm v (gX _ hv);obtain⟨e,he,rfl⟩:=hm y gY;obtain⟨i,hi⟩:=tu he;rw[jT] at hi;obtain⟨p,h1,h2,h3,h4⟩:=at_ i e hi;obtain⟨lp,hp⟩:=nZ (mem p h2);have dn:=S.rep p h2
   obtain⟨c,ec⟩: ∃c,e.2= .ref c:=by
    rw[hp] at dn;obtain⟨c,xs,e1,_⟩:=dn.tup;rw[e1] at h4;exact⟨c,h4⟩
   rw[ec] at h4 ⊢;dsimp only;split
   ·exact fH ⟨rfl,rfl,hrest⟩
   ·refine eY (hqu _ _ _ O' A prog w _ _ v5 hd rfl ?_);simp -iota only[nu,gv,gO];refine eY (hqu _ _ _ O A prog w _ _ (mem p h2) (.inl dn) h4 ?_);simp -iota only[nu,gv,gO];refine eY (l9 _ _ _ O' A prog w _ _ v5 hd rfl ?_);simp -iota only[gv,gO];refine eY (l9 _ _ _ O A prog w _ _ (mem p h2) (.inl dn) h4 ?_);simp -iota only[gv,gO];exact fH ⟨rfl,rfl,hrest⟩
  ·rintro⟨r1,r2⟩ s' ⟨h0,rfl,_⟩;simp only at h0;subst h0;exact fH hq
theorem OthB.setV(I:Inv X pins σ H s)(h:OthB X.K (H a) .set ks vs us)(r:RepL X.K H O vs us): ∃es n t l,SetV X H O s.heap a vs es n t l:=by
 obtain⟨_,zs,e,p⟩:=h;obtain⟨es,n,t,h1,h2,h3,h4,h5⟩:=(show ObjOk X.prog X.w H s.heap a (.stt zs) from I.hok a _ e)
 rw[wQ] at p;obtain⟨l,p1,rfl⟩:=lb hv p _ rfl;refine⟨es,n,t,l,⟨h1,by rw[<-xp h2];exact h3,h4,h5⟩,?_,fun q hq=>r.zip q (p1.mem_iff.mp hq),h2⟩;have:=p1.map (·.1);rw[List.map_fst_zip (by rw[r.length];exact gJ _)] at this;exact this
theorem SetV.objOk{es n t l}(S:SetV X H O h a vs es n t l):ObjOk X.prog X.w H' h a (.stt (l.map hv)):=
 ⟨es,n,t,S.is.at_,S.par,by rw[xp S.par];exact S.is.tab,S.is.plain,S.is.led⟩
theorem SetV.lens{es n t l}(S:SetV X H O h a vs es n t l):es.size=vs.length/\l.length=vs.length:=by
 have h1:=DX S.par;have h2:=S.perm.length_eq;simp only[gW,iw] at h1 h2
 lia
theorem SetV.oth{O:AP'}{h:fP}{a:eX}{vs:List D}{es n t l}(S:SetV X H O h a vs es n t l){K H'}{O':AP'}(hr: ∀p∈l,Rep K H' O' p.1 p.2)(hH:H' a=some (.stt (l.map hv))): ∃us,OthB K (H' a) .set [] vs us/\RepL K H' O' vs us:=by
 obtain⟨l',p1,p2⟩:=lb (·.1) S.perm.symm l rfl;refine⟨l'.map (·.2),⟨rfl,l.map hv,hH,?_⟩,?_⟩
 ·rw[p2,wQ]
  have:(l'.map (·.1)).zip (l'.map (·.2))=l':=by
   clear p1 p2
   induction l' with
   |nil=>rfl
   |cons x l ih=>rw[gP,gP,pd,ih]
  rw[this];exact(p1.map hv).symm
 ·rw[p2];exact RepL.ofZip fun p hp=>hr p (p1.mem_iff.mp hp)
theorem SetV.add(I:Inv X pins σ H s){es n t l}(S:SetV X H O s.heap a vs es n t l)(hok:vs.all okS=true)(hd:ip X.K H O' d v)(bH:Rep X.K H O d v)(ru:RelV v u)(v5:okS d=true)(hz:vs.length<500)
  (hA:A.units+60<cLine) 
  (h: ∀r h' tk es' n' t' l',s.toks<=tk->Heap.SameBut a s.heap h'->SetV X H O h' a (qh vs d) es' n' t' l'->Q r {s with heap:=h',toks:=tk}):wpAny (model X.prog X.w) A (setAdd a u) Q E s:=by
 obtain⟨bB,aU⟩:=S.lens;unfold setAdd;refine ku (eY (Pn 50 I d v u O A E _ bH ru (sf v5) (by have:=qr v5;lia) (by lia) fun tk ax=>?_));have I1:Inv X pins σ H {s with toks:=tk}:=I.kept (h':=s.heap) (t':=tk) fun _ _ e=>e;obtain⟨b,rfl,Sr⟩:=SetV.srch (s:={s with toks:=tk}) I1 S hok hd ru v5 hA;have mem: ∀p∈l,p.1∈vs:=fun p hp=>S.perm.mem_iff.mp (zS hp);refine TT.Su Sr S.is.at_ S.is.plain (by lia) (fun Q' hq=>RC I1 8 d v _ O A E Q' bH ru (sf v5) (by have:=qr v5;lia) hq) (fun⟨i,hi,hq⟩=>?_) (fun aS h' es' n' t' g1 g2 g3 g4 g5 g6=>?_)
 ·have:qh vs d=vs:=by
   unfold qh
   cases hl:l[i]? with
   |none=>rw[hl] at hq;cases hq
   |some p=>
    rw[hl] at hq;rw[fJ (List.any_eq_true.mpr ⟨p.1,mem p (lG hl),hq⟩)]
  exact h false s.heap tk es n t l ax (Ao a s.heap) (by rw[this];exact S)
 ·have af:vs.any (D.eqb · d)=false:=by
   rw[List.any_eq_false];intro x hx;have bS:=S.perm.mem_iff.mpr hx;obtain⟨p,hp,rfl⟩:=kx.mp bS;obtain⟨i,hi⟩:=tu hp;have:=aS i (by have:=(sN.mp hi).1;lia);rw[hi] at this;simpa using this
  have hadd:qh vs d=vs++[d]:=by unfold qh;rw[af,fR je]
  have par:Paired (fun(z:Int×V) (e:Int×Value)=>z.1=e.1/\RelV z.2 e.2) (((d,v)::l).map hv) ((d.hash,Value.ref b)::es.toList):= .cons ⟨rfl,ru⟩ S.par;obtain⟨z',p1,p2⟩:=vH g3 par;obtain⟨l',p3,rfl⟩:=lb hv p2 _ rfl;refine h true h' tk es' n' t' l' ax g1 ⟨⟨g2,g4,g5,g6.trans S.is.led⟩,?_,fun p hp=>?_,p1⟩
  ·rw[hadd];refine(p3.map (·.1)).trans ?_;rw[gP];exact(S.perm.cons d).trans (Hu d vs).symm
  ·rcases iY.mp (p3.mem_iff.mp hp) with rfl|hp
   ·exact bH
   ·exact S.rep p hp
def Eg:D->Option (D×Bool)
 | .lst l| .tup l=>if l.all okS=true/\l.length<500 then some (.oth .set [] (nj l),true) else none
 |_=>none
theorem En{l:List D}{i:Nat}{d:D}(h:l[i]?=some d):nj (l.take (i+1))=qh (nj (l.take i)) d:=by
 unfold nj;rw[C8,h,List.foldl_append];rfl
theorem Kv: ∀(l acc:List D),l.all okS=true->acc.all okS=true->(l.foldl qh acc).all okS=true:=by
 intro iV
 induction iV with
 |nil=>
  intro acc _ h;exact h
 |cons d l iH=>
  intro acc h1 h2;rw[List.all_cons,kB] at h1;exact iH _ h1.2 (MX h2 h1.1)
theorem GO: ∀(l acc:List D),(l.foldl qh acc).length<=acc.length+l.length:=by
 intro iV
 induction iV with
 |nil=>
  intro acc;simp
 |cons d l iH=>
  intro acc;have:=iH (qh acc d);have:=KS acc d;simp only[pz,jb];lia
theorem KO{l:List D}(h:l.all okS=true)(i:Nat):(l.take i).all okS=true:=by
 rw[my] at h ⊢;exact fun x hx=>h x (uP hx)
theorem zF(hc:X.calm=true)(hu:X.A.units+90<cLine):hX X (.type "set") (rDn X.K (g1 Eg)):=mw fun pins s σ H x u Q O d z I ru np hd hg G=>by
 obtain⟨l,p,xs,b6,rfl,r,v,pl,hg⟩: ∃l p xs b6,x= .ref p/\RepL X.K H O l xs/\Vals xs b6/\(s.heap.IsList p b6.toArray\/s.heap.IsTuple p b6.toArray)/\(if l.all okS=true/\l.length<500 then some (D.oth .set [] (nj l),true) else none)=some z:=by
  cases d with
  |lst l=>obtain⟨p,xs,rfl,q,r⟩:=jf hd;obtain⟨b6,v,pl,_⟩:=I.list q;exact⟨l,p,xs,b6,rfl,r,v,.inl pl.isList,hg⟩
  |tup l=>obtain⟨p,xs,rfl,q,r⟩:=jm hd;obtain⟨b6,v,pl,_⟩:=I.tuple q;exact⟨l,p,xs,b6,rfl,r,v,.inr pl,hg⟩
  |_=>cases hg
 obtain⟨⟨hok,hz⟩,rfl⟩:=fU hg;cases ru;have e1:=r.length;have e2:=v.length;have hh:X.A.handled=none:=I.ok.hd hc;have t5:=I.fresh
 refine TT.P8 hh pl (fun i h=> ∃es n t l',SetV X H O h s.heap.objs.size (nj (l.take i)) es n t l') (fun i h h' ⟨es,n,t,l',S⟩ k=>⟨es,n,t,l',S.stay k⟩)
  (fun h' e=>⟨#[],0,_,[],⟨TT.P7 e,by simp[nj],fun p hp=>by simp at hp,.nil⟩⟩) (fun i w s' B Q' E' hB hi hS hk hg hdr aA hQ'=>?_) (fun h' tk hS hk=>?_)
 ·obtain⟨es,n,t,l',S⟩:=hS
  have hil:i<b6.length:=by
   have:=(G6.mp hi).1;simpa using this
  have hw:b6[i]?=some w:=by simpa using hi
  have hxi:xs[i]?=some xs[i]:=ir (by lia);have eA:l[i]?=some l[i]:=ir (by lia);obtain⟨w',w1,w2⟩:=v.get hxi;rw[hw] at w1;cases w1;have hrep:Rep X.K H O l[i] xs[i]:=r.views eA hxi;have v5:okS l[i]=true:=my.mp hok _ (zR _);obtain⟨h1,g1,dr1,dE,os1⟩:=s';dsimp only at hk hg hdr aA hQ' S;subst hg;subst hdr;subst aA;have I':Inv X pins σ H {s with heap:=h1,toks:=dE}:=I.kept hk;refine SetV.add I' S (Kv _ _ (KO hok i) rfl) (.inl hrep) hrep w2 v5 ?_ (by lia) fun rr h2 cg es' n' t' l'' a1 a2 a3=>?_
  ·have:=GO (l.take i) [];rw[qU] at this;unfold nj;simp only[oF] at this
   lia
  ·rw[<-En eA] at a3;exact hQ' rr h2 cg a1 a2 ⟨es',n',t',l'',a3⟩
 ·obtain⟨es,n,t,l',S⟩:=hS;have hsz:b6.toArray.size=l.length:=by simp;lia
  rw[hsz,List.take_length] at S;refine⟨.ref s.heap.objs.size,upd H s.heap.objs.size (.stt (l'.map hv)),I.laid hk (gJ _) S.objOk,rfl,?_⟩;refine G s.heap.objs.size _ t5 (iW t5) ?_;exact S.oth (fun p hp=>Rep.mono (fun b o e _=>iW t5 b o e) (fun b hb z=>z.elim id fun z=>absurd (z▸t5) hb) (S.rep p hp)) fX
end
theorem Im(hp:l.Perm m)(cB: ∀x∈l,D.pr x=true):pK ltT l=pK ltT m:=Ik (fun x hx=>cB x (hp.mem_iff.mpr hx)) ((jG ltT l).trans hp) (lS l)
theorem F0{k:Nat}{l:List D}(h:SortsBy k l):kU l=true:=by
 unfold kU;rw[uN];right
 cases l with
 |nil=>rfl
 |cons x m=>
  simp only[kB,my,pv];refine⟨⟨by rw[h.hd x gY];rfl,fun y hy=>⟨⟨?_,h.pr y hy⟩,h.dp y hy⟩⟩,fun y hy z hz=>h.cm y hy z hz⟩;rw[h.hd x gY,h.hd y hy];simp
theorem BJ(hp:l.Perm m)(h:kU m=true):kU l=true:=by
 rcases zf h with hl|⟨k,B⟩
 ·unfold kU;rw[uN];left;rw[hp.length_eq];simpa using hl
 ·exact F0 (k:=k) ⟨fun x hx=>B.hd x (hp.mem_iff.mp hx),fun x hx=>B.pr x (hp.mem_iff.mp hx),fun x hx=>B.dp x (hp.mem_iff.mp hx),fun x hx y hy=>B.cm x (hp.mem_iff.mp hx) y (hp.mem_iff.mp hy)⟩
def qd(d:D):Option (D×Bool):=match d with
 | .oth .set [] vs=>if vs.all okS=true then iE vs else none
 |_=>mQ d
section
variable {X:Cx}
theorem Bp(hc:X.calm=true)(hu:X.A.units+62<cLine):hX X (.builtin "sorted") (rDn X.K (g1 qd)):=mw fun pins s σ H x u Q O d z I ru np hd hg G=>by
 by_cases hs: ∃vs,d= .oth .set [] vs
 ·obtain⟨vs,rfl⟩:=hs;have o8:(if vs.all okS=true then iE vs else none)=some z:=hg;split at o8
  ·rename_i hok;obtain⟨a,us,rfl,q,r⟩:=pF hd;cases ru;obtain⟨es,n,t,l,S⟩:=q.setV I r;obtain⟨bB,aU⟩:=S.lens;have wp:=TT.CK X.w a n es;obtain⟨z',p1,p2⟩:=vH wp S.par;obtain⟨l',p3,rfl⟩:=lb hv p2 _ rfl;have rr:RepL X.K H O (l'.map (·.1)) (l'.map (·.2)):=RepL.ofZip fun p hp=>S.rep p (p3.mem_iff.mp hp)
   have vv:Vals (l'.map (·.2)) ((TT.lA X.w a n es).toList.map (·.2)):=by
    clear p2 p3 rr wp;generalize (TT.lA X.w a n es).toList=m at p1;revert p1;generalize hz:l'.map hv=zz;intro p1
    induction p1 generalizing l' with
    |nil=>
      have:l'=[]:=by simpa using hz
      subst this;exact .nil
    |cons r t ih=>
     cases l' with
     |nil=>simp at hz
     |cons p l'=>
      simp only[gP,List.cons.injEq] at hz;rw[gP,gP];refine .cons ?_ (ih l' hz.2);have:=r.2;rw[<-hz.1] at this;exact this
   have t9:(l'.map (·.1)).Perm vs:=(p3.map (·.1)).trans S.perm
   have ao:iE (l'.map (·.1))=some z:=by
    unfold iE at o8 ⊢;obtain⟨⟨h1,h2⟩,rfl⟩:=fU o8;rw[fJ ⟨BJ t9 h1,by rw[t9.length_eq];exact h2⟩,Im t9 fun x hx=>sf (my.mp hok x (t9.mem_iff.mp hx))]
   have hh:X.A.handled=none:=I.ok.hd hc
   have hz:es.size<=sizeLine:=by
    unfold iE at o8;rw[bB];exact(fU o8).1.2
   exact qp hu I rr vv ao G fun Q' E' A' eG hQ=>TT.MR (by rw[eG];exact hh) S.is hz fun h' tk k=>hQ h' tk k
  ·cases o8
 ·have o8:g1 mQ [d]=some z:=by
   have:qd d=mQ d:=by
    unfold qd;split
    ·exact absurd ⟨_,rfl⟩ hs
    ·rfl
   show mQ d=some z;rw[<-this];exact hg
  exact uw hu pins s σ H [x] [u] Q I (.cons ru .nil) ⟨O,[d],z,np,rfl,(fun j d' v' a b=>by
   cases j with
   |zero=>simp at a b;subst a;subst b;exact hd
   |succ j=>simp at a),o8,G⟩
end
end PX
namespace L2
open PySem PySem.Spec PyProof.Rows
section
variable {κ:Type}[DecidableEq κ]
def qF(kvs:List (κ×V))(k:κ):Option V:=(kvs.find? fun kv=>decide (kv.1=k)).map (·.2)
def oQ(kvs:List (κ×V))(k:κ)(v:V):List (κ×V):=
 if(kvs.any fun kv=>decide (kv.1=k))=true then kvs.map (fun kv=>if kv.1=k then(kv.1,v) else kv) else kvs++[(k,v)]
theorem pG{p:κ×V}{r:List (κ×V)}{k:κ}(e:p.1=k):qF (p::r) k=some p.2:=by simp[qF,uJ,e]
theorem lW{p:κ×V}{r:List (κ×V)}{k:κ}(e: ¬p.1=k):qF (p::r) k=qF r k:=by simp[qF,uJ,e]
theorem BB(k:κ): ∀kvs:List (κ×V),(kvs.any fun kv=>decide (kv.1=k))=(qF kvs k).isSome
 |[]=>rfl
 |p::r=>by
  rw[rK];by_cases e:p.1=k
  ·simp only[pG e,ny e,Bool.true_or,Option.isSome_some]
  ·rw[lW e,kS e,Bool.false_or];exact BB k r
theorem vM(kvs:List (κ×V))(k:κ)(v:V):(oQ kvs k v).length<=kvs.length+1:=by
 unfold oQ;split
 ·rw[gW];lia
 ·rw[lr,jb,oF];lia
theorem RelO.isSome_eq{o:Option V}{u:Option Value}(r:RelO o u):o.isSome=u.isSome:=by
 cases o with
 |none=>cases u with
  |none=>rfl
  |some _=>exact(show False from r).elim
 |some _=>cases u with
  |none=>exact(show False from r).elim
  |some _=>rfl
theorem KV.val{kvs:List (κ×V)}{vs:List (κ×Value)}(r:KV kvs vs)(k:κ):RelO (qF kvs k) (valueAt vs k):=by
 unfold KV at r
 induction r with
 |nil=>exact True.intro
 | @cons p q ps qs h t ih=>
  obtain⟨h1,h2⟩:=h;by_cases e:p.1=k
  ·have e':q.1=k:=h1.symm.trans e;have b:valueAt (q::qs) k=some q.2:=by simp[valueAt,uJ,e']
   rw[pG e,b];exact h2
  ·have e': ¬q.1=k:=fun z=>e (h1.trans z);have b:valueAt (q::qs) k=valueAt qs k:=by simp[valueAt,uJ,e']
   rw[lW e,b];exact ih
theorem KV.any{kvs:List (κ×V)}{vs:List (κ×Value)}(r:KV kvs vs)(k:κ):(kvs.any fun kv=>decide (kv.1=k))=vs.any fun kv=>decide (kv.1=k):=by
 unfold KV at r
 induction r with
 |nil=>rfl
 |cons h t ih=>rw[rK,rK,ih,h.1]
theorem KV.repl{kvs:List (κ×V)}{vs:List (κ×Value)}(r:KV kvs vs)(k:κ){y:V}{u:fI}(ry:RelV y u):
  KV (kvs.map fun kv=>if kv.1=k then(kv.1,y) else kv) (vs.map fun kv=>if kv.1=k then(kv.1,u) else kv):=by
 unfold KV at r ⊢
 induction r with
 |nil=>exact .nil
 | @cons p q ps qs h t ih=>
  rw[gP,gP];refine .cons ?_ ih;obtain⟨h1,h2⟩:=h;by_cases e:p.1=k
  ·rw[fJ e,fJ (h1.symm.trans e)];exact⟨h1,ry⟩
  ·rw[fR e,fR (fun z=>e (h1.trans z))];exact⟨h1,h2⟩
theorem KV.put{kvs:List (κ×V)}{vs:List (κ×Value)}(r:KV kvs vs)(k:κ){y:V}{u:fI}(ry:RelV y u):KV (oQ kvs k y) (stored vs k u):=by
 unfold oQ stored;rw[r.any k];by_cases e:(vs.any fun kv=>decide (kv.1=k))=true
 ·rw[fJ e,fJ e];exact r.repl k ry
 ·rw[fR e,fR e];exact Paired.snoc r ⟨rfl,ry⟩
theorem KV.length{kvs:List (κ×V)}{vs:List (κ×Value)}(r:KV kvs vs):kvs.length=vs.length:=va r
end
theorem J3{P:fS}{w:fL}{k:Key}{u:fI}(r:RelV (kV k) u):(jr P w).is k u=true:=by
 cases k with
 |inl i=>obtain⟨t,e⟩:=(show ∃t,u=Value.int i t from r);subst e;exact B9 P w i t
 |inr x=>obtain⟨t,e⟩:=(show ∃t,u=Value.str x t from r);subst e;exact B8 P w x t
theorem zu{P:fS}{w:fL}: ∀{ks:List Key} {us:gH},Vals (ks.map kV) us->ItemsAre (jr P w) ks us
 |[],_,r=>by rw[mG] at r;cases r;exact .nil
 |k::ks,_,r=>by
  rw[gP] at r
  cases r with
  |cons h t=>exact .cons (J3 h) (zu t)
abbrev KT(H:Hp):List (List Key×V)->List (List Key×Addr×Value)->Prop:=Paired fun p q=>p.1=q.1/\H q.2.1=some (.tup (p.1.map kV))/\RelV p.2 q.2.2
theorem KT.val{H:Hp}{kvs:List (List Key×V)}{xs:List (List Key×Addr×Value)}(r:KT H kvs xs)(k:List Key):RelO (qF kvs k) ((atKey xs k).map (·.2)):=by
 induction r with
 |nil=>exact True.intro
 | @cons p q ps qs h t ih=>
  obtain⟨h1,_,h2⟩:=h;by_cases e:p.1=k
  ·have e':q.1=k:=h1.symm.trans e;have b:atKey (q::qs) k=some q.2:=by simp[atKey,uJ,e']
   rw[pG e,b];exact h2
  ·have e': ¬q.1=k:=fun z=>e (h1.trans z);have b:atKey (q::qs) k=atKey qs k:=by simp[atKey,uJ,e']
   rw[lW e,b];exact ih
theorem KT.repl{H:Hp}{kvs:List (List Key×V)}{xs:List (List Key×Addr×Value)}(r:KT H kvs xs)(k:List Key){y:V}{u:fI}(ry:RelV y u):
  KT H (kvs.map fun kv=>if kv.1=k then(kv.1,y) else kv) (xs.map (putAt k u)):=by
 induction r with
 |nil=>exact .nil
 | @cons p q ps qs h t ih=>
  rw[gP,gP];refine .cons ?_ ih;obtain⟨h1,h2,h3⟩:=h;unfold putAt;by_cases e:p.1=k
  ·rw[fJ e,fJ (h1.symm.trans e)];exact⟨h1,h2,ry⟩
  ·rw[fR e,fR (fun z=>e (h1.trans z))];exact⟨h1,h2,h3⟩
theorem KT.put{H:Hp}{kvs:List (List Key×V)}{xs:List (List Key×Addr×Value)}(r:KT H kvs xs)(k:List Key){b:eX}{y:V}{u:fI}(hb:H b=some (.tup (k.map kV)))(ry:RelV y u):
  KT H (oQ kvs k y) (storedH xs k b u):=by
 have e:(kvs.any fun kv=>decide (kv.1=k))=(atKey xs k).isSome:=by
  rw[BB,(r.val k).isSome_eq,Option.isSome_map]
 unfold oQ storedH;rw[e];by_cases q:(atKey xs k).isSome=true
 ·rw[fJ q,fJ q];exact r.repl k ry
 ·rw[fR q,fR q];exact Paired.snoc r ⟨rfl,hb,ry⟩
theorem KT.keeps{H H':Hp}{kvs:List (List Key×V)}{xs:List (List Key×Addr×Value)}(r:KT H kvs xs)(ht: ∀b ys,H b=some (.tup ys)->H' b=some (.tup ys)):KT H' kvs xs:=
 Paired.mapP r fun _ _ z=>⟨z.1,ht _ _ z.2.1,z.2.2⟩
section
variable {P:fS}{w:fL}{H:Hp}{h:fP}{a:eX}
theorem Nf{u:HO}(ok:HOk P w H h)(e:Rd H a u):ObjOk P w H h a u:=e.ok ok
theorem Nt{kvs:List (Key×V)}(ok:HOk P w H h)(e:Rd H a (.dK kvs)):kvs.length<=sizeLine/\(a==sysModules)=false/\ ∃vs,KV kvs vs/\h.DictOf (jr P w) a vs:=
 show ObjOk P w H h a (.dK kvs) from Nf ok e
theorem Nu{kvs:List (Key×V)}(ok:HOk P w H h)(e:H a=some (.dK kvs)):kvs.length<=sizeLine/\(a==sysModules)=false/\ ∃vs,KV kvs vs/\h.DictOf (jr P w) a vs:=Nt ok (.inl e)
theorem D8{ks:List Key}(ok:HOk P w H h)(e:H a=some (.tup (ks.map kV))):(tupleKind (jr P w)).is h ks a:=by
 obtain⟨_,b6,r,o,h1,h2,n,h3⟩:=(show ObjOk P w H h a (.tup (ks.map kV)) from ok a _ e)
 exact⟨o,b6.toArray,n,h1,h2,h3,by simpa using zu r⟩
theorem Nr{kvs:List (List Key×V)}(ok:HOk P w H h)(e:Rd H a (.dT kvs)):kvs.length<=sizeLine/\(a==sysModules)=false/\
  ∃xs,KT H kvs xs/\h.DictOfH (tupleKind (jr P w)) a xs:=by
 obtain⟨z,y,xs,r,o,es,ep,h1,h2,h3,h4,h5⟩:=(show ObjOk P w H h a (.dT kvs) from Nf ok e)
 refine⟨z,y,xs,r,o,es,ep,h1,h2,h3,h4,fun x hx=>?_,h5⟩
 have all: ∀{l:List (List Key×V)} {m:List (List Key×Addr×Value)},KT H l m-> ∀x∈m,(tupleKind (jr P w)).is h x.1 x.2.1:=by
  intro l m q
  induction q with
  |nil=>intro x hx;exact nomatch hx
  | @cons p q ps qs hq t ih=>
   intro x hx;rcases iY.mp hx with e|hx
   ·subst e;exact D8 ok (by rw[<-hq.1];exact hq.2.1)
   ·exact ih x hx
 exact all r x hx
theorem RO{kvs:List (List Key×V)}(ok:HOk P w H h)(e:H a=some (.dT kvs)):kvs.length<=sizeLine/\(a==sysModules)=false/\
  ∃xs,KT H kvs xs/\h.DictOfH (tupleKind (jr P w)) a xs:=Nr ok (.inl e)
end
def DGet(H:Hp)(a:eX)(y:V)(r:Option V):Prop:=
 (∃kvs k,Rd H a (.dK kvs)/\y=kV k/\r=qF kvs k)\/ ∃kvs k b,Rd H a (.dT kvs)/\y= .ref b/\H b=some (.tup (k.map kV))/\r=qF kvs k
def DPut(H:Hp)(a:eX)(y v:V)(H':Hp):Prop:=
 (∃kvs k,H a=some (.dK kvs)/\y=kV k/\kvs.length<sizeLine/\H'=upd H a (.dK (oQ kvs k v)))\/
 ∃kvs k b,H a=some (.dT kvs)/\y= .ref b/\H b=some (.tup (k.map kV))/\kvs.length<sizeLine/\H'=upd H a (.dT (oQ kvs k v))
theorem DGet.k{H:Hp}{a:eX}{kvs:List (Key×V)}{k:Key}(e:H a=some (.dK kvs)):DGet H a (kV k) (qF kvs k):= .inl ⟨kvs,k,.inl e,rfl,rfl⟩
theorem DGet.t{H:Hp}{a b:eX}{kvs:List (List Key×V)}{k:List Key}(e:H a=some (.dT kvs))(eb:H b=some (.tup (k.map kV))):DGet H a (.ref b) (qF kvs k):= .inr ⟨kvs,k,b,.inl e,rfl,eb,rfl⟩
theorem DPut.k{H:Hp}{a:eX}{kvs:List (Key×V)}{k:Key}{v:V}(e:H a=some (.dK kvs))(hl:kvs.length<sizeLine):DPut H a (kV k) v (upd H a (.dK (oQ kvs k v))):= .inl ⟨kvs,k,e,rfl,hl,rfl⟩
theorem DPut.t{H:Hp}{a b:eX}{kvs:List (List Key×V)}{k:List Key}{v:V}(e:H a=some (.dT kvs))(eb:H b=some (.tup (k.map kV)))(hl:kvs.length<sizeLine):
  DPut H a (.ref b) v (upd H a (.dT (oQ kvs k v))):= .inr ⟨kvs,k,b,e,rfl,eb,hl,rfl⟩
section
variable {X:Cx}{pins:gc}{σ:St}{H:Hp}{s:eZ}{a:eX}{y v:V}{u r:fI}{o:Option V}{A:fQ}{E:gm}
theorem Inv.big(I:Inv X pins σ H s):sysModules<s.heap.objs.size:=by
 have h:mainGlobals<s.heap.objs.size:=(I.mod.glob.keeps I.bk).lt;exact Ap (by decide) h
theorem zB{Q:gm}(hu:A.units+1<cLine)(I:Inv X pins σ H s)(g:DGet H a y (some v))(ry:RelV y u)(h: ∀w' s',Inv X pins σ H s'->RelV v w'->Q w' s'):
  wpAny (model X.prog X.w) A (getItem (.ref a) u) Q E s:=by
 rcases g with⟨kvs,k,e,ey,l⟩|⟨kvs,k,b,e,ey,eb,l⟩
 ·subst ey;obtain⟨z,hd,vs,rel,dd⟩:=Nt I.hok e;obtain⟨w',hw,p8⟩:=RelO.some_of (v:=v) (o:=valueAt vs k) (by rw[l];exact rel.val k);exact wpAny_getItem_of (J3 ry) dd.mapOf hw (h w' _ (I.tok _) p8)
 ·subst ey;cases(show u=Value.ref b from ry);obtain⟨z,hd,xs,rel,dd⟩:=Nr I.hok e;obtain⟨w',hw,p8⟩:=RelO.some_of (v:=v) (o:=(atKey xs k).map (·.2)) (by rw[l];exact rel.val k);obtain⟨p,hp,bT⟩:=FN.mp hw;refine wpAny_getItem_heap (tupleKind_room_in1 hu) (D8 I.hok eb) dd hp ?_;rw[bT];exact h w' _ (I.tok _) p8
theorem wt{h':fP}{t':Nat}{ob:HO}(I:Inv X pins σ H s)(mu:Mut (H a))(hs:Heap.SameBut a s.heap h')(he: ∃q,h'.get? a=some q)(new:ObjOk X.prog X.w (upd H a ob) h' a ob):
  Inv X pins σ (upd H a ob) {s with heap:=h',toks:=t'}:=
 I.write (x:=a) (e:=a) mu (.inl rfl) (fun b q hb z=>(hs.2 b hb).trans z) he new
theorem PJ{P:fS}{w:fL}{H':Hp}{h':fP}{kvs:List (Key×V)}{vs:List (Key×Value)}(z:kvs.length<=sizeLine)(hd:(a==sysModules)=false)(rel:KV kvs vs)(dd:h'.DictOf (jr P w) a vs):
  ObjOk P w H' h' a (.dK kvs):=⟨z,hd,vs,rel,dd⟩
theorem vA{H':Hp}{Q:Unit->Shared->Prop}(hu:A.units+1<cLine)(I:Inv X pins σ H s)(g:DPut H a y v H')(ry:RelV y u)(rv:RelV v r)(h: ∀s',Inv X pins σ H' s'->Q () s'):
  wpAny (model X.prog X.w) A (setItem (.ref a) u r) Q E s:=by
 rcases g with⟨kvs,k,e,ey,l,eH⟩|⟨kvs,k,b,e,ey,eb,l,eH⟩
 ·subst ey eH;obtain⟨z,hd,vs,rel,dd⟩:=Nu I.hok e;have hz:vs.length<=sizeLine:=by rw[<-rel.length];exact z
  have hl:(oQ kvs k v).length<=sizeLine:=by have:=vM kvs k v;lia
  refine wpAny_setItem_pairs (hsz:=hz) (J3 ry) dd fun h' dz hs=>h _ ?_;have he: ∃q,h'.get? a=some q:=let⟨q,_,_,hq,_⟩:=dz;⟨q,hq⟩
  exact wt I (by rw[e];exact True.intro) hs he (PJ hl hd (rel.put k rv) dz)
 ·subst ey eH;cases(show u=Value.ref b from ry);obtain⟨z,hd,xs,rel,dd⟩:=RO I.hok e;have hz:xs.length<=sizeLine:=by rw[<-va rel];exact z
  have hl:(oQ kvs k v).length<=sizeLine:=by have:=vM kvs k v;lia
  refine wpAny_setItem_heap (hsz:=hz) (tupleKind_room_in1 hu) (D8 I.hok eb) dd fun h' dz hs=>h _ ?_;obtain⟨q,es,ep,hq,h2,h3,h4,_,h5⟩:=dz;refine wt I (by rw[e];exact True.intro) hs ⟨q,hq⟩ ⟨hl,hd,_,(rel.put k eb rv).keeps fun c ys ec=>?_,q,es,ep,hq,h2,h3,h4,h5⟩;rw[gi (Nk ec e (fun z=>nomatch z))];exact ec
end
theorem Kt{P:fS}{w:fL}{H:Hp}(h:fP)(hb:sysModules<h.objs.size):ObjOk P w H (h.push {cls:= .type "dict",data:= .dict #[]}) h.objs.size (.dK []):=
 ⟨kA _,yC.mpr (kR (gE hb)),[],.nil,Heap.DictOf.new h⟩
def NN:TE:=fun _ H Q=> ∀p,H p=none->Q (.ref p) (upd H p (.dK []))
section
variable {X:Cx}{pos:Pos}
theorem Ju:PE X (.Dict [] [] pos) NN:=fun pins s σ H Q I h=>
 wpAny_Dict_empty ⟨.ref s.heap.objs.size,_,I.laid (a:=s.heap.objs.size) (o:= .dK []) (t':=s.toks) (fun _ _ q=>ik _ q) (gJ _) (Kt s.heap I.big),rfl,h _ (I.hok.fresh (gJ _))⟩
end
end L2
namespace PX
open PySem PySem.Spec PyProof.Rows L2 PySem.SeqAt TS
noncomputable def si:D->Option Key
 | .int i=>some (.inl i)
 | .str x=>some (.inr x)
 |_=>none
noncomputable def J2:List D->Option (List Key)
 |[]=>some []
 |d::l=>(si d).bind fun k=>(J2 l).map (k:: ·)
noncomputable def D9:D->Option (List Key)
 | .tup l=>J2 l
 |_=>none
theorem nM(h:si d=some k):d=iI k:=by
 cases d<;>simp[si] at h<;>subst h<;>rfl
theorem J1: ∀{l:List D} {ks:List Key},J2 l=some ks->l=ks.map iI:=by
 intro iV
 induction iV with
 |nil=>
  intro ks h;cases h;rfl
 |cons d l iH=>
  intro ks h;rw[J2] at h;obtain⟨k,h1,h⟩:=eU h;obtain⟨m,h2,rfl⟩:=gZ h;rw[nM h1,iH h2];rfl
theorem ui(h:D9 d=some ks):d= .tup (ks.map iI):=by
 cases d with
 |tup l=>rw[J1 (show J2 l=some ks from h)]
 |_=>cases h
theorem uv(a b:Key):D.eqb (iI a) (iI b)=decide (a=b):=by
 cases a with
 |inl i=>cases b with
  |inl j=>simp only[iI,D.eqb,JZ]
  |inr y=>simp only[iI,D.eqb,JY]
 |inr x=>cases b with
  |inl j=>simp only[iI,D.eqb,JX]
  |inr y=>simp only[iI,D.eqb,JW];rfl
theorem qz: ∀a b:List Key,D.eqbL (a.map iI) (b.map iI)=decide (a=b)
 |[],[]=>by simp[D.eqbL]
 |[],_::_=>by simp[D.eqbL]
 |_::_,[]=>by simp[D.eqbL]
 |x::a,y::b=>by
  simp only[gP];rw[D.eqbL,uv,qz a b];simp only[List.cons.injEq,Bool.decide_and]
def kT:List D->List D->D->Option D
 |k'::ks,v::vs,k=>if D.eqb k' k=true then some v else kT ks vs k
 |_,_,_=>none
def pT:List D->List D->D->D->List D
 |k'::ks,v::vs,k,w=>(if D.eqb k' k=true then w else v)::pT ks vs k w
 |_,vs,_,_=>vs
def qH(ks vs:List D)(k w:D):List D×List D:=if ks.any (D.eqb · k)=true then(ks,pT ks vs k w) else(ks++[k],vs++[w])
noncomputable def vN(ks:List D)(k:D):Bool:=((si k).isSome&&ks.all fun x=>(si x).isSome)||((D9 k).isSome&&ks.all fun x=>(D9 x).isSome)
section
variable {K:fO}{H:Hp}{O:AP'}
theorem BQ(h:Rep K H O (iI k) v):v=kV k:=by
 cases k with
 |inl i=>exact Rep.int h
 |inr x=>exact Rep.str h
theorem F8: ∀{ks:List Key} {vs:List V},RepL K H O (ks.map iI) vs->vs=ks.map kV:=by
 intro iV
 induction iV with
 |nil=>
  intro vs h;rw[mG,RepL] at h;exact h
 |cons k ks iH=>
  intro vs h;rw[gP,RepL] at h;obtain⟨v,r,rfl,h1,h2⟩:=h;rw[BQ h1,iH h2];rfl
theorem vd(hk:si d=some k)(h:ip K H O d v):v=kV k:=by
 rw[nM hk] at h;rcases h with h|⟨a,rfl,h⟩
 ·exact BQ h
 ·cases k<;>exact h.elim
theorem vc(hk:D9 d=some ks)(h:ip K H O d v): ∃b,v= .ref b/\H b=some (.tup (ks.map kV)):=by
 rw[ui hk] at h;rcases h with h|⟨a,rfl,h⟩
 ·obtain⟨b,xs,rfl,q,r⟩:=h.tup;rw[F8 r] at q;exact⟨b,rfl,q.1⟩
 ·exact h.elim
theorem JQ{k:Key}: ∀{kvs:List (Key×V)} {vs:List D},RepL K H O vs (kvs.map (·.2))->(∀d,kT (kvs.map fun p=>iI p.1) vs (iI k)=some d-> ∃v,qF kvs k=some v/\Rep K H O d v)/\(kT (kvs.map fun p=>iI p.1) vs (iI k)=none->qF kvs k=none)
 |[],vs,_=>⟨fun d h=>by cases vs<;>simp[kT] at h,fun _=>rfl⟩
 |(k',v)::kvs,[],h=>by rw[gP,RepL] at h;cases h
 |(k',v)::kvs,d'::vs,h=>by
  rw[gP,RepL] at h;obtain⟨w,r,e,h1,h2⟩:=h;obtain⟨rfl,rfl⟩:=pe e;obtain⟨i1,i2⟩:=JQ (k:=k) h2;simp only[gP,kT,uv];by_cases hk:k'=k
  ·simp only[hk,decide_true,iu];exact⟨fun d h=>by cases h;exact⟨v,pG (p:=(k,v)) rfl,h1⟩,fun h=>by cases h⟩
  ·simp only[hk,decide_false,gv,gO];refine⟨fun d h=>?_,fun h=>?_⟩
   ·obtain⟨u,h3,h4⟩:=i1 d h;exact⟨u,by rw[lW (p:=(k',v)) hk];exact h3,h4⟩
   ·rw[lW (p:=(k',v)) hk];exact i2 h
theorem JP{k:List Key}: ∀{kvs:List (List Key×V)} {vs:List D},RepL K H O vs (kvs.map (·.2))->(∀d,kT (kvs.map fun p=> .tup (p.1.map iI)) vs (.tup (k.map iI))=some d-> ∃v,qF kvs k=some v/\Rep K H O d v)/\(kT (kvs.map fun p=> .tup (p.1.map iI)) vs (.tup (k.map iI))=none->qF kvs k=none)
 |[],vs,_=>⟨fun d h=>by cases vs<;>simp[kT] at h,fun _=>rfl⟩
 |(k',v)::kvs,[],h=>by rw[gP,RepL] at h;cases h
 |(k',v)::kvs,d'::vs,h=>by
  rw[gP,RepL] at h;obtain⟨w,r,e,h1,h2⟩:=h;obtain⟨rfl,rfl⟩:=pe e;obtain⟨i1,i2⟩:=JP (k:=k) h2;simp only[gP,kT,D.eqb,qz];by_cases hk:k'=k
  ·simp only[hk,decide_true,iu];exact⟨fun d h=>by cases h;exact⟨v,pG (p:=(k,v)) rfl,h1⟩,fun h=>by cases h⟩
  ·simp only[hk,decide_false,gv,gO];refine⟨fun d h=>?_,fun h=>?_⟩
   ·obtain⟨u,h3,h4⟩:=i1 d h;exact⟨u,by rw[lW (p:=(k',v)) hk];exact h3,h4⟩
   ·rw[lW (p:=(k',v)) hk];exact i2 h
end
section
variable {P:fS}{w:fL}{H H':Hp}{h:fP}{a:eX}
theorem RP(x:ObjOk P w H h a (.dT [])):ObjOk P w H' h a (.dK []):=by
 obtain⟨z,y,xs,r,o,es,ep,h1,h2,h3,h4,h5⟩:=x;cases r
 have:es= #[]:=by
  have:es.toList=[]:=by simpa using h4
  exact Qc.mp this
 subst this;refine⟨z,y,[],.nil,o,#[],ep,h1,h2,h3,?_,?_,kz⟩
 ·first|exact fun e he=>by simp at he|(intro;simp)
 ·first|exact .nil|trivial|simp[Pairs]
theorem RQ(x:ObjOk P w H h a (.dK [])):ObjOk P w H' h a (.dT []):=by
 obtain⟨z,y,vs,r,o,es,ep,h1,h2,h3,h4,h5,h6⟩:=x;cases r
 have:es= #[]:=by
  have hl:es.toList.length=0:=by
   first
    |simpa using h5.length
    |simpa using(va h5)
    |(
      cases he:es.toList with
      |nil=>rfl
      |cons e l=>rw[he] at h5;cases h5)
  exact Qc.mp (La.mp hl)
 subst this;exact⟨z,y,[],.nil,o,#[],ep,h1,h2,h3,rfl,kz⟩
end
section
variable {X:Cx}{pins:gc}{σ:L2.St}{H:Hp}{s:eZ}
theorem uj(h:vN ks k=true):(∃κ,si k=some κ/\ ∀x∈ks,∃c,si x=some c)\/(∃τ,D9 k=some τ/\ ∀x∈ks,∃c,D9 x=some c):=by
 unfold vN at h;rw[uN,kB,kB,my,my] at h;rcases h with⟨h1,h2⟩|⟨h1,h2⟩
 ·exact .inl ⟨_,(G7.mp h1).choose_spec,fun x hx=>G7.mp (h2 x hx)⟩
 ·exact .inr ⟨_,(G7.mp h1).choose_spec,fun x hx=>G7.mp (h2 x hx)⟩
theorem EG{ks:List Key}{c:Key}(h:si (.tup (ks.map iI))=some c):False:=by cases h
theorem Ck(h:D9 (iI k)=some c):False:=by cases k<;>cases h
theorem PK(hu:A.units+1<cLine)(I:Inv X pins σ H s)(q:OthB X.K (H a) .dct ks vs us)(r:RepL X.K H O vs us)(hk:vN ks k=true)(hl:kT ks vs k=some d)(vk:ip X.K H O k y)(ry:RelV y u) 
  (h: ∀v w s',Inv X pins σ H s'->Rep X.K H O d v->RelV v w->Q w s'):wpAny (model X.prog X.w) A (getItem (.ref a) u) Q E s:=by
 have nil: ∀vs:List D,kT [] vs k=none:=fun vs=>by cases vs<;>rfl
 rcases q with⟨kvs,e,rfl,rfl⟩|⟨kvs,e,rfl,rfl⟩
 ·rcases uj hk with⟨κ,h1,_⟩|⟨τ,h1,h2⟩
  ·have:=vd h1 vk;subst this;have ah:=nM h1;subst ah;obtain⟨v,h3,h4⟩:=(JQ (k:=κ) r).1 d hl;refine zB hu I (v:=v) (y:=kV κ) ?_ ry fun w s' I' p8=>h v w s' I' h4 p8;rw[<-h3];exact DGet.k e
  ·cases kvs with
   |nil=>rw[mG,nil] at hl;cases hl
   |cons p kvs=>obtain⟨c,hc⟩:=h2 (iI p.1) (by simp);exact(Ck hc).elim
 ·rcases uj hk with⟨κ,h1,h2⟩|⟨τ,h1,_⟩
  ·cases kvs with
   |nil=>rw[mG,nil] at hl;cases hl
   |cons p kvs=>obtain⟨c,hc⟩:=h2 (.tup (p.1.map iI)) (by simp);exact(EG hc).elim
  ·obtain⟨b,rfl,eb⟩:=vc h1 vk;have ah:=ui h1;subst ah;obtain⟨v,h3,h4⟩:=(JP (k:=τ) r).1 d hl;refine zB hu I (v:=v) (y:= .ref b) ?_ ry fun w s' I' p8=>h v w s' I' h4 p8;rw[<-h3];exact DGet.t e eb
end
def Cp(d k:D):Option (D×Bool):=match d with
 | .oth .dct ks vs=>if vN ks k=true then(kT ks vs k).map fun v=>(v,false) else none
 |_=>gIx d k
section
variable {X:Cx}
theorem Rv(hu:X.A.units+1<cLine):IxR X (rD X.K Cp):=by
 intro value slice pins s σ H x y v u Q I rx ry h hs;obtain⟨O,d,e,z,np,h1,h2,hg,G⟩:=h;by_cases hd: ∃ks vs,d= .oth .dct ks vs
 ·obtain⟨ks,vs,rfl⟩:=hd;have o8:(if vN ks e=true then(kT ks vs e).map fun v=>(v,false) else none)=some z:=hg;split at o8
  case isFalse=>cases o8
  rename_i hk;obtain⟨w,hw,rfl⟩:=gZ o8;obtain⟨a,us,rfl,q,r⟩:=pF h1;cases rx;have hT:s.TypeIs (.ref a) "dict":=xq I q;unfold subscriptTail;refine eY ?_;rw[getitemInPython_of_ne hT.not_modules];refine eY (oZ hT PySem.F.slot_dict_getitem.lookup ?_)
  have fin:wpAny (model X.prog X.w) X.A (subscripted slice false (.ref a) u) (fun r s₃=>wpAny (model X.prog X.w) X.A (letTemporaryGo value (.ref a) r>>=fun _=>pure r) (EP X pins σ Q) X.xe s₃) X.xe s:=by
   rw[hs];exact wpAny_operating (PK hu I q r hk hw h2 ry fun v' w' s' I' hr rv=>eY (wpAny_letTemporaryGo (fH ⟨v',H,I',rv,G v' H (fun _ _ e=>e) hr⟩)))
  first
   |exact fH (eY fin)
   |exact eY (fH (eY fin))
   |exact eY fin
 ·have:Cp d e=gIx d e:=by
   unfold Cp;split
   ·exact absurd ⟨_,_,rfl⟩ hd
   ·rfl
  rw[this] at hg;exact Nm value slice pins s σ H x y v u Q I rx ry ⟨O,d,e,z,np,h1,h2,hg,G⟩ hs
theorem Ot(hu:X.A.units+1<cLine)(ha:PO X a fa)(hb:PO X b fb)(hs:uG b):PX X (.Subscript a b pos) (fD Cp fa fb):=px2 (Nj (Rv hu) ha hb hs)
noncomputable def Kq:F:=fun δ=>some ((.oth .dct [] [],true),δ)
theorem LL{pos:Pos}:PX X (.Dict [] [] pos) Kq:=PX.imp Ju fun σ H Q hw=>by
 obtain⟨δ,T,rr,δ',E,e,k⟩:=hw;cases e;intro p hp;have B:=Ops.nil E;exact(B.done k) p _ hp (iW hp) ⟨[],.inl ⟨[],fX,rfl,rfl⟩,RepL.nil⟩
end
section
variable {K:fO}{T:AP'}{σ:L2.St}{δ:Dn}{H:Hp}{i:Nat}{d0 d':D}{a:eX}{o:HO}
theorem OwnI.writeG{j:Nat}{b:eX}(hd:δ[i]?=some (some (d0,true)))(h:OwnI σ (δ.set i (some (d',true))) j b):OwnI σ δ j b:=by
 obtain⟨e,h1,h2⟩:=h;rcases jz h1 with⟨rfl,_,_⟩|⟨_,q⟩
 ·exact⟨_,hd,h2⟩
 ·exact⟨e,q,h2⟩
theorem ER.writeG(E:ER K H T σ δ)(hd:δ[i]?=some (some (d0,true)))(hs:σ[i]?=some (some (.ref a)))(r:OwnOk K (upd H a o) (fun b=>OwnA σ δ b\/T b) d' a):
  ER K (upd H a o) T σ (δ.set i (some (d',true)))/\Keep σ δ H (δ.set i (some (d',true))) (upd H a o):=by
 have hi:i<δ.length:=(sN.mp hd).1;have oa:OwnA σ δ a:=⟨i,_,hd,hs⟩
 have u5: ∀b,OwnA σ (δ.set i (some (d',true))) b->OwnA σ δ b:=fun b ⟨j,e,h1,h2⟩=>by
  obtain⟨e',q1,q2⟩:=OwnI.writeG hd ⟨e,h1,h2⟩;exact⟨j,e',q1,q2⟩
 have kp: ∀b u,H b=some u-> ¬(OwnA σ δ b\/T b)->upd H a o b=some u:=fun b u e n=>by rw[gi (by intro z;subst z;exact n (.inl oa))];exact e
 have dm: ∀b,H b≠none->upd H a o b≠none:=fun b z=>by
  by_cases hb:b=a
  ·subst hb;rw[fX];simp
  ·rw[gi hb];exact z
 have sub: ∀b,(OwnA σ (δ.set i (some (d',true))) b\/T b)->OwnA σ δ b\/T b:=fun b z=>z.imp (u5 b) id;refine⟨⟨by rw[qP];exact E.len,fun j e hj=>?_,fun j e hj=>?_,fun j k e f b hj hk h1 h2=>?_,fun b z=>E.nT b (u5 b z),fun b z=>by have ne:b≠a:=fun e=>E.nT a oa (e▸z);rw[gi ne];exact E.dom b z⟩,⟨fun b u e n=>by rw[gi (by intro z;subst z;exact n oa)];exact e,fun j b z=>OwnI.writeG hd z,dm⟩⟩
 ·rcases jz hj with⟨_,_,q⟩|⟨_,q⟩
  ·cases q
  ·obtain⟨w,w1,w2⟩:=E.val j e q;exact⟨w,w1,Rep.mono kp (fun b _ z=>sub b z) w2⟩
 ·rcases jz hj with⟨rfl,_,q⟩|⟨ne,q⟩
  ·cases q;exact⟨a,hs,r.mono (fun _ _ e _=>e) (fun b _ z=>sub b z) fun _ e=>e⟩
  ·obtain⟨b,w1,w2⟩:=E.own j e q;refine⟨b,w1,w2.mono kp (fun b _ z=>sub b z) fun u eo=>?_⟩;rw[gi]
   ·exact eo
   ·intro z;subst z;exact ne (E.inj i j _ _ _ hd q hs w1)
 ·obtain⟨e1,q1,q2⟩:=OwnI.writeG hd ⟨e,hj,h1⟩;obtain⟨e2,q3,q4⟩:=OwnI.writeG hd ⟨f,hk,h2⟩;exact E.inj j k e1 e2 b q1 q3 q2 q4
end
section
variable {X:Cx}{pins:gc}{σ:L2.St}{H:Hp}{s:eZ}{a:eX}
theorem N4(I:Inv X pins σ H s)(e:H a=some (.dT [])):Inv X pins σ (upd H a (.dK [])) s:=by
 have:=wt (t':=s.toks) (h':=s.heap) I (by rw[e];exact True.intro) (Ao a s.heap) (by obtain⟨z,y,xs,r,o,es,ep,h1,_⟩:=(show ObjOk X.prog X.w H s.heap a (.dT []) from I.hok a _ e);exact⟨o,h1⟩) (RP (H':=upd H a (.dK [])) (I.hok a _ e));exact this
theorem N3(I:Inv X pins σ H s)(e:H a=some (.dK [])):Inv X pins σ (upd H a (.dT [])) s:=by
 have:=wt (t':=s.toks) (h':=s.heap) I (by rw[e];exact True.intro) (Ao a s.heap) (by obtain⟨z,y,xs,r,o,es,ep,h1,_⟩:=(show ObjOk X.prog X.w H s.heap a (.dK []) from I.hok a _ e);exact⟨o,h1⟩) (RQ (H':=upd H a (.dT [])) (I.hok a _ e));exact this
def Q0:M4:=fun o i v H Q=> ∃a,o= .ref a/\((∃H',DPut H a i v H'/\Q H')\/(∃κ,H a=some (.dT [])/\i=kV κ/\Q (upd H a (.dK [(κ,v)])))\/
 (∃τ b,H a=some (.dK [])/\i= .ref b/\H b=some (.tup (τ.map kV))/\Q (upd H a (.dT [(τ,v)]))))
theorem Ir(hu:X.A.units+1<cLine):P4 X Q0:=by
 intro pins s σ H o i v ov iv u Q I ro ri rv h;obtain⟨a,rfl,h⟩:=h;cases ro;rcases h with⟨H',g,q⟩|⟨κ,e,rfl,q⟩|⟨τ,b,e,rfl,eb,q⟩
 ·exact vA hu I g ri rv fun s' I'=>⟨H',I',q⟩
 ·refine vA hu (N4 I e) (DPut.k (k:=κ) (v:=v) fX (by rw[gA];decide)) ri rv fun s' I'=>⟨_,I',?_⟩
  rw[EF];exact q
 ·have hb:b≠a:=Nk eb e (fun z=>nomatch z);refine vA hu (N3 I e) (DPut.t (k:=τ) (v:=v) (b:=b) fX (by rw[gi hb];exact eb) (by rw[gA];decide)) ri rv fun s' I'=>⟨_,I',?_⟩
  rw[EF];exact q
end
section
variable {K:fO}{H:Hp}{O:AP'}
theorem IC{k:Key}{w:D}{v:V}(hw:Rep K H O w v): ∀{kvs:List (Key×V)} {vs:List D},RepL K H O vs (kvs.map (·.2))->RepL K H O (pT (kvs.map fun p=>iI p.1) vs (iI k) w) ((kvs.map fun kv=>if kv.1=k then(kv.1,v) else kv).map (·.2))
 |[],vs,h=>by cases vs<;>simpa[pT] using h
 |(k',u)::kvs,[],h=>by rw[gP,RepL] at h;cases h
 |(k',u)::kvs,d'::vs,h=>by
  rw[gP,RepL] at h;obtain⟨x,r,e,h1,h2⟩:=h;obtain⟨rfl,rfl⟩:=pe e;simp only[gP,pT,uv];refine RepL.cons ?_ (IC hw h2);by_cases hk:k'=k
  ·simp only[hk,decide_true,iu];exact hw
  ·simp only[hk,decide_false,gv,gO];exact h1
theorem IB{k:List Key}{w:D}{v:V}(hw:Rep K H O w v): ∀{kvs:List (List Key×V)} {vs:List D},RepL K H O vs (kvs.map (·.2))->RepL K H O (pT (kvs.map fun p=> .tup (p.1.map iI)) vs (.tup (k.map iI)) w) ((kvs.map fun kv=>if kv.1=k then(kv.1,v) else kv).map (·.2))
 |[],vs,h=>by cases vs<;>simpa[pT] using h
 |(k',u)::kvs,[],h=>by rw[gP,RepL] at h;cases h
 |(k',u)::kvs,d'::vs,h=>by
  rw[gP,RepL] at h;obtain⟨x,r,e,h1,h2⟩:=h;obtain⟨rfl,rfl⟩:=pe e;simp only[gP,pT,D.eqb,qz];refine RepL.cons ?_ (IB hw h2);by_cases hk:k'=k
  ·simp only[hk,decide_true,iu];exact hw
  ·simp only[hk,decide_false,gv,gO];exact h1
theorem Nh(hw:Rep K H O w v)(h:RepL K H O vs (kvs.map (·.2))):
  (qH (kvs.map fun p=>iI p.1) vs (iI k) w).1=(oQ kvs k v).map (fun p=>iI p.1)/\RepL K H O (qH (kvs.map fun p=>iI p.1) vs (iI k) w).2 ((oQ kvs k v).map (·.2)):=by
 have ha:(kvs.map fun p=>iI p.1).any (D.eqb · (iI k))=kvs.any fun kv=>decide (kv.1=k):=by
  rw[An];congr 1;funext p;exact uv _ _
 unfold qH oQ;rw[ha];split
 ·refine⟨?_,IC hw h⟩;rw[ja];apply mC;intro p _;simp only[Function.comp];split<;>rfl
 ·exact⟨by simp,by rw[qK];exact h.append (RepL.one hw)⟩
theorem Ng{k:List Key}{w:D}{v:V}(hw:Rep K H O w v){kvs:List (List Key×V)}{vs:List D}(h:RepL K H O vs (kvs.map (·.2))):
  (qH (kvs.map fun p=> .tup (p.1.map iI)) vs (.tup (k.map iI)) w).1=(oQ kvs k v).map (fun p=> .tup (p.1.map iI))/\RepL K H O (qH (kvs.map fun p=> .tup (p.1.map iI)) vs (.tup (k.map iI)) w).2 ((oQ kvs k v).map (·.2)):=by
 have ha:(kvs.map fun p=>D.tup (p.1.map iI)).any (D.eqb · (.tup (k.map iI)))=kvs.any fun kv=>decide (kv.1=k):=by
  rw[An];congr 1;funext p;simp only[Function.comp,D.eqb,qz]
 unfold qH oQ;rw[ha];split
 ·refine⟨?_,IB hw h⟩;rw[ja];apply mC;intro p _;simp only[Function.comp];split<;>rfl
 ·exact⟨by simp,by rw[qK];exact h.append (RepL.one hw)⟩
end
def BO(i:Nat)(f:F)(g:FO):FS:=fun δ=>(f δ).bind fun p=>match p.2[i]? with
 |some (some _)=>(g p.2).bind fun q=>match res q.2 q.1,q.2[i]? with
  |some k,some (some (.oth .dct ks vs,true))=>if vN ks k=true/\ks.length<10000 then some (.nx (q.2.set i (some (.oth .dct (qH ks vs k p.1.1).1 (qH ks vs k p.1.1).2,true)))) else none
  |_,_=>none
 |_=>none
section
variable {X:Cx}{e ix:fw}{f:F}{fo:FO}{pos b8 apos d8:Pos}{i:Nat}{x:Str}{A L:gR}{H0:Hp}
theorem IW{f7:Pos}(hu:X.A.units+1<cLine)(hv:PO X (.Name x b8) (eV i))(he:PX X e f)(hi:PO X ix fo)
  (ha: ∀v,assign (.Subscript (.Name x b8) ix f7) X.env v=(do
   let ov <-holding [v] (eval (.Name x b8) X.env)
   let iv <-holding [v,ov] (eval ix X.env)
   standAt f7
   holding [v,ov,iv] (setItem ov iv v)
   release [v,ov,iv] []))
  (hs:swapsWithSole [.Subscript (.Name x b8) ix f7] e pos.line X.env=pure false)(hw:swappedStores [.Subscript (.Name x b8) ix f7] e X.env=pure none)
  (h1:(assignEach [.Subscript (.Name x b8) ix f7] X.env).map (·.2)=[assign (.Subscript (.Name x b8) ix f7) X.env]):
  PSX X A L H0 (.Assign [.Subscript (.Name x b8) ix f7] e pos) (BO i f fo):=PS.imp' (DR he (Jo hv hi (Ir hu) ha) hs hw h1) fun D σ H hw=>by
 obtain⟨δ,T,out,E,fi,e,k⟩:=hw;obtain⟨⟨r,δ1⟩,h1,e⟩:=eU e;dsimp only at e;split at e
 case h_2=>cases e
 rename_i y0 h0;obtain⟨⟨o,δ2⟩,h2,e⟩:=eU e;dsimp only at e;split at e
 ·rename_i kk ks vs hk h3;obtain⟨⟨hok,hlen⟩,e⟩:=fU e;cases e;refine⟨δ,T,r,δ1,E,h1,fun v H1 P1=>⟨δ1,Tmp T r v,.slot i,δ1,P1.er E,by unfold eV;rw[h0],fun v2 H2 P2=>⟨δ1,Tmp T r v,o,δ2,P2.er (P1.er E),h2,fun v3 H3 P3=>?_⟩⟩⟩;have eP:PostO X.K T σ δ H (.val r) δ1 v H1:=P1;have B:=Ops.cons E eP (Ops.cons (P1.er E) P2 (Ops.cons (P2.er (P1.er E)) P3 (Ops.nil (P3.er (P2.er (P1.er E))))));have E3:ER X.K H3 T σ δ2:=B.er.mono (fun _ _ e _=>e) (fun b _ z=>B.tt b z) (fun a z=>B.er.dom a (B.tt a z));have hσ:σ[i]?=some (some v2):=P2.2.2;obtain⟨a,q1,us,q2,q3⟩:=E3.own i _ h3;rw[hσ] at q1;cases q1;have vk:=B.view (j:=2) rfl rfl hk;have rv:=B.rep E (j:=0) (r:=r) rfl rfl;have oa:OwnA σ δ2 a:=⟨i,_,h3,hσ⟩
  have kp: ∀(ho:HO) b u,H3 b=some u-> ¬(OwnA σ δ2 b\/T b)->upd H3 a ho b=some u:=fun ho b u e n=>by rw[gi (by intro z;subst z;exact n (.inl oa))];exact e
  have ks10:10000<sizeLine:=by rw[gA];decide
  have fin: ∀ho cS,OthB X.K (some ho) .dct (qH ks vs kk r.1).1 (qH ks vs kk r.1).2 cS->RepL X.K H3 (fun a=>OwnA σ δ2 a\/T a) (qH ks vs kk r.1).2 cS->D.nx σ (upd H3 a ho):=fun ho cS g1 g2=>by
   obtain⟨E4,K4⟩:=E3.writeG (o:=ho) (d':= .oth .dct (qH ks vs kk r.1).1 (qH ks vs kk r.1).2) h3 hσ ⟨cS,by rw[fX];exact g1,RepL.mono (kp ho) (fun _ _ z=>z) g2⟩;exact k _ _ (B.keep.trans K4).sk E4
  refine⟨a,rfl,?_⟩;rcases q2 with⟨kvs,eH,rfl,rfl⟩|⟨kvs,eH,rfl,rfl⟩
  ·rw[gW] at hlen;rcases uj hok with⟨κ,g1,_⟩|⟨τ,g1,g2⟩
   ·have hy:=vd g1 vk;have ah:=nM g1;subst ah;obtain⟨p1,p2⟩:=Nh (k:=κ) rv q3;refine .inl ⟨_,by rw[hy];exact DPut.k eH (by lia),fin _ _ (.inl ⟨_,rfl,p1,rfl⟩) p2⟩
   ·have ee:kvs=[]:=by
     cases kvs with
     |nil=>rfl
     |cons p kvs=>obtain⟨c,hc⟩:=g2 (iI p.1) (by simp);exact(Ck hc).elim
    subst ee;obtain⟨b,hy,eb⟩:=vc g1 vk;have ah:=ui g1;subst ah;obtain⟨p1,p2⟩:=Ng (k:=τ) (kvs:=[]) rv q3;exact .inr (.inr ⟨τ,b,eH,hy,eb,fin _ _ (.inr ⟨[(τ,v)],rfl,p1,rfl⟩) p2⟩)
  ·rw[gW] at hlen;rcases uj hok with⟨κ,g1,g2⟩|⟨τ,g1,_⟩
   ·have ee:kvs=[]:=by
     cases kvs with
     |nil=>rfl
     |cons p kvs=>obtain⟨c,hc⟩:=g2 (.tup (p.1.map iI)) (by simp);exact(EG hc).elim
    subst ee;have hy:=vd g1 vk;have ah:=nM g1;subst ah;obtain⟨p1,p2⟩:=Nh (k:=κ) (kvs:=[]) rv q3;exact .inr (.inl ⟨κ,eH,hy,fin _ _ (.inl ⟨[(κ,v)],rfl,p1,rfl⟩) p2⟩)
   ·obtain⟨b,hy,eb⟩:=vc g1 vk;have ah:=ui g1;subst ah;obtain⟨p1,p2⟩:=Ng (k:=τ) rv q3;refine .inl ⟨_,by rw[hy];exact DPut.t eH eb (by lia),fin _ _ (.inr ⟨_,rfl,p1,rfl⟩) p2⟩
 ·cases e
end
end PX
namespace TT
open PySem PyProof.Rows PySem.SeqAt
structure DRaw(h:fP)(d:eX)(es:Array DictEntry)(ep:Nat):Prop where
 at_: ∃o,h.get? d=some o/\o.ExactDict/\o.data= .dict es ep
theorem DRaw.stay{d es ep}(x:DRaw h d es ep)(k: ∀o,h.get? d=some o->h'.get? d=some o):DRaw h' d es ep:=let⟨o,h1,r⟩:=x.at_;⟨o,k _ h1,r⟩
section
variable {prog:fS}{w:fL}{A:fQ}{E:gm}{s:eZ}
theorem DRaw.typeIs{d es ep}(x:DRaw s.heap d es ep):s.TypeIs (.ref d) "dict":=let⟨o,h1,r,_⟩:=x.at_;⟨o,h1,r.1⟩
theorem GF(hd:(d==sysModules)=false)(hm:DRaw s.heap d es ep)
  (hQ:Q (.ref s.heap.objs.size) {s with heap:=s.heap.push {cls:= .type "dict_keyiterator",data:= .fields #[.ref d,.int 0 0,.int es.size 0,.int ep 0]}}):wpAny (model prog w) A (pyIter (.ref d)) Q E s:=by
 have hT:=hm.typeIs;obtain⟨o,ho,hc,hdat⟩:=hm.at_;refine CZ hT Hg (nA Hg hT PySem.F.entry_dict_iter ?_ (PySem.F.args_dict_iter_1 _));unfold Builtin.«dict.__iter__»;refine eY ?_;unfold Builtin.Dict.dictSlotNone;refine eY (wpAny_notOrdered_dict hT ?_);change wpAny _ _ (pure (Value.ref d)) _ _ s;refine fH ?_;change wpAny _ _ (Builtin.Dict.showsAll d>>=_) _ _ s;unfold Builtin.Dict.showsAll;rw[fR (by rw[hd];exact je)];refine eY (fH ?_);refine eY (CV ho hdat ?_);refine eY (CU ho hdat ?_);refine eY (kQ (fH ⟨_,rfl,"dict_keyiterator",_,⟨_,iK _ rfl,rfl⟩,za.lookup,?_⟩));simpa[rawInt] using hQ
theorem xK{it d:eX}{i ep:Nat}{es:Array DictEntry}{e:DictEntry}{Q:G5}(hit:s.heap.IsKeyIter it d i es.size ep)(hm:DRaw s.heap d es ep)(hx:es[i]?=some e)
  (hQ: ∀h',h'.IsKeyIter it d (i+1) es.size ep->Heap.SameBut it s.heap h'->Q (some e.key) {s with heap:=h'}):wpAny (model prog w) A (pyNext (.ref it)) Q E s:=by
 obtain⟨o,ho,hc,hd⟩:=id hit;obtain⟨od,cC,q9,aM⟩:=hm.at_;unfold pyNext;refine eY (uS (vF (name:=Str.ofString "__next__") hit.typeIs za (nA za hit.typeIs Hf ?_ (He _))));refine eY (fH ?_);refine eY ?_;refine eY ?_;refine eY (zQ hit.typeIs (fH ?_));refine eY (wpAny_fieldsOf ho hd ?_);have bu:Builtin.Dict_items.ownsTuple "dict_keyiterator"=false:=by decide
 simp only[bu,gv,gO];change wpAny _ _ (if(Value.ref d==Value.none)=true then _ else _) _ _ s;rw[fR (show ¬((Value.ref d==Value.none)=true) from je)];refine eY (fH ?_);refine eY (CV cC aM ?_);rw[fR (by simp)];refine eY (fH ?_);refine eY (CU cC aM ?_);rw[fR (by simp)];refine fH ?_;simp only[show ¬((i:Int)<0) from by lia,gO,oX,hx];refine eY ?_;refine eY (zQ hit.typeIs (fH ?_));refine eY (Hd hit.typeIs ?_);change wpAny _ _ (setField (.ref it) 1 (rawInt ((i:Int)+1))>>=_) _ _ s;refine eY (rJ ho hd (by simp) ?_)
 have u9:(s.heap.update it (Obj.mapFields (·.setIfInBounds 1 (rawInt ((i:Int)+1))))).IsKeyIter it d (i+1) es.size ep:=
  ⟨_,qQ _ ho (Ak (qN hd _)),(Aj ..).trans hc,by rw[qN hd];simp[rawInt]⟩
 refine eY (ku ?_);refine eY (Hd (s:={s with heap:=s.heap.update it (Obj.mapFields (·.setIfInBounds 1 (rawInt ((i:Int)+1))))}) u9.typeIs ?_);change wpAny _ _ (pure e.key) _ _ _;exact fH (fH ⟨_,rfl,fH (hQ _ u9 (sY ..))⟩)
theorem yP(hh:A.handled=none)(hit:s.heap.IsKeyIter it d es.size es.size ep)(hm:DRaw s.heap d es ep)
  (hQ: ∀h',Heap.ExtBut it s.heap h'->Q none {s with heap:=h'}):wpAny (model prog w) A (pyNext (.ref it)) Q E s:=by
 obtain⟨o,ho,hc,hd⟩:=id hit;obtain⟨od,cC,q9,aM⟩:=hm.at_;unfold pyNext;refine eY (uS (vF (name:=Str.ofString "__next__") hit.typeIs za (nA za hit.typeIs Hf ?_ (He _))));refine eY (fH ?_);refine eY ?_;refine eY ?_;refine eY (zQ hit.typeIs (fH ?_));refine eY (wpAny_fieldsOf ho hd ?_);have bu:Builtin.Dict_items.ownsTuple "dict_keyiterator"=false:=by decide
 simp only[bu,gv,gO];change wpAny _ _ (if(Value.ref d==Value.none)=true then _ else _) _ _ s;rw[fR (show ¬((Value.ref d==Value.none)=true) from je)];refine eY (fH ?_);refine eY (CV cC aM ?_);rw[fR (by simp)];refine eY (fH ?_);refine eY (CU cC aM ?_);rw[fR (by simp)];refine fH ?_;simp only[show ¬((es.size:Int)<0) from by lia,gO,oX,Aa (gJ es.size)];refine eY ?_;refine eY (zQ hit.typeIs (fH ?_));change wpAny _ _ (setField (.ref it) 0 .none>>=_) _ _ s;refine eY (rJ ho hd (by simp) ?_);change wpAny _ _ (newExc (.type "StopIteration") []>>=_) _ _ _;refine eY ?_;simp -iota only[newExc,newTuple];refine eY (kQ ?_ (by size_fits));refine eY (m:=firstArgMember _ _) (oV (a:=Value.none) (by first|rfl|(simp -iota only[firstArgMember];rfl)) ?_);refine kQ ?_ (by size_fits);simp -iota only[raiseNew];refine eY (Dg ?_);rw[show A.in1.handled=none from hh];refine eY (fH (Df ?_));refine eY (uR (T:="StopIteration") (b:=true) ⟨_,iK _ rfl,rfl⟩ De ?_);exact fH (hQ _ (((sY ..).extBut.push _).push _))
theorem Em(hh:A.handled=none)(I d:eX)(j7:I≠d)(es:Array DictEntry)(ep:Nat):Walks prog w A I [I,d] [I] es.size (fun i v=> ∃e,es[i]?=some e/\v=e.key) (fun i h=>h.IsKeyIter I d i es.size ep/\DRaw h d es ep) where
 sub:=fun b hb=>by simp at hb;simp[hb]
 frame:=fun _ _ _ st hk=>⟨st.1.at fun o e=>hk I (by simp) o e,st.2.stay fun o e=>hk d (by simp) o e⟩
 item:=fun i s Q E hi st hQ=>by
  have hg:es[i]?=some es[i]:=mD hi;refine xK st.1 st.2 hg fun h' u9 w6=>?_;exact hQ _ h' s.toks ⟨_,hg,rfl⟩ ⟨u9,st.2.stay fun o e=>w6.extBut d o (fun h=>j7 h.symm) e⟩ fun b o hb e=>w6.extBut b o (fun h=>hb (by simp[h])) e
 done:=fun s Q E st hQ=>yP hh st.1 st.2 fun h' aD=>hQ h' s.toks fun b o hb e=>aD b o (fun h=>hb (by simp[h])) e
 self:=fun _ _ _ _ st hQ=>wpAny_pyIter_keyiter st.1 hQ
theorem K7(hd:(a==sysModules)=false)(hh:A.handled=none)(S:DRaw s.heap a es n)(hn:es.size<=sizeLine) 
  (hQ: ∀h' tk,(∀b o,s.heap.get? b=some o->h'.get? b=some o)->Q (es.toList.map (·.key)) {s with heap:=h',toks:=tk}):wpAny (model prog w) A (collect (.ref a)) Q E s:=by
 have cF:a<s.heap.objs.size:=let⟨_,h1,_⟩:=S.at_;ie h1;have t6:a≠s.heap.objs.size:=gE cF;have bA:a≠s.heap.objs.size+1:=gE (pA cF);have cA:s.heap.objs.size≠s.heap.objs.size+1:=gE (tj _);unfold collect;refine eY (Al (oW Ho ?_));rw[qO Hn _];show wpAny _ A.in1 (newList []>>=fun l=>again (.builtin "list.__iadd__" ⟨[l,.ref a],[]⟩)) _ _ s;refine eY (kQ ?_);refine fH ⟨pk zU _,oW Hm ?_⟩;rw[qO zU _];show wpAny _ A.in1 (Builtin.List.listExtendWith (.ref s.heap.objs.size) (.ref a) (.ref s.heap.objs.size)) _ _ _;generalize cG:({cls:= .type "list",data:= .seq ([]:List Value).toArray}:Obj)=l0;have S1:DRaw (s.heap.push l0) a es n:=S.stay fun o e=>ik _ e;unfold Builtin.List.listExtendWith;refine eY (tD (T:="dict") (s:={s with heap:=s.heap.push l0}) S1.typeIs ?_);have h1:Builtin.List.listSameRef (.ref s.heap.objs.size) (.ref a)=false:=by simp only[Builtin.List.listSameRef,yC];exact t6.symm
 have h2:(Value.type "dict"==Value.type "list")=false:=by decide
 have h3:(Value.type "dict"==Value.type "tuple")=false:=by decide
 simp -iota only[h1,h2,h3,Bool.or_false,gv,gO];refine eY (GF (s:={s with heap:=s.heap.push l0}) hd S1 ?_);obtain⟨h2,en⟩: ∃h2,h2=(s.heap.push l0).push {cls:= .type "dict_keyiterator",data:= .fields #[.ref a,.int 0 0,.int es.size 0,.int n 0]}:=⟨_,rfl⟩
 have cx:h2.IsKeyIter (s.heap.push l0).objs.size a 0 es.size n:=by rw[en];exact⟨_,iK _ rfl,rfl,rfl⟩
 have k2: ∀b o,(s.heap.push l0).get? b=some o->h2.get? b=some o:=fun b o e=>by rw[en];exact ik _ e
 rw[<-en];have ck:(s.heap.push l0).objs.size=s.heap.objs.size+1:=oG _ _;have S2:DRaw h2 a es n:=S1.stay fun o e=>k2 _ _ e;refine eY (ku ?_);unfold Builtin.List.listLengthHint;refine eY (oZ (T:="dict") (s:={s with heap:=h2}) S2.typeIs PySem.F.slot_dict_len.lookup ?_);generalize cH:("dict.__len__":String)=id0;dsimp only;rw[show splitId id0=some ("dict","__len__") from by subst cH;decide+kernel];dsimp only;refine eY (uR (T:="dict") (s:={s with heap:=h2}) (b:=true) S2.typeIs (by rw[zV];kernel_rfl) ?_);simp -iota only[nu,gv,gO];change wpAny _ _ (if _=true then _ else _) _ _ _;rw[fJ (by subst cH;decide+kernel)];refine eY (tD (T:="dict") (s:={s with heap:=h2}) S2.typeIs ?_);dsimp only;refine fH ?_;change wpAny _ _ (if _=true then _ else _) _ _ _;rw[fJ (by decide+kernel)];refine eY (pB ?_);have cN:h2.get? s.heap.objs.size=some l0:=k2 _ _ (iK _ (by subst cG;rfl));subst cG;refine eY ?_;show wpAny _ A.in1 (updateSeq s.heap.objs.size (·.push .none)>>=fun _=>updateSeq s.heap.objs.size (·.pop)) _ _ _;refine eY (zT (s:={s with heap:=h2}) cN rfl ?_);have cM:=qQ (Obj.mapSeq (·.push Value.none)) cN rfl;refine zT cM rfl ?_;have eE:=qQ (Obj.mapSeq (·.pop)) cM rfl
 have oth: ∀b o,b≠s.heap.objs.size->h2.get? b=some o->((h2.update s.heap.objs.size (Obj.mapSeq (·.push Value.none))).update s.heap.objs.size (Obj.mapSeq (·.pop))).get? b=some o:=
  fun b o hb e=>(uU _ _ (kR hb)).trans ((uU _ _ (kR hb)).trans e)
 have W:=(Em (prog:=prog) (w:=w) (A:=A.in1) (by show A.handled=none;exact hh) (s.heap.objs.size+1) a bA.symm es n).toS;rw[ck] at cx;refine fH ⟨pk Hl _,?_⟩;rw[ck];refine Hk W hn s.heap.objs.size (by simp -iota only[iY,jD,kP,nv];exact⟨cA,t6.symm⟩) _ es.size 0 _ _ _ rfl (kA _) ?_ eE (ItemsOf.nil _) fun s' i3 c' hm u4 l3=>?_
 ·refine⟨?_,S2.stay fun o e=>oth a o t6 e⟩;obtain⟨o,g1,g2⟩:=cx;exact⟨o,oth _ o cA.symm g1,g2⟩
 show wpAny _ A (load s.heap.objs.size>>=_) _ _ s';refine eY (uX u4 ?_);obtain⟨h',g',d',aP,bf⟩:=s';have eg:g'=s.gens:=hm.gens;have ed:d'=s.drawn:=hm.drawn;have eo:bf=s.os:=hm.os;subst eg;subst ed;subst eo
 have bN:i3.toList=es.toList.map (·.key):=by
  obtain⟨a1,a2⟩:=l3;apply Di
  ·rw[gW,iw,iw,a1]
  ·intro j g1 g2;have gj:i3[j]?=some i3.toList[j]:=by rw[<-jT];exact ir g1
   obtain⟨e,he,hv⟩:=a2 j _ gj;rw[hv];rw[gW,iw] at g2;rw[List.getElem_map];rw[<-jT,ir (by rw[iw];exact g2)] at he;cases he;rfl
 refine fH ?_;show Q i3.toList _;rw[bN];refine hQ h' aP fun b o e=>?_;have hb:=ie e;exact hm.heap b o (by simp -iota only[iY,jD,kP,nv];exact⟨gE hb,gE (pA hb)⟩) (oth b o (gE hb) (k2 _ _ (ik _ e)))
end
end TT
namespace PX
open PySem PySem.Spec PyProof.Rows L2 PySem.SeqAt TS
def jh(d:D):Option (D×Bool):=match d with
 | .oth .dct ks vs=>if(ks.all fun k=>(si k).isSome)=true/\ks≠[] then iE ks else none
 |_=>qd d
section
variable {X:Cx}
theorem FQ{P:fS}{w:fL}{es:List DictEntry}{vs:List (Key×Value)}{kvs:List (Key×V)}(h:Pairs (jr P w) es vs)(q:KV kvs vs):Vals (kvs.map fun p=>kV p.1) (es.map (·.key)):=by
 induction h generalizing kvs with
 |nil=>cases q;exact .nil
 |cons h1 h2 t ih=>
  obtain _|⟨r,q⟩:=q;refine .cons ?_ (ih q);dsimp only;rw[r.1];rcases iL (show xQ _ _=true from h1) with⟨i,tk,e1,e2⟩|⟨x,tk,e1,e2⟩
  ·rw[e1,e2];exact⟨tk,rfl⟩
  ·rw[e1,e2];exact⟨tk,rfl⟩
theorem zh{K:fO}{H:Hp}{O:AP'}: ∀(kvs:List (Key×V)),RepL K H O (kvs.map fun p=>iI p.1) (kvs.map fun p=>kV p.1)
 |[]=>RepL.nil
 |(k,v)::kvs=>by
  refine RepL.cons ?_ (zh kvs)
  cases k with
  |inl i=>exact Rep.mkInt
  |inr x=>exact Rep.mkStr
theorem Ri{X:Cx}{id:String}{g g':D->Option (D×Bool)}(hr:hX X (.builtin id) (rDn X.K (g1 g'))){pins:gc}{s:eZ}{σ:L2.St}{H:Hp}{x:V}{u:fI}{Q:VK}{O:AP'}{d:D}{z:D×Bool}(I:Inv X pins σ H s)(ru:L2.RelV x u)(np: ∀p,¬Ow (H p)-> ¬O p)(hd:ip X.K H O d x)(hg:g' d=some z)(G:Gen X.K H O z Q):
  wpAny (model X.prog X.w) X.A (call (.builtin id) [u]) (EP X pins σ Q) X.xe s:=
 hr pins s σ H [x] [u] Q I (.cons ru .nil) ⟨O,[d],z,np,rfl,(fun j d' v' a b=>by
   cases j with
   |zero=>simp at a b;subst a;subst b;exact hd
   |succ j=>simp at a),hg,G⟩
theorem oB(hc:X.calm=true)(hu:X.A.units+62<cLine):hX X (.builtin "sorted") (rDn X.K (g1 jh)):=mw fun pins s σ H x u Q O d z I ru np hd hg G=>by
 by_cases hs: ∃ks vs,d= .oth .dct ks vs
 ·obtain⟨ks,vs,rfl⟩:=hs;have o8:(if(ks.all fun k=>(si k).isSome)=true/\ks≠[] then iE ks else none)=some z:=hg;split at o8
  ·rename_i hok;obtain⟨a,us,rfl,q,r⟩:=pF hd;cases ru;rcases q with⟨kvs,e,rfl,rfl⟩|⟨kvs,e,rfl,rfl⟩
   ·obtain⟨zl,bH,vs',rel,o,es,ep,h1,h2,h3,h4,h5,h6⟩:=Nu I.hok e;have vv:=FQ h5 rel;have hl:=vv.length;simp only[gW,iw] at hl;have hh:X.A.handled=none:=I.ok.hd hc;exact qp hu I (zh (O:=O) kvs) vv o8 G fun Q' E' A' eG hQ=>TT.K7 bH (by rw[eG];exact hh) ⟨o,h1,h2,h3⟩ (by lia) fun h' tk k=>hQ h' tk k
   ·exfalso
    cases kvs with
    |nil=>exact hok.2 rfl
    |cons p kvs=>
     have:=my.mp hok.1 (.tup (p.1.map iI)) (by simp);simp[si] at this
  ·cases o8
 ·have:jh d=qd d:=by
   unfold jh;split
   ·exact absurd ⟨_,_,rfl⟩ hs
   ·rfl
  exact Ri (g:=jh) (Bp hc hu) I ru np hd (by rw[<-this];exact hg) G
theorem LK(hg:Gl X x)(hm:X.mg x=some (.int i t))(hd:(x==("__debug__":Str))=false):PX X (.Name x pos) (fC (.int i)):=PX.imp (E5 (v:= .int i) hg hm ⟨t,rfl⟩ hd) fun σ H Q h=>by
 obtain⟨δ,T,r,δ',E,e,k⟩:=h;cases e;exact k _ _ (Post.val .refl E Rep.mkInt)
theorem LJ(hg:Gl X x)(hm:X.mg x=some (.str i t))(hd:(x==("__debug__":Str))=false):PX X (.Name x pos) (fC (.str i)):=PX.imp (E5 (v:= .str i) hg hm ⟨t,rfl⟩ hd) fun σ H Q h=>by
 obtain⟨δ,T,r,δ',E,e,k⟩:=h;cases e;exact k _ _ (Post.val .refl E Rep.mkStr)
noncomputable def rW:FS:=fun _=>none
theorem Gf{A L:gR}{H0:Hp}{st:Stmt}:PSX X A L H0 st rW:=fun pins s σ H D I h=>by
 obtain⟨δ,T,out,E,fi,e,k⟩:=h;cases e
end
noncomputable def mR(i:Nat)(f:F):F:=fun δ=>match δ[i]? with
 |some (some (.lst _,true))=>(f δ).bind fun p=>match p.1,p.2[i]? with
  |(.lst m,true),some (some (.lst l,true))=>if l.length+m.length<=sizeLine then some ((.non,false),p.2.set i (some (.lst (l++m),true))) else none
  |_,_=>none
 |_=>none
section
variable {X:Cx}{e:fw}{f:F}{pos b8 apos d8:Pos}{i:Nat}{x:Str}
theorem Ga(hv:PO X (.Name x b8) (eV i))(he:PX X e f)(i5:attributeBase (.Name x b8) "extend" X.env (eval (.Name x b8) X.env)=eval (.Name x b8) X.env)
  (j2:((backTo d8 (starEach [e] X.env)).all (fun x=>!x.1)&&(backToKw d8 (keywordEach [] X.env)).all (fun x=>x.1.isSome)&&decide ([e].length+([]:List Keyword).length+(if([]:List Keyword).isEmpty then 0 else 1)<30))=true)
  (i4:(apos.endLine==d8.line)=true)(hs:starEach [e] X.env=(false,eval e X.env)::starEach [] X.env)(g0:(backTo d8 (starEach [] X.env)).any (·.1)=false):
  PX X (.Call (.Attribute (.Name x b8) "extend" apos) [e] [] d8) (mR i f):=
 PX.imp (zi Dh PySem.F.slot_list_extend PySem.F.type_list_extend Gx hv (iX he ko hs) i5 j2 i4 hs g0) fun σ H Q hw=>by
 obtain⟨δ,T,rr,δ',E,e,k⟩:=hw;unfold mR at e;split at e
 ·rename_i l0 h0;obtain⟨⟨r,δ1⟩,h1,e⟩:=eU e;dsimp only at e;split at e
  ·rename_i m l h2;obtain⟨hz,e⟩:=fU e;obtain⟨rfl,rfl⟩:=tq e;refine⟨δ,T,.slot i,δ,E,by unfold eV;rw[h0],fun v H1 P=>?_⟩;obtain⟨K1,E1,hσ⟩:=P;obtain⟨a,g1,cc,g2,g3⟩:=E1.own i _ h0;rw[hσ] at g1;cases g1;refine⟨.inl ⟨rfl,cc,SqL.of g2⟩,δ,T,_,δ1,E1,h1,fun y H2 P2=>?_⟩;obtain⟨E2,ry⟩:=P2.rep E1;obtain⟨p,rfl,hp,cR,zs,o1,o2⟩:=P2.2;obtain⟨a',q1,xs,q2,q3⟩:=E2.own i _ h2;rw[hσ] at q1;cases q1;have hrl:RepL X.K H2 (fun b=>OwnA σ δ1 b\/T b) m zs:=RepL.mono (fun _ _ e _=>e) (fun b _ z=>z.elim Or.inl fun z=>Or.inr (Or.inl z)) o2;refine⟨_,p,xs,zs,rfl,rfl,q2,o1,by rw[q3.length,o2.length];exact hz,?_⟩;obtain⟨E3,K3⟩:=E2.write h2 hσ (q3.append hrl);exact k _ _ (Post.val ((K1.trans P2.1).trans K3) E3 Rep.mkNon)
  ·cases e
 ·cases e
end
structure PXs(X:Cx)(es:hW)(fs:List F):Prop where
 pa:PA X es (tA X.K (fs.map eW))
section
variable {X:Cx}{e:fw}{es:hW}{f:F}{fs:List F}{pos:Pos}
theorem LB:PXs X [] []:=⟨AR⟩
theorem IL(h:PX X e f)(hr:PXs X es fs)(hs:starEach (e::es) X.env=(false,eval e X.env)::starEach es X.env):PXs X (e::es) (f::fs):=⟨tX (PX.po h) hr.pa hs⟩
theorem LH(h:PXs X es fs):PX X (.List es pos) (jx fs):=Oq h.pa
theorem LD{x1}(h:PXs X es fs):PX X (.Tuple es x1 pos) (jB fs):=Oe h.pa
theorem Jj{fe:FT}(h:PTX X e fe):PIf X [e] (tT X.K fe):=L8 h
theorem OA{fe:FT}(h:PWX X e fe):PTX X e fe:=PW.pt h
end
structure QX(X:Cx)(e:fw)(f:F):Prop where
 h:PX X e f
structure QO(X:Cx)(e:fw)(f:FO):Prop where
 h:PX.PO X e f
structure QA(X:Cx)(es:hW)(fs:List FO):Prop where
 h:PA X es (tA X.K fs)
structure QL(X:Cx)(es:hW)(fs:List F):Prop where
 h:PXs X es fs
structure QT(X:Cx)(e:fw)(f:FT):Prop where
 h:PTX X e f
structure QW(X:Cx)(e:fw)(f:FT):Prop where
 h:PWX X e f
structure QG(X:Cx)(A:gR)(e:fw)(t:Tg):Prop where
 h:PGX X A e t
structure QI(X:Cx)(B:SB)(tg e:fw)(f:FIt):Prop where
 h:PIX X B tg e f
structure QF(X:Cx)(es:hW)(f:FT):Prop where
 h:PIf X es (tT X.K f)
structure QB(X:Cx)(A:gR)(d:eX)(e:fw)(n:Nat)(f:FB):Prop where
 h:PB X (gU e n (.ref d) X.env) (tBx false X.K A d f)
structure QS(X:Cx)(A L:gR)(H0:Hp)(st:Stmt)(f:FS):Prop where
 h:PSX X A L H0 st f
structure QQ(X:Cx)(A L:gR)(H0:Hp)(st:List Stmt)(f:FS):Prop where
 h:Bt X A L H0 st f
structure QC(X:Cx)(v:fI)(g:List D->Option (D×Bool)):Prop where
 h:hX X v (rDn X.K g)
structure QP(X:Cx)(o:vE)(g:D->D->Option (D×Bool)):Prop where
 h:OpR X o (rD X.K g)
abbrev SE(X:Cx)(e:fw)(es:hW):Prop:=starEach (e::es) X.env=(false,eval e X.env)::starEach es X.env
abbrev BA(X:Cx)(p:Pos)(es:hW):Prop:=(backTo p (starEach es X.env)).any (·.1)=false
abbrev DB(x:Str):Prop:=(x==("__debug__":Str))=false
abbrev un(A:fQ)(n:Nat):Prop:=A.units+n<cLine
structure ZZ where
 P:Program
 w:World
 K:PySem.W.Frag
 mg:Str->Option Value
 base:Heap
def Oz(Z:ZZ)(k:Nat)(x:Str)(ps:fV)(ev:EvF):Prop:= ∃f fd,FnOk Z.P Z.w Z.K Z.mg Z.base CX0 k f fd ps (spF Z.K ev)/\Z.mg x=some (.ref f)/\PySem.W.keepIn Z.K (.ref f)=true/\Binds Z.K fd ps []
theorem Oz.up{Z:ZZ}{k j:Nat}{x:Str}{ps:fV}{ev:EvF}(o:Oz Z k x ps ev)(h:k<=j:=by decide):Oz Z j x ps ev:=let⟨f,fd,a,b⟩:=o;⟨f,fd,a.mono h,b⟩
noncomputable abbrev zX(X:Cx):ZZ:=⟨X.prog,X.w,X.K,X.mg,X.base⟩
noncomputable def btT:List (Str×Value):=[("len",.builtin "len"),("abs",.builtin "abs"),("int",.type "int"),("tuple",.type "tuple"),("list",.type "list"),("bool",.type "bool"),("max",.builtin "max"),("min",.builtin "min"),("all",.builtin "all"),("any",.builtin "any"),("sorted",.builtin "sorted"),("set",.type "set")]
theorem btA{mg:jY}(T:Tx mg): ∀p∈btT,mg p.1=none/\bootBuiltins p.1=some p.2:=by
 have h: ∀p∈btT,bootBuiltins p.1=some p.2:=by decide+kernel
 intro p hp;refine⟨?_,h p hp⟩;have bt:p∈btT:=hp;unfold btT at bt;simp only[iY,jD,kP] at bt;rcases bt with rfl|rfl|rfl|rfl|rfl|rfl|rfl|rfl|rfl|rfl|rfl|rfl
 ·exact T.n_len
 ·exact T.n_abs
 ·exact T.n_int
 ·exact T.n_tuple
 ·exact T.n_list
 ·exact T.n_bool
 ·exact T.n_max
 ·exact T.n_min
 ·exact T.n_all
 ·exact T.n_any
 ·exact T.n_sorted
 ·exact T.n_set
theorem D7{z:Str}{v:fI}: ∀{l:List (Str×Value)},l.lookup z=some v->(z,v)∈l
 |[],h=>by cases h
 |(y,u)::l,h=>by
  rw[mF] at h;split at h
  ·rename_i q;cases h;rw[qR q];exact .head _
  ·exact .tail _ (D7 h)
theorem btM{mg:jY}{z:Str}{v:fI}(T:Tx mg)(h:btT.lookup z=some v):mg z=none:=(btA T _ (D7 h)).1
theorem btN{z:Str}{v:fI}(h:btT.lookup z=some v):bootBuiltins z=some v:=(show ∀p∈btT,bootBuiltins p.1=some p.2 from by decide+kernel) _ (D7 h)
section
variable {X:Cx}{x z:Str}{e a b c st lo hi:fw}{es:hW}{fa fb fc fo fl fh:FO}{f g:F}{ft fu:FT}{p p2 p3 pos b8 apos:Pos}{A L:gR}{B:SB}{H0:Hp}{fs:List FO}{cb:List F}{i j k:Nat}{tg:fw}{S:Stmt}{Ss Ts:List Stmt}{u v:FS}
theorem xV(h1:X.N[i]?=some x:=by rfl)(h2:Vis X.env.scope x:=by first|exact Or.inl rfl|exact Or.inr (Or.inl rfl)|exact Or.inr (Or.inr rfl))(h3:DB x:=by decide)(h4:(x==("__classdict__":Str))=false:=by decide):QO X (.Name x pos) (eV i):=⟨OL h1 h2 h3 h4⟩
theorem xW(h1:X.N[i]?=some x:=by rfl)(h2:Vis X.env.scope x:=by first|exact Or.inl rfl|exact Or.inr (Or.inl rfl)|exact Or.inr (Or.inr rfl))(h3:DB x:=by decide)(h4:(x==("__classdict__":Str))=false:=by decide):QX X (.Name x pos) (gz i):=⟨Od h1 h2 h3 h4⟩
theorem xO(h:QX X e f):QO X e (eW f):=⟨PX.po h.h⟩
theorem x1{j}:QX X (.Constant .none j pos) (fC .non):=⟨Om⟩
theorem x2{i j}:QX X (.Constant (.bool i) j pos) (fC (.bl i)):=⟨Q9⟩
theorem x3{i j}:QX X (.Constant (.int i) j pos) (fC (.int i)):=⟨Ou⟩
theorem x4{i j}:QX X (.Constant (.str i) j pos) (fC (.str i)):=⟨Of⟩
theorem x5{i:Int}(h: ∃t,X.mg x=some (.int i t))(g:Gl X x:=by rfl)(h3:DB x:=by decide):QX X (.Name x pos) (fC (.int i)):=let⟨_,h⟩:=h;⟨LK g h h3⟩
theorem x6{i:Str}(h: ∃t,X.mg x=some (.str i t))(g:Gl X x:=by rfl)(h3:DB x:=by decide):QX X (.Name x pos) (fC (.str i)):=let⟨_,h⟩:=h;⟨LJ g h h3⟩
theorem x7:QX X (.Dict [] [] pos) Kq:=⟨LL⟩
theorem jl{op:Operator}{g:D->D->Option (D×Bool)}(o:QP X (binaryOp op) g)(ha:QO X a fa)(hb:QO X b fb):QX X (.BinOp a op b pos) (fD g fa fb):=⟨Ox o.h ha.h hb.h⟩
theorem FP(ha:QO X a fa):QX X (.UnaryOp .USub a pos) (gB su fa):=⟨Oo ha.h⟩
theorem Sy(ha:QX X a f):QX X (.UnaryOp .Not a pos) (MO f):=⟨Ol ha.h⟩
theorem yF{op:CmpOp}{g:D->D->Option (D×Bool)}(o:QP X (compareOp op) g)(ha:QO X a fa)(hb:QO X b fb)(hm:behindInMarks op b=false:=by first|exact JH _|with_unfolding_all rfl):QX X (.Compare a [op] [b] pos) (fD g fa fb):=⟨Ov o.h ha.h hb.h hm⟩
theorem tCmp{op:CmpOp}{g:D->D->Option (D×Bool)}(o:QP X (compareOp op) g)(ha:QO X a fa)(hb:QO X b fb)(hm:behindInMarks op b=false:=by first|exact JH _|with_unfolding_all rfl):QT X (.Compare a [op] [b] pos) (fT (fD g fa fb)):=⟨LW o.h ha.h hb.h hm⟩
theorem xCh{op k7:CmpOp}(ha:QO X a fa)(hb:QO X b fb)(hc:QO X c fc)(o1:nO op:=by first|exact .inl rfl|exact .inr (.inl rfl)|exact .inr (.inr (.inl rfl))|exact .inr (.inr (.inr rfl)))(o2:nO k7:=by first|exact .inl rfl|exact .inr (.inl rfl)|exact .inr (.inr (.inl rfl))|exact .inr (.inr (.inr rfl)))(hm:lastMarks [op,k7] [b,c]=false:=by with_unfolding_all rfl):QX X (.Compare a [op,k7] [b,c] pos) (mq op k7 fa fb fc):=⟨IS o1 o2 ha.h hb.h hc.h hm⟩
theorem tCh{op k7:CmpOp}(ha:QO X a fa)(hb:QO X b fb)(hc:QO X c fc)(o1:nO op:=by first|exact .inl rfl|exact .inr (.inl rfl)|exact .inr (.inr (.inl rfl))|exact .inr (.inr (.inr rfl)))(o2:nO k7:=by first|exact .inl rfl|exact .inr (.inl rfl)|exact .inr (.inr (.inl rfl))|exact .inr (.inr (.inr rfl)))(hm:lastMarks [op,k7] [b,c]=false:=by with_unfolding_all rfl):QT X (.Compare a [op,k7] [b,c] pos) (fT (mq op k7 fa fb fc)):=⟨Gd o1 o2 ha.h hb.h hc.h hm⟩
theorem xBo{op}(ha:QX X a f):QX X (.BoolOp op [a] pos) f:=⟨LO ha.h⟩
theorem yG(ha:QX X a f)(hb:QX X (.BoolOp .And (b::es) pos) g):QX X (.BoolOp .And (a::b::es) pos) (ur f g):=⟨Oy ha.h hb.h⟩
theorem wOr(ha:QT X a ft)(hb:QW X (.BoolOp .Or (b::es) pos) fu):QW X (.BoolOp .Or (a::b::es) pos) (wd ft fu):=⟨OB ha.h hb.h⟩
theorem HQ(ha:QT X a ft):QW X (.BoolOp .Or [a] pos) ft:=⟨LQ ha.h⟩
theorem tW{op}(h:QW X (.BoolOp op es pos) ft):QT X (.BoolOp op es pos) ft:=⟨OA h.h⟩
theorem tNot(ha:QT X a ft):QT X (.UnaryOp .Not a pos) (iF ft):=⟨LU ha.h⟩
theorem pJ(h:QX X e f)(he: ∀whole,isTrue e X.env whole=(do let v <-whole;standAt e.pos;holding [v] (truthy v)):=by intro _;rfl):QT X e (fT f):=⟨LS h.h he⟩
theorem xIf(hc:QT X c ft)(ha:QX X a f)(hb:QX X b g):QX X (.IfExp c a b pos) (fIf ft f g):=⟨Q8 hc.h ha.h hb.h⟩
theorem xIx(ha:QO X a fa)(hb:QO X b fb)(hs:uG b:=by exact fun _ _=>rfl):QX X (.Subscript a b pos) (fD gIx fa fb):=⟨Q7 ha.h hb.h hs⟩
theorem Sz(hu:un X.A 1)(ha:QO X a fa)(hb:QO X b fb)(hs:uG b:=by exact fun _ _=>rfl):QX X (.Subscript a b pos) (fD Cp fa fb):=⟨Ot hu ha.h hb.h hs⟩
theorem Qf(ha:QO X a fa)(hl:QO X lo fl):QX X (.Subscript a (.Slice (some lo) none none p2) pos) (oK fa fl):=⟨LF ha.h hl.h⟩
theorem Qg(ha:QO X a fa)(hh:QO X hi fh):QX X (.Subscript a (.Slice none (some hi) none p2) pos) (uq fa fh):=⟨LG ha.h hh.h⟩
theorem xL0:QL X [] []:=⟨LB⟩
theorem xL(ha:QX X e f)(hr:QL X es cb)(hs:SE X e es:=by rfl):QL X (e::es) (f::cb):=⟨IL ha.h hr.h hs⟩
theorem xA0:QA X [] []:=⟨AR⟩
theorem xA(ha:QO X e fa)(hr:QA X es fs)(hs:SE X e es:=by rfl):QA X (e::es) (fa::fs):=⟨tX ha.h hr.h hs⟩
theorem oN{k}(h:QL X es cb):QX X (.Tuple es k pos) (jB cb):=⟨LD h.h⟩
theorem oO(h:QL X es cb):QX X (.List es pos) (jx cb):=⟨LH h.h⟩
theorem xB{id:String}{g:List D->Option (D×Bool)}(T:Tx X.mg)(hv:btT.lookup z=some (.builtin id))(hc:QC X (.builtin id) g)(ha:QA X (e::es) fs)(hg:Gl X z:=by rfl)(hn:z≠"__name__":=by decide)(j6:DB z:=by decide)(he:SE X e es:=by rfl)(h9:BA X pos es:=by rfl):QX X (.Call (.Name z p) (e::es) [] pos) (fE g fs):=⟨LP hc.h hg (btM T hv) (btN hv) ha.h hn j6 he h9⟩
theorem xT{id:String}{g:List D->Option (D×Bool)}(T:Tx X.mg)(hv:btT.lookup z=some (.type id))(hc:QC X (.type id) g)(ha:QA X (e::es) fs)(hg:Gl X z:=by rfl)(hn:z≠"__name__":=by decide)(j6:DB z:=by decide)(he:SE X e es:=by rfl)(h9:BA X pos es:=by rfl):QX X (.Call (.Name z p) (e::es) [] pos) (fE g fs):=⟨EV hc.h hg (btM T hv) (btN hv) ha.h hn j6 he h9⟩
theorem xI{t:Ty}(T:Tx X.mg)(hz:btT.lookup z=some (.type t.n))(ha:QO X e fa)(hg:Gl X "isinstance":=by rfl)(aL:Gl X z:=by rfl)(hn:z≠"__name__":=by decide)(j6:DB z:=by decide)
  (s1:SE X e [.Name z p2]:=by rfl)(s2:SE X (.Name z p2) []:=by rfl)(h9:BA X pos [.Name z p2]:=by rfl):
  QX X (.Call (.Name "isinstance" p) [e,.Name z p2] [] pos) (gB (mz [t]) fa):=⟨IQ ha.h hg T.n_isinstance aL (btM T hz) (btN hz) hn j6 nq s1 s2 h9⟩
theorem xI2{t t':Ty}{z':Str}{p4:Pos}{kk}(T:Tx X.mg)(hz:btT.lookup z=some (.type t.n))(dg:btT.lookup z'=some (.type t'.n))(ha:QO X e fa)(hg:Gl X "isinstance":=by rfl)(aL:Gl X z:=by rfl)(hn:z≠"__name__":=by decide)(j6:DB z:=by decide)(bD:Gl X z':=by rfl)(cE:z'≠"__name__":=by decide)(bG:DB z':=by decide)
  (s1:SE X e [.Tuple [.Name z p2,.Name z' p3] kk p4]:=by rfl)(s2:SE X (.Tuple [.Name z p2,.Name z' p3] kk p4) []:=by rfl)
  (s3:SE X (.Name z p2) [.Name z' p3]:=by rfl)(s4:SE X (.Name z' p3) []:=by rfl)
  (h9:BA X pos [.Tuple [.Name z p2,.Name z' p3] kk p4]:=by rfl):
  QX X (.Call (.Name "isinstance" p) [e,.Tuple [.Name z p2,.Name z' p3] kk p4] [] pos) (gB (mz [t,t']) fa):=⟨LI ha.h hg T.n_isinstance aL (btM T hz) (btN hz) hn j6 bD (btM T dg) (btN dg) cE bG nq s1 s2 s3 s4 h9⟩
theorem xU{k:Nat}{ps:fV}{ev:EvF}(O:Oz (zX X) k x ps ev)(hr:Room k X.A)(ha:QA X (e::es) fs)(hg:Gl X x:=by rfl)(j6:DB x:=by decide)
  (he:SE X e es:=by rfl)(h9:BA X pos es:=by rfl):QX X (.Call (.Name x p) (e::es) [] pos) (fj ev fs):=
 let⟨_,_,ok,hm,kp,bi⟩:=O;⟨LC ok hr hg hm kp bi ha.h j6 he h9⟩
theorem Sw{T:String}{mk:List D->D}{o:Bool}(X0:Tx X.mg)(hv:btT.lookup z=some (.type T))(ha:QA X [a] [fa])(hT:(T="list"/\mk= .lst/\o=true)\/(T="tuple"/\mk= .tup/\o=false):=by first|exact .inl ⟨rfl,rfl,rfl⟩|exact .inr ⟨rfl,rfl,rfl⟩)(hc:X.calm=true:=by rfl)(hg:Gl X z:=by rfl)(hn:z≠"__name__":=by decide)(j6:DB z:=by decide)(ao:Gl X "range":=by rfl)
  (s1:SE X (.Call (.Name "range" p2) [a] [] p3) []:=by rfl)(s2:SE X a []:=by rfl)
  (h9:BA X pos []:=by rfl)(o6:BA X p3 []:=by rfl):
  QX X (.Call (.Name z p) [.Call (.Name "range" p2) [a] [] p3] [] pos) (fE (gRg mk o) [fa]):=⟨Oh hT hc hg (btM X0 hv) (btN hv) hn j6 ao X0.n_range ha.h s1 s2 h9 o6⟩
theorem Sv{T:String}{mk:List D->D}{o:Bool}(X0:Tx X.mg)(hv:btT.lookup z=some (.type T))(ha:QA X [a,b] [fa,fb])(hT:(T="list"/\mk= .lst/\o=true)\/(T="tuple"/\mk= .tup/\o=false):=by first|exact .inl ⟨rfl,rfl,rfl⟩|exact .inr ⟨rfl,rfl,rfl⟩)(hc:X.calm=true:=by rfl)(hg:Gl X z:=by rfl)(hn:z≠"__name__":=by decide)(j6:DB z:=by decide)(ao:Gl X "range":=by rfl)
  (s1:SE X (.Call (.Name "range" p2) [a,b] [] p3) []:=by rfl)(s2:SE X a [b]:=by rfl)
  (h9:BA X pos []:=by rfl)(o6:BA X p3 [b]:=by rfl):
  QX X (.Call (.Name z p) [.Call (.Name "range" p2) [a,b] [] p3] [] pos) (fE (gRg mk o) [fa,fb]):=⟨Og hT hc hg (btM X0 hv) (btN hv) hn j6 ao X0.n_range ha.h s1 s2 h9 o6⟩
theorem Ld(hv:QO X (.Name x b8) (eV i))(he:QX X e f)(i5:attributeBase (.Name x b8) "append" X.env (eval (.Name x b8) X.env)=eval (.Name x b8) X.env:=by rfl)
  (j2:((backTo pos (starEach [e] X.env)).all (fun x=>!x.1)&&(backToKw pos (keywordEach [] X.env)).all (fun x=>x.1.isSome)&&decide ([e].length+([]:List Keyword).length+(if([]:List Keyword).isEmpty then 0 else 1)<30))=true:=by rfl)
  (i4:(apos.endLine==pos.line)=true:=by rfl)(hs:SE X e []:=by rfl)(g0:BA X pos []:=by rfl):QX X (.Call (.Attribute (.Name x b8) "append" apos) [e] [] pos) (jQ i f):=⟨Gb hv.h he.h i5 j2 i4 hs g0⟩
theorem Qh(hv:QO X (.Name x b8) (eV i))(he:QX X e f)(i5:attributeBase (.Name x b8) "extend" X.env (eval (.Name x b8) X.env)=eval (.Name x b8) X.env:=by rfl)
  (j2:((backTo pos (starEach [e] X.env)).all (fun x=>!x.1)&&(backToKw pos (keywordEach [] X.env)).all (fun x=>x.1.isSome)&&decide ([e].length+([]:List Keyword).length+(if([]:List Keyword).isEmpty then 0 else 1)<30))=true:=by rfl)
  (i4:(apos.endLine==pos.line)=true:=by rfl)(hs:SE X e []:=by rfl)(g0:BA X pos []:=by rfl):QX X (.Call (.Attribute (.Name x b8) "extend" apos) [e] [] pos) (mR i f):=⟨Ga hv.h he.h i5 j2 i4 hs g0⟩
theorem NA(hv:QO X (.Name x b8) (eV i))(he:QO X e fo)(i5:attributeBase (.Name x b8) "pop" X.env (eval (.Name x b8) X.env)=eval (.Name x b8) X.env:=by rfl)
  (j2:((backTo pos (starEach [e] X.env)).all (fun x=>!x.1)&&(backToKw pos (keywordEach [] X.env)).all (fun x=>x.1.isSome)&&decide ([e].length+([]:List Keyword).length+(if([]:List Keyword).isEmpty then 0 else 1)<30))=true:=by rfl)
  (i4:(apos.endLine==pos.line)=true:=by rfl)(hs:SE X e []:=by rfl)(g0:BA X pos []:=by rfl):QX X (.Call (.Attribute (.Name x b8) "pop" apos) [e] [] pos) (ni i fo):=⟨IM hv.h he.h i5 j2 i4 hs g0⟩
theorem iR1(T:Tx X.mg)(ha:QA X [a] [fa])(hg:Gl X "range":=by rfl)(hs:starEach [a] X.env=[(false,eval a X.env)]:=by rfl):QI X B tg (.Call (.Name "range" p) [a] [] pos) (qc fa):=⟨DU hg T.n_range ha.h hs⟩
theorem iR2(T:Tx X.mg)(ha:QA X [a,b] [fa,fb])(hg:Gl X "range":=by rfl)(hs:starEach [a,b] X.env=[(false,eval a X.env),(false,eval b X.env)]:=by rfl)(t8:starEach [b] X.env=[(false,eval b X.env)]:=by rfl):QI X B tg (.Call (.Name "range" p) [a,b] [] pos) (vq fa fb):=⟨DT hg T.n_range ha.h hs t8⟩
theorem iZ{elts:hW}{k1:Nat}{n6:Pos}(T:Tx X.mg)(ha:QX X a f)(hb:QX X b g)(hg:Gl X "zip":=by rfl)(hs:SE X a [b]:=by rfl)(t8:SE X b []:=by rfl)(h9:BA X pos [b]:=by rfl):
  QI X B (.Tuple elts k1 n6) (.Call (.Name "zip" p) [a,b] [] pos) (vO f g):=⟨L6 hg T.n_zip ha.h hb.h hs t8 h9⟩
theorem iS(h:QX X e f):QI X B tg e (gg f):=⟨L7 h.h⟩
theorem iZV{elts:hW}{k1:Nat}{n6:Pos}(T:Tx X.mg)(ha:QO X a (eV i))(hb:QO X b (eV j))(b1:B i:=by decide)(b2:B j:=by decide)(hg:Gl X "zip":=by rfl)(hs:SE X a [b]:=by rfl)(t8:SE X b []:=by rfl)(h9:BA X pos [b]:=by rfl):
  QI X B (.Tuple elts k1 n6) (.Call (.Name "zip" p) [a,b] [] pos) (qb (eV i) (eV j)):=⟨BW hg T.n_zip ha.h hb.h (EM b1) (EM b2) hs t8 h9⟩
theorem gN(hN:X.N.Nodup)(hi:X.N[i]?=some x:=by rfl)(hx:Loc X.env.scope x:=by first|exact Or.inl rfl|exact Or.inr rfl)(hf:X.fn x=true\/X.env.scope.names.lookup x=some .local:=by first|exact Or.inl rfl|exact Or.inr rfl)(ha:A i:=by decide):QG X A (.Name x pos) (fk i):=⟨Jm hN hi hx hf ha⟩
theorem gT{t1 t2:Tg}{k:Nat}(h1:QG X A a t1)(h2:QG X A b t2)(hc:X.calm=true:=by rfl)(q1:(assignEach [a,b] X.env).map (·.2)=assign a X.env::(assignEach [b] X.env).map (·.2):=by rfl)(q2:(assignEach [b] X.env).map (·.2)=assign b X.env::(assignEach [] X.env).map (·.2):=by rfl)
  (hn:(assignEach [a,b] X.env).length=2:=by rfl)(l5:(assignEach [a,b] X.env).findIdx? (·.1)=none:=by rfl):QG X A (.Tuple [a,b] k pos) (mI [t1,t2]):=⟨AN hc (kY h1.h (kY h2.h xo q2) q1) hn rfl l5⟩
theorem f0:QF X [] gq:=⟨Jk⟩
theorem f1(h:QT X e ft):QF X [e] ft:=⟨Jj h.h⟩
theorem bE{gens:nr}{sc:hJ}{d:eX}{n:Nat}(he:QX X e f)(hn:gens[n+1]?=none:=by rfl):QB X A d (.ListComp e gens sc p) n (gn f):=⟨Jw hn he.h⟩
theorem cOk{N P:fV}{sc scope:hJ}{N':fV}{caps:hV}(S:FnScope N P sc)(h:Bn N sc scope N' caps k=true:=by decide+kernel)(hN:X.N=N:=by rfl)(hs:X.env.scope=sc:=by rfl):CompOk X N' scope caps k:=KA hN hs h
theorem xC{c:oE}{fY:nr}{elt:fw}{scope:hJ}{fi:FIt}{tt:Tg}{ti:FT}{fb:FB}{caps:hV}{N':fV}(C:CompOk X N' scope caps k)(nd:N'.Nodup)(pi:QI X (fun i=>i∉caps) c.target c.iter fi)
  (p5: ∀(cl:jy) (C:eX) (s3:eZ) (H3:Hp) (fp:ig) (pins:gc),(X.comp N' scope cl C s3 H3 fp pins).N.Nodup->
   QG (X.comp N' scope cl C s3 H3 fp pins) (fun i=>caps.length<=i) c.target tt/\QF (X.comp N' scope cl C s3 H3 fp pins) c.ifs ti/\ ∀d,QB (X.comp N' scope cl C s3 H3 fp pins) (fun i=>caps.length<=i) d (.ListComp elt (c::fY) scope pos) 0 fb)
  (hc:X.calm=true:=by rfl)(ha:c.is_async=0:=by rfl)(l4: ∀g',fY[0]?=some g'->g'.is_async=0:=by intro g' h;cases h;try rfl)(hs: ∀x,foldedSetIterable c.iter X.env x=pure x:=by intro _;rfl):QX X (.ListComp elt (c::fY) scope pos) (gh caps k fi tt ti fb):=⟨LM C hc ha l4 hs pi.h fun cl C s3 H3 fp pins=>let⟨a,b,c⟩:=p5 cl C s3 H3 fp pins nd;⟨a.h,b.h,fun d=>(c d).h⟩⟩
theorem sC{c:oE}{fY:nr}{elt:fw}{scope:hJ}{fi:FIt}{tt:Tg}{ti:FT}{fb:FB}{caps:hV}{N':fV}{py f7:Pos}(hN:X.N.Nodup)(C:CompOk X N' scope caps k)(nd:N'.Nodup)(pi:QI X (fun i=>i∉caps) c.target c.iter fi)
  (p5: ∀(cl:jy) (C:eX) (s3:eZ) (H3:Hp) (fp:ig) (pins:gc),(X.comp N' scope cl C s3 H3 fp pins).N.Nodup->
   QG (X.comp N' scope cl C s3 H3 fp pins) (fun i=>caps.length<=i) c.target tt/\QF (X.comp N' scope cl C s3 H3 fp pins) c.ifs ti/\ ∀d,QB (X.comp N' scope cl C s3 H3 fp pins) (fun i=>caps.length<=i) d (.ListComp elt (c::fY) scope pos) 0 fb)
  (cz:swapsWith (.ListComp elt (c::fY) scope pos) (some (.Name x py)) f7.line X.env=pure true:=by rfl)(hi:X.N[i]?=some x:=by rfl)(hx:X.env.scope.names.lookup x=some .local:=by rfl)(hf:X.fn x=true:=by rfl)(hA:A i:=by decide)
  (hc:X.calm=true:=by rfl)(ha:c.is_async=0:=by rfl)(l4: ∀g',fY[0]?=some g'->g'.is_async=0:=by intro g' h;cases h;try rfl)(hs: ∀x,foldedSetIterable c.iter X.env x=pure x:=by intro _;rfl):QS X A L H0 (.Assign [.Name x py] (.ListComp elt (c::fY) scope pos) f7) (gu i (gh caps k fi tt ti fb)):=⟨IY cz C hc ha l4 hs pi.h (EZ hN hi (Or.inl hx) (Or.inl hf)) hA fun cl C s3 H3 fp pins=>let⟨a,b,c⟩:=p5 cl C s3 H3 fp pins nd;⟨a.h,b.h,fun d=>(c d).h⟩⟩
theorem s0:QQ X A L H0 [] fF:=⟨IZ⟩
theorem s1(h:QS X A L H0 S u)(hr:QQ X A L H0 Ss v):QQ X A L H0 (S::Ss) (fg u v):=⟨Gh h.h hr.h⟩
theorem sX:QS X A L H0 S rW:=⟨Gf⟩
theorem sR(h:QX X e f):QS X A L H0 (.Return (some e) pos) (gK f):=⟨L0 h.h⟩
theorem sRV(hl: ¬L i)(h1:X.N[i]?=some x:=by rfl)(h2:Vis X.env.scope x:=by first|exact Or.inl rfl|exact Or.inr (Or.inl rfl)|exact Or.inr (Or.inr rfl))(h3:DB x:=by decide)(h4:(x==("__classdict__":Str))=false:=by decide):QS X A L H0 (.Return (some (.Name x p)) pos) (jM i):=⟨DQ h1 h2 h3 h4 hl⟩
theorem sE(h:QX X e f)(hs:swapsWith e none pos.line X.env=pure false:=by rfl):QS X A L H0 (.Expr e pos) (jW f):=⟨IV h.h hs⟩
theorem sI(hc:QT X c ft)(ha:QQ X A L H0 Ss u)(hb:QQ X A L H0 Ts v):QS X A L H0 (.If c Ss Ts pos) (sIf ft u v):=⟨OH hc.h ha.h hb.h⟩
theorem sW{n:Nat}(hc:QT X c ft)(hb:QQ X A L H0 Ss u)(hp:PassesOwn (model X.prog X.w) X.A X.env X.xe:=by exact PassesOwn.never):QS X A L H0 (.While c Ss [] pos) (mn ft u n):=⟨Ge hp hc.h hb.h⟩
theorem sF{fi:FIt}{t:Tg}(hi:QI X (fun _=>False) tg e fi)(hg:QG X A tg t)(hb:QQ X A L H0 Ss u)(hp:PassesOwn (model X.prog X.w) X.A X.env X.xe:=by exact PassesOwn.never)(hc:X.calm=true:=by rfl)(hs: ∀x,foldedSetIterable e X.env x=pure x:=by intro _;rfl):QS X A L H0 (.For tg e Ss [] pos) (lN fi t u):=⟨L3 hp hc hi.h hg.h hb.h hs⟩
theorem sS(hN:X.N.Nodup)(he:QX X e f)(hi:X.N[i]?=some x:=by rfl)(hx:Loc X.env.scope x:=by first|exact Or.inl rfl|exact Or.inr rfl)(hf:X.fn x=true\/X.env.scope.names.lookup x=some .local:=by first|exact Or.inl rfl|exact Or.inr rfl)(ha:A i:=by decide)(hs:swapsWith e (some (.Name x p)) pos.line X.env=pure false:=by rfl):QS X A L H0 (.Assign [.Name x p] e pos) (gu i f):=⟨LZ hN hi hx he.h hs hf ha⟩
theorem sT{t:Tg}{pt:Pos}(he:QX X e f)(hg:QG X A (.Tuple es k pt) t)(hs:swapsWithSole [.Tuple es k pt] e pos.line X.env=pure false:=by rfl)(hw:swappedStores [.Tuple es k pt] e X.env=pure none:=by rfl)(h1:(assignEach [.Tuple es k pt] X.env).map (·.2)=[assign (.Tuple es k pt) X.env]:=by rfl):QS X A L H0 (.Assign [.Tuple es k pt] e pos) (DL t f):=⟨LY he.h hg.h hs hw h1⟩
theorem sIx{f7:Pos}(hv:QO X (.Name x b8) (eV i))(he:QX X e f)(hi:QO X a fo)
  (ha: ∀v,assign (.Subscript (.Name x b8) a f7) X.env v=(do
   let ov <-holding [v] (eval (.Name x b8) X.env)
   let iv <-holding [v,ov] (eval a X.env)
   standAt f7
   holding [v,ov,iv] (setItem ov iv v)
   release [v,ov,iv] []):=by intro _;rfl)
  (hs:swapsWithSole [.Subscript (.Name x b8) a f7] e pos.line X.env=pure false:=by rfl)(hw:swappedStores [.Subscript (.Name x b8) a f7] e X.env=pure none:=by rfl)
  (h1:(assignEach [.Subscript (.Name x b8) a f7] X.env).map (·.2)=[assign (.Subscript (.Name x b8) a f7) X.env]:=by rfl):QS X A L H0 (.Assign [.Subscript (.Name x b8) a f7] e pos) (vh i f fo):=⟨Gg hv.h he.h hi.h ha hs hw h1⟩
theorem sDP{f7:Pos}(hu:un X.A 1)(hv:QO X (.Name x b8) (eV i))(he:QX X e f)(hi:QO X a fo)
  (ha: ∀v,assign (.Subscript (.Name x b8) a f7) X.env v=(do
   let ov <-holding [v] (eval (.Name x b8) X.env)
   let iv <-holding [v,ov] (eval a X.env)
   standAt f7
   holding [v,ov,iv] (setItem ov iv v)
   release [v,ov,iv] []):=by intro _;rfl)
  (hs:swapsWithSole [.Subscript (.Name x b8) a f7] e pos.line X.env=pure false:=by rfl)(hw:swappedStores [.Subscript (.Name x b8) a f7] e X.env=pure none:=by rfl)
  (h1:(assignEach [.Subscript (.Name x b8) a f7] X.env).map (·.2)=[assign (.Subscript (.Name x b8) a f7) X.env]:=by rfl):QS X A L H0 (.Assign [.Subscript (.Name x b8) a f7] e pos) (BO i f fo):=⟨IW hu hv.h he.h hi.h ha hs hw h1⟩
end
def Fz(K:fO)(mg:jY)(x:Str)(st:Stmt):Prop:= ∃f fd,mg x=some (.ref f)/\Fun K x x st f fd
theorem fz{K:fO}{h:fP}{mg:jY}{x:Str}{st:Stmt}{f:eX}{oc:fI}{od an:Option Addr}{aa:sO}{kV doc pm f6 ct:fI}(X:K.In h)(G:h.Ns mainGlobals mg)(a:PySem.W.nsIn K mainGlobals x=some (some (.ref f)))
  (l:K.lookup f=some ⟨oc,od,.func (PySem.W.fnOf x x (qA st) (lR st) (fA st) .none kV doc pm an f6 ct),aa⟩)(c:PySem.W.codeIn K f6 x=true)(k:PySem.W.keepIn K (.ref f)=true):Fz K mg x st:=⟨f,_,CT X G a,Pr l c k⟩
def BdA(x:Str)(st:Stmt)(ps:fV):Prop:= ∀(kV doc pm:fI) (an:Option Addr) (f6 ct:fI) (us:gH),us.length=ps.length->bindArgs (PySem.W.fnOf x x (qA st) (lR st) (fA st) .none kV doc pm an f6 ct) ⟨us,[]⟩=pure (ps.zip us)
theorem scM{N P:fV}{sc:hJ}(h1:sc.kind= .function:=by rfl)(h2:sc.isCoroutine=false:=by rfl)(h3:sc.isGenerator=false:=by rfl)(h4:N.Nodup:=by decide+kernel)(h5:N.take P.length=P:=by rfl)(h6: ∀x∈P,sc.names.lookup x=some .local\/sc.names.lookup x=some .cell:=by decide+kernel)(h7: ∀y∈sc.names,y.2≠ .free:=by decide+kernel):FnScope N P sc:=⟨h1,h2,h3,h4,h5,h6,h7⟩
def Bd(Z:ZZ)(k:Nat)(x:Str)(st:Stmt)(N ps:fV)(asg:hV)(fs:FS):Prop:= ∀(f:eX) (f6:fI) (A:fQ) (outer:List Env) (s:eZ) (H:Hp) (E:XK) (L:gR),(∀i,L i->i<ps.length)->Room k (A.deeper (envOfC x (fA st) s.heap.objs.size f f6))->
 un (A.deeper (envOfC x (fA st) s.heap.objs.size f f6)) 60->un (A.deeper (envOfC x (fA st) s.heap.objs.size f f6)) 1->un (A.deeper (envOfC x (fA st) s.heap.objs.size f f6)) 62->un (A.deeper (envOfC x (fA st) s.heap.objs.size f f6)) 90->N.Nodup->
 QQ (Cv CX0 Z.P Z.w Z.K Z.mg Z.base N x (fA st) f f6 A outer s H E).nox (fun i=>i∈asg) L H (lR st) fs
theorem fnB{Z:ZZ}{k:Nat}{x:Str}{st:Stmt}{N ps:fV}{asg:hV}{fs:FS}{f:eX}{fd:kO}(F:Fun Z.K x x st f fd)(S:FnScope N ps (fA st))(hb:Bd Z k x st N ps asg fs):FnOk Z.P Z.w Z.K Z.mg Z.base CX0 (k+1) f fd ps (spF Z.K (evF N.length ps.length asg fs)):=
 Pq F S fun f6 A outer s H E L hL hr=>by
  have:=hr.un;exact(hb f f6 A outer s H E L hL hr (by unfold un;omega) (by unfold un;omega) (by unfold un;omega) (by unfold un;omega) S.nd).h
theorem ozB{Z:ZZ}{k:Nat}{x:Str}{st:Stmt}{N ps:fV}{asg:hV}{fs:FS}(a:Fz Z.K Z.mg x st)(S:FnScope N ps (fA st))(b:BdA x st ps)(hb:Bd Z k x st N ps asg fs):Oz Z (k+1) x ps (evF N.length ps.length asg fs):=
 let⟨f,fd,m,F⟩:=a;⟨f,fd,fnB F S hb,m,F.kp,F.binds b⟩
theorem us0{P:List Value->Prop}(h:P []): ∀us:List Value,us.length=0->P us:=fun us e=>by cases us with|nil=>exact h|cons a l=>cases e
theorem us1{P:List Value->Prop}{n:Nat}(h: ∀a,∀us:List Value,us.length=n->P (a::us)): ∀us:List Value,us.length=n+1->P us:=fun us e=>by cases us with|nil=>cases e|cons a l=>exact h a l (Nat.succ.inj e)
theorem oz0{Z:ZZ}{x:Str}{st:Stmt}{ps:fV}(a:Fz Z.K Z.mg x st)(b:BdA x st ps):Oz Z 0 x ps (fun _=>none):=
 let⟨f,fd,m,F⟩:=a;⟨f,fd,MI,m,F.kp,F.binds b⟩
theorem fzL{K:fO}{mg:jY}{x y:Str}{st:Stmt}{fa:eX}(a:Fz K mg x st)(ez:mg x=some (.ref fa))(b:BdA x st [y]): ∃fd,Fun K x x st fa fd/\ ∀(s:eZ) (v:fI),BindsTo s fd ⟨[v],[]⟩ [(y,v)]:=by
 obtain⟨f,fd,m,F⟩:=a;have e:=ez.symm.trans m;cases e;obtain⟨oc,od,kV,doc,pm,an,f6,ct,aa,e,_⟩:=F.ex;exact⟨fd,F,fun s v=>by subst e;exact .of_eq (b kV doc pm an f6 ct [v] rfl)⟩
theorem mgI{K:fO}{h:fP}{mg:jY}{x:Str}{i:Int}{t:Tok}(X:K.In h)(G:h.Ns mainGlobals mg)(a:PySem.W.nsIn K mainGlobals x=some (some (.int i t))): ∃t,mg x=some (.int i t):=⟨t,CT X G a⟩
theorem mgS{K:fO}{h:fP}{mg:jY}{x:Str}{i:Str}{t:Tok}(X:K.In h)(G:h.Ns mainGlobals mg)(a:PySem.W.nsIn K mainGlobals x=some (some (.str i t))): ∃t,mg x=some (.str i t):=⟨t,CT X G a⟩
theorem txK{K:fO}{h:fP}{mg:jY}(X:K.In h)(G:h.Ns mainGlobals mg)(z0:PySem.W.nsIn K mainGlobals "len"=some none)(z1:PySem.W.nsIn K mainGlobals "abs"=some none)(z2:PySem.W.nsIn K mainGlobals "int"=some none)(z3:PySem.W.nsIn K mainGlobals "tuple"=some none)(z4:PySem.W.nsIn K mainGlobals "list"=some none)(z5:PySem.W.nsIn K mainGlobals "range"=some none)(z6:PySem.W.nsIn K mainGlobals "isinstance"=some none)(z7:PySem.W.nsIn K mainGlobals "bool"=some none)(z8:PySem.W.nsIn K mainGlobals "max"=some none)(z9:PySem.W.nsIn K mainGlobals "min"=some none)(z10:PySem.W.nsIn K mainGlobals "all"=some none)(z11:PySem.W.nsIn K mainGlobals "any"=some none)(z12:PySem.W.nsIn K mainGlobals "sorted"=some none)(z13:PySem.W.nsIn K mainGlobals "enumerate"=some none)(z14:PySem.W.nsIn K mainGlobals "zip"=some none)(z15:PySem.W.nsIn K mainGlobals "set"=some none):Tx mg:=⟨lF X G z0,lF X G z1,lF X G z2,lF X G z3,lF X G z4,lF X G z5,lF X G z6,lF X G z7,lF X G z8,lF X G z9,lF X G z10,lF X G z11,lF X G z12,lF X G z13,lF X G z14,lF X G z15⟩
theorem walkG{l:PySem.W.OpenLaw}{q:fS}{loose:fV}{XP:(Str->Option Value)->Heap->Prop}{YP:World->Heap->Prop}{d:DefRec}{K:Params->PySem.W.Frag}{LV:Nat}{x:Str}{ev:EvF}(hk:Room LV callerA)(hn:l.most=some 63)(cK:d.params.defaults=[])(hY: ∀(w:fL) (h:fP),YP w h->(K w.params).In h)
  (F: ∀(w:fL) (mg:jY) (fa:eX) (h:fP),(K w.params).In h->h.Ns mainGlobals mg->mg d.name=some (.ref fa)-> ∃fd:FuncData,(∀(s:eZ) (u:fI),BindsTo s fd ⟨[u],[]⟩ [(x,u)])/\ ∀base:Heap,(K w.params).In base->base.Ns mainGlobals mg->FnOk l.prog w (K w.params) mg base CX0 LV fa fd [x] (spF (K w.params) ev))
  (M: ∀ns:List Int,ns.length<=63-> ∃o outs,ev [(.lst (ns.map .int),false)]=some ((.bl true,o),outs)):PySem.W.WalkO q loose XP YP l.row.toRowW d [] (fun f vs=>PySem.call f vs):=
 L2.Ql (n:=63) (k:=LV) (x:=x) (CX:=fun _=>CX0) (sp:=fun w=>spF (K w.params) ev) hn (by decide) cK hk hY F (fun _ _ a ns hl _ hS=>by obtain⟨o,outs,e⟩:=M ns hl;exact Ph hS e) fun _ _ _ _ _ z=>z
section
variable {prog:fS}{w:fL}{A:fQ}{E:gm}{s:eZ}
end
section
variable {X:Cx}{pins:gc}{σ:L2.St}{H:Hp}{s:eZ}
end
noncomputable def fPop(i:Nat):F:=fun δ=>match δ[i]? with
 |some (some (.lst l,true))=>(l[l.length-1]?).bind fun d=>some ((d,false),δ.set i (some (.lst l.dropLast,true)))
 |_=>none
section
variable {X:Cx}{x:Str}{i:Nat}{b8 apos d8:Pos}
end
section
variable {X:Cx}
variable {a:fw}{fo:FO}{p pos p1 kp b8 apos:Pos}{x:Str}{i:Nat}
end
section
variable {X:Cx}{pins:gc}{σ:L2.St}{H:Hp}{s:eZ}
end
section
variable {X:Cx}
end
section
variable {prog:fS}{w:fL}{A:fQ}{E:gm}{I:eX}{fp wr:ig}{n:Nat}{P:Nat->Value->Prop}{St:Nat->Heap->Prop}
theorem yp(W:Walks prog w A I fp wr n P St): ∀(k i:Nat) (s:eZ) (Q:List Value->Shared->Prop),i+k<=n->St i s.heap->
  (∀vs h' tk,vs.length=k->(∀j v,vs[j]?=some v->P (i+j) v)->St (i+k) h'->(∀b o,b∉wr->s.heap.get? b=some o->h'.get? b=some o)->Q vs {s with heap:=h',toks:=tk})->wpAny (model prog w) A (draw (.ref I) k) Q E s
 |0,i,s,Q,_,st,h=>fH (h [] s.heap s.toks rfl (fun j v e=>by simp at e) st fun _ _ _ e=>e)
 |k+1,i,s,Q,hk,st,h=>by
  show wpAny _ _ (pyNext (.ref I)>>=_) Q E s;refine eY (W.item i s _ _ (by lia) st fun v h1 dE hp cU dO=>?_);refine eY (ku (yp W k (i+1) _ _ (by lia) cU fun vs h2 cg hl hv v9 bh=>fH ?_));refine h (v::vs) h2 cg (by simp[hl]) (fun j u e=>?_) (by rw[show i+(k+1)=i+1+k by lia];exact v9) fun b o hb e=>bh b o hb (dO b o hb e)
  cases j with
  |zero=>simp at e;subst e;exact hp
  |succ j=>rw[show i+(j+1)=i+1+j by lia];exact hv j u (by simpa using e)
theorem BC{s:eZ}{t:eX}{items:lq}{targets:List (Bool×(Value->Sem Unit))}{Q:Unit->Shared->Prop}(hh:A.handled=none)(ht:s.heap.IsList t items)
  (hn:targets.length=items.size)(hstar:targets.findIdx? (·.1)=none)
  (h: ∀h' tk,(∀b o,s.heap.get? b=some o->h'.get? b=some o)->wpAny (model prog w) A (assignInOrder (targets.map (·.2)) items.toList) Q E {s with heap:=h',toks:=tk}):
  wpAny (model prog w) A (unpack (.ref t) targets) Q E s:=by
 have i8:t<s.heap.objs.size:=by obtain⟨o,ho,_⟩:=ht;exact ie ho
 have hT:s.TypeIs (.ref t) "list":=by obtain⟨o,ho,hc,_⟩:=ht;exact⟨o,ho,hc⟩
 have W:=Walks.list (prog:=prog) (w:=w) (A:=A) hh s.heap.objs.size t (gE i8) items;unfold unpack;rw[hn,hstar];refine eY (ku ?_);unfold unpackItems;refine eY ?_;unfold notIterableAtAll;refine eY (oZ hT PySem.F.slot_list_iter.lookup (fH ?_));simp only[gv,gO];refine eY (ku (wM ht ?_));refine eY (ku (yp W items.size 0 _ _ (by lia) ⟨⟨_,iK _ rfl,rfl,rfl⟩,ht.push _⟩ fun vs h1 dE hl hv cU dO=>?_))
 have dW:vs=items.toList:=by
  apply Am;intro j
  cases e:vs[j]? with
  |some v=>have:=hv j v e;rw[Nat.zero_add] at this;rw[jT,this]
  |none=>
   have:=Qb.mp e;rw[Qb.mpr (by rw[iw];lia)]
 rw[fR (by lia)];refine eY (ku (W.done _ _ _ (by rw[Nat.zero_add] at cU;exact cU) fun h2 cg bh=>?_));simp only[Option.isSome_none,gv,gO];rw[dW];refine fH (h h2 cg fun b o e=>?_);have hb:b∉[s.heap.objs.size]:=by simp;exact gE (ie e)
 exact bh b o hb (dO b o hb (ik _ e))
end
def Nb(ts:List Tg):Tg
 | .lst ds,δ=>zd ts ds δ
 |d,δ=>mI ts d δ
section
variable {X:Cx}{A:gR}{pos:Pos}{es:hW}{ts:List Tg}
theorem zc{δ':Dn}: ∀(ts:List Tg) (ds:List D) (δ:Dn),zd ts ds δ=some δ'->ds.length=ts.length
 |[],[],_,_=>rfl
 |[],_::_,_,h=>by cases h
 |_::_,[],_,h=>by cases h
 |_::ts,_::ds,_,h=>by obtain⟨δ1,_,h⟩:=eU h;simp[zc ts ds δ1 h]
theorem Mb{k:Nat}(hc:X.calm=true)(h:PGs X es (tGs X.K A ts)){n:Nat}(hn:(assignEach es X.env).length=n)(hl:ts.length=n)(l5:(assignEach es X.env).findIdx? (·.1)=none):PGX X A (.Tuple es k pos) (Nb ts):=fun pins s σ H v u Q I r hw=>by
 obtain⟨δ,T,d,δ',E,rp,e,kk⟩:=hw;by_cases hd: ∃ds,d= .lst ds
 ·obtain⟨ds,rfl⟩:=hd;obtain⟨a,xs,rfl,q,rr⟩:=rp.lst;cases r;obtain⟨b6,rv,pl,_⟩:=I.list q.sq;have e1:=rr.length;have e2:=rv.length;have e3:=zc ts ds δ e;rw[assign_Tuple];refine eY (uY (BC (I.ok.hd hc) pl.isList (by rw[gr,hn];lia) l5 fun h' tk kp=>?_));have I1:Inv X pins σ H {s with heap:=h',toks:=tk}:=I.kept kp;exact h pins _ σ H xs _ Q I1 (by simpa using rv) ⟨δ,T,ds,δ',E,rr,e,kk⟩
 ·exact AN hc h hn hl l5 pins s σ H v u Q I r ⟨δ,T,d,δ',E,rp,by
   cases d with
   |lst ds=>exact absurd ⟨ds,rfl⟩ hd
   |_=>exact e,kk⟩
end
section
variable {X:Cx}{A:gR}{a b:fw}{pos:Pos}
theorem gS{t1 t2:Tg}{k:Nat}(h1:QG X A a t1)(h2:QG X A b t2)(hc:X.calm=true:=by rfl)(q1:(assignEach [a,b] X.env).map (·.2)=assign a X.env::(assignEach [b] X.env).map (·.2):=by rfl)(q2:(assignEach [b] X.env).map (·.2)=assign b X.env::(assignEach [] X.env).map (·.2):=by rfl)
  (hn:(assignEach [a,b] X.env).length=2:=by rfl)(l5:(assignEach [a,b] X.env).findIdx? (·.1)=none:=by rfl):QG X A (.Tuple [a,b] k pos) (Nb [t1,t2]):=⟨Mb hc (kY h1.h (kY h2.h xo q2) q1) hn rfl l5⟩
variable {e elt:fw}{f:F}{x z:Str}{p b8 p1 kp:Pos}{i k:Nat}{L:gR}{H0:Hp}
theorem xLS{c:oE}{scope:hJ}{fi:FIt}{tt:Tg}{ti:FT}{caps:hV}{N':fV}{pos':Pos}(T:Tx X.mg)(C:CompOk X N' scope caps k)(nd:N'.Nodup)(pi:QI X (fun i=>i∉caps) c.target c.iter fi)
  (p5: ∀(cl:jy) (C:eX) (s3:eZ) (H3:Hp) (fp:ig) (pins:gc),(X.comp N' scope cl C s3 H3 fp pins).N.Nodup->
   QG (X.comp N' scope cl C s3 H3 fp pins) (fun i=>caps.length<=i) c.target tt/\QF (X.comp N' scope cl C s3 H3 fp pins) c.ifs ti/\QX (X.comp N' scope cl C s3 H3 fp pins) elt f)
  (hc:X.calm=true:=by rfl)(ha:c.is_async=0:=by rfl)(hs: ∀x,foldedSetIterable c.iter X.env x=pure x:=by intro _;rfl)(hg:Gl X "len":=by rfl)
  (h1:starEach [.SetComp elt [c] scope pos] X.env=(false,eval (.SetComp elt [c] scope pos) X.env)::starEach [] X.env:=by rfl)(h9:(backTo pos' (starEach [] X.env)).any (·.1)=false:=by rfl):
  QX X (.Call (.Name "len" p) [.SetComp elt [c] scope pos] [] pos') (qy caps k fi tt ti (yy f)):=
 ⟨F9 C hc ha (by intro g' h;cases h) hs pi.h (fun cl C s3 H3 fp pins=>let⟨a,b,c⟩:=p5 cl C s3 H3 fp pins nd;⟨a.h,b.h,fun d=>Gn rfl c.h⟩) hg T.n_len PQ (by decide) (by decide) h1 h9⟩
end
section
variable {X:Cx}{pins:gc}{σ:L2.St}{H:Hp}{s:eZ}
end
end PX
namespace TT
open PySem PyProof.Rows PySem.SeqAt
section
variable {prog:fS}{w:fL}{A:fQ}{R:Result->Shared->Prop}{I:eX}{fp wr:ig}{G:Array GenState->Array GenState->Prop}{n:Nat}{P:Nat->Value->Prop}{St:Nat->Shared->Prop}
end
end TT
namespace PX
open PySem PySem.Spec PyProof.Rows L2 PySem.SeqAt TS
section
variable {prog:fS}{w:fL}{A:fQ}{E:gm}{s:eZ}
end
end PX
namespace TT
open PySem PyProof.Rows PySem.SeqAt
section
variable {prog:fS}{w:fL}{A:fQ}{E:gm}{s:eZ}
end
end TT
namespace PX
open PySem PySem.Spec PyProof.Rows L2 PySem.SeqAt
section
variable {X:Cx}
variable {a:fw}{fa:FO}{p pos:Pos}
end
open PySem.Builtin.Str
theorem Qm{l:List (Str×Tok)}{ys:fV}(h:l.map (·.1)=ys):Vals (ys.map V.str) (strValues l):=by
 subst h
 induction l with
 |nil=>exact .nil
 |cons p l ih=>exact .cons ⟨p.2,rfl⟩ ih
theorem QE: ∀{ts:fV} {us:gH},Vals (ts.map V.str) us->StrsAre us ts:=by
 intro ts
 induction ts with
 |nil=>intro us h;cases h;exact .nil
 |cons t ts ih=>
  intro us h
  cases h with
  |cons r q=>obtain⟨k,rfl⟩:=r;exact .cons t k (ih q)
section
variable {X:Cx}
def Oa:V->List V->Hp->VK->Prop:=fun x xs H Q=> ∃a b:Str,x= .str a/\xs=[.str b]/\(b.length==0)=false/\a.length+2<=sizeLine/\ ∀l,H l=none->Q (.ref l) (upd H l (.lst ((Txt.split a b).map V.str)))
theorem JJ:MtR X "str.split" Oa:=by
 intro pins s σ H x xs v us Q I rx rv h;obtain⟨x,y,rfl,rfl,hy,hz,q⟩:=h;obtain⟨t,rfl⟩:=rx;obtain⟨_,rfl,u,rfl⟩:=lJ rv
 have fin: ∀(l:List (Str×Tok)) (k:Nat),l.map (·.1)=Txt.split x y->EP X pins σ Q (.ref s.heap.objs.size) {s with heap:=s.heap.push {cls:= .type "list",data:= .seq (strValues l).toArray},toks:=k}:=fun l k e=>
  ⟨.ref _,_,I.lnew (t':=k) (Qm e) (by rw[gW];have:=split_le x y;lia),rfl,q _ I.fresh⟩
 have hn:(partsBetween x (occurrences x y 0 x.length (x.length+1)) y.length).length<=sizeLine:=by
  have e1:=StrLaws.occ_length_le x y 0 x.length (x.length+1);rw[length_partsBetween];lia
 cases h1:(decide (x.length<y.length)||decide (strKind x<strKind y))
 ·cases hf:(occurrences x y 0 x.length (x.length+1)).isEmpty
  ·refine pE zP (wI _ _ _) CS (CQ _ _) (meets_str_split_sep x y t u h1 hy hf (by lia) hn) ?_;show wants _ _ _ {s with toks:=_,heap:=s.heap.push {cls:= .type "list",data:= .seq (strsFrom s.toks (partsBetween x (occurrences x y 0 x.length (x.length+1)) y.length)).toArray}};rw[strsFrom_eq];exact fin (numbered s.toks _) _ ((numbered_texts _ _).trans ((fR (CP h1)).trans (fR (CP hf))).symm)
  ·exact pE zP (wI _ _ _) CS (CQ _ _) (meets_str_split_not_found x y t u h1 hy hf) (fin [(x,t)] s.toks ((fR (CP h1)).trans (fJ hf)).symm)
 ·exact pE zP (wI _ _ _) CS (CQ _ _) (meets_str_split_cannot_occur x y t u h1) (fin [(x,t)] s.toks (fJ h1).symm)
def pt3(a b:Str):List Str:=[(Txt.partition a b).1,(Txt.partition a b).2.1,(Txt.partition a b).2.2]
def Q3:V->List V->Hp->VK->Prop:=fun x xs H Q=> ∃a b:Str,x= .str a/\xs=[.str b]/\(b.length==0)=false/\a.length<=sizeLine/\ ∀l,H l=none->Q (.ref l) (upd H l (.tup ((pt3 a b).map V.str)))
theorem Mv:MtR X "str.partition" Q3:=by
 intro pins s σ H x xs v us Q I rx rv h;obtain⟨x,y,rfl,rfl,hy,hz,q⟩:=h;obtain⟨t,rfl⟩:=rx;obtain⟨_,rfl,u,rfl⟩:=lJ rv
 have fin: ∀(p1 p2 p3:Str) (t1 t2 t3 k:Nat),Txt.partition x y=(p1,p2,p3)->EP X pins σ Q (.ref s.heap.objs.size) {s with heap:=s.heap.push {cls:= .type "tuple",data:= .seq [.str p1 t1,.str p2 t2,.str p3 t3].toArray},toks:=k}:=fun p1 p2 p3 t1 t2 t3 k e=>
  ⟨.ref _,_,I.laid (t':=k) (fun b o e=>ik _ e) (gJ _) (show ObjOk X.prog X.w _ _ _ (.tup ((pt3 x y).map V.str)) from⟨by rw[gA];simp[pt3],_,by unfold pt3;rw[e];exact .cons ⟨_,rfl⟩ (.cons ⟨_,rfl⟩ (.cons ⟨_,rfl⟩ .nil)),wJ _ _⟩),rfl,q _ I.fresh⟩
 refine pE Hc (wI _ _ _) F.entry_str_partition (F.args_str_partition_2 _ _) (meets_str_partition x y t u hy hz) ?_;have h':=fin;unfold Txt.partition at h';revert h'
 cases occurrences x y 0 x.length 1 with
 |nil=>intro h';exact h' _ _ _ _ _ _ _ rfl
 |cons i r=>intro h';exact h' _ _ _ _ _ _ _ rfl
def Q4(K:fO):V->List V->Hp->VK->Prop:=fun x xs H Q=> ∃(sep:Str) (p:eX) (ts:fV),x= .str sep/\xs=[.ref p]/\SqL K H p (ts.map V.str)/\(ts.map (·.length)).sum+ts.length*sep.length<=16777216/\Q (.str (Txt.join sep ts)) H
theorem Mw:MtR X "str.join" (Q4 X.K):=by
 intro pins s σ H x xs v us Q I rx rv h;obtain⟨sep,p,ts,rfl,rfl,hq,hz,q⟩:=h;obtain⟨t,rfl⟩:=rx;obtain⟨_,rfl,ru⟩:=lJ rv;cases ru;obtain⟨b6,rv,pl,_⟩:=I.list hq;exact join_list pl.isList (by simpa using QE rv) hz fun t' k=>⟨.str _,H,I.kept (h':=s.heap) (t':=k) fun _ _ e=>e,⟨_,rfl⟩,q⟩
end
def oR:D->Option (D×Bool)
 | .int i=>if i.natAbs.log2<1920 then some (.str (toString i),false) else none
 |_=>none
def FX:List D->Option (List Str)
 |[]=>some []
 | .str x::l=>(FX l).map (x:: ·)
 |_=>none
def mh(sep:Str):D->Option (D×Bool)
 | .lst l=>(FX l).bind fun ts=>if(ts.map (·.length)).sum+ts.length*sep.length<=16777216 then some (.str (Txt.join sep ts),false) else none
 |_=>none
def kK(b:Str):D->Option (D×Bool)
 | .str a=>if(b.length==0)=false/\a.length+2<=sizeLine then some (.lst ((Txt.split a b).map .str),true) else none
 |_=>none
def Fm(b:Str):D->Option (D×Bool)
 | .str a=>if(b.length==0)=false/\a.length<=sizeLine then some (.tup ((pt3 a b).map .str),false) else none
 |_=>none
theorem Ih{K H}{O:AP'}: ∀{l:List D} {ts:fV} {vs:List V},FX l=some ts->RepL K H O l vs->vs=ts.map V.str:=by
 intro l
 induction l with
 |nil=>intro ts vs h r;cases h;rw[RepL] at r;exact r
 |cons d l ih=>
  intro ts vs h r;rw[RepL] at r;obtain⟨v,w,rfl,r1,r2⟩:=r
  cases d with
  |str x=>
   obtain⟨us,h1,rfl⟩:=FN.mp h;rw[r1.str,ih h1 r2];rfl
  |_=>cases h
theorem xh{K H}{O:AP'}: ∀ts:List Str,RepL K H O (ts.map .str) (ts.map V.str)
 |[]=> .nil
 |t::ts=> .cons Rep.mkStr (xh ts)
section
variable {X:Cx}{o e a:fw}{fo fa:FO}{b v:Str}{pos p apos d8 p1 p2 p3:Pos}{j:Nat}
theorem GU:hX X (.type "str") (rDn X.K (g1 oR)):=mw fun pins s σ H x u Q O d z I ru np hd hg G=>by
 cases d with
 |int i=>
  obtain⟨h,rfl⟩:=fU hg;exact Bo pins s σ H [x] [u] Q I (.cons ru .nil) ⟨i,by rw[gb hd],h,G.str⟩
 |_=>cases hg
theorem Bw(hm:X.mg "str"=none)(ha:QA X [a] [fa])(hg:Gl X "str":=by rfl)(he:SE X a []:=by rfl)(h9:BA X pos []:=by rfl):QX X (.Call (.Name "str" p) [a] [] pos) (fE (g1 oR) [fa]):=
 ⟨EV GU hg hm (by decide+kernel) ha.h (by decide) (by decide) he h9⟩
theorem Nz(ho:QO X o fo)(i5:attributeBase o "split" X.env (eval o X.env)=eval o X.env:=by rfl)
  (j2:((backTo d8 (starEach [.Constant (.str b) j p1] X.env)).all (fun x=>!x.1)&&(backToKw d8 (keywordEach [] X.env)).all (fun x=>x.1.isSome)&&decide ([(.Constant (.str b) j p1:Expr)].length+([]:List Keyword).length+(if([]:List Keyword).isEmpty then 0 else 1)<30))=true:=by rfl)
  (i4:(apos.endLine==d8.line)=true:=by rfl)(hs:SE X (.Constant (.str b) j p1) []:=by rfl)(g0:BA X d8 []:=by rfl):
  QX X (.Call (.Attribute o "split" apos) [.Constant (.str b) j p1] [] d8) (gB (kK b) fo):=⟨PX.imp (zi CO zP F.type_str_split JJ ho.h (iX AO ko hs) i5 j2 i4 hs g0) fun σ H Q hw=>by
 obtain⟨δ,T,rr,δ',E,e,k⟩:=hw;obtain⟨⟨o1,δ1⟩,h1,e⟩:=eU e;obtain⟨d,h2,e⟩:=eU e;obtain⟨z,h3,e⟩:=eU e;obtain⟨rfl,rfl⟩:=fK e;refine⟨δ,T,o1,δ1,E,h1,fun v H1 P=>?_⟩;have B:=Ops.cons E P (Ops.nil (P.er E));have vw:=B.view (j:=0) rfl rfl h2
 cases d with
 |str x=>
  obtain⟨⟨hy,hz⟩,rfl⟩:=fU h3;cases nG vw;exact⟨rfl,x,b,rfl,rfl,hy,hz,fun l hl=>(B.done k).lst hl (xh _)⟩
 |_=>cases h3⟩
theorem Sx(ho:QO X o fo)(i5:attributeBase o "partition" X.env (eval o X.env)=eval o X.env:=by rfl)
  (j2:((backTo d8 (starEach [.Constant (.str b) j p1] X.env)).all (fun x=>!x.1)&&(backToKw d8 (keywordEach [] X.env)).all (fun x=>x.1.isSome)&&decide ([(.Constant (.str b) j p1:Expr)].length+([]:List Keyword).length+(if([]:List Keyword).isEmpty then 0 else 1)<30))=true:=by rfl)
  (i4:(apos.endLine==d8.line)=true:=by rfl)(hs:SE X (.Constant (.str b) j p1) []:=by rfl)(g0:BA X d8 []:=by rfl):
  QX X (.Call (.Attribute o "partition" apos) [.Constant (.str b) j p1] [] d8) (gB (Fm b) fo):=⟨PX.imp (zi CO Hc F.type_str_partition Mv ho.h (iX AO ko hs) i5 j2 i4 hs g0) fun σ H Q hw=>by
 obtain⟨δ,T,rr,δ',E,e,k⟩:=hw;obtain⟨⟨o1,δ1⟩,h1,e⟩:=eU e;obtain⟨d,h2,e⟩:=eU e;obtain⟨z,h3,e⟩:=eU e;obtain⟨rfl,rfl⟩:=fK e;refine⟨δ,T,o1,δ1,E,h1,fun v H1 P=>?_⟩;have B:=Ops.cons E P (Ops.nil (P.er E));have vw:=B.view (j:=0) rfl rfl h2
 cases d with
 |str x=>
  obtain⟨⟨hy,hz⟩,rfl⟩:=fU h3;cases nG vw;exact⟨rfl,x,b,rfl,rfl,hy,hz,fun l hl=>(B.done k).tup hl (B.np (nOw hl)) (xh _)⟩
 |_=>cases h3⟩
theorem xJn(ha:QO X e fo)(i5:attributeBase (.Constant (.str b) j p1) "join" X.env (eval (.Constant (.str b) j p1) X.env)=eval (.Constant (.str b) j p1) X.env:=by rfl)
  (j2:((backTo d8 (starEach [e] X.env)).all (fun x=>!x.1)&&(backToKw d8 (keywordEach [] X.env)).all (fun x=>x.1.isSome)&&decide ([e].length+([]:List Keyword).length+(if([]:List Keyword).isEmpty then 0 else 1)<30))=true:=by rfl)
  (i4:(apos.endLine==d8.line)=true:=by rfl)(hs:SE X e []:=by rfl)(g0:BA X d8 []:=by rfl):
  QX X (.Call (.Attribute (.Constant (.str b) j p1) "join" apos) [e] [] d8) (gB (mh b) fo):=⟨PX.imp (zi CO F.slot_str_join F.type_str_join Mw AO (iX ha.h ko hs) i5 j2 i4 hs g0) fun σ H Q hw=>by
 obtain⟨δ,T,rr,δ',E,e,k⟩:=hw;obtain⟨⟨o1,δ1⟩,h1,e⟩:=eU e;obtain⟨d,h2,e⟩:=eU e;obtain⟨z,h3,e⟩:=eU e;obtain⟨rfl,rfl⟩:=fK e;refine⟨rfl,δ,T,o1,δ1,E,h1,fun v H1 P=>?_⟩;have B:=Ops.cons E P (Ops.nil (P.er E));have vw:=B.view (j:=0) rfl rfl h2
 cases d with
 |lst l=>
  obtain⟨ts,h4,h3⟩:=eU h3;obtain⟨hz,rfl⟩:=fU h3;obtain⟨a,xs,rfl,q,r⟩:=jf vw;cases Ih h4 r;exact⟨b,a,ts,rfl,rfl,q,hz,(B.done k).str⟩
 |_=>cases h3⟩
def Kp(c:Str)(fa:FO):F:=fun δ=>(fa δ).bind fun p=>match res p.2 p.1 with
 |some (.int i)=>if i.natAbs.log2<1920 then some ((.str ((Str.empty++Str.ofString (toString i))++c),false),p.2) else none
 |_=>none
theorem SA(ha:QO X a fa)(lv:v.length<=1000:=by decide):QX X (.JoinedStr [.FormattedValue a (-1) none p2,.Constant (.str v) j p3] pos) (Kp v fa):=⟨by
 intro pins s σ H Q I hw;obtain⟨δ,T,rr,δ',E,e,k⟩:=hw;obtain⟨⟨o1,δ1⟩,h1,e⟩:=eU e;dsimp only at e;split at e
 case h_2=>cases e
 rename_i i hi;obtain⟨l1,e⟩:=fU e;obtain⟨rfl,rfl⟩:=tq e;have z1:=int_text_length_le (k:=1920) (by decide) l1;have z0:Str.empty.length=0:=rfl;have sz:=gA;rw[<-PySem.ofString_length] at z1;refine JoinedStr_many (joinParts_cons (FormattedValue_plain (thn (ha.h pins _ σ H (fun v H1=>PostO X.K T σ δ H o1 δ1 v H1) I ⟨δ,T,o1,δ1,E,h1,fun _ _ P=>P⟩) fun w s1 ⟨x',H1,I1,r1,q1⟩=>?_)));have B:=Ops.cons E q1 (Ops.nil (q1.er E));cases gb (B.view (j:=0) rfl rfl hi);obtain⟨t,rfl⟩:=r1;refine formatField_int_small l1 ⟨by rw[wy];lia,?_⟩;refine joinParts_cons (Calls.Constant_str ⟨by rw[wy,wy];lia,?_⟩);exact joinParts_nil ⟨.str _,H1,((I1.tok _).tok _),⟨_,rfl⟩,(B.done k) _ H1 (fun _ _ e=>e) Rep.mkStr⟩ (by rw[wy,wy];lia)⟩
end
def Ct(fo:FO):FT:=fun δ=>(fo δ).bind fun p=>match res p.2 p.1 with
 |some (.tup l)=>some (!l.isEmpty,p.2)
 |_=>none
theorem tTt{X:Cx}{e:fw}{fo:FO}(h:QO X e fo)(he: ∀whole,isTrue e X.env whole=(do let v <-whole;standAt e.pos;holding [v] (truthy v)):=by exact fun _=>rfl):QT X e (Ct fo):=⟨PT.imp' (IT h.h he) fun σ H Q hw=>by
 obtain⟨δ,T,b,δ',E,e,k⟩:=hw;obtain⟨⟨o,δ1⟩,h1,e⟩:=eU e;refine⟨δ,T,o,δ1,E,h1,fun v H1 P=>?_⟩;dsimp only at e;split at e
 ·rename_i l hl;obtain⟨rfl,rfl⟩:=fK e;have B:=Ops.cons E P (Ops.nil (P.er E));obtain⟨a,xs,rfl,q,r⟩:=jm (B.view (j:=0) rfl rfl hl);refine⟨!l.isEmpty,.inr (.inl ⟨xs,q,?_⟩),k H1 B.keep (B.er.mono (fun _ _ e _=>e) (fun b _ z=>B.tt b z) (fun a z=>B.er.dom a (B.tt a z)))⟩;have:=r.length;cases l<;>cases xs<;>simp_all
 ·cases e⟩
def sMv(i j:Nat):FS:=fun δ=>match δ[j]? with
 |some (some (d,true))=>if i<δ.length/\i≠j then some (.nx ((δ.set j none).set i (some (d,true)))) else none
 |_=>none
section
variable {K:fO}{T:AP'}{σ:L2.St}{δ:Dn}{H:Hp}{A:gR}{i j:Nat}{d:D}{a:eX}
theorem xM(hd:δ[j]?=some (some (d,true)))(hs:σ[j]?=some (some (.ref a))){k:Nat}{b:eX}(h:OwnI (σ.set i (some (.ref a))) ((δ.set j none).set i (some (d,true))) k b):(k=i/\b=a)\/(k≠i/\k≠j/\OwnI σ δ k b):=by
 obtain⟨e,h1,h2⟩:=h;by_cases hk:k=i
 ·subst hk;left;refine⟨rfl,?_⟩;rw[rN] at h2;split at h2
  ·split at h2
   ·cases h2;rfl
   ·cases h2
  ·rename_i z;exact absurd rfl z
 ·rw[lu (kR hk)] at h1 h2;by_cases hj:k=j
  ·subst hj;rw[rN] at h1;split at h1
   ·split at h1<;>cases h1
   ·rename_i z;exact absurd rfl z
  ·rw[lu (kR hj)] at h1;exact .inr ⟨hk,hj,e,h1,h2⟩
theorem Rr(E:ER K H T σ δ)(hd:δ[j]?=some (some (d,true)))(hs:σ[j]?=some (some (.ref a)))(hi:i<δ.length)(m9:i≠j)(ai:A i)(aj:A j):
  SK A σ δ H (σ.set i (some (.ref a))) ((δ.set j none).set i (some (d,true))) H/\ER K H T (σ.set i (some (.ref a))) ((δ.set j none).set i (some (d,true))):=by
 have oj:OwnI σ δ j a:=⟨d,hd,hs⟩
 have ow: ∀b,OwnA (σ.set i (some (.ref a))) ((δ.set j none).set i (some (d,true))) b->OwnA σ δ b:=fun b ⟨k,e,h1,h2⟩=>by
  rcases xM hd hs ⟨e,h1,h2⟩ with⟨_,rfl⟩|⟨_,_,e',q1,q2⟩
  ·exact⟨j,d,hd,hs⟩
  ·exact⟨k,e',q1,q2⟩
 have sub: ∀b,H b≠none->(OwnA (σ.set i (some (.ref a))) ((δ.set j none).set i (some (d,true))) b\/T b)->OwnA σ δ b\/T b:=fun b _ z=>z.imp (ow b) id
 have get: ∀{k:Nat} {x:D×Bool},((δ.set j none).set i (some (d,true)))[k]?=some (some x)->(k=i/\x=(d,true))\/(k≠i/\k≠j/\δ[k]?=some (some x)):=fun {k x} h=>by
  by_cases hk:k=i
  ·subst hk;rw[oY (by rw[qP];exact hi)] at h;cases h;exact .inl ⟨rfl,rfl⟩
  ·rw[lu (kR hk)] at h;by_cases hj:k=j
   ·subst hj;rw[rN] at h;split at h
    ·split at h<;>cases h
    ·rename_i z;exact absurd rfl z
   ·rw[lu (kR hj)] at h;exact .inr ⟨hk,hj,h⟩
 refine⟨⟨fun _ _ e _=>e,fun k b z=>?_,fun _ z=>z,fun k hk=>lu fun(e:i=k)=>hk (e▸ai)⟩,⟨by simp[E.len],fun k e h=>?_,fun k e h=>?_,fun k l e f b h1 h2 h3 h4=>?_,fun b z=>E.nT b (ow b z),E.dom⟩⟩
 ·rcases xM hd hs z with⟨rfl,rfl⟩|⟨_,_,q⟩
  ·exact .inr (.inr ⟨ai,j,aj,oj⟩)
  ·exact .inl q
 ·rcases get h with⟨_,z⟩|⟨hk,_,h⟩
  ·cases z
  ·obtain⟨v,h1,h2⟩:=E.val k e h;exact⟨v,by rw[lu (kR hk)];exact h1,Rep.mono (fun _ _ e _=>e) sub h2⟩
 ·rcases get h with⟨rfl,z⟩|⟨hk,_,h⟩
  ·cases z;obtain⟨b,h1,h2⟩:=E.own j d hd;rw[hs] at h1;cases h1;exact⟨a,oY (by rw[E.len];exact hi),h2.mono (fun _ _ e _=>e) sub fun _ e=>e⟩
  ·obtain⟨b,h1,h2⟩:=E.own k e h;exact⟨b,by rw[lu (kR hk)];exact h1,h2.mono (fun _ _ e _=>e) sub fun _ e=>e⟩
 ·rcases xM hd hs ⟨e,h1,h3⟩ with⟨k1,rfl⟩|⟨k1,k2,e1,q1,q2⟩
  ·rcases xM hd hs ⟨f,h2,h4⟩ with⟨l1,_⟩|⟨_,l2,e2,g1,g2⟩
   ·rw[k1,l1]
   ·exact absurd (E.inj j l _ _ _ hd g1 hs g2).symm l2
  ·rcases xM hd hs ⟨f,h2,h4⟩ with⟨_,rfl⟩|⟨_,_,e2,g1,g2⟩
   ·exact absurd (E.inj j k _ _ _ hd q1 hs q2).symm k2
   ·exact E.inj k l _ _ _ q1 g1 q2 g2
end
section
variable {X:Cx}{A L:gR}{H0:Hp}{pos pos' b8:Pos}{i j:Nat}{x y:Str}
theorem OG(hN:X.N.Nodup)(hi:X.N[i]?=some x)(hx:Loc X.env.scope x)(hv:PO X (.Name y b8) (eV j))(hs:swapsWith (.Name y b8) (some (.Name x pos')) pos.line X.env=pure false)(hf:X.fn x=true\/X.env.scope.names.lookup x=some .local)(ai:A i)(aj:A j):
  PSX X A L H0 (.Assign [.Name x pos'] (.Name y b8) pos) (sMv i j):=PS.imp' (Jb hN hi hx hv hs hf) fun D σ H hw=>by
 obtain⟨δ,T,out,E,fi,e,k⟩:=hw;unfold sMv at e;split at e
 ·rename_i d hd;obtain⟨⟨hi,m9⟩,rfl⟩:=fU e;refine⟨δ,T,.slot j,δ,E,by unfold eV;rw[hd],fun v H1 P=>?_⟩;obtain⟨kp,E1,h2⟩:=P;obtain⟨a,h3,_⟩:=E1.own j d hd;rw[h2] at h3;cases h3;obtain⟨s1,e1⟩:=Rr (A:=A) E1 hd h2 hi m9 ai aj;exact k _ H1 (kp.sk.trans s1) e1
 ·cases e
theorem sMV(hN:X.N.Nodup)(hv:QO X (.Name y b8) (eV j))(hi:X.N[i]?=some x:=by rfl)(hx:Loc X.env.scope x:=by first|exact Or.inl rfl|exact Or.inr rfl)(hf:X.fn x=true\/X.env.scope.names.lookup x=some .local:=by first|exact Or.inl rfl|exact Or.inr rfl)(ai:A i:=by decide)(aj:A j:=by decide)(hs:swapsWith (.Name y b8) (some (.Name x pos')) pos.line X.env=pure false:=by rfl):QS X A L H0 (.Assign [.Name x pos'] (.Name y b8) pos) (sMv i j):=⟨OG hN hi hx hv.h hs hf ai aj⟩
theorem gT3{a b c:fw}{t1 t2 t3:Tg}{k:Nat}(h1:QG X A a t1)(h2:QG X A b t2)(h3:QG X A c t3)(hc:X.calm=true:=by rfl)(q1:(assignEach [a,b,c] X.env).map (·.2)=assign a X.env::(assignEach [b,c] X.env).map (·.2):=by rfl)(q2:(assignEach [b,c] X.env).map (·.2)=assign b X.env::(assignEach [c] X.env).map (·.2):=by rfl)(q3:(assignEach [c] X.env).map (·.2)=assign c X.env::(assignEach [] X.env).map (·.2):=by rfl)
  (hn:(assignEach [a,b,c] X.env).length=3:=by rfl)(l5:(assignEach [a,b,c] X.env).findIdx? (·.1)=none:=by rfl):QG X A (.Tuple [a,b,c] k pos) (mI [t1,t2,t3]):=⟨AN hc (kY h1.h (kY h2.h (kY h3.h xo q3) q2) q1) hn rfl l5⟩
theorem xIS{e:fw}{fa:FO}{p p2:Pos}(T:Tx X.mg)(hm:X.mg "str"=none)(ha:QO X e fa)(hg:Gl X "isinstance":=by rfl)(aL:Gl X "str":=by rfl)
  (s1:SE X e [.Name "str" p2]:=by rfl)(s2:SE X (.Name "str" p2) []:=by rfl)(h9:BA X pos [.Name "str" p2]:=by rfl):
  QX X (.Call (.Name "isinstance" p) [e,.Name "str" p2] [] pos) (gB (mz [.str]) fa):=⟨IQ ha.h hg T.n_isinstance aL hm (by decide+kernel) (by decide) (by decide) nq s1 s2 h9⟩
end
theorem ozD{Z:ZZ}{k:Nat}{x:Str}{st:Stmt}{N ps:fV}{asg:hV}{fs:FS}(a:Fz Z.K Z.mg x st)(S:FnScope N ps (fA st))(hb:Bd Z k x st N ps asg fs)(b:BdA x st ps:=by intro _ _ _ _ _ _;repeat' (first|exact us0 rfl|refine us1 fun _=>?_)):Oz Z (k+1) x ps (evF N.length ps.length asg fs):=ozB a S b hb
end PX
set_option backward.eqns.nonrecursive true
namespace PV
open PySem PySem.Spec PyProof.Rows L2 PX
noncomputable abbrev R5:Nat:=100000
abbrev RD:Nat:=6
def vP:FS:=(fg (gK (ur (gB (mz [.int]) (eV 0)) (MO (gB (mz [.bool]) (eV 0))))) fF)
def lz:EvF:=evF 1 1 [] vP
def oq:FS:=(fg (gK (ur (fj lz [(eV 0)]) (mq .LtE .LtE (eV 1) (eV 0) (eV 2)))) fF)
def ju:EvF:=evF 3 3 [] oq
def ye:FS:=(fg (gK (fj ju [(eV 1),(eW (fC (.int 1))),(eV 0)])) fF)
def ox:EvF:=evF 2 2 [] ye
def sD:FS:=(fg (gK (ur (fj lz [(eV 1)]) (fj ox [(eV 0),(eW (fE (g1 om) [(eV 1)]))]))) fF)
def jJ:EvF:=evF 2 2 [] sD
def kg:FS:=(fg (sIf (wd (iF (fT (gB (mz [.tuple]) (eV 1)))) (fT (fD gNe (eW (fE (g1 ly) [(eV 1)])) (eV 0)))) (fg (gK (fC (.bl false))) fF) fF) (fg (sIf (iF (fT (fE (g1 vZ) [(eW (gh [0] 1 (gg (gz 1)) (fk 1) gq (gn (fj jJ [(eV 0),(eV 1)]))))]))) (fg (gK (fC (.bl false))) fF) fF) (fg (gK (fD gEq (eW (qy [] 1 (gg (gz 1)) (fk 0) gq (yy (fE (g1 om) [(eV 0)])))) (eV 0))) fF)))
def iM:EvF:=evF 2 2 [] kg
def ml:FS:=(fg (sIf (fT (fD (kf .Lt) (eV 1) (eW (fE (g1 ly) [(eV 0)])))) (fg (gK (fD gIx (eV 0) (eV 1))) fF) fF) (fg (gK (fC (.int 0))) fF))
def jI:EvF:=evF 2 2 [] ml
def oo:FS:=(fg (gu 2 (fj jI [(eV 0),(eV 1)])) (fg (sIf (fT (fD (kf .GtE) (eV 2) (eW (fD GK (eW (fC (.int 10))) (eW (fC (.int 18))))))) (fg (gK (jx [(fD gSub (eV 2) (eW (fD GK (eW (fC (.int 10))) (eW (fC (.int 18)))))),(fC (.bl true))])) fF) fF) (fg (gK (jx [(fD uk (eV 2) (eW (fC (.int 2147483647)))),(fC (.bl false))])) fF)))
def jt:EvF:=evF 3 2 [2] oo
def qe:FS:=(fg (sIf (fT (fD gIx (eV 0) (eW (fC (.int 1))))) (fg (gu 2 (fD uk (eW (fD gIx (eV 0) (eW (fC (.int 0))))) (eV 1))) (fg (vh 0 (fD Kk (eW (fD gIx (eV 0) (eW (fC (.int 0))))) (eV 1)) (eW (fC (.int 0)))) (fg (jM 2) fF))) fF) (fg (vh 0 (fD uk (eW (fD jc (eW (fD oS (eW (fD gIx (eV 0) (eW (fC (.int 0))))) (eW (fC (.int 48271))))) (eW (fC (.int 29))))) (eW (fC (.int 2147483647)))) (eW (fC (.int 0)))) (fg (gu 3 (fD uk (eW (fD jc (eW (fD jc (eW (fD oS (eW (fD gIx (eV 0) (eW (fC (.int 0))))) (eW (fD gIx (eV 0) (eW (fC (.int 0))))))) (eW (fD oS (eW (fC (.int 39373))) (eW (fD gIx (eV 0) (eW (fC (.int 0))))))))) (eW (fC (.int 7))))) (eW (fC (.int 2147483629))))) (fg (gu 3 (fD uk (eW (fD jc (eW (fD oS (eV 3) (eV 3))) (eW (fD oS (eW (fC (.int 16807))) (eV 3))))) (eW (fC (.int 2147483587))))) (fg (gK (fD uk (eW (fD Kk (eV 3) (eW (fC (.int 8))))) (eV 1))) fF)))))
def fG:EvF:=evF 4 2 [2,3] qe
def yb:FS:=(fg (gu 2 (fE (gRg .lst true) [(eW (fC (.int 1))),(eW (fD jc (eV 1) (eW (fC (.int 1)))))])) (fg (gu 3 (jx [])) (fg (lN (qc (eV 1)) (fk 4) (fg (jW (jQ 3 (fD oS (eW (ni 2 (eW (fj fG [(eV 0),(eW (fE (g1 ly) [(eV 2)]))])))) (eW (fD gIx (eW (jx [(fC (.int 1)),(gB su (eW (fC (.int 1))))])) (eW (fj fG [(eV 0),(eW (fC (.int 2)))]))))))) fF)) (fg (gK (fE (g1 jj) [(eV 3)])) fF))))
def il:EvF:=evF 5 2 [2,3,4] yb
def yd:FS:=(fg (gK (ur (gB (mz [.tuple]) (eV 0)) (fD gEq (eW (fE (g1 ly) [(eV 0)])) (eW (fC (.int 2)))))) fF)
def ou:EvF:=evF 1 1 [] yd
def Bi:FS:=(fg (gK (fE (g1 vZ) [(eW (gh [] 2 (vO (gz 0) (oK (eV 0) (eW (fC (.int 1))))) (mI [(fk 0),(fk 1)]) gq (gn (fD (kf .Lt) (eV 0) (eV 1)))))])) fF)
def lQ:EvF:=evF 1 1 [] Bi
def Bk:FS:=(fg (sIf (wd (iF (fT (gB (mz [.tuple]) (eV 1)))) (iF (fT (mq .LtE .LtE (eW (fC (.int 1))) (eW (fE (g1 ly) [(eV 1)])) (eW (fC (.int 5))))))) (fg (gK (fC (.bl false))) fF) fF) (fg (sIf (iF (fT (fE (g1 vZ) [(eW (gh [0] 1 (gg (gz 1)) (fk 1) gq (gn (fj jJ [(eV 0),(eV 1)]))))]))) (fg (gK (fC (.bl false))) fF) fF) (fg (gK (fj lQ [(eW (gh [] 1 (gg (gz 1)) (fk 0) gq (gn (fE (g1 om) [(eV 0)]))))])) fF)))
def kM:EvF:=evF 2 2 [] Bk
def yh:FS:=(fg (sIf (wd (iF (fT (gB (mz [.tuple]) (eV 1)))) (fT (fD (kf .Gt) (eW (fE (g1 ly) [(eV 1)])) (eW (fC (.int 30)))))) (fg (gK (fC (.bl false))) fF) fF) (fg (gK (ur (fE (g1 vZ) [(eW (gh [0] 1 (gg (gz 1)) (fk 1) gq (gn (fj kM [(eV 0),(eV 1)]))))]) (fj lQ [(eV 1)]))) fF))
def mv:EvF:=evF 2 2 [] yh
def Bj:FS:=(fg (sIf (iF (fT (fj ou [(eV 0)]))) (fg (gK (fC (.bl false))) fF) fF) (fg (DL (mI [(fk 1),(fk 2)]) (gz 0)) (fg (gK (ur (fj ju [(eV 1),(eW (fC (.int 0))),(eW (fC (.int 5)))]) (fj mv [(eV 1),(eV 2)]))) fF)))
def ot:EvF:=evF 3 1 [1,2] Bj
def yT:FS:=(fg (gu 2 (fD gIx (eW (jx [(fC (.int 3)),(fC (.int 4)),(fC (.int 6))])) (eW (fj fG [(eV 0),(eW (fC (.int 3)))])))) (fg (gu 3 (jx [])) (fg (lN (vq (eW (fC (.int 1))) (eW (fD jc (eV 1) (eW (fC (.int 1)))))) (fk 4) (fg (gu 5 (fj fG [(eV 0),(eV 2)])) (fg (sIf (fT (fD (kf .Lt) (eV 5) (eW (fC (.int 2))))) (fg (jW (jQ 3 (fD gIx (eW (jx [(gz 4),(gB su (eV 4))])) (eV 5)))) fF) fF) fF))) (fg (sIf (fT (fD gEq (eV 3) (eW (jx [])))) (fg (jW (jQ 3 (fD oS (eW (fD gIx (eW (jx [(fC (.int 1)),(gB su (eW (fC (.int 1))))])) (eW (fj fG [(eV 0),(eW (fC (.int 2)))])))) (eW (fD jc (eW (fC (.int 1))) (eW (fj fG [(eV 0),(eV 1)]))))))) fF) fF) (fg (gK (fE (g1 jj) [(eV 3)])) fF)))))
def lj:EvF:=evF 6 2 [2,3,4,5] yT
def oJ:FS:=(fg (gK (fD oS (eW (fD gIx (eV 0) (eW (fD gSub (eW (fE (g1 om) [(eV 1)])) (eW (fC (.int 1))))))) (eW (fD gIx (eW (jx [(gB su (eW (fC (.int 1)))),(fC (.int 1))])) (eW (fE (g1 MH) [(eW (fD (kf .Gt) (eV 1) (eW (fC (.int 0)))))])))))) fF)
def jv:EvF:=evF 2 2 [] oJ
def um:FS:=(fg (gu 2 Kq) (fg (lN (gg (gz 1)) (fk 3) (fg (gu 4 (fj jv [(eV 0),(eV 3)])) (fg (BO 2 (gz 4) (eW (fE (g1 om) [(eV 4)]))) fF))) (fg (gK (fE (g1 jj) [(eW (gh [2] 1 (gg (fE (g1 jh) [(eV 2)])) (fk 1) gq (gn (fD Cp (eV 0) (eV 1)))))])) fF)))
def iB:EvF:=evF 5 2 [2,3,4] um
def yS:FS:=(fg (gu 2 (fE (g1 Fn) [(eV 0)])) (fg (gu 3 (fC (.int 0))) (fg (mn (fT (fD (kf .Lt) (eV 3) (eW (fE (g1 ly) [(eV 2)])))) (fg (lN (gg (gz 1)) (fk 4) (fg (gu 5 (fj iB [(eV 4),(eW (fD gIx (eV 2) (eV 3)))])) (fg (sIf (fT (fD vz (eV 5) (eV 2))) (fg (jW (jQ 2 (gz 5))) fF) fF) fF))) (fg (gu 3 (fD jc (eV 3) (eW (fC (.int 1))))) fF)) R5) (fg (jM 2) fF))))
def lh:EvF:=evF 6 2 [2,3,4,5] yS
def yR:FS:=(fg (gu 3 (fD jc (eV 1) (eW (fj fG [(eV 0),(eW (fD jc (eW (fD gSub (eV 2) (eV 1))) (eW (fC (.int 1)))))])))) (fg (gu 4 (fj fG [(eV 0),(eW (fC (.int 4)))])) (fg (sIf (fT (fD gEq (eV 3) (eW (fC (.int 0))))) (fg (gK (jB [(fC (.int 0)),(jB [])])) fF) fF) (fg (gu 5 (fj fG [(eV 0),(eW (fD gIx (eW (jx [(fC (.int 4)),(fC (.int 8)),(fC (.int 13))])) (eW (fj fG [(eV 0),(eW (fC (.int 3)))]))))])) (fg (gu 6 (gh [0,3] 1 (qc (eV 5)) (fk 2) gq (gn (fj lj [(eV 0),(eV 1)])))) (fg (sIf (fT (fD (kf .Gt) (eV 4) (eW (fC (.int 0))))) (fg (gu 7 (gh [0,3] 1 (qc (eW (fD jc (eW (fC (.int 1))) (eW (fD uk (eV 4) (eW (fC (.int 2)))))))) (fk 2) gq (gn (fj il [(eV 0),(eV 1)])))) (fg (sIf (fT (fD gEq (eV 4) (eW (fC (.int 3))))) (fg (gu 7 (gh [] 1 (gg (gz 7)) (fk 0) gq (gn (fE (g1 jj) [(eW (gh [] 1 (gg (gz 0)) (fk 0) gq (gn (fE (g1 om) [(eV 0)]))))])))) fF) fF) (fg (gu 6 (fj lh [(eW (uq (eW (fE (g1 jh) [(eW (fE (g1 Eg) [(eV 6)]))])) (eW (fC (.int 2))))),(eV 7)])) fF))) fF) (fg (gu 6 (fE (g1 jh) [(eW (fE (g1 Eg) [(eV 6)]))])) (fg (sIf (fT (fD (kf .Gt) (eW (fE (g1 ly) [(eV 6)])) (eW (fC (.int 30))))) (fg (gu 6 (uq (eV 6) (eW (fj fG [(eV 0),(eW (fC (.int 30)))])))) fF) fF) (fg (gK (jB [(gz 3),(fE (g1 jj) [(eV 6)])])) fF)))))))))
def kh:EvF:=evF 8 3 [3,4,5,6,7] yR
def sA:FS:=(fg (gu 1 (jx [(jB [])])) (fg (lN (qc (eV 0)) (fk 2) (fg (gu 3 (jx [])) (fg (lN (gg (gz 1)) (fk 4) (fg (jW (mR 3 (gh [4] 1 (gg (jB [(fC (.int 0)),(fC (.int 1))])) (fk 1) gq (gn (fD jc (eV 0) (eW (jB [(gz 1)]))))))) fF)) (fg (gu 1 (gz 3)) fF)))) (fg (jM 1) fF)))
def iU:EvF:=evF 5 1 [1,2,3,4] sA
def Bl:FS:=(fg (gK (gh [] 1 (vq (eW (gB su (eV 0))) (eW (fD jc (eV 0) (eW (fC (.int 1)))))) (fk 0) (fT (fD gNe (eV 0) (eW (fC (.int 0))))) (gn (gz 0)))) fF)
def jS:EvF:=evF 1 1 [] Bl
def gD(ev:EvF):FS:=(fg (sIf (fT (gB (mz [.list,.tuple]) (eV 1))) (fg (sIf (wd (fT (fD gNe (eW (gB (mz [.list]) (eV 0))) (eW (gB (mz [.list]) (eV 1))))) (fT (fD gNe (eW (gB (mz [.tuple]) (eV 0))) (eW (gB (mz [.tuple]) (eV 1)))))) (fg (gK (fC (.bl false))) fF) fF) (fg (gK (ur (fD gEq (eW (fE (g1 ly) [(eV 0)])) (eW (fE (g1 ly) [(eV 1)]))) (fE (g1 vZ) [(eW (gh [] 2 (qb (eV 0) (eV 1)) (mI [(fk 0),(fk 1)]) gq (gn (fj ev [(eV 0),(eV 1)]))))]))) fF)) fF) (fg (gK (ur (fD gEq (eW (gB (mz [.bool]) (eV 0))) (eW (gB (mz [.bool]) (eV 1)))) (fD gEq (eV 0) (eV 1)))) fF))
def fv:Nat->EvF
 |0=>fun _=>none
 |m+1=>evF 2 2 [] (gD (fv m))
def yf:FS:=(fg (gK (gB (mh "/") (eW (gh [] 1 (gg (gz 0)) (fk 0) gq (gn (fE (g1 oR) [(eV 0)])))))) fF)
def jK:EvF:=evF 1 1 [] yf
def xY:FS:=(fg (DL (mI [(fk 1),(fk 2)]) (gz 0)) (fg (gK (gB (mh " ") (eW (fD jc (eW (jx [(Kp ":" (eV 1))])) (eW (gh [] 1 (gg (gz 2)) (fk 0) gq (gn (fj jK [(eV 0)])))))))) fF))
def iP:EvF:=evF 3 1 [1,2] xY
def yi:FS:=(fg (gK (fIf (Ct (eV 0)) (gB (mh "") (eW (gh [] 1 (gg (gz 0)) (fk 0) gq (gn (fE (g1 oR) [(eV 0)]))))) (fC (.str "none")))) fF)
def jq:EvF:=evF 1 1 [] yi
def wa:FS:=(fg (gK (fIf (Ct (eV 0)) (gB (mh " ") (eW (gh [] 1 (gg (gz 0)) (fk 0) gq (gn (fE (g1 oR) [(eV 0)]))))) (fC (.str "none")))) fF)
def jd:EvF:=evF 1 1 [] wa
def yU:FS:=(fg (sIf (iF (fT (gB (mz [.str]) (eV 0)))) (fg rW fF) fF) fF)
def ll:EvF:=evF 1 1 [] yU
def ya:FS:=(fg (lN (gg (gz 1)) (fk 2) (fg (sIf (fT (fD gEq (eW (fE (g1 oR) [(eV 2)])) (eV 0))) (fg (jM 2) fF) fF) fF)) (fg rW fF))
def iQ:EvF:=evF 3 2 [2] ya
def yg:FS:=(fg (gu 2 (fE (g1 jj) [(eW (gh [0] 1 (gg (gB (kK "/") (eV 1))) (fk 1) gq (gn (fj iQ [(eV 1),(eW (fj jS [(eV 0)]))]))))])) (fg (sIf (iF (fT (fj kM [(eV 0),(eV 2)]))) (fg rW fF) fF) (fg (jM 2) fF)))
def jL:EvF:=evF 3 2 [2] yg
def xZ:FS:=(fg (jW (fj ll [(eV 0)])) (fg (DL (mI [(fk 1),(fk 2),(fk 3)]) (gB (Fm ":") (eV 0))) (fg (gu 4 (fj iQ [(eV 1),(eW (fE (gRg .lst true) [(eW (fD jc (eW (fC (.int 5))) (eW (fC (.int 1)))))]))])) (fg (gu 5 (jB [(gz 4),(fE (g1 jj) [(eW (gh [4] 1 (gg (oK (eW (gB (kK " ") (eV 3))) (eW (fC (.int 1))))) (fk 1) gq (gn (fj jL [(eV 0),(eV 1)]))))])])) (fg (sIf (wd (iF (fT (fj ot [(eV 5)]))) (fT (fD gNe (eW (fj iP [(eV 5)])) (eV 0)))) (fg rW fF) fF) (fg (jM 5) fF))))))
def kL:EvF:=evF 6 1 [1,2,3,4,5] xZ
def wc:FS:=(fg (jW (fj ll [(eV 0)])) (fg (sIf (fT (fD gEq (eV 0) (eW (fC (.str "none"))))) (fg (gK (jB [])) fF) fF) (fg (gu 1 (fE (g1 jj) [(eW (gh [] 1 (gg (gB (kK " ") (eV 0))) (fk 0) gq (gn (fj iQ [(eV 0),(eW (fj jS [(eW (fC (.int 5)))]))]))))])) (fg (sIf (iF (fT (fj iM [(eW (fE (g1 ly) [(eV 1)])),(eV 1)]))) (fg rW fF) fF) (fg (jM 1) fF)))))
def km:EvF:=evF 2 1 [1] wc
def sx:FS:=(fg (gK (gB (mh "/") (eW (gh [] 1 (gg (gz 0)) (fk 0) gq (gn (fE (g1 oR) [(eV 0)])))))) fF)
def iR:EvF:=evF 1 1 [] sx
def sv:FS:=(fg (gK (gB (mh " ") (eW (fD jc (eW (jx [(fD jc (eW (fE (g1 oR) [(eW (fD gIx (eV 0) (eW (fC (.int 0)))))])) (eW (fC (.str ":"))))])) (eW (gh [] 1 (gg (fD gIx (eV 0) (eW (fC (.int 1))))) (fk 0) gq (gn (fj iR [(eV 0)])))))))) fF)
def gQ:EvF:=evF 1 1 [] sv
def sy:FS:=(fg (sIf (fT (fD gEq (eV 0) (eW (jB [])))) (fg (gK (fC (.str "none"))) fF) fF) (fg (gK (gB (mh "") (eW (gh [] 1 (gg (gz 0)) (fk 0) gq (gn (fE (g1 oR) [(eV 0)])))))) fF))
def iT:EvF:=evF 1 1 [] sy
def qJ:FS:=(fg (sIf (fT (fD gEq (eV 0) (eW (jB [])))) (fg (gK (fC (.str "none"))) fF) fF) (fg (gK (gB (mh " ") (eW (gh [] 1 (gg (gz 0)) (fk 0) gq (gn (fE (g1 oR) [(eV 0)])))))) fF))
def gF:EvF:=evF 1 1 [] qJ
def Bh:FS:=(fg (gu 1 (jx [(jB [])])) (fg (lN (vq (eW (fC (.int 1))) (eW (fC (.int 6)))) (fk 2) (fg (gu 3 (jx [])) (fg (lN (gg (gz 1)) (fk 4) (fg (jW (mR 3 (jx [(fD jc (eV 4) (eW (jB [(gz 2)]))),(fD jc (eV 4) (eW (jB [(gB su (eV 2))])))]))) fF)) (fg (sMv 1 3) fF)))) (fg (jW (ni 1 (eW (fj fG [(eV 0),(eW (fC (.int 32)))])))) (fg (jW (ni 1 (eW (fj fG [(eV 0),(eW (fC (.int 31)))])))) (fg (gK (jB [(fC (.int 5)),(fE (g1 jj) [(eW (fE (g1 mQ) [(eV 1)]))])])) fF)))))
def lP:EvF:=evF 5 1 [1,2,3,4] Bh
def yc:FS:=(fg (lN (qc (eW (fE (g2 Kj) [(eW (fC (.int 1))),(eW (fE (g2 Ki) [(eW (fE (g1 ly) [(eV 0)])),(eW (fC (.int 10)))]))]))) (fk 1) (fg (gu 2 (fj jt [(eV 0),(eV 1)])) (fg (gu 3 (fj kh [(eV 2),(eW (fC (.int 0))),(eW (fC (.int 5)))])) (fg (sIf (fT (fD gEq (eW (fj fG [(eV 2),(eW (fC (.int 4)))])) (eW (fC (.int 0))))) (fg (gu 3 (fj lP [(eV 2)])) fF) fF) (fg (gu 4 (fj iU [(eW (fD gIx (eV 3) (eW (fC (.int 0)))))])) (fg (gu 5 (fD gIx (eV 4) (eW (fj fG [(eV 2),(eW (fE (g1 ly) [(eV 4)]))])))) (fg (gu 6 (fj il [(eV 2),(eW (fD gIx (eV 3) (eW (fC (.int 0)))))])) (fg (sIf (iF (fT (fj (fv RD) [(eW (fj iP [(eV 3)])),(eW (fj gQ [(eV 3)]))]))) (fg (gK (fC (.bl false))) fF) fF) (fg (sIf (iF (fT (fj (fv RD) [(eW (fj jq [(eV 5)])),(eW (fj iT [(eV 5)]))]))) (fg (gK (fC (.bl false))) fF) fF) (fg (sIf (iF (fT (fj (fv RD) [(eW (fj jd [(eV 6)])),(eW (fj gF [(eV 6)]))]))) (fg (gK (fC (.bl false))) fF) fF) (fg (lN (qc (eW (fC (.int 2)))) (fk 7) (fg (sIf (iF (fT (fj (fv RD) [(eW (fj kL [(eW (fj gQ [(eV 3)]))])),(eV 3)]))) (fg (gK (fC (.bl false))) fF) fF) (fg (sIf (iF (fT (fj (fv RD) [(eW (fj km [(eW (fj gF [(eV 6)]))])),(eV 6)]))) (fg (gK (fC (.bl false))) fF) fF) fF))) fF))))))))))) (fg (gK (ur (fD gEq (eW (fj iP [(eW (jB [(fC (.int 0)),(jB [])]))])) (eW (fC (.str "0:")))) (ur (fD gEq (eW (fj jq [(eW (jB []))])) (eW (fC (.str "none")))) (fD gEq (eW (fj jd [(eW (jB []))])) (eW (fC (.str "none"))))))) fF))
def rm:EvF:=evF 8 1 [1,2,3,4,5,6,7] yc
end PV
namespace K91
open PySem PySem.Spec PyProof.Rows L2 PX PV
noncomputable def top(i:Nat):Stmt:=PySem.Challenge.pw_twinriddles_k91_texts_written_and_read.main.body.getD i (.Pass ⟨0,0,0,0⟩)
section
variable {Z:ZZ}{k:Nat}
noncomputable abbrev rV:Stmt:=top 7
abbrev sh(Z:ZZ)(k:Nat):Prop:=Oz Z k "is_whole" ["thing"] lz
theorem B6(a:Fz Z.K Z.mg "is_whole" rV)(T:Tx Z.mg):sh Z (k+1):=by
 have S:FnScope ["thing"] ["thing"] (fA rV):=scM;refine ozD a S fun f f6 A outer s H E L hL hr hu j0 j1 j5 nd=>?_;exact(s1 (sR (yG (xI T rfl xV) (xBo (Sy (xI T rfl xV))))) s0)
noncomputable abbrev pP:Stmt:=top 8
abbrev pY(Z:ZZ)(k:Nat):Prop:=Oz Z k "is_number" ["thing","least","most"] ju
theorem AZ(a:Fz Z.K Z.mg "is_number" pP)(T:Tx Z.mg)(k6:sh Z k):pY Z (k+1):=by
 have S:FnScope ["thing","least","most"] ["thing","least","most"] (fA pP):=scM;refine ozD a S fun f f6 A outer s H E L hL hr hu j0 j1 j5 nd=>?_;exact(s1 (sR (yG (xU k6 hr (xA xV xA0)) (xBo (xCh xV xV xV)))) s0)
noncomputable abbrev vg:Stmt:=top 9
abbrev zk(Z:ZZ)(k:Nat):Prop:=Oz Z k "is_name" ["names","thing"] ox
theorem D4(a:Fz Z.K Z.mg "is_name" vg)(T:Tx Z.mg)(j9:pY Z k):zk Z (k+1):=by
 have S:FnScope ["names","thing"] ["names","thing"] (fA vg):=scM;refine ozD a S fun f f6 A outer s H E L hL hr hu j0 j1 j5 nd=>?_;exact(s1 (sR (xU j9 hr (xA xV (xA (xO x3) (xA xV xA0))))) s0)
noncomputable abbrev ve:Stmt:=top 10
abbrev vn(Z:ZZ)(k:Nat):Prop:=Oz Z k "is_sign" ["names","thing"] jJ
theorem D2(a:Fz Z.K Z.mg "is_sign" ve)(T:Tx Z.mg)(k6:sh Z k)(O_is_name:zk Z k):vn Z (k+1):=by
 have S:FnScope ["names","thing"] ["names","thing"] (fA ve):=scM;refine ozD a S fun f f6 A outer s H E L hL hr hu j0 j1 j5 nd=>?_;exact(s1 (sR (yG (xU k6 hr (xA xV xA0)) (xBo (xU O_is_name hr (xA xV (xA (xO (xB T rfl ⟨lT⟩ (xA xV xA0))) xA0)))))) s0)
abbrev vf:Stmt:=top 11
abbrev zj(Z:ZZ)(k:Nat):Prop:=Oz Z k "is_pair" ["thing"] ou
theorem D3(a:Fz Z.K Z.mg "is_pair" vf)(T:Tx Z.mg):zj Z (k+1):=by
 have S:FnScope ["thing"] ["thing"] (fA vf):=scM;refine ozD a S fun f f6 A outer s H E L hL hr hu j0 j1 j5 nd=>?_;exact(s1 (sR (yG (xI T rfl xV) (xBo (yF ⟨(kc hu)⟩ (xO (xB T rfl ⟨iO⟩ (xA xV xA0))) (xO x3))))) s0)
noncomputable abbrev pN:Stmt:=top 12
abbrev pX(Z:ZZ)(k:Nat):Prop:=Oz Z k "is_rising" ["things"] lQ
theorem AX(a:Fz Z.K Z.mg "is_rising" pN)(T:Tx Z.mg):pX Z (k+1):=by
 have S:FnScope ["things"] ["things"] (fA pN):=scM;refine ozD a S fun f f6 A outer s H E L hL hr hu j0 j1 j5 nd=>?_;exact(s1 (sR (xB T rfl ⟨(nQ rfl)⟩ (xA (xO (by exact xC (N':=["one","other"]) (cOk S) (by decide+kernel) (iZ T xW (Qf xV (xO x3))) fun _ _ _ _ _ _ nd=>⟨(gT (gN nd) (gN nd)),f0,fun _=>bE (yF ⟨(lO (.inl rfl) hu)⟩ xV xV)⟩)) xA0))) s0)
noncomputable abbrev pQ:Stmt:=top 13
abbrev pZ(Z:ZZ)(k:Nat):Prop:=Oz Z k "is_clause" ["names","thing"] kM
theorem A0(a:Fz Z.K Z.mg "is_clause" pQ)(T:Tx Z.mg)(j4: ∃t,Z.mg "MOST_SIGNS"=some (.int 5 t))(k8:vn Z k)(j8:pX Z k):pZ Z (k+1):=by
 have S:FnScope ["names","thing"] ["names","thing"] (fA pQ):=scM;refine ozD a S fun f f6 A outer s H E L hL hr hu j0 j1 j5 nd=>?_;exact(s1 (sI (tW (wOr (tNot (pJ (xI T rfl xV))) (HQ (tNot (tCh (xO x3) (xO (xB T rfl ⟨iO⟩ (xA xV xA0))) (xO (x5 j4))))))) (s1 (sR x2) s0) s0) (s1 (sI (tNot (pJ (xB T rfl ⟨(nQ rfl)⟩ (xA (xO (by exact xC (N':=["names","sign"]) (cOk S) (by decide+kernel) (iS xW) fun _ _ _ _ _ _ nd=>⟨(gN nd),f0,fun _=>bE (xU k8 hr (xA xV (xA xV xA0)))⟩)) xA0)))) (s1 (sR x2) s0) s0) (s1 (sR (xU j8 hr (xA (xO (by exact xC (N':=["sign"]) (cOk S) (by decide+kernel) (iS xW) fun _ _ _ _ _ _ nd=>⟨(gN nd),f0,fun _=>bE (xB T rfl ⟨lT⟩ (xA xV xA0))⟩)) xA0))) s0)))
abbrev mZ:Stmt:=top 14
abbrev rd(Z:ZZ)(k:Nat):Prop:=Oz Z k "are_clauses" ["names","thing"] mv
theorem xG(a:Fz Z.K Z.mg "are_clauses" mZ)(T:Tx Z.mg)(i7: ∃t,Z.mg "MOST_CLAUSES"=some (.int 30 t))(k0:pZ Z k)(j8:pX Z k):rd Z (k+1):=by
 have S:FnScope ["names","thing"] ["names","thing"] (fA mZ):=scM;refine ozD a S fun f f6 A outer s H E L hL hr hu j0 j1 j5 nd=>?_;exact(s1 (sI (tW (wOr (tNot (pJ (xI T rfl xV))) (HQ (tCmp ⟨(lO (.inr (.inr (.inl rfl))) hu)⟩ (xO (xB T rfl ⟨iO⟩ (xA xV xA0))) (xO (x5 i7)))))) (s1 (sR x2) s0) s0) (s1 (sR (yG (xB T rfl ⟨(nQ rfl)⟩ (xA (xO (by exact xC (N':=["names","clause"]) (cOk S) (by decide+kernel) (iS xW) fun _ _ _ _ _ _ nd=>⟨(gN nd),f0,fun _=>bE (xU k0 hr (xA xV (xA xV xA0)))⟩)) xA0)) (xBo (xU j8 hr (xA xV xA0))))) s0))
abbrev pO:Stmt:=top 15
abbrev vL(Z:ZZ)(k:Nat):Prop:=Oz Z k "is_riddle" ["thing"] ot
theorem AY(a:Fz Z.K Z.mg "is_riddle" pO)(T:Tx Z.mg)(c9: ∃t,Z.mg "MOST_NAMES"=some (.int 5 t))(O_is_pair:zj Z k)(j9:pY Z k)(O_are_clauses:rd Z k):vL Z (k+1):=by
 have S:FnScope ["thing","names","clauses"] ["thing"] (fA pO):=scM;refine ozD a S fun f f6 A outer s H E L hL hr hu j0 j1 j5 nd=>?_;exact(s1 (sI (tNot (pJ (xU O_is_pair hr (xA xV xA0)))) (s1 (sR x2) s0) s0) (s1 (sT xW (gT (gN nd) (gN nd))) (s1 (sR (yG (xU j9 hr (xA xV (xA (xO x3) (xA (xO (x5 c9)) xA0)))) (xBo (xU O_are_clauses hr (xA xV (xA xV xA0)))))) s0)))
noncomputable abbrev nW:Stmt:=top 17
abbrev ue(Z:ZZ)(k:Nat):Prop:=Oz Z k "is_turning" ["names","thing"] iM
theorem yM(a:Fz Z.K Z.mg "is_turning" nW)(T:Tx Z.mg)(k8:vn Z k):ue Z (k+1):=by
 have S:FnScope ["names","thing"] ["names","thing"] (fA nW):=scM;refine ozD a S fun f f6 A outer s H E L hL hr hu j0 j1 j5 nd=>?_;exact(s1 (sI (tW (wOr (tNot (pJ (xI T rfl xV))) (HQ (tCmp ⟨(xt hu)⟩ (xO (xB T rfl ⟨iO⟩ (xA xV xA0))) xV)))) (s1 (sR x2) s0) s0) (s1 (sI (tNot (pJ (xB T rfl ⟨(nQ rfl)⟩ (xA (xO (by exact xC (N':=["names","sign"]) (cOk S) (by decide+kernel) (iS xW) fun _ _ _ _ _ _ nd=>⟨(gN nd),f0,fun _=>bE (xU k8 hr (xA xV (xA xV xA0)))⟩)) xA0)))) (s1 (sR x2) s0) s0) (s1 (sR (yF ⟨(kc hu)⟩ (xO (by exact xLS (N':=["sign"]) T (cOk S) (by decide+kernel) (iS xW) fun _ _ _ _ _ _ nd=>⟨(gN nd),f0,(xB T rfl ⟨lT⟩ (xA xV xA0))⟩)) xV)) s0)))
abbrev pR:Stmt:=top 19
abbrev qa(Z:ZZ)(k:Nat):Prop:=Oz Z k "all_signs" ["names"] jS
theorem A4(a:Fz Z.K Z.mg "all_signs" pR)(T:Tx Z.mg):qa Z (k+1):=by
 have S:FnScope ["names"] ["names"] (fA pR):=scM;refine ozD a S fun f f6 A outer s H E L hL hr hu j0 j1 j5 nd=>?_;exact(s1 (sR (by exact xC (N':=["sign"]) (cOk S) (by decide+kernel) (iR2 T (xA (xO (FP xV)) (xA (xO (jl ⟨iG⟩ xV (xO x3))) xA0))) fun _ _ _ _ _ _ nd=>⟨(gN nd),(f1 (tCmp ⟨(xt hu)⟩ xV (xO x3))),fun _=>bE xW⟩)) s0)
abbrev mX:Stmt:=top 22
abbrev qY(Z:ZZ)(k:Nat):Prop:=Oz Z k "clause_text" ["clause"] jK
theorem xE(a:Fz Z.K Z.mg "clause_text" mX)(T:Tx Z.mg)(e9:Z.mg "str"=none):qY Z (k+1):=by
 have S:FnScope ["clause"] ["clause"] (fA mX):=scM;refine ozD a S fun f f6 A outer s H E L hL hr hu j0 j1 j5 nd=>?_;exact(s1 (sR (xJn (xO (by exact xC (N':=["sign"]) (cOk S) (by decide+kernel) (iS xW) fun _ _ _ _ _ _ nd=>⟨(gN nd),f0,fun _=>bE (Bw e9 (xA xV xA0))⟩)))) s0)
abbrev mS:Stmt:=top 23
abbrev ng(Z:ZZ)(k:Nat):Prop:=Oz Z k "riddle_text" ["riddle"] iP
theorem xu(a:Fz Z.K Z.mg "riddle_text" mS)(T:Tx Z.mg)(O_clause_text:qY Z k):ng Z (k+1):=by
 have S:FnScope ["riddle","names","clauses"] ["riddle"] (fA mS):=scM;refine ozD a S fun f f6 A outer s H E L hL hr hu j0 j1 j5 nd=>?_;exact(s1 (sT xW (gT (gN nd) (gN nd))) (s1 (sR (xJn (xO (jl ⟨iG⟩ (xO (oO (xL (SA xV) xL0))) (xO (by exact xC (N':=["clause"]) (cOk S) (by decide+kernel) (iS xW) fun _ _ _ _ _ _ nd=>⟨(gN nd),f0,fun _=>bE (xU O_clause_text hr (xA xV xA0))⟩)))))) s0))
abbrev nc:Stmt:=top 24
abbrev rh(Z:ZZ)(k:Nat):Prop:=Oz Z k "answer_text" ["answer"] jq
theorem xH(a:Fz Z.K Z.mg "answer_text" nc)(T:Tx Z.mg)(g8: ∃t,Z.mg "NO_NAMES"=some (.str "none" t))(e9:Z.mg "str"=none):rh Z (k+1):=by
 have S:FnScope ["answer"] ["answer"] (fA nc):=scM;refine ozD a S fun f f6 A outer s H E L hL hr hu j0 j1 j5 nd=>?_;exact(s1 (sR (xIf (tTt xV) (xJn (xO (by exact xC (N':=["bit"]) (cOk S) (by decide+kernel) (iS xW) fun _ _ _ _ _ _ nd=>⟨(gN nd),f0,fun _=>bE (Bw e9 (xA xV xA0))⟩))) (x6 g8))) s0)
abbrev lX:Stmt:=top 25
abbrev pU(Z:ZZ)(k:Nat):Prop:=Oz Z k "turning_text" ["turning"] jd
theorem vU(a:Fz Z.K Z.mg "turning_text" lX)(T:Tx Z.mg)(g8: ∃t,Z.mg "NO_NAMES"=some (.str "none" t))(e9:Z.mg "str"=none):pU Z (k+1):=by
 have S:FnScope ["turning"] ["turning"] (fA lX):=scM;refine ozD a S fun f f6 A outer s H E L hL hr hu j0 j1 j5 nd=>?_;exact(s1 (sR (xIf (tTt xV) (xJn (xO (by exact xC (N':=["sign"]) (cOk S) (by decide+kernel) (iS xW) fun _ _ _ _ _ _ nd=>⟨(gN nd),f0,fun _=>bE (Bw e9 (xA xV xA0))⟩))) (x6 g8))) s0)
abbrev nX:Stmt:=top 26
abbrev og(Z:ZZ)(k:Nat):Prop:=Oz Z k "check_text" ["thing"] ll
theorem yN(a:Fz Z.K Z.mg "check_text" nX)(T:Tx Z.mg)(e9:Z.mg "str"=none):og Z (k+1):=by
 have S:FnScope ["thing"] ["thing"] (fA nX):=scM;refine ozD a S fun f f6 A outer s H E L hL hr hu j0 j1 j5 nd=>?_;exact(s1 (sI (tNot (pJ (xIS T e9 xV))) (s1 sX s0) s0) s0)
abbrev mU:Stmt:=top 27
abbrev lg(Z:ZZ)(k:Nat):Prop:=Oz Z k "number_read" ["word","numbers"] iQ
theorem xw(a:Fz Z.K Z.mg "number_read" mU)(T:Tx Z.mg)(e9:Z.mg "str"=none):lg Z (k+1):=by
 have S:FnScope ["word","numbers","number"] ["word","numbers"] (fA mU):=scM;refine ozD a S fun f f6 A outer s H E L hL hr hu j0 j1 j5 nd=>?_;exact(s1 (sF (iS xW) (gN nd) (s1 (sI (tCmp ⟨(kc hu)⟩ (xO (Bw e9 (xA xV xA0))) xV) (s1 (sRV (fun h=>absurd (hL _ h) (by decide))) s0) s0) s0)) (s1 sX s0))
abbrev mY:Stmt:=top 28
abbrev qZ(Z:ZZ)(k:Nat):Prop:=Oz Z k "clause_read" ["names","text"] jL
theorem xF(a:Fz Z.K Z.mg "clause_read" mY)(T:Tx Z.mg)(k4:qa Z k)(g9:lg Z k)(k0:pZ Z k):qZ Z (k+1):=by
 have S:FnScope ["names","text","clause"] ["names","text"] (fA mY):=scM;refine ozD a S fun f f6 A outer s H E L hL hr hu j0 j1 j5 nd=>?_;exact(s1 (sS nd (xT T rfl ⟨ji⟩ (xA (xO (by exact xC (N':=["names","word"]) (cOk S) (by decide+kernel) (iS (Nz xV)) fun _ _ _ _ _ _ nd=>⟨(gN nd),f0,fun _=>bE (xU g9 hr (xA xV (xA (xO (xU k4 hr (xA xV xA0))) xA0)))⟩)) xA0))) (s1 (sI (tNot (pJ (xU k0 hr (xA xV (xA xV xA0))))) (s1 sX s0) s0) (s1 (sRV (fun h=>absurd (hL _ h) (by decide))) s0)))
abbrev mT:Stmt:=top 29
abbrev qW(Z:ZZ)(k:Nat):Prop:=Oz Z k "riddle_read" ["text"] kL
theorem xv(a:Fz Z.K Z.mg "riddle_read" mT)(T:Tx Z.mg)(c9: ∃t,Z.mg "MOST_NAMES"=some (.int 5 t))(j3:og Z k)(g9:lg Z k)(O_clause_read:qZ Z k)(O_is_riddle:vL Z k)(i6:ng Z k):qW Z (k+1):=by
 have S:FnScope ["text","head","colon","rest","names","riddle"] ["text"] (fA mT):=scM;refine ozD a S fun f f6 A outer s H E L hL hr hu j0 j1 j5 nd=>?_;exact(s1 (sE (xU j3 hr (xA xV xA0))) (s1 (sT (Sx xV) (gT3 (gN nd) (gN nd) (gN nd))) (s1 (sS nd (xU g9 hr (xA xV (xA (xO (Sw T rfl (xA (xO (jl ⟨iG⟩ (xO (x5 c9)) (xO x3))) xA0))) xA0)))) (s1 (sS nd (oN (xL xW (xL (xT T rfl ⟨ji⟩ (xA (xO (by exact xC (N':=["names","word"]) (cOk S) (by decide+kernel) (iS (Qf (xO (Nz xV)) (xO x3))) fun _ _ _ _ _ _ nd=>⟨(gN nd),f0,fun _=>bE (xU O_clause_read hr (xA xV (xA xV xA0)))⟩)) xA0)) xL0)))) (s1 (sI (tW (wOr (tNot (pJ (xU O_is_riddle hr (xA xV xA0)))) (HQ (tCmp ⟨(xt hu)⟩ (xO (xU i6 hr (xA xV xA0))) xV)))) (s1 sX s0) s0) (s1 (sRV (fun h=>absurd (hL _ h) (by decide))) s0))))))
abbrev lY:Stmt:=top 30
abbrev pV(Z:ZZ)(k:Nat):Prop:=Oz Z k "turning_read" ["text"] km
theorem vV(a:Fz Z.K Z.mg "turning_read" lY)(T:Tx Z.mg)(g8: ∃t,Z.mg "NO_NAMES"=some (.str "none" t))(c9: ∃t,Z.mg "MOST_NAMES"=some (.int 5 t))(j3:og Z k)(k4:qa Z k)(g9:lg Z k)(O_is_turning:ue Z k):pV Z (k+1):=by
 have S:FnScope ["text","turning"] ["text"] (fA lY):=scM;refine ozD a S fun f f6 A outer s H E L hL hr hu j0 j1 j5 nd=>?_;exact(s1 (sE (xU j3 hr (xA xV xA0))) (s1 (sI (tCmp ⟨(kc hu)⟩ xV (xO (x6 g8))) (s1 (sR (oN xL0)) s0) s0) (s1 (sS nd (xT T rfl ⟨ji⟩ (xA (xO (by exact xC (N':=["word"]) (cOk S) (by decide+kernel) (iS (Nz xV)) fun _ _ _ _ _ _ nd=>⟨(gN nd),f0,fun _=>bE (xU g9 hr (xA xV (xA (xO (xU k4 hr (xA (xO (x5 c9)) xA0))) xA0)))⟩)) xA0))) (s1 (sI (tNot (pJ (xU O_is_turning hr (xA (xO (xB T rfl ⟨iO⟩ (xA xV xA0))) (xA xV xA0))))) (s1 sX s0) s0) (s1 (sRV (fun h=>absurd (hL _ h) (by decide))) s0)))))
noncomputable abbrev mW:Stmt:=top 32
abbrev qX(Z:ZZ)(k:Nat):Prop:=Oz Z k "_law_cell_at" ["_law_script","_law_k"] jI
theorem xD(a:Fz Z.K Z.mg "_law_cell_at" mW)(T:Tx Z.mg):qX Z (k+1):=by
 have S:FnScope ["_law_script","_law_k"] ["_law_script","_law_k"] (fA mW):=scM;refine ozD a S fun f f6 A outer s H E L hL hr hu j0 j1 j5 nd=>?_;exact(s1 (sI (tCmp ⟨(lO (.inl rfl) hu)⟩ xV (xO (xB T rfl ⟨iO⟩ (xA xV xA0)))) (s1 (sR (xIx xV xV)) s0) s0) (s1 (sR x3) s0))
noncomputable abbrev pL:Stmt:=top 33
abbrev vJ(Z:ZZ)(k:Nat):Prop:=Oz Z k "_law_state" ["_law_script","_law_k"] jt
theorem AV(a:Fz Z.K Z.mg "_law_state" pL)(T:Tx Z.mg)(O_law_cell_at:qX Z k):vJ Z (k+1):=by
 have S:FnScope ["_law_script","_law_k","_law_cell"] ["_law_script","_law_k"] (fA pL):=scM;refine ozD a S fun f f6 A outer s H E L hL hr hu j0 j1 j5 nd=>?_;exact(s1 (sS nd (xU O_law_cell_at hr (xA xV (xA xV xA0)))) (s1 (sI (tCmp ⟨(lO (.inr (.inr (.inr rfl))) hu)⟩ xV (xO (jl ⟨E7⟩ (xO x3) (xO x3)))) (s1 (sR (oO (xL (jl ⟨AS⟩ xV (xO (jl ⟨E7⟩ (xO x3) (xO x3)))) (xL x2 xL0)))) s0) s0) (s1 (sR (oO (xL (jl ⟨nY⟩ xV (xO x3)) (xL x2 xL0)))) s0)))
noncomputable abbrev rT:Stmt:=top 34
abbrev kZ(Z:ZZ)(k:Nat):Prop:=Oz Z k "_law_take" ["_law_state_here","_law_many"] fG
theorem BZ(a:Fz Z.K Z.mg "_law_take" rT)(T:Tx Z.mg):kZ Z (k+1):=by
 have S:FnScope ["_law_state_here","_law_many","_law_found","_law_mixed"] ["_law_state_here","_law_many"] (fA rT):=scM;refine ozD a S fun f f6 A outer s H E L hL hr hu j0 j1 j5 nd=>?_;exact(s1 (sI (pJ (xIx xV (xO x3))) (s1 (sS nd (jl ⟨nY⟩ (xO (xIx xV (xO x3))) xV)) (s1 (sIx xV (jl ⟨E8⟩ (xO (xIx xV (xO x3))) xV) (xO x3)) (s1 (sRV (fun h=>absurd (hL _ h) (by decide))) s0))) s0) (s1 (sIx xV (jl ⟨nY⟩ (xO (jl ⟨iG⟩ (xO (jl ⟨mJ⟩ (xO (xIx xV (xO x3))) (xO x3))) (xO x3))) (xO x3)) (xO x3)) (s1 (sS nd (jl ⟨nY⟩ (xO (jl ⟨iG⟩ (xO (jl ⟨iG⟩ (xO (jl ⟨mJ⟩ (xO (xIx xV (xO x3))) (xO (xIx xV (xO x3))))) (xO (jl ⟨mJ⟩ (xO x3) (xO (xIx xV (xO x3))))))) (xO x3))) (xO x3))) (s1 (sS nd (jl ⟨nY⟩ (xO (jl ⟨iG⟩ (xO (jl ⟨mJ⟩ xV xV)) (xO (jl ⟨mJ⟩ (xO x3) xV)))) (xO x3))) (s1 (sR (jl ⟨nY⟩ (xO (jl ⟨E8⟩ xV (xO x3))) xV)) s0)))))
noncomputable abbrev nV:Stmt:=top 35
abbrev ud(Z:ZZ)(k:Nat):Prop:=Oz Z k "_law_clause" ["_law_state_here","_law_names"] lj
theorem yL(a:Fz Z.K Z.mg "_law_clause" nV)(T:Tx Z.mg)(b7:kZ Z k):ud Z (k+1):=by
 have S:FnScope ["_law_state_here","_law_names","_law_far","_law_found","_law_name","_law_kind"] ["_law_state_here","_law_names"] (fA nV):=scM;refine ozD a S fun f f6 A outer s H E L hL hr hu j0 j1 j5 nd=>?_;exact(s1 (sS nd (xIx (xO (oO (xL x3 (xL x3 (xL x3 xL0))))) (xO (xU b7 hr (xA xV (xA (xO x3) xA0)))))) (s1 (sS nd (oO xL0)) (s1 (sF (iR2 T (xA (xO x3) (xA (xO (jl ⟨iG⟩ xV (xO x3))) xA0))) (gN nd) (s1 (sS nd (xU b7 hr (xA xV (xA xV xA0)))) (s1 (sI (tCmp ⟨(lO (.inl rfl) hu)⟩ xV (xO x3)) (s1 (sE (Ld xV (xIx (xO (oO (xL xW (xL (FP xV) xL0)))) xV))) s0) s0) s0))) (s1 (sI (tCmp ⟨(kc hu)⟩ xV (xO (oO xL0))) (s1 (sE (Ld xV (jl ⟨mJ⟩ (xO (xIx (xO (oO (xL x3 (xL (FP (xO x3)) xL0)))) (xO (xU b7 hr (xA xV (xA (xO x3) xA0)))))) (xO (jl ⟨iG⟩ (xO x3) (xO (xU b7 hr (xA xV (xA xV xA0))))))))) s0) s0) (s1 (sR (xT T rfl ⟨ji⟩ (xA xV xA0))) s0)))))
noncomputable abbrev mV:Stmt:=top 36
abbrev nh(Z:ZZ)(k:Nat):Prop:=Oz Z k "_law_turning" ["_law_state_here","_law_names"] il
theorem xy(a:Fz Z.K Z.mg "_law_turning" mV)(T:Tx Z.mg)(b7:kZ Z k):nh Z (k+1):=by
 have S:FnScope ["_law_state_here","_law_names","_law_rest","_law_found","_law_turn"] ["_law_state_here","_law_names"] (fA mV):=scM;refine ozD a S fun f f6 A outer s H E L hL hr hu j0 j1 j5 nd=>?_;exact(s1 (sS nd (Sv T rfl (xA (xO x3) (xA (xO (jl ⟨iG⟩ xV (xO x3))) xA0)))) (s1 (sS nd (oO xL0)) (s1 (sF (iR1 T (xA xV xA0)) (gN nd) (s1 (sE (Ld xV (jl ⟨mJ⟩ (xO (NA xV (xO (xU b7 hr (xA xV (xA (xO (xB T rfl ⟨iO⟩ (xA xV xA0))) xA0)))))) (xO (xIx (xO (oO (xL x3 (xL (FP (xO x3)) xL0)))) (xO (xU b7 hr (xA xV (xA (xO x3) xA0))))))))) s0)) (s1 (sR (xT T rfl ⟨ji⟩ (xA xV xA0))) s0))))
noncomputable abbrev ma:Stmt:=top 37
abbrev pW(Z:ZZ)(k:Nat):Prop:=Oz Z k "_law_led_sign" ["_law_turning_here","_law_sign"] jv
theorem vW(a:Fz Z.K Z.mg "_law_led_sign" ma)(T:Tx Z.mg):pW Z (k+1):=by
 have S:FnScope ["_law_turning_here","_law_sign"] ["_law_turning_here","_law_sign"] (fA ma):=scM;refine ozD a S fun f f6 A outer s H E L hL hr hu j0 j1 j5 nd=>?_;exact(s1 (sR (jl ⟨mJ⟩ (xO (xIx xV (xO (jl ⟨AS⟩ (xO (xB T rfl ⟨lT⟩ (xA xV xA0))) (xO x3))))) (xO (xIx (xO (oO (xL (FP (xO x3)) (xL x3 xL0)))) (xO (xT T rfl ⟨GY⟩ (xA (xO (yF ⟨(lO (.inr (.inr (.inl rfl))) hu)⟩ xV (xO x3))) xA0))))))) s0)
noncomputable abbrev kX:Stmt:=top 38
abbrev nL(Z:ZZ)(k:Nat):Prop:=Oz Z k "_law_led_clause" ["_law_turning_here","_law_clause_here"] iB
theorem tY(a:Fz Z.K Z.mg "_law_led_clause" kX)(T:Tx Z.mg)(O_law_led_sign:pW Z k):nL Z (k+1):=by
 have S:FnScope ["_law_turning_here","_law_clause_here","_law_found","_law_sign","_law_there"] ["_law_turning_here","_law_clause_here"] (fA kX):=scM;refine ozD a S fun f f6 A outer s H E L hL hr hu j0 j1 j5 nd=>?_;exact(s1 (sS nd x7) (s1 (sF (iS xW) (gN nd) (s1 (sS nd (xU O_law_led_sign hr (xA xV (xA xV xA0)))) (s1 (sDP j0 xV xW (xO (xB T rfl ⟨lT⟩ (xA xV xA0)))) s0))) (s1 (sR (xT T rfl ⟨ji⟩ (xA (xO (by exact xC (N':=["_law_found","_law_name"]) (cOk S) (by decide+kernel) (iS (xB T rfl ⟨(oB rfl j1)⟩ (xA xV xA0))) fun _ _ _ _ _ _ nd=>⟨(gN nd),f0,fun _=>bE (Sz j0 xV xV)⟩)) xA0))) s0)))
noncomputable abbrev nU:Stmt:=top 40
abbrev uc(Z:ZZ)(k:Nat):Prop:=Oz Z k "_law_closed" ["_law_clauses","_law_turnings"] lh
theorem yK(a:Fz Z.K Z.mg "_law_closed" nU)(T:Tx Z.mg)(O_law_led_clause:nL Z k):uc Z (k+1):=by
 have S:FnScope ["_law_clauses","_law_turnings","_law_found","_law_at","_law_turning_here","_law_there"] ["_law_clauses","_law_turnings"] (fA nU):=scM;refine ozD a S fun f f6 A outer s H E L hL hr hu j0 j1 j5 nd=>?_;exact(s1 (sS nd (xT T rfl ⟨Es⟩ (xA xV xA0))) (s1 (sS nd x3) (s1 (sW (tCmp ⟨(lO (.inl rfl) hu)⟩ xV (xO (xB T rfl ⟨iO⟩ (xA xV xA0)))) (s1 (sF (iS xW) (gN nd) (s1 (sS nd (xU O_law_led_clause hr (xA xV (xA (xO (xIx xV xV)) xA0)))) (s1 (sI (tCmp ⟨(Gr hu)⟩ xV xV) (s1 (sE (Ld xV xW)) s0) s0) s0))) (s1 (sS nd (jl ⟨iG⟩ xV (xO x3))) s0))) (s1 (sRV (fun h=>absurd (hL _ h) (by decide))) s0))))
noncomputable abbrev nS:Stmt:=top 41
abbrev tZ(Z:ZZ)(k:Nat):Prop:=Oz Z k "_law_riddle" ["_law_state_here","_law_least","_law_most"] kh
theorem yJ(a:Fz Z.K Z.mg "_law_riddle" nS)(T:Tx Z.mg)(b7:kZ Z k)(O_law_clause:ud Z k)(i9:nh Z k)(O_law_closed:uc Z k):tZ Z (k+1):=by
 have S:FnScope ["_law_state_here","_law_least","_law_most","_law_names","_law_kind","_law_many","_law_clauses","_law_turnings"] ["_law_state_here","_law_least","_law_most"] (fA nS):=scM;refine ozD a S fun f f6 A outer s H E L hL hr hu j0 j1 j5 nd=>?_;exact(s1 (sS nd (jl ⟨iG⟩ xV (xO (xU b7 hr (xA xV (xA (xO (jl ⟨iG⟩ (xO (jl ⟨AS⟩ xV xV)) (xO x3))) xA0)))))) (s1 (sS nd (xU b7 hr (xA xV (xA (xO x3) xA0)))) (s1 (sI (tCmp ⟨(kc hu)⟩ xV (xO x3)) (s1 (sR (oN (xL x3 (xL (oN xL0) xL0)))) s0) s0) (s1 (sS nd (xU b7 hr (xA xV (xA (xO (xIx (xO (oO (xL x3 (xL x3 (xL x3 xL0))))) (xO (xU b7 hr (xA xV (xA (xO x3) xA0)))))) xA0)))) (s1 (sC (N':=["_law_state_here","_law_names","_law_turn"]) nd (cOk S) (by decide+kernel) (iR1 T (xA xV xA0)) fun _ _ _ _ _ _ nd=>⟨(gN nd),f0,fun _=>bE (xU O_law_clause hr (xA xV (xA xV xA0)))⟩) (s1 (sI (tCmp ⟨(lO (.inr (.inr (.inl rfl))) hu)⟩ xV (xO x3)) (s1 (sC (N':=["_law_state_here","_law_names","_law_turn"]) nd (cOk S) (by decide+kernel) (iR1 T (xA (xO (jl ⟨iG⟩ (xO x3) (xO (jl ⟨nY⟩ xV (xO x3))))) xA0)) fun _ _ _ _ _ _ nd=>⟨(gN nd),f0,fun _=>bE (xU i9 hr (xA xV (xA xV xA0)))⟩) (s1 (sI (tCmp ⟨(kc hu)⟩ xV (xO x3)) (s1 (sC (N':=["_law_turning_here"]) nd (cOk S) (by decide+kernel) (iS xW) fun _ _ _ _ _ _ nd=>⟨(gN nd),f0,fun _=>bE (xT T rfl ⟨ji⟩ (xA (xO (by exact xC (N':=["_law_sign"]) (KA rfl rfl (by with_unfolding_all rfl)) (by decide+kernel) (iS xW) fun _ _ _ _ _ _ nd=>⟨(gN nd),f0,fun _=>bE (xB T rfl ⟨lT⟩ (xA xV xA0))⟩)) xA0))⟩) s0) s0) (s1 (sS nd (xU O_law_closed hr (xA (xO (Qg (xO (xB T rfl ⟨(oB rfl j1)⟩ (xA (xO (xT T rfl ⟨(zF rfl j5)⟩ (xA xV xA0))) xA0))) (xO x3))) (xA xV xA0)))) s0))) s0) (s1 (sS nd (xB T rfl ⟨(oB rfl j1)⟩ (xA (xO (xT T rfl ⟨(zF rfl j5)⟩ (xA xV xA0))) xA0))) (s1 (sI (tCmp ⟨(lO (.inr (.inr (.inl rfl))) hu)⟩ (xO (xB T rfl ⟨iO⟩ (xA xV xA0))) (xO x3)) (s1 (sS nd (Qg xV (xO (xU b7 hr (xA xV (xA (xO x3) xA0)))))) s0) s0) (s1 (sR (oN (xL xW (xL (xT T rfl ⟨ji⟩ (xA xV xA0)) xL0)))) s0)))))))))
abbrev kF:Stmt:=top 42
abbrev mM(Z:ZZ)(k:Nat):Prop:=Oz Z k "_law_clause_text" ["_law_clause_here"] iR
theorem rZ(a:Fz Z.K Z.mg "_law_clause_text" kF)(T:Tx Z.mg)(e9:Z.mg "str"=none):mM Z (k+1):=by
 have S:FnScope ["_law_clause_here"] ["_law_clause_here"] (fA kF):=scM;refine ozD a S fun f f6 A outer s H E L hL hr hu j0 j1 j5 nd=>?_;exact(s1 (sR (xJn (xO (by exact xC (N':=["_law_sign"]) (cOk S) (by decide+kernel) (iS xW) fun _ _ _ _ _ _ nd=>⟨(gN nd),f0,fun _=>bE (Bw e9 (xA xV xA0))⟩)))) s0)
abbrev kE:Stmt:=top 43
abbrev mK(Z:ZZ)(k:Nat):Prop:=Oz Z k "_law_riddle_text" ["_law_riddle_here"] gQ
theorem rY(a:Fz Z.K Z.mg "_law_riddle_text" kE)(T:Tx Z.mg)(e9:Z.mg "str"=none)(O_law_clause_text:mM Z k):mK Z (k+1):=by
 have S:FnScope ["_law_riddle_here"] ["_law_riddle_here"] (fA kE):=scM;refine ozD a S fun f f6 A outer s H E L hL hr hu j0 j1 j5 nd=>?_;exact(s1 (sR (xJn (xO (jl ⟨iG⟩ (xO (oO (xL (jl ⟨iG⟩ (xO (Bw e9 (xA (xO (xIx xV (xO x3))) xA0))) (xO x4)) xL0))) (xO (by exact xC (N':=["_law_clause_here"]) (cOk S) (by decide+kernel) (iS (xIx xV (xO x3))) fun _ _ _ _ _ _ nd=>⟨(gN nd),f0,fun _=>bE (xU O_law_clause_text hr (xA xV xA0))⟩)))))) s0)
abbrev kG:Stmt:=top 44
abbrev mN(Z:ZZ)(k:Nat):Prop:=Oz Z k "_law_answer_text" ["_law_answer"] iT
theorem sd(a:Fz Z.K Z.mg "_law_answer_text" kG)(T:Tx Z.mg)(e9:Z.mg "str"=none):mN Z (k+1):=by
 have S:FnScope ["_law_answer"] ["_law_answer"] (fA kG):=scM;refine ozD a S fun f f6 A outer s H E L hL hr hu j0 j1 j5 nd=>?_;exact(s1 (sI (tCmp ⟨(kc hu)⟩ xV (xO (oN xL0))) (s1 (sR x4) s0) s0) (s1 (sR (xJn (xO (by exact xC (N':=["_law_bit"]) (cOk S) (by decide+kernel) (iS xW) fun _ _ _ _ _ _ nd=>⟨(gN nd),f0,fun _=>bE (Bw e9 (xA xV xA0))⟩)))) s0))
abbrev kn:Stmt:=top 45
abbrev md(Z:ZZ)(k:Nat):Prop:=Oz Z k "_law_turning_text" ["_law_turning_here"] gF
theorem qI(a:Fz Z.K Z.mg "_law_turning_text" kn)(T:Tx Z.mg)(e9:Z.mg "str"=none):md Z (k+1):=by
 have S:FnScope ["_law_turning_here"] ["_law_turning_here"] (fA kn):=scM;refine ozD a S fun f f6 A outer s H E L hL hr hu j0 j1 j5 nd=>?_;exact(s1 (sI (tCmp ⟨(kc hu)⟩ xV (xO (oN xL0))) (s1 (sR x4) s0) s0) (s1 (sR (xJn (xO (by exact xC (N':=["_law_sign"]) (cOk S) (by decide+kernel) (iS xW) fun _ _ _ _ _ _ nd=>⟨(gN nd),f0,fun _=>bE (Bw e9 (xA xV xA0))⟩)))) s0))
abbrev lZ:Stmt:=top 46
abbrev D5(Z:ZZ)(k:Nat):Prop:=Oz Z k "_law_same" ["_law_found","_law_due"] (fv RD)
theorem vS:BdA "_law_same" lZ ["_law_found","_law_due"]:=fun _ _ _ _ _ _=>us1 fun _=>us1 fun _=>us0 rfl
theorem AU{ev:EvF}(a:Fz Z.K Z.mg "_law_same" lZ)(T:Tx Z.mg)(h8:Oz Z k "_law_same" ["_law_found","_law_due"] ev):Oz Z (k+1) "_law_same" ["_law_found","_law_due"] (evF 2 2 [] (gD ev)):=by
 have S:FnScope ["_law_found","_law_due"] ["_law_found","_law_due"] (fA lZ):=scM;refine ozB (asg:=[]) (fs:=gD ev) a S vS fun f f6 A outer s H E L hL hr hu j0 j1 j5 nd=>?_;exact(s1 (sI (pJ (xI2 T rfl rfl xV)) (s1 (sI (tW (wOr (tCmp ⟨(xt hu)⟩ (xO (xI T rfl xV)) (xO (xI T rfl xV))) (HQ (tCmp ⟨(xt hu)⟩ (xO (xI T rfl xV)) (xO (xI T rfl xV)))))) (s1 (sR x2) s0) s0) (s1 (sR (yG (yF ⟨(kc hu)⟩ (xO (xB T rfl ⟨iO⟩ (xA xV xA0))) (xO (xB T rfl ⟨iO⟩ (xA xV xA0)))) (xBo (xB T rfl ⟨(nQ rfl)⟩ (xA (xO (by exact xC (N':=["_law_one","_law_other"]) (cOk S) (by decide+kernel) (iZV T xV xV) fun _ _ _ _ _ _ nd=>⟨(gT (gN nd) (gN nd)),f0,fun _=>bE (xU h8 hr (xA xV (xA xV xA0)))⟩)) xA0))))) s0)) s0) (s1 (sR (yG (yF ⟨(kc hu)⟩ (xO (xI T rfl xV)) (xO (xI T rfl xV))) (xBo (yF ⟨(kc hu)⟩ xV xV)))) s0))
theorem vI(a:Fz Z.K Z.mg "_law_same" lZ)(T:Tx Z.mg): ∀m,Oz Z m "_law_same" ["_law_found","_law_due"] (fv m)
 |0=>oz0 a vS
 |m+1=>AU a T (vI a T m)
noncomputable abbrev kH:Stmt:=top 47
abbrev mO(Z:ZZ)(k:Nat):Prop:=Oz Z k "_law_all_answers" ["_law_names"] iU
theorem se(a:Fz Z.K Z.mg "_law_all_answers" kH)(T:Tx Z.mg):mO Z (k+1):=by
 have S:FnScope ["_law_names","_law_found","_law_place","_law_longer","_law_begun"] ["_law_names"] (fA kH):=scM;refine ozD a S fun f f6 A outer s H E L hL hr hu j0 j1 j5 nd=>?_;exact(s1 (sS nd (oO (xL (oN xL0) xL0))) (s1 (sF (iR1 T (xA xV xA0)) (gN nd) (s1 (sS nd (oO xL0)) (s1 (sF (iS xW) (gN nd) (s1 (sE (Qh xV (by exact xC (N':=["_law_begun","_law_bit"]) (cOk S) (by decide+kernel) (iS (oN (xL x3 (xL x3 xL0)))) fun _ _ _ _ _ _ nd=>⟨(gN nd),f0,fun _=>bE (jl ⟨iG⟩ xV (xO (oN (xL xW xL0))))⟩))) s0)) (s1 (sS nd xW) s0)))) (s1 (sRV (fun h=>absurd (hL _ h) (by decide))) s0)))
abbrev pM:Stmt:=top 48
abbrev vK(Z:ZZ)(k:Nat):Prop:=Oz Z k "_law_great" ["_law_state_here"] lP
theorem AW(a:Fz Z.K Z.mg "_law_great" pM)(T:Tx Z.mg)(b7:kZ Z k):vK Z (k+1):=by
 have S:FnScope ["_law_state_here","_law_found","_law_name","_law_longer","_law_begun"] ["_law_state_here"] (fA pM):=scM;refine ozD a S fun f f6 A outer s H E L hL hr hu j0 j1 j5 nd=>?_;exact(s1 (sS nd (oO (xL (oN xL0) xL0))) (s1 (sF (iR2 T (xA (xO x3) (xA (xO x3) xA0))) (gN nd) (s1 (sS nd (oO xL0)) (s1 (sF (iS xW) (gN nd) (s1 (sE (Qh xV (oO (xL (jl ⟨iG⟩ xV (xO (oN (xL xW xL0)))) (xL (jl ⟨iG⟩ xV (xO (oN (xL (FP xV) xL0)))) xL0))))) s0)) (s1 (sMV nd xV) s0)))) (s1 (sE (NA xV (xO (xU b7 hr (xA xV (xA (xO x3) xA0)))))) (s1 (sE (NA xV (xO (xU b7 hr (xA xV (xA (xO x3) xA0)))))) (s1 (sR (oN (xL x3 (xL (xT T rfl ⟨ji⟩ (xA (xO (xB T rfl ⟨(uw j1)⟩ (xA xV xA0))) xA0)) xL0)))) s0)))))
noncomputable abbrev ES:Stmt:=top 49
theorem PY:BdA "law" ES ["_law_script"]:=fun _ _ _ _ _ _=>us1 fun _=>us0 rfl
theorem Pd{f:eX}{fd:kO}(F:Fun Z.K "law" "law" ES f fd)(T:Tx Z.mg)(O_law_state:vJ Z k)(O_law_riddle:tZ Z k)(b7:kZ Z k)(O_law_great:vK Z k)(O_law_all_answers:mO Z k)(i9:nh Z k)(i6:ng Z k)(O_law_riddle_text:mK Z k)(h8:D5 Z k)(O_answer_text:rh Z k)(O_law_answer_text:mN Z k)(O_turning_text:pU Z k)(O_law_turning_text:md Z k)(O_riddle_read:qW Z k)(O_turning_read:pV Z k):FnOk Z.P Z.w Z.K Z.mg Z.base CX0 (k+1) f fd ["_law_script"] (spF Z.K rm):=by
 have S:FnScope ["_law_script","_law_k","_law_state_here","_law_riddle_here","_law_every","_law_answer","_law_turning_here","_law_turn"] ["_law_script"] (fA ES):=scM;refine fnB (asg:=[1,2,3,4,5,6,7]) (fs:=yc) F S fun f f6 A outer s H E L hL hr hu j0 j1 j5 nd=>?_;exact(s1 (sF (iR1 T (xA (xO (xB T rfl ⟨(Er rfl)⟩ (xA (xO x3) (xA (xO (xB T rfl ⟨(Ep rfl)⟩ (xA (xO (xB T rfl ⟨iO⟩ (xA xV xA0))) (xA (xO x3) xA0)))) xA0)))) xA0)) (gN nd) (s1 (sS nd (xU O_law_state hr (xA xV (xA xV xA0)))) (s1 (sS nd (xU O_law_riddle hr (xA xV (xA (xO x3) (xA (xO x3) xA0))))) (s1 (sI (tCmp ⟨(kc hu)⟩ (xO (xU b7 hr (xA xV (xA (xO x3) xA0)))) (xO x3)) (s1 (sS nd (xU O_law_great hr (xA xV xA0))) s0) s0) (s1 (sS nd (xU O_law_all_answers hr (xA (xO (xIx xV (xO x3))) xA0))) (s1 (sS nd (xIx xV (xO (xU b7 hr (xA xV (xA (xO (xB T rfl ⟨iO⟩ (xA xV xA0))) xA0)))))) (s1 (sS nd (xU i9 hr (xA xV (xA (xO (xIx xV (xO x3))) xA0)))) (s1 (sI (tNot (pJ (xU h8 hr (xA (xO (xU i6 hr (xA xV xA0))) (xA (xO (xU O_law_riddle_text hr (xA xV xA0))) xA0))))) (s1 (sR x2) s0) s0) (s1 (sI (tNot (pJ (xU h8 hr (xA (xO (xU O_answer_text hr (xA xV xA0))) (xA (xO (xU O_law_answer_text hr (xA xV xA0))) xA0))))) (s1 (sR x2) s0) s0) (s1 (sI (tNot (pJ (xU h8 hr (xA (xO (xU O_turning_text hr (xA xV xA0))) (xA (xO (xU O_law_turning_text hr (xA xV xA0))) xA0))))) (s1 (sR x2) s0) s0) (s1 (sF (iR1 T (xA (xO x3) xA0)) (gN nd) (s1 (sI (tNot (pJ (xU h8 hr (xA (xO (xU O_riddle_read hr (xA (xO (xU O_law_riddle_text hr (xA xV xA0))) xA0))) (xA xV xA0))))) (s1 (sR x2) s0) s0) (s1 (sI (tNot (pJ (xU h8 hr (xA (xO (xU O_turning_read hr (xA (xO (xU O_law_turning_text hr (xA xV xA0))) xA0))) (xA xV xA0))))) (s1 (sR x2) s0) s0) s0))) s0))))))))))) (s1 (sR (yG (yF ⟨(kc hu)⟩ (xO (xU i6 hr (xA (xO (oN (xL x3 (xL (oN xL0) xL0)))) xA0))) (xO x4)) (yG (yF ⟨(kc hu)⟩ (xO (xU O_answer_text hr (xA (xO (oN xL0)) xA0))) (xO x4)) (xBo (yF ⟨(kc hu)⟩ (xO (xU O_turning_text hr (xA (xO (oN xL0)) xA0))) (xO x4)))))) s0))
end
theorem all_mk{l:PySem.W.OpenLaw}{w:fL}{K:fO}{mg:jY}{fa:eX}(ez:mg "law"=some (.ref fa))(T:Tx mg)
  (a0:Fz K mg "is_whole" rV)
  (a1:Fz K mg "is_number" pP)
  (a2:Fz K mg "is_name" vg)
  (a3:Fz K mg "is_sign" ve)
  (a4:Fz K mg "is_pair" vf)
  (a5:Fz K mg "is_rising" pN)
  (a6:Fz K mg "is_clause" pQ)
  (a7:Fz K mg "are_clauses" mZ)
  (a8:Fz K mg "is_riddle" pO)
  (a9:Fz K mg "is_turning" nW)
  (a10:Fz K mg "all_signs" pR)
  (a11:Fz K mg "clause_text" mX)
  (a12:Fz K mg "riddle_text" mS)
  (a13:Fz K mg "answer_text" nc)
  (a14:Fz K mg "turning_text" lX)
  (a15:Fz K mg "check_text" nX)
  (a16:Fz K mg "number_read" mU)
  (a17:Fz K mg "clause_read" mY)
  (a18:Fz K mg "riddle_read" mT)
  (a19:Fz K mg "turning_read" lY)
  (a20:Fz K mg "_law_cell_at" mW)
  (a21:Fz K mg "_law_state" pL)
  (a22:Fz K mg "_law_take" rT)
  (a23:Fz K mg "_law_clause" nV)
  (a24:Fz K mg "_law_turning" mV)
  (a25:Fz K mg "_law_led_sign" ma)
  (a26:Fz K mg "_law_led_clause" kX)
  (a27:Fz K mg "_law_closed" nU)
  (a28:Fz K mg "_law_riddle" nS)
  (a29:Fz K mg "_law_clause_text" kF)
  (a30:Fz K mg "_law_riddle_text" kE)
  (a31:Fz K mg "_law_answer_text" kG)
  (a32:Fz K mg "_law_turning_text" kn)
  (a33:Fz K mg "_law_same" lZ)
  (a34:Fz K mg "_law_all_answers" kH)
  (a35:Fz K mg "_law_great" pM)
  (a36:Fz K mg "law" ES)
  (e9:mg "str"=none)
  (j4: ∃t,mg "MOST_SIGNS"=some (.int 5 t))
  (i7: ∃t,mg "MOST_CLAUSES"=some (.int 30 t))
  (c9: ∃t,mg "MOST_NAMES"=some (.int 5 t))
  (g8: ∃t,mg "NO_NAMES"=some (.str "none" t))
  : ∃fd:FuncData,(∀(s:eZ) (v:fI),BindsTo s fd ⟨[v],[]⟩ [("_law_script",v)])/\ ∀base:Heap,K.In base->base.Ns mainGlobals mg->FnOk l.prog w K mg base CX0 9 fa fd ["_law_script"] (spF K rm):=by
 obtain⟨fd,F,hb⟩:=fzL a36 ez PY;refine⟨fd,hb,fun base KB _=>?_⟩
 let z:ZZ:=⟨l.prog,w,K,mg,base⟩
 have O0:=B6 (Z:=z) (k:=0) a0 T;have O1:=AZ (Z:=z) (k:=1) a1 T O0.up;have O2:=D4 (Z:=z) (k:=2) a2 T O1.up;have O3:=D2 (Z:=z) (k:=3) a3 T O0.up O2.up;have O4:=D3 (Z:=z) (k:=0) a4 T;have O5:=AX (Z:=z) (k:=0) a5 T;have O6:=A0 (Z:=z) (k:=4) a6 T j4 O3.up O5.up;have O7:=xG (Z:=z) (k:=5) a7 T i7 O6.up O5.up;have O8:=AY (Z:=z) (k:=6) a8 T c9 O4.up O1.up O7.up;have O9:=yM (Z:=z) (k:=4) a9 T O3.up;have O10:=A4 (Z:=z) (k:=0) a10 T;have O11:=xE (Z:=z) (k:=0) a11 T e9;have O12:=xu (Z:=z) (k:=1) a12 T O11.up;have O13:=xH (Z:=z) (k:=0) a13 T g8 e9;have O14:=vU (Z:=z) (k:=0) a14 T g8 e9;have O15:=yN (Z:=z) (k:=0) a15 T e9;have eQ:=xw (Z:=z) (k:=0) a16 T e9;have O17:=xF (Z:=z) (k:=5) a17 T O10.up eQ.up O6.up;have O18:=xv (Z:=z) (k:=7) a18 T c9 O15.up eQ.up O17.up O8.up O12.up;have O19:=vV (Z:=z) (k:=5) a19 T g8 c9 O15.up O10.up eQ.up O9.up;have O20:=xD (Z:=z) (k:=0) a20 T;have O21:=AV (Z:=z) (k:=1) a21 T O20.up;have cP:=BZ (Z:=z) (k:=0) a22 T;have O23:=yL (Z:=z) (k:=1) a23 T cP.up;have O24:=xy (Z:=z) (k:=1) a24 T cP.up;have O25:=vW (Z:=z) (k:=0) a25 T;have O26:=tY (Z:=z) (k:=1) a26 T O25.up;have O27:=yK (Z:=z) (k:=2) a27 T O26.up;have O28:=yJ (Z:=z) (k:=3) a28 T cP.up O23.up O24.up O27.up;have O29:=rZ (Z:=z) (k:=0) a29 T e9;have O30:=rY (Z:=z) (k:=1) a30 T e9 O29.up;have O31:=sd (Z:=z) (k:=0) a31 T e9;have O32:=qI (Z:=z) (k:=0) a32 T e9;have O33:=vI (Z:=z) a33 T RD;have O34:=se (Z:=z) (k:=0) a34 T;have O35:=AW (Z:=z) (k:=1) a35 T cP.up;exact Pd (Z:=z) (k:=8) F T O21.up O28.up cP.up O35.up O34.up O24.up O12.up O30.up O33.up O13.up O31.up O14.up O32.up O18.up O19.up
end K91
namespace PV
open PySem
theorem Fv{a b:Str}(h:a.cps.toList=b.cps.toList):a=b:=Str.ext' (Array.toList_inj.mp h)
theorem sj(sep x y:Str)(r:fV):Str.join sep (x::y::r)=x++sep++Str.join sep (y::r):=rfl
theorem MV{c:Nat}: ∀{a b r q:hV},c∉a->c∉b->a++c::r=b++c::q->a=b/\r=q:=by
 intro a
 induction a with
 |nil=>
  intro b r q _ hb h
  cases b with
  |nil=>exact⟨rfl,by simpa using h⟩
  |cons x b=>simp at h hb;exact absurd h.1 hb.1
 |cons x a ih=>
  intro b r q ha hb h
  cases b with
  |nil=>simp at h ha;exact absurd h.1.symm ha.1
  |cons y b=>
   simp at h ha hb;obtain⟨h1,h2⟩:=ih ha.2 hb.2 h.2;exact⟨by rw[h.1,h1],h2⟩
theorem Ft{c:Nat}{a b r q:Str}(ha:c∉a.cps.toList)(hb:c∉b.cps.toList)(h:a++⟨#[c]⟩++r=b++⟨#[c]⟩++q):a=b/\r=q:=by
 have h':=lH (fun s=>s.cps.toList) h;simp only[Str.cps_append,Array.toList_append,mE] at h';obtain⟨h1,h2⟩:=MV ha hb (by simpa using h');exact⟨Fv h1,Fv h2⟩
theorem JI{c:Nat}{a b q:Str}(ha:c∉a.cps.toList)(h:a=b++⟨#[c]⟩++q):False:=by
 apply ha;rw[h];simp[Str.cps_append]
theorem J5{c:Nat}: ∀{ws us:fV},ws≠[]->us≠[]->(∀w∈ws,c∉w.cps.toList)->(∀w∈us,c∉w.cps.toList)->Str.join ⟨#[c]⟩ ws=Str.join ⟨#[c]⟩ us->ws=us:=by
 intro ws
 induction ws with
 |nil=>intro us h;exact absurd rfl h
 |cons w ws ih=>
  intro us _ hu h1 h2 e
  cases us with
  |nil=>exact absurd rfl hu
  |cons u us=>
   have hw:=h1 w gY;have hu':=h2 u gY
   cases ws with
   |nil=>
    cases us with
    |nil=>exact lH (· ::[]) (show w=u from e)
    |cons v us=>exact(JI hw (show w=u++⟨#[c]⟩++Str.join ⟨#[c]⟩ (v::us) from e)).elim
   |cons x ws=>
    cases us with
    |nil=>exact(JI hu' (show u=w++⟨#[c]⟩++Str.join ⟨#[c]⟩ (x::ws) from e.symm)).elim
    |cons v us=>
     obtain⟨rfl,e2⟩:=Ft hw hu' (show w++⟨#[c]⟩++Str.join ⟨#[c]⟩ (x::ws)=u++⟨#[c]⟩++Str.join ⟨#[c]⟩ (v::us) from e);rw[ih (by simp) (by simp) (fun w hw=>h1 w (gX _ hw)) (fun w hw=>h2 w (gX _ hw)) e2]
theorem nR{c:Nat}{ws:fV}(h0:ws≠[])(h: ∀w∈ws,c∉w.cps.toList):Txt.split (Str.join ⟨#[c]⟩ ws) ⟨#[c]⟩=ws:=by
 have hs:=StrLaws.join_split (Str.join ⟨#[c]⟩ ws) ⟨#[c]⟩;refine J5 (fun e=>?_) h0 (StrLaws.split_free _ c) h hs;have:=PyProof.Rows.split_pos (Str.join ⟨#[c]⟩ ws) ⟨#[c]⟩;rw[e] at this;simp at this
theorem RX{x:Str}{c i:Nat}:StrLaws.At x ⟨#[c]⟩ x.length i↔x.cps.toList[i]?=some c:=by
 unfold StrLaws.At;rw[StrLaws.subAt_eq,beq_iff_eq];show i+1<=x.length/\(x.cps.toList.drop i).take 1=[c]↔_;have hl:x.cps.toList.length=x.length:=by simp[Str.length]
 constructor
 ·rintro⟨h1,h2⟩
  have h3:(x.cps.toList.drop i)[0]?=some c:=by
   cases hd:x.cps.toList.drop i with
   |nil=>rw[hd] at h2;cases h2
   |cons y r=>rw[hd] at h2;simp at h2;rw[h2];rfl
  rw[List.getElem?_drop] at h3;simpa using h3
 ·intro h;have hi:=(sN.mp h).1;refine⟨by omega,?_⟩;rw[rM hi];simp[(sN.mp h).2]
theorem Jy{c:Nat}{a b:Str}(ha:c∉a.cps.toList):Txt.partition (a++⟨#[c]⟩++b) ⟨#[c]⟩=(a,⟨#[c]⟩,b):=by
 have hsum:=StrLaws.partition_sum (a++⟨#[c]⟩++b) ⟨#[c]⟩;have hc:c∈(a++⟨#[c]⟩++b).cps.toList:=by simp[Str.cps_append]
 generalize hx:a++⟨#[c]⟩++b=x at*;obtain⟨k,hk⟩:=Qa.mp hc;rcases StrLaws.occ_head x ⟨#[c]⟩ 1 (gJ _) with⟨_,h⟩|⟨i,r,h1,h2,h3⟩
 ·exact absurd (RX.mpr hk) (h k)
 ·have hp:Txt.partition x ⟨#[c]⟩=(Builtin.Str.strSub x 0 i,⟨#[c]⟩,Builtin.Str.strSub x (i+1) x.length):=by
   unfold Txt.partition;rw[h1];rfl
  rw[hp] at hsum ⊢
  have hf:c∉(Builtin.Str.strSub x 0 i).cps.toList:=fun z=>by
   rw[StrLaws.strSub_toList] at z;obtain⟨m,hm⟩:=Qa.mp z
   have hmi:m<i:=by
    have:=(sN.mp hm).1;simp at this;omega
   rw[Du (by omega)] at hm;exact h3 m hmi (RX.mpr (by simpa using hm))
  obtain⟨e1,e2⟩:=Ft hf ha (hsum.trans hx.symm);exact Prod.ext e1 (Prod.ext rfl e2)
open PySem.Spec PyProof.Rows L2 PX
@[simp] theorem UG(d:D)(δ:Dn):fC d δ=some ((d,false),δ):=rfl
@[simp] theorem Tp(f:F)(δ:Dn):eW f δ=(f δ).bind fun p=>some (.val p.1,p.2):=rfl
@[simp] theorem Si(x:D×Bool)(δ:Dn):eV 0 (some x::δ)=some (.slot 0,some x::δ):=rfl
@[simp] theorem Sg(a:Sl)(x:D×Bool)(δ:Dn):eV 1 (a::some x::δ)=some (.slot 1,a::some x::δ):=rfl
@[simp] theorem Sf(a b:Sl)(x:D×Bool)(δ:Dn):eV 2 (a::b::some x::δ)=some (.slot 2,a::b::some x::δ):=rfl
@[simp] theorem Se(a b c:Sl)(x:D×Bool)(δ:Dn):eV 3 (a::b::c::some x::δ)=some (.slot 3,a::b::c::some x::δ):=rfl
@[simp] theorem Sd(a b c d:Sl)(x:D×Bool)(δ:Dn):eV 4 (a::b::c::d::some x::δ)=some (.slot 4,a::b::c::d::some x::δ):=rfl
@[simp] theorem Sb(a b c d e:Sl)(x:D×Bool)(δ:Dn):eV 5 (a::b::c::d::e::some x::δ)=some (.slot 5,a::b::c::d::e::some x::δ):=rfl
@[simp] theorem Sa(a b c d e f:Sl)(x:D×Bool)(δ:Dn):eV 6 (a::b::c::d::e::f::some x::δ)=some (.slot 6,a::b::c::d::e::f::some x::δ):=rfl
@[simp] theorem R9(a b c d e f g:Sl)(x:D×Bool)(δ:Dn):eV 7 (a::b::c::d::e::f::g::some x::δ)=some (.slot 7,a::b::c::d::e::f::g::some x::δ):=rfl
@[simp] theorem R8(a b c d e f g h:Sl)(x:D×Bool)(δ:Dn):eV 8 (a::b::c::d::e::f::g::h::some x::δ)=some (.slot 8,a::b::c::d::e::f::g::h::some x::δ):=rfl
@[simp] theorem DP(δ:Dn)(r:D×Bool):res δ (.val r)=some r.1:=rfl
@[simp] theorem To(x:D×Bool)(δ:Dn):res (some x::δ) (.slot 0)=some x.1:=rfl
@[simp] theorem Tn(a:Sl)(x:D×Bool)(δ:Dn):res (a::some x::δ) (.slot 1)=some x.1:=rfl
@[simp] theorem Tj(a b:Sl)(x:D×Bool)(δ:Dn):res (a::b::some x::δ) (.slot 2)=some x.1:=rfl
@[simp] theorem Ti(a b c:Sl)(x:D×Bool)(δ:Dn):res (a::b::c::some x::δ) (.slot 3)=some x.1:=rfl
@[simp] theorem Th(a b c d:Sl)(x:D×Bool)(δ:Dn):res (a::b::c::d::some x::δ) (.slot 4)=some x.1:=rfl
@[simp] theorem Tf(a b c d e:Sl)(x:D×Bool)(δ:Dn):res (a::b::c::d::e::some x::δ) (.slot 5)=some x.1:=rfl
@[simp] theorem Te(a b c d e f:Sl)(x:D×Bool)(δ:Dn):res (a::b::c::d::e::f::some x::δ) (.slot 6)=some x.1:=rfl
@[simp] theorem Tb(a b c d e f g:Sl)(x:D×Bool)(δ:Dn):res (a::b::c::d::e::f::g::some x::δ) (.slot 7)=some x.1:=rfl
@[simp] theorem Ta(a b c d e f g h:Sl)(x:D×Bool)(δ:Dn):res (a::b::c::d::e::f::g::h::some x::δ) (.slot 8)=some x.1:=rfl
@[simp] theorem TJ(g:D->Option (D×Bool))(fa:FO)(δ:Dn):gB g fa δ=(fa δ).bind fun p=>(res p.2 p.1).bind fun x=>(g x).bind fun z=>some (z,p.2):=rfl
@[simp] theorem TH(g:D->D->Option (D×Bool))(fa fb:FO)(δ:Dn):fD g fa fb δ=(fa δ).bind fun p=>(fb p.2).bind fun q=>(res q.2 p.1).bind fun x=>(res q.2 q.1).bind fun y=>(g x y).bind fun z=>some (z,q.2):=rfl
@[simp] theorem QU(δ:Dn):hC [] δ=some ([],δ):=rfl
@[simp] theorem So(f:FO)(fs:List FO)(δ:Dn):hC (f::fs) δ=(f δ).bind fun p=>(hC fs p.2).bind fun q=>some (p.1::q.1,q.2):=rfl
@[simp] theorem Lw(δ:Dn):qG δ []=some []:=rfl
@[simp] theorem N7(δ:Dn)(o:Opd)(os:List Opd):qG δ (o::os)=(res δ o).bind fun d=>(qG δ os).bind fun l=>some (d::l):=rfl
@[simp] theorem Sn(g:List D->Option (D×Bool))(fs:List FO)(δ:Dn):fE g fs δ=(hC fs δ).bind fun p=>(qG p.2 p.1).bind fun ds=>(g ds).bind fun z=>some (z,p.2):=rfl
@[simp] theorem R7:lC []=some []:=rfl
@[simp] theorem SV(r:D×Bool)(os:List Opd):lC (.val r::os)=(lC os).map (r.1:: ·):=rfl
@[simp] theorem IJ(fs:List F)(δ:Dn):jB fs δ=(hC (fs.map eW) δ).bind fun p=>(lC p.1).bind fun ds=>if ds.length<=sizeLine then some ((.tup ds,false),p.2) else none:=rfl
@[simp] theorem TL(fs:List F)(δ:Dn):jx fs δ=(hC (fs.map eW) δ).bind fun p=>(lC p.1).bind fun ds=>if ds.length<=sizeLine then some ((.lst ds,true),p.2) else none:=rfl
@[simp] theorem Uy(b o:Bool)(δ:Dn):asB ((.bl b,o),δ)=some (b,δ):=rfl
@[simp] theorem UE(f:F)(δ:Dn):fT f δ=(f δ).bind asB:=rfl
@[simp] theorem Sq(f g:FT)(δ:Dn):RN f g δ=(f δ).bind fun p=>if p.1=true then g p.2 else some (false,p.2):=rfl
@[simp] theorem TF(f g:FT)(δ:Dn):wd f g δ=(f δ).bind fun p=>if p.1=true then some (true,p.2) else g p.2:=rfl
@[simp] theorem Sm(f:FT)(δ:Dn):iF f δ=(f δ).bind fun p=>some (!p.1,p.2):=rfl
@[simp] theorem N9(f g:F)(δ:Dn):ur f g δ=(f δ).bind fun p=>(asB p).bind fun q=>if q.1=true then g q.2 else some ((.bl false,false),q.2):=rfl
@[simp] theorem Uv(f g:F)(δ:Dn):fOr f g δ=(f δ).bind fun p=>(asB p).bind fun q=>if q.1=true then some ((.bl true,false),q.2) else g q.2:=rfl
@[simp] theorem TK(f:F)(δ:Dn):MO f δ=(f δ).bind fun p=>(asB p).bind fun q=>some ((.bl (!q.1),false),q.2):=rfl
@[simp] theorem Uw(t:FT)(f g:F)(δ:Dn):fIf t f g δ=(t δ).bind fun p=>if p.1=true then f p.2 else g p.2:=rfl
@[simp] theorem S8(δ:Dn):fF δ=some (.nx δ):=rfl
noncomputable def nxt(g:FS):Out->Option Out
 | .nx δ1=>g δ1
 |o=>some o
@[simp] theorem Tr(g:FS)(δ:Dn):nxt g (.nx δ)=g δ:=rfl
@[simp] theorem Tq(g:FS)(r:D×Bool)(δ:Dn):nxt g (.rt r δ)=some (.rt r δ):=rfl
@[simp] theorem S6(f g:FS)(δ:Dn):fg f g δ=(f δ).bind (nxt g):=by
 unfold fg
 cases f δ with
 |none=>rfl
 |some o=>cases o<;>rfl
@[simp] theorem Lv(f:F)(δ:Dn):jW f δ=(f δ).bind fun p=>some (.nx p.2):=rfl
@[simp] theorem S7(f:F)(δ:Dn):gK f δ=(f δ).bind fun p=>some (.rt p.1 p.2):=rfl
@[simp] theorem Uo(t:FT)(f g:FS)(δ:Dn):sIf t f g δ=(t δ).bind fun p=>if p.1=true then f p.2 else g p.2:=rfl
@[simp] theorem S0(i:Nat)(f:F)(δ:Dn):gu i f δ=(f δ).bind fun p=>if i<p.2.length then some (.nx (p.2.set i (some p.1))) else none:=rfl
@[simp] theorem N6(tg:Tg)(f:F)(δ:Dn):DL tg f δ=(f δ).bind fun p=>(tg p.1.1 p.2).bind fun δ1=>some (.nx δ1):=rfl
@[simp] theorem UD(g:D->Option (D×Bool))(d:D):g1 g [d]=g d:=rfl
@[simp] theorem UC(g:D->D->Option (D×Bool))(d e:D):g2 g [d,e]=g d e:=rfl
@[simp] theorem QY(i j:Int):jc (.int i) (.int j)=some (.int (i+j),false):=rfl
@[simp] theorem Um(i j:Int):PX.gSub (.int i) (.int j)=some (.int (i-j),false):=rfl
@[simp] theorem Up(i:Int):su (.int i)=some (.int (-i),false):=rfl
@[simp] theorem Uz(i:Int):om (.int i)=some (.int (if i<0 then -i else i),false):=rfl
@[simp] theorem Tv(l:List D):ly (.tup l)=some (.int l.length,false):=rfl
@[simp] theorem Tw(l:List D):ly (.lst l)=some (.int l.length,false):=rfl
@[simp] theorem SY(l:List D):jj (.lst l)=some (.tup l,false):=rfl
@[simp] theorem SW(l:List D):jj (.tup l)=some (.tup l,false):=rfl
@[simp] theorem Tt(l:List D):Fn (.tup l)=some (.lst l,true):=rfl
@[simp] theorem Tu(l:List D):Fn (.lst l)=some (.lst l,true):=rfl
@[simp] theorem TC(b:Bool):MH (.bl b)=some (.int (if b then 1 else 0),false):=rfl
@[simp] theorem Tz(b:Int):MH (.int b)=some (.int b,false):=rfl
@[simp] theorem Ut(i j:Int):Kj (.int i) (.int j)=some (.int (if j>i then j else i),false):=rfl
@[simp] theorem Us(i j:Int):Ki (.int i) (.int j)=some (.int (if j<i then j else i),false):=rfl
@[simp] theorem Uu(ts:List Ty)(d:D):mz ts d=some (.bl (ts.any (isT d)),false):=rfl
@[simp] theorem IK(i j:Int):gEq (.int i) (.int j)=some (.bl (i==j),false):=by unfold gEq;rw[fJ (by simp[D.dep])];simp[D.eqb]
@[simp] theorem Uq(i j:Int):gNe (.int i) (.int j)=some (.bl (!(i==j)),false):=by unfold gNe;rw[fJ (by simp[D.dep])];simp[D.eqb]
@[simp] theorem Ux(i j:Bool):gEq (.bl i) (.bl j)=some (.bl (i==j),false):=by unfold gEq;rw[fJ (by simp[D.dep])];simp[D.eqb]
@[simp] theorem Ur(i j:Bool):gNe (.bl i) (.bl j)=some (.bl (!(i==j)),false):=by unfold gNe;rw[fJ (by simp[D.dep])];simp[D.eqb]
@[simp] theorem N8(i j:Int):kf .Lt (.int i) (.int j)=some (.bl (decide (i<j)),false):=by simp[kf,kN,iN,D.dep]
@[simp] theorem UA(i j:Int):kf .LtE (.int i) (.int j)=some (.bl (decide (i<=j)),false):=by simp[kf,kN,iN,D.dep]
@[simp] theorem Lx(i j:Int):kf .Gt (.int i) (.int j)=some (.bl (decide (i>j)),false):=by simp[kf,kN,iN,D.dep]
@[simp] theorem UB(i j:Int):kf .GtE (.int i) (.int j)=some (.bl (decide (i>=j)),false):=by simp[kf,kN,iN,D.dep]
@[simp] theorem Sj(f:F)(δ:Dn):gg f δ=(f δ).bind fun p=>match p.1.1 with| .lst l=>some (l,p.2)| .tup l=>some (l,p.2)|_=>none:=rfl
@[simp] theorem S9(fi:FIt)(tg:Tg)(fb:FS)(δ:Dn):lN fi tg fb δ=(fi δ).bind fun p=>mB tg fb p.1 p.2:=rfl
@[simp] theorem tR(δ:Dn):gq δ=some (true,δ):=rfl
@[simp] theorem tU(f:F)(acc:List D)(δ:Dn):gn f acc δ=(f δ).bind fun p=>if acc.length<sizeLine then some (acc++[p.1.1],p.2) else none:=rfl
theorem AH(h:n<=10000):n<=sizeLine:=by rw[gA];lia
theorem EN(h:n<=10000):n<sizeLine:=by rw[gA];lia
noncomputable abbrev enc(t:fN):D×Bool:=(.tup (t.map .int),false)
noncomputable abbrev ii(n:Int):Sl:=some (.int n,false)
noncomputable abbrev eN(t:fN):Sl:=some (enc t)
noncomputable abbrev pI(n:Int):D×Bool:=(.int n,false)
noncomputable abbrev pS(a:Int)(b:Bool):D×Bool:=(.lst [.int a,.bl b],true)
theorem nd1(i:Nat):([i]:List Nat).Nodup:=by simp
noncomputable abbrev stt(a:Int)(b:Bool):Sl:=some (.lst [.int a,.bl b],true)
noncomputable abbrev lsi(l:fN):Sl:=some (.lst (l.map .int),true)
@[simp] theorem Sk(ev:EvF)(fs:List FO)(δ:Dn):fj ev fs δ=(hC fs δ).bind fun p=>(iJ p.2 p.1).bind fun args=>if(fW p.1 args).Nodup then(ev args).bind fun q=>some (q.1,wb p.1 args q.2 p.2) else none:=rfl
@[simp] theorem vm(δ:Dn):iJ δ []=some []:=rfl
@[simp] theorem QV(δ:Dn)(o:Opd)(os:List Opd):iJ δ (o::os)=(uE δ o).bind fun a=>(iJ δ os).bind fun l=>some (a::l):=rfl
@[simp] theorem TM(δ:Dn)(r:D×Bool):uE δ (.val r)=some (r.1,false):=rfl
@[simp] theorem TN(δ:Dn)(i:Nat):uE δ (.slot i)=(δ[i]?).join:=rfl
theorem qo(a:Int)(b:Bool)(m:Int)(hm:0<m)(w9:m<1073741824):
  ∃v a',0<=v/\v<m/\fG [pS a b,pI m]=some ((.int v,false),[some (.lst [.int a',.bl b],true),ii m]):=by
 cases b
 ·have h1: ∀x:Int, -18446744073709551616<x%2147483647/\x%2147483647<18446744073709551616:=fun x=>by lia
  have h2: ∀x:Int, -18446744073709551616<x%2147483629/\x%2147483629<18446744073709551616:=fun x=>by lia
  simp only[fG,qe];simp[evF,gIx,atI,ixN,uk,gI,Kk,oS,GK,vh,jM,gk,fW,wb,G3,Bu,CMul,hm,w9,h1,h2];exact⟨C1 _ (by lia),C2 _ hm⟩
 ·simp only[fG,qe];simp[evF,gIx,atI,ixN,uk,gI,Kk,oS,GK,vh,jM,gk,fW,wb,G3,Bu,CMul,hm,w9];exact⟨C1 _ (by lia),C2 _ hm⟩
theorem wx(x y:Int):(x==y)=decide (x=y):=rfl
theorem hU{g:List D->Option (D×Bool)}{fs:List FO}{δ δ':Dn}{os:List Opd}{ds:List D}{z:D×Bool}(h1:hC fs δ=some (os,δ'))(h2:qG δ' os=some ds)(h3:g ds=some z):fE g fs δ=some (z,δ'):=by
 unfold fE;rw[h1];simp only[gy];rw[h2];simp only[gy];rw[h3];rfl
theorem iD(h1:args.length=np/\np<=n/\(args.zipIdx.all fun p=>!(p.1.2&&asg.contains p.2))=true)(h2:f (args.map some++List.replicate (n-np) none)=some (.rt r δ)):evF n np asg f args=some (r,gk args δ):=by
 unfold evF;rw[fJ h1,h2]
theorem fq(h:f δ=some (.nx δ1)):fg f g δ=g δ1:=by unfold fg;rw[h];rfl
theorem gw{r}(h:f δ=some (.rt r δ1)):fg f g δ=some (.rt r δ1):=by unfold fg;rw[h];rfl
theorem jg{r}(h:f δ=some (r,δ1)):gK f δ=some (.rt r δ1):=by unfold gK;rw[h];rfl
theorem gM{r}(h:f δ=some (r,δ1))(hi:i<δ1.length):gu i f δ=some (.nx (δ1.set i (some r))):=by unfold gu;rw[h];simp only[gy];rw[fJ hi]
theorem jX(h:f δ=some ((.bl b,o),δ1)):fT f δ=some (b,δ1):=by unfold fT;rw[h];rfl
theorem fM{r}(h:f δ=some (r,δ1)):eW f δ=some (.val r,δ1):=by unfold eW;rw[h];rfl
theorem gG(h1:fa δ=some (o1,δ1))(h2:fb δ1=some (o2,δ2))(h3:res δ2 o1=some x)(h4:res δ2 o2=some y)(h5:g x y=some z):fD g fa fb δ=some (z,δ2):=by
 unfold fD;rw[h1];simp only[gy];rw[h2];simp only[gy];rw[h3,h4];simp only[gy];rw[h5];rfl
theorem gL{ev:EvF}{fs:List FO}{δ δ1:Dn}{os:List Opd}{args:List (D×Bool)}{r:D×Bool}{outs:Dn}(h1:hC fs δ=some (os,δ1))(h2:iJ δ1 os=some args)(h3:(fW os args).Nodup)(h4:ev args=some (r,outs)):fj ev fs δ=some (r,wb os args outs δ1):=by
 unfold fj;rw[h1];simp only[gy];rw[h2];simp only[gy];rw[fJ h3,h4];rfl
theorem Ko(h:f δ=some (false,δ1)):wd f g δ=g δ1:=by unfold wd;rw[h];rfl
theorem nP(h:f δ=some (b,δ1)):iF f δ=some (!b,δ1):=by unfold iF;rw[h];rfl
theorem lK(h:t δ=some (false,δ1)):sIf t f g δ=g δ1:=by unfold sIf;rw[h];rfl
theorem oI(h:t δ=some (true,δ1)):sIf t f g δ=f δ1:=by unfold sIf;rw[h];rfl
theorem mr{fa fb:FO}{δ δ1 δ2:Dn}{o1 o2:Opd}(h1:fa δ=some (o1,δ1))(h2:fb δ1=some (o2,δ2)):hC [fa,fb] δ=some ([o1,o2],δ2):=by
 simp only[hC];rw[h1];simp only[gy];rw[h2];rfl
theorem lE{fa:FO}{δ δ1:Dn}{o1:Opd}(h1:fa δ=some (o1,δ1)):hC [fa] δ=some ([o1],δ1):=by
 simp only[hC];rw[h1];rfl
theorem lM(h:fi δ=some (ds,δ1)):lN fi tg fb δ=mB tg fb ds δ1:=by unfold lN;rw[h];rfl
theorem Fp{fs:List F}{δ δ1:Dn}{os:List Opd}{ds:List D}(h1:hC (fs.map eW) δ=some (os,δ1))(h2:lC os=some ds)(h3:ds.length<=sizeLine):jx fs δ=some ((.lst ds,true),δ1):=by
 unfold jx;rw[h1];simp only[gy];rw[h2];simp only[gy];rw[fJ h3]
theorem MS(ns:fN)(k:Nat): ∃c,jI [(.lst (ns.map .int),false),pI k]=some ((.int c,false),[some (.lst (ns.map .int),false),ii k]):=by
 by_cases hk:k<ns.length
 ·refine⟨ns[k],?_⟩;simp[jI,ml,evF,gIx,atI,ixN,gk,hk]
 ·refine⟨0,?_⟩;simp[jI,ml,evF,gk,hk]
theorem Ni:GK (.int 10) (.int 18)=ii 1000000000000000000:=by
 have:Bu 10 18:=by unfold Bu;decide+kernel
 show((if Bu 10 18 then some (D.int (10^(18:Int).toNat)) else none).map fun z=>(z,false))=_;rw[fJ this];rfl
theorem Ii(ns:fN)(k:Nat): ∃a b,jt [(.lst (ns.map .int),false),pI k]=some ((.lst [.int a,.bl b],true),[some (.lst (ns.map .int),false),ii k]):=by
 obtain⟨c,hc⟩:=MS ns k;by_cases h:c>=1000000000000000000
 ·refine⟨c-1000000000000000000,true,?_⟩;simp[jt,oo,evF,hc,fW,wb,Ni,h,gA,gk]
 ·refine⟨c%2147483647,false,?_⟩;simp[jt,oo,evF,hc,fW,wb,Ni,h,gA,gk,uk,gI]
noncomputable def st(n:Nat):List Int:=(List.range n).map fun(k:Nat)=>(1+(k:Int))
theorem NQ(n:Nat):(st n).map D.int=gf 1 n:=by simp[st,gf]
noncomputable def kJ:Nat->List Int->List Int->List (List Int)
 |0,_,f=>[f]
 |k+1,r,f=>(List.range r.length).flatMap fun v=>kJ k (r.eraseIdx v) (f++[r.getD v 0*1])++kJ k (r.eraseIdx v) (f++[r.getD v 0* -1])
theorem zy(f:Int->D): ∀(l:fN) (k:Nat),(l.map f).eraseIdx k=(l.eraseIdx k).map f
 |[],k=>by simp
 |x::l,0=>by simp
 |x::l,k+1=>by simp[zy f l k]
theorem zw{i:Nat}{f:FO}{δ δ1:Dn}{o:Opd}{l0 l:List D}{k:Int}{j:Nat}{d:D}(h0:δ[i]?=some (some (.lst l0,true)))(h1:f δ=some (o,δ1))(h2:res δ1 o=some (.int k))(h3:δ1[i]?=some (some (.lst l,true)))(h4: -(2^63)<=k/\k<2^63)(h5:ixN l.length k=some j)(h6:l[j]?=some d):
  ni i f δ=some ((d,false),δ1.set i (some (.lst (l.eraseIdx j),true))):=by
 unfold ni;rw[h0];simp only[];rw[h1];simp only[gy];rw[h2,h3];simp only[];rw[fJ h4,h5];simp only[gy];rw[h6];rfl
theorem yk{i:Nat}{f:F}{δ δ1:Dn}{r:D×Bool}{l0 l:List D}(h0:δ[i]?=some (some (.lst l0,true)))(h1:f δ=some (r,δ1))(h3:δ1[i]?=some (some (.lst l,true)))(h4:l.length<sizeLine):
  jQ i f δ=some ((.non,false),δ1.set i (some (.lst (l++[r.1]),true))):=by
 unfold jQ;rw[h0];simp only[];rw[h1];simp only[gy];rw[h3];simp only[];rw[fJ h4]
theorem nK{r}(h:f δ=some (r,δ1)):jW f δ=some (.nx δ1):=by unfold jW;rw[h];rfl
noncomputable abbrev fPop:F:=(ni 2 (eW (fj fG [(eV 0),(eW (fE (g1 ly) [(eV 2)]))])))
abbrev RM:F:=(fD gIx (eW (jx [(fC (.int 1)),(gB su (eW (fC (.int 1))))])) (eW (fj fG [(eV 0),(eW (fC (.int 2)))])))
abbrev fbT:FS:=(fg (jW (jQ 3 (fD oS (eW fPop) (eW RM)))) fF)
theorem OJ(a:Int)(b:Bool)(n:Sl)(r f:fN)(x:Sl)(h0:0<r.length)(h5:r.length<=5): ∃v a',v<r.length/\fPop [stt a b,n,lsi r,lsi f,x]=some ((.int (r.getD v 0),false),[stt a' b,n,lsi (r.eraseIdx v),lsi f,x]):=by
 obtain⟨v,a',hv0,hv,e⟩:=qo a b r.length (by lia) (by lia);have hn:v.toNat<r.length:=by lia
 refine⟨v.toNat,a',hn,?_⟩;have e1:(lsi (r.eraseIdx v.toNat):Sl)=some (.lst ((r.map D.int).eraseIdx v.toNat),true):=by rw[zy]
 rw[e1];refine zw (k:=v) (δ1:=[stt a' b,n,lsi r,lsi f,x]) rfl (fM (r:=(.int v,false)) (gL (δ1:=[stt a b,n,lsi r,lsi f,x]) (os:=[.slot 0,.val (.int r.length,false)]) (args:=[pS a b,pI r.length]) ?_ rfl (show([0]:List Nat).Nodup from by decide) e)) rfl rfl ⟨by lia,by lia⟩ (j:=v.toNat) ?_ ?_
 ·show some ([Opd.slot 0,Opd.val (D.int ((r.map D.int).length:Nat),false)],_)=_;rw[gW]
 ·unfold ixN;rw[fJ hv0,fJ (by simpa using hv)]
 ·simp[hn]
theorem NX(a:Int)(b:Bool)(n y z x:Sl): ∃s a',(s=1\/s= -1)/\RM [stt a b,n,y,z,x]=some ((.int s,false),[stt a' b,n,y,z,x]):=by
 obtain⟨v,a',hv0,hv,e⟩:=qo a b 2 (by lia) (by lia);have hl: ∀δ:Dn,jx [(fC (.int 1)),(gB su (eW (fC (.int 1))))] δ=some ((.lst [.int 1,.int (-1)],true),δ):=fun δ=>rfl;refine⟨if v=0 then 1 else -1,a',by split<;>simp,?_⟩;refine gG (δ1:=[stt a b,n,y,z,x]) (fM (hl _)) (fM (δ1:=[stt a' b,n,y,z,x]) (gL (δ1:=[stt a b,n,y,z,x]) (os:=[.slot 0,.val (.int 2,false)]) (args:=[pS a b,pI 2]) rfl rfl (show([0]:List Nat).Nodup from by decide) e)) rfl rfl ?_;rcases(show v=0\/v=1 by lia) with rfl|rfl<;>rfl
theorem Pu(a:Int)(b:Bool)(n:Sl)(r f:fN)(x:Sl)(h0:0<r.length)(h5:r.length<=5)(hf:f.length<=5): ∃v s a',v<r.length/\(s=1\/s= -1)/\fbT [stt a b,n,lsi r,lsi f,x]=some (.nx [stt a' b,n,lsi (r.eraseIdx v),lsi (f++[r.getD v 0*s]),x]):=by
 obtain⟨v,a1,hv,e1⟩:=OJ a b n r f x h0 h5;obtain⟨s,a2,hs,e2⟩:=NX a1 b n (lsi (r.eraseIdx v)) (lsi f) x;refine⟨v,s,a2,hv,hs,?_⟩
 have hm:oS (.int (r.getD v 0)) (.int s)=ii (r.getD v 0*s):=by
  have:CMul (r.getD v 0) s:= .inr (by lia);show((if CMul (r.getD v 0) s then some (D.int (r.getD v 0*s)) else none).map fun z=>(z,false))=_;rw[fJ this];rfl
 have hl:(f.map D.int).length<sizeLine:=by rw[gW];exact Nat.lt_of_le_of_lt hf (by decide)
 have e3:=yk (i:=3) (δ:=[stt a b,n,lsi r,lsi f,x]) (l0:=f.map .int) rfl (gG (fM e1) (fM e2) rfl rfl hm) (l:=f.map .int) rfl hl;refine(fq (nK e3)).trans ?_;simp[fF,lsi]
theorem RG(b:Bool)(n:Sl): ∀(ds:List D) (a:Int) (r f:fN) (x:Sl),ds.length=r.length->f.length+r.length<=5->
  ∃a' t r' x',t∈kJ ds.length r f/\mB (fk 4) fbT ds [stt a b,n,lsi r,lsi f,x]=some (.nx [stt a' b,n,lsi r',lsi t,x']):=by
 intro iV
 induction iV with
 |nil=>
  intro a r f x _ _;exact⟨a,f,r,x,by simp[kJ],rfl⟩
 |cons d ds iH=>
  intro a r f x h hl;simp only[jb] at h;obtain⟨v,s,a1,hv,hs,e⟩:=Pu a b n r f (some (d,false)) (by lia) (by lia) (by lia);obtain⟨a',t,r',x',ht,e'⟩:=iH a1 (r.eraseIdx v) (f++[r.getD v 0*s]) (some (d,false)) (by rw[rC,fJ hv];lia) (by rw[rC,fJ hv,lr];simp only[jb,oF];lia);refine⟨a',t,r',x',?_,?_⟩
  ·simp only[jb,kJ,uI,nF,qE];refine⟨v,hv,?_⟩;rcases hs with rfl|rfl
   ·exact .inl ht
   ·exact .inr ht
  ·unfold mB;rw[show fk 4 d [stt a b,n,lsi r,lsi f,x]=some [stt a b,n,lsi r,lsi f,some (d,false)] from rfl];simp only[gy];rw[e];simp only[gy];exact e'
theorem N2(n:Nat)(hn:n<=5):gRg .lst true [.int 1,.int ((n:Int)+1)]=some (.lst ((st n).map .int),true):=by
 have:n=0\/n=1\/n=2\/n=3\/n=4\/n=5:=by lia
 have h1:RgOk 1 ((n:Int)+1):=by rcases this with rfl|rfl|rfl|rfl|rfl|rfl<;>decide+kernel
 have h2:((n:Int)+1-1).toNat=n:=by lia
 show(if RgOk 1 ((n:Int)+1) then some (D.lst (gf 1 ((n:Int)+1-1).toNat),true) else none)=_;rw[fJ h1,h2,<-NQ]
theorem qv{f:FO}{δ δ1:Dn}{o:Opd}{n:Nat}(h1:f δ=some (o,δ1))(h2:res δ1 o=some (.int n))(hn:n<=63):qc f δ=some (gf 0 n,δ1):=by
 have hb:(-(2^62)<=(n:Int)/\(n:Int)<2^62):=⟨by lia,by lia⟩
 have h3:hC [f] δ=some ([o],δ1):=by simp[hC,h1]
 have h4:qG δ1 [o]=some [.int n]:=by simp[qG,h2]
 unfold qc;rw[h3];simp only[gy];rw[h4];simp only[];rw[fJ hb];rfl
theorem wX(a:Int)(b:Bool)(n:Nat)(hn:n<=5): ∃a' t,t∈kJ n (st n) []/\il [pS a b,pI n]=some (enc t,[stt a' b,ii n]):=by
 have hlen:(gf 0 n).length=n:=by simp[gf]
 have l5:(st n).length=n:=by simp[st]
 obtain⟨a',t,r',x',ht,e⟩:=RG b (ii n) (gf 0 n) a (st n) [] none (by rw[hlen,l5]) (by rw[l5];simpa using hn);rw[hlen] at ht;refine⟨a',t,ht,?_⟩;refine iD (δ:=[stt a' b,ii n,lsi r',lsi t,x']) ⟨rfl,by decide,rfl⟩ ?_;refine(fq (δ1:=[stt a b,ii n,lsi (st n),none,none]) (gM (i:=2) (δ1:=[stt a b,ii n,none,none,none]) (hU (os:=[.val (.int 1,false),.val (.int ((n:Int)+1),false)]) rfl rfl (N2 n hn)) (show 2<5 by decide))).trans ?_;refine(fq (δ1:=[stt a b,ii n,lsi (st n),lsi [],none]) rfl).trans ?_;refine(fq ((lM (qv (o:= .slot 1) rfl rfl (by lia))).trans e)).trans ?_;exact gw (jg (hU (os:=[.slot 3]) rfl rfl rfl))
theorem Gq: ∀(k:Nat) (r f t:fN),r.length=k->t∈kJ k r f->t.length=f.length+k:=by
 intro iV
 induction iV with
 |zero=>
  intro r f t _ h;simp[kJ] at h;subst h;simp
 |succ k iH=>
  intro r f t hr h;simp only[kJ,uI,nF,qE] at h;obtain⟨v,hv,h⟩:=h;have hl:(r.eraseIdx v).length=k:=by rw[rC,fJ hv];lia
  rcases h with h|h
  ·have:=iH _ _ t hl h;simp at this;lia
  ·have:=iH _ _ t hl h;simp at this;lia
theorem HV{n:Nat}{t:fN}(h:t∈kJ n (st n) []):t.length=n:=by
 have:=Gq n (st n) [] t (by simp[st]) h;simpa using this
theorem yq: ∀t:List Int,D.depL (t.map .int)=0:=by
 intro iV
 induction iV with
 |nil=>
  simp[D.depL]
 |cons s t iH=>
  simp[D.depL,D.dep,iH]
theorem ym: ∀a b:List Int,D.eqbL (a.map .int) (b.map .int)=decide (a=b)
 |[],[]=>by simp[D.eqbL]
 |[],_::_=>by simp[D.eqbL]
 |_::_,[]=>by simp[D.eqbL]
 |x::a,y::b=>by simp[D.eqbL,D.eqb,ym a b,Bool.decide_and,wx]
@[simp] theorem zv(a b:fN):gEq (.lst (a.map .int)) (.lst (b.map .int))=some (.bl (decide (a=b)),false):=by unfold gEq;rw[fJ (by simp[D.dep,yq])];simp[D.eqb,ym]
theorem Mu: ∀(l m:fN),l.Nodup->(∀x∈l,x∈m)->m.length<=l.length->l.Perm m:=by
 intro iV
 induction iV with
 |nil=>
  intro m _ _ h;have:m=[]:=La.mp (by simpa using h);subst this;exact rG _
 |cons x l iH=>
  intro m nd hs h;rw[Ax] at nd;have hx:=hs x gY;have hp:=Hb hx;refine((iH (m.erase x) nd.2 (fun y hy=>?_) ?_).cons x).trans hp.symm
  ·have dS:=hs y (gX _ hy);have j7:y≠x:=fun e=>nd.1 (e▸hy);exact(C0 j7).mpr dS
  ·have:=hp.length_eq;simp only[jb] at this h
   lia
theorem Lj:x∈st n↔1<=x/\x<=n:=by
 simp only[st,kx,qE];constructor
 ·rintro⟨k,h,rfl⟩;lia
 ·rintro⟨h1,h2⟩;exact⟨(x-1).toNat,by lia,by lia⟩
theorem QH(n:Nat):(st n).Pairwise (· < ·):=by
 simp only[st];rw[yD];exact Qe.imp fun h=>by lia
theorem QJ(n:Nat):(st n).Nodup:=(QH n).imp fun h=>by lia
theorem Jp{n:Nat}{l:fN}:l.Perm (st n)↔l.length=n/\(∀x∈l,1<=x/\x<=n)/\l.Nodup:=by
 constructor
 ·intro h;refine⟨by rw[h.length_eq];simp[st],fun x hx=>Lj.mp (h.mem_iff.mp hx),h.symm.nodup (QJ n)⟩
 ·rintro⟨h1,h2,h3⟩;exact Mu l (st n) h3 (fun x hx=>Lj.mpr (h2 x hx)) (by simp[st,h1])
theorem Bb{l:fN}{m:List D}(h:m.Perm (l.map D.int)): ∃k:List Int,m=k.map .int:=by
 refine⟨m.map fun d=>match d with|D.int i=>i|_=>0,?_⟩;rw[ja]
 symm
 rw[mC (g:=id),rB];intro d hd;obtain⟨i,_,rfl⟩:=kx.mp (h.mem_iff.mp hd);rfl
theorem BK(l:fN):kU (l.map .int)=true:=by
 unfold kU
 cases l with
 |nil=>rfl
 |cons x l=>
  rw[uN];right;simp only[gP];simp[jo,D.pr,D.dep,kN]
theorem F3: ∀l:List Int,(∀k,(kW (l.reverse.map .int)).1 k=decide (k∈l.reverse))/\(kW (l.reverse.map .int)).2<=l.length/\((kW (l.reverse.map .int)).2=l.length↔l.Nodup):=by
 intro iV
 induction iV with
 |nil=>
  exact⟨fun k=>by simp[kW],by simp[kW],by simp[kW]⟩
 |cons x l iH=>
  obtain⟨h1,h2,h3⟩:=iH;rw[List.reverse_cons,qK,gP,mG,zg];refine⟨fun k=>?_,?_,?_⟩
  ·dsimp only;rw[h1 k];by_cases a:k∈l.reverse<;>by_cases b:k=x<;>simp_all
  ·dsimp only;rw[jb];split<;>lia
  ·dsimp only;rw[h1 x,Ax];by_cases a:x∈l
   ·simp only[List.mem_reverse,a,decide_true,iu,not_true_eq_false,false_and,iff_false,jb];lia
   ·simp only[List.mem_reverse,a,decide_false,gv,gO,not_false_eq_true,true_and,jb];rw[<-h3];lia
theorem Lp(l:fN):(kW (l.map .int)).2=l.length↔l.Nodup:=by
 have:=(F3 l.reverse).2.2;rw[List.reverse_reverse,HA,wD l |>.nodup_iff] at this;exact this
theorem AD(pre:Dn)(x:Sl)(d:D):fk pre.length d (pre++[x])=some (pre++[some (d,false)]):=by
 unfold fk;rw[fJ (by simp)];simp[List.set_append]
theorem Bq(f:F)(g:D->D)(pre:Dn): ∀(l acc:List D) (x:Sl),(∀d∈l,∃o,f (pre++[some (d,false)])=some ((g d,o),pre++[some (d,false)]))->acc.length+l.length<=sizeLine->
  ∃x',jA (fk pre.length) gq (gn f) l acc (pre++[x])=some (acc++l.map g,pre++[x']):=by
 intro iV
 induction iV with
 |nil=>
  intro acc x _ _;exact⟨x,by simp[jA]⟩
 |cons d l iH=>
  intro acc x h hl;obtain⟨o,hd⟩:=h d gY;obtain⟨x',e⟩:=iH (acc++[g d]) (some (d,false)) (fun d' h'=>h d' (gX _ h')) (by simp at hl ⊢;lia);refine⟨x',?_⟩;have hs:acc.length<sizeLine:=by simp at hl;lia
  rw[jA,AD];simp only[gy,tR,iu,tU];rw[hd];simp only[gy];rw[fJ hs];simp only[gy];rw[e];simp
theorem PR(f:F)(g:D->Int)(pre:Dn): ∀(l acc:List D) (x:Sl),(∀d∈l,∃o,f (pre++[some (d,false)])=some ((.int (g d),o),pre++[some (d,false)]))->acc.length+l.length<=1000->
  ∃x',jA (fk pre.length) gq (yy f) l acc (pre++[x])=some (acc++l.map fun d=> .int (g d),pre++[x']):=by
 intro iV
 induction iV with
 |nil=>
  intro acc x _ _;exact⟨x,by simp[jA]⟩
 |cons d l iH=>
  intro acc x h hl;obtain⟨o,hd⟩:=h d gY;obtain⟨x',e⟩:=iH (acc++[.int (g d)]) (some (d,false)) (fun d' h'=>h d' (gX _ h')) (by simp at hl ⊢;lia);refine⟨x',?_⟩;have hb:scanBound=4096:=rfl;have hs:acc.length+1<scanBound:=by simp at hl;lia
  rw[jA,AD];simp only[gy,tR,iu,yy];rw[hd];simp only[gy];rw[fJ hs];simp only[gy];rw[e];simp
theorem GZ(p:D->Bool): ∀l:List D,uC (l.map fun d=> .bl (p d))=some (l.map p):=by
 intro iV
 induction iV with
 |nil=>
  exact rfl
 |cons d l iH=>
  simp[uC,iH]
theorem sM(p:D->Bool)(l:List D):vZ (.lst (l.map fun d=> .bl (p d)))=some (.bl (l.all p),false):=by
 simp[vZ,GZ,List.all_map,Function.comp_def]
noncomputable def ab(s:Int):Int:=if s<0 then -s else s
noncomputable def wh:D->Bool
 | .int _=>true
 |_=>false
noncomputable def sg(n:Int):D->Bool
 | .int s=>decide (1<=ab s)&&decide (ab s<=n)
 |_=>false
noncomputable def iOf:D->Int
 | .int s=>s
 |_=>0
theorem tK(d:D):lz [(d,false)]=some ((.bl (wh d),false),[some (d,false)]):=by
 cases d<;>simp[lz,vP,evF,gk,wh,isT]
theorem zm(d:D)(lo hi:Int):ju [(d,false),(.int lo,false),(.int hi,false)]=some ((.bl (match d with| .int s=>decide (lo<=s)&&decide (s<=hi)|_=>false),false),[some (d,false),some (.int lo,false),some (.int hi,false)]):=by
 cases d with
 |int s=>by_cases h:lo<=s<;>simp[ju,oq,evF,gk,tK,wh,fW,wb,mq,iN,h]
 |_=>simp[ju,oq,evF,gk,tK,wh,fW,wb]
theorem Fb(d:D)(n:Int):ox [(.int n,false),(d,false)]=some ((.bl (match d with| .int s=>decide (1<=s)&&decide (s<=n)|_=>false),false),[some (.int n,false),some (d,false)]):=by
 simp[ox,ye,evF,gk,zm,fW,wb]
theorem EO(n:Int)(d:D):jJ [pI n,(d,false)]=some ((.bl (sg n d),false),[ii n,some (d,false)]):=by
 cases d with
 |int s=>
  simp[jJ,sD,evF,gk,tK,Fb,wh,fW,wb,sg,ab];rfl
 |_=>simp[jJ,sD,evF,gk,tK,Fb,wh,fW,wb,sg,ab]
theorem DK(h:sg n d=true):d= .int (iOf d):=by cases d<;>simp_all [sg,iOf]
theorem NG(h:wh d=true):d= .int (iOf d):=by cases d<;>simp_all [wh,iOf]
noncomputable def tB(n:Nat):D->Bool
 | .tup l=>decide (l.length=n)&&(l.all (sg n)&&decide ((l.map fun d=>ab (iOf d)).Nodup))
 |_=>false
noncomputable def lB(n:Nat):D->Bool
 | .tup l=>l.all wh&&decide ((l.map fun d=>ab (iOf d)).Perm (st n))
 |_=>false
theorem Qz(n:Nat)(d:D):tB n d=lB n d:=by
 cases d with
 |tup l=>
  rw[tB,lB,Bool.eq_iff_iff];simp only[kB,pv,my,Jp,gW,kx];constructor
  ·rintro⟨h1,h2,h3⟩;refine⟨fun d hd=>?_,h1,?_,h3⟩
   ·rw[DK (h2 d hd)];rfl
   ·rintro x ⟨d,hd,rfl⟩;have:=h2 d hd;rw[DK this] at this;simpa[sg] using this
  ·rintro⟨h1,h2,h3,h4⟩;refine⟨h2,fun d hd=>?_,h4⟩;have:=h3 _ ⟨d,hd,rfl⟩;rw[NG (h1 d hd)];simpa[sg] using this
 |_=>rfl
theorem wW(n:Nat)(d:D)(hd: ∀l,d= .tup l->l.length<=60):iM [pI n,(d,false)]=some ((.bl (tB n d),false),[ii n,some (d,false)]):=by
 cases d with
 |tup l=>
  have hl:=hd l rfl;by_cases h1:l.length=n
  ·obtain⟨x1,e1⟩:=Bq (fj jJ [eV 0,eV 1]) (fun d=> .bl (sg n d)) [ii n] l [] none (fun d _=>⟨false,by simp[EO,fW,wb]⟩) (by rw[gA];simp;lia);simp only[uH,sQ,jb,oF,Nat.zero_add] at e1;by_cases h2:l.all (sg n)=true
   ·have hi: ∀d∈l,∃o,fE (g1 om) [eV 0] ([]++[some (d,false)])=some ((.int (ab (iOf d)),o),([]++[some (d,false)]:Dn)):=fun d hd=>⟨false,by
     rw[my] at h2;rw[DK (h2 d hd)];rfl⟩
    obtain⟨x2,e2⟩:=PR (fE (g1 om) [eV 0]) (fun d=>ab (iOf d)) [] l [] none hi (by simp;lia);simp only[uH,sQ,jb,oF] at e2
    have e3:(kW (l.map fun d=>D.int (ab (iOf d)))).2=l.length↔(l.map fun d=>ab (iOf d)).Nodup:=by
     have:=Lp (l.map fun d=>ab (iOf d));rw[ja,gW] at this;exact this
    have e4:(((kW (l.map fun d=>D.int (ab (iOf d)))).2:Int)==(n:Int))=decide ((l.map fun d=>ab (iOf d)).Nodup):=by
     rw[wx,<-h1];by_cases q:(l.map fun d=>ab (iOf d)).Nodup
     ·rw[ny q,e3.mpr q];simp
     ·rw[kS q];simp only[decide_eq_false_iff_not,Int.natCast_inj];exact fun z=>q (e3.mp z)
    simp[iM,kg,evF,isT,h1,gh,qy,gz,e1,e2,sM,h2,gk,fW,wb,tB,e4]
   ·have bM:l.all (sg n)=false:=by simpa using h2
    simp[iM,kg,evF,isT,h1,gh,qy,gz,e1,sM,bM,gk,fW,wb,tB]
  ·have: ¬((l.length:Int)=(n:Int)):=by lia
   simp[iM,kg,evF,isT,this,h1,gk,fW,wb,tB]
 |_=>simp[iM,kg,evF,isT,gk,tB]
def OkD(d:D):Prop:= ∀l,d= .tup l->l.length<=60
theorem ixl(h0:0<=v)(h:v<L.length):gIx (.lst L) (.int v)=some (L.getD v.toNat .non,false):=by
 have h1:v.toNat<L.length:=by lia
 simp[gIx,atI,ixN,h0,h,h1]
theorem ixi{t:fN}{v:Int}(h0:0<=v)(h:v<t.length):gIx (.tup (t.map .int)) (.int v)=ii (t.getD v.toNat 0):=by
 have h1:v.toNat<t.length:=by lia
 simp[gIx,atI,ixN,h0,h,h1]
theorem Rw{t:fN}{v:Int}(h0:0<=v)(h:v<t.length):gIx (.lst (t.map .int)) (.int v)=ii (t.getD v.toNat 0):=by
 have h1:v.toNat<t.length:=by lia
 simp[gIx,atI,ixN,h0,h,h1]
theorem R0(h1:l.length<=1000)(h2:m.length<=1000):jc (.lst l) (.lst m)=some (.lst (l++m),true):=by
 simp only[jc];rw[fJ (by rw[gA];lia)]
theorem kD(a:Int)(b:Bool)(m:Int)(hm:0<m)(w9:m<1073741824): ∃v a',0<=v/\v<m/\ ∀(fo:FO) (δ:Dn) (o:Opd),fo (stt a b::δ)=some (o,stt a b::δ)->uE (stt a b::δ) o=ii m->fj fG [eV 0,fo] (stt a b::δ)=some ((.int v,false),stt a' b::δ):=by
 obtain⟨v,a',h0,h1,e⟩:=qo a b m hm w9;refine⟨v,a',h0,h1,fun fo δ o h2 h3=>?_⟩;refine(gL (os:=[.slot 0,o]) (args:=[pS a b,pI m]) (mr rfl h2) ?_ ?_ e).trans ?_
 ·simp[h3]
 ·cases o<;>simp[fW]
 ·cases o<;>simp[wb]
noncomputable def led(u:fN)(s:Int):Int:=if 0<s then u.getD (s-1).toNat 0 else -(u.getD (-s-1).toNat 0)
theorem T3(x:Int):oS (.int x) (.int 1)=ii x:=by
 have:CMul x 1:= .inr (by lia);show((if CMul x 1 then some (D.int (x*1)) else none).map fun z=>(z,false))=_;rw[fJ this,wN];rfl
theorem TZ(x:Int):oS (.int x) (.int (-1))=ii (-x):=by
 have:CMul x (-1):= .inr (by lia);show((if CMul x (-1) then some (D.int (x*(-1))) else none).map fun z=>(z,false))=_;rw[fJ this,Int.mul_neg,wN];rfl
theorem BE(a:Int)(b:Bool)(m:Int)(hm:0<m)(w9:m<1073741824): ∃v a',0<=v/\v<m/\ ∀(fo:FO) (c0 c1:Sl) (δ:Dn) (o:Opd),fo (c0::c1::stt a b::δ)=some (o,c0::c1::stt a b::δ)->uE (c0::c1::stt a b::δ) o=ii m->fj fG [eV 2,fo] (c0::c1::stt a b::δ)=some ((.int v,false),c0::c1::stt a' b::δ):=by
 obtain⟨v,a',h0,h1,e⟩:=qo a b m hm w9;refine⟨v,a',h0,h1,fun fo c0 c1 δ o h2 h3=>?_⟩;refine(gL (os:=[.slot 2,o]) (args:=[pS a b,pI m]) (mr rfl h2) ?_ ?_ e).trans ?_
 ·simp[h3]
 ·cases o<;>simp[fW]
 ·cases o<;>simp[wb]
def ClOk(n:Nat)(c:fN):Prop:=c≠[]/\(c.map ab).Pairwise (· < ·)/\ ∀s∈c,1<=ab s/\ab s<=n
def CA(j:Int)(c:fN):Prop:=(c.map ab).Pairwise (· < ·)/\ ∀s∈c,1<=ab s/\ab s<j
theorem Bs(h:0<=i):ab i=i:=by unfold ab;rw[fR (by lia)]
theorem Ew(h:0<=i):ab (-i)=i:=by unfold ab;split<;>lia
theorem CA.snoc{j s:Int}{c:fN}(h:CA j c)(h1:ab s=j)(h0:1<=j):CA (j+1) (c++[s]):=by
 refine⟨?_,fun x hx=>?_⟩
 ·rw[qK,rA];refine⟨h.1,by simp,fun x hx y hy=>?_⟩;obtain⟨z,hz,rfl⟩:=kx.mp hx;simp at hy;subst hy;have:=h.2 z hz;lia
 ·rcases nF.mp hx with hx|hx
  ·have:=h.2 x hx;lia
  ·simp at hx;subst hx;lia
theorem CA.up(h:CA j c):CA (j+1) c:=⟨h.1,fun x hx=>by have:=h.2 x hx;lia⟩
abbrev fbC:FS:=(fg (gu 5 (fj fG [(eV 0),(eV 2)])) (fg (sIf (fT (fD (kf .Lt) (eV 5) (eW (fC (.int 2))))) (fg (jW (jQ 3 (fD gIx (eW (jx [(gz 4),(gB su (eV 4))])) (eV 5)))) fF) fF) fF))
theorem sG{i:Nat}{f:F}{δ δ1:Dn}{r:D×Bool}{l0 l:List D}(h0:δ[i]?=some (some (.lst l0,true)))(h1:f δ=some (r,δ1))(h3:δ1[i]?=some (some (.lst l,true)))(h4:l.length<=10000):
  fg (jW (jQ i f)) fF δ=some (.nx (δ1.set i (some (.lst (l++[r.1]),true)))):=
 (fq (nK (yk h0 h1 h3 (EN h4)))).trans rfl
theorem Pz(a:Int)(b:Bool)(n w:Int)(hw:0<w)(hw2:w<100)(j:Int)(hj:1<=j)(c:fN)(hc:CA j c)(hl:c.length<=10)(x:Sl): ∃a' c' x',CA (j+1) c'/\c'.length<=c.length+1/\fbC [stt a b,ii n,ii w,lsi c,ii j,x]=some (.nx [stt a' b,ii n,ii w,lsi c',ii j,x']):=by
 obtain⟨v,a',v0,v1,e⟩:=kD a b w hw (by lia)
 have s1: ∀g,fg (gu 5 (fj fG [(eV 0),(eV 2)])) g [stt a b,ii n,ii w,lsi c,ii j,x]=g [stt a' b,ii n,ii w,lsi c,ii j,ii v]:=fun g=>
  fq (gM (i:=5) (δ1:=[stt a' b,ii n,ii w,lsi c,ii j,x]) (e _ [ii n,ii w,lsi c,ii j,x] (.slot 2) rfl rfl) (show 5<6 by decide))
 by_cases h:v<2
 ·have hix:gIx (.lst [.int j,.int (-j)]) (.int v)=ii (if v=0 then j else -j):=by
   rcases(show v=0\/v=1 by lia) with rfl|rfl<;>rfl
  refine⟨a',c++[if v=0 then j else -j],ii v,hc.snoc (by split;exact Bs (by lia);exact Ew (by lia)) hj,by simp,?_⟩;refine(s1 _).trans ((fq ((oI (δ1:=[stt a' b,ii n,ii w,lsi c,ii j,ii v]) (by simp[h])).trans (sG (δ1:=[stt a' b,ii n,ii w,lsi c,ii j,ii v]) (r:=(.int (if v=0 then j else -j),false)) (l0:=c.map .int) (l:=c.map .int) rfl (by simp[gz,gA,hix]) rfl (by simp;lia)))).trans ?_);simp[lsi]
 ·refine⟨a',c,ii v,hc.up,by lia,?_⟩;exact(s1 _).trans ((fq ((lK (by simp[h])).trans rfl)).trans rfl)
theorem Uc(b:Bool)(n w:Int)(hw:0<w)(hw2:w<100): ∀(m:Nat) (j:Nat) (a:Int) (c:fN) (x4 x5:Sl),1<=j->CA j c->c.length+m<=10-> ∃a' c' p6 r8,CA (j+m:Nat) c'/\c'.length<=10/\mB (fk 4) fbC ((List.range' j m).map fun(k:Nat)=>D.int (k:Int)) [stt a b,ii n,ii w,lsi c,x4,x5]=some (.nx [stt a' b,ii n,ii w,lsi c',p6,r8]):=by
 intro iV
 induction iV with
 |zero=>
  intro j a c x4 x5 hj hc hl;exact⟨a,c,x4,x5,by simpa using hc,by lia,rfl⟩
 |succ m iH=>
  intro j a c x4 x5 hj hc hl;obtain⟨a1,c1,x1,h1,l1,e1⟩:=Pz a b n w hw hw2 j (by lia) c hc (by lia) x5;obtain⟨a',c',p6,r8,h2,l2,e2⟩:=iH (j+1) a1 c1 (ii j) x1 (by lia) (by simpa using h1) (by lia);refine⟨a',c',p6,r8,by rw[show j+(m+1)=j+1+m by lia];exact h2,l2,?_⟩;rw[List.range'_succ,gP];unfold mB;rw[show fk 4 (.int (j:Int)) [stt a b,ii n,ii w,lsi c,x4,x5]=some [stt a b,ii n,ii w,lsi c,ii j,x5] from rfl];simp only[gy];rw[e1];simp only[gy];exact e2
theorem MD(h1:f δ=some (o1,δ1))(h2:g δ1=some (o2,δ2))(h3:res δ2 o1=some (.int i))(h4:res δ2 o2=some (.int j))(hi:0<=i/\i<=1000)(hj:0<=j/\j<=1000):vq f g δ=some (gf i (j-i).toNat,δ2):=by
 unfold vq;rw[mr h1 h2];simp only[gy,N7,Lw,h3,h4];rw[fJ ⟨by lia,by lia,by lia,by lia⟩]
theorem GS(a:Int)(b:Bool)(n:Nat)(h1:1<=n)(h5:n<=5): ∃a' c,ClOk n c/\lj [pS a b,pI n]=some (enc c,[stt a' b,ii n]):=by
 obtain⟨v,a1,v0,v1,e1⟩:=kD a b 3 (by lia) (by lia)
 let wL:List Int:=[3,4,6]
 let w:=wL.getD v.toNat 0
 have hw:0<w/\w<100:=by
  rcases(show v=0\/v=1\/v=2 by lia) with rfl|rfl|rfl<;>decide
 obtain⟨a2,c,x4,x5,hc,hl,e2⟩:=Uc b n w hw.1 hw.2 n 1 a1 [] none none (by lia) ⟨by simp,by simp⟩ (by simp;lia)
 have r1:vq (eW (fC (.int 1))) (eW (fD jc (eV 1) (eW (fC (.int 1))))) [stt a1 b,ii n,ii w,lsi [],none,none]=some (((List.range' 1 n).map fun(k:Nat)=>D.int (k:Int)),[stt a1 b,ii n,ii w,lsi [],none,none]):=by
  rw[MD (o1:= .val (.int 1,false)) (o2:= .val (.int ((n:Int)+1),false)) (i:=1) (j:=(n:Int)+1) rfl rfl rfl rfl (by lia) (by lia)];rw[show((n:Int)+1-1).toNat=n by lia]
  congr 2
  unfold gf;rw[List.range'_eq_map_range,ja];apply mC;intro k _;simp
 have pre: ∀g,(fg (gu 2 (fD gIx (eW (jx [(fC (.int 3)),(fC (.int 4)),(fC (.int 6))])) (eW (fj fG [(eV 0),(eW (fC (.int 3)))])))) (fg (gu 3 (jx [])) (fg (lN (vq (eW (fC (.int 1))) (eW (fD jc (eV 1) (eW (fC (.int 1)))))) (fk 4) fbC) g))) [stt a b,ii n,none,none,none,none]=g [stt a2 b,ii n,ii w,lsi c,x4,x5]:=by
  intro g;refine(fq (δ1:=[stt a1 b,ii n,ii w,none,none,none]) ?_).trans ?_
  ·refine gM (i:=2) (δ1:=[stt a1 b,ii n,none,none,none,none]) (gG (o1:= .val (.lst (wL.map .int),true)) (o2:= .val (.int v,false)) (fM (δ1:=[stt a b,ii n,none,none,none,none]) (by simp[wL,gA])) (fM (e1 _ [ii n,none,none,none,none] _ rfl rfl)) rfl rfl (Rw v0 (by simpa[wL] using v1))) (show 2<6 by decide)
  refine(fq (δ1:=[stt a1 b,ii n,ii w,lsi [],none,none]) (by simp[lsi,gA])).trans ?_;exact fq ((lM r1).trans e2)
 by_cases hn:c=[]
 ·subst hn;obtain⟨s,a3,s0,s1,e3⟩:=kD a2 b 2 (by lia) (by lia);obtain⟨i,a4,i0,i1,e4⟩:=kD a3 b n (by lia) (by lia);refine⟨a4,[if s=0 then 1+i else -(1+i)],?_,?_⟩
  ·refine⟨by simp,by simp,fun x hx=>?_⟩;simp at hx;subst hx;split
   ·rw[Bs (by lia)];lia
   ·rw[show -(1+i)= -(1+i) from rfl,Ew (by lia)];lia
  ·refine iD (δ:=[stt a4 b,ii n,ii w,lsi [if s=0 then 1+i else -(1+i)],x4,x5]) ⟨rfl,by decide,rfl⟩ ((pre _).trans ?_)
   have hm: ∀q,gIx (.lst [.int 1,.int (-1)]) (.int s)=some q->oS q.1 (.int (1+i))=ii (if s=0 then 1+i else -(1+i)):=by
    intro q hq;have k1:CMul 1 (1+i):=by unfold CMul;lia
    have k2:CMul (-1) (1+i):=by unfold CMul;lia
    rcases(show s=0\/s=1 by lia) with rfl|rfl
    ·cases hq;simp[oS,gI,k1]
    ·cases hq;simp[oS,gI,k2]
   have hs:gIx (.lst [.int 1,.int (-1)]) (.int s)=ii (if s=0 then 1 else -1):=by
    rcases(show s=0\/s=1 by lia) with rfl|rfl<;>rfl
   refine(fq ((oI (δ1:=[stt a2 b,ii n,ii w,lsi [],x4,x5]) (jX (gG (o1:= .slot 3) (o2:= .val (.lst [],true)) (δ2:=[stt a2 b,ii n,ii w,lsi [],x4,x5]) rfl (fM (by simp[gA])) rfl rfl (zv [] [])))).trans (sG (r:=(.int (if s=0 then 1+i else -(1+i)),false)) (δ1:=[stt a4 b,ii n,ii w,lsi [],x4,x5]) (l0:=[]) (l:=[]) rfl ?_ rfl (by simp)))).trans ?_
   ·refine gG (δ1:=[stt a3 b,ii n,ii w,lsi [],x4,x5]) (fM (gG (δ1:=[stt a2 b,ii n,ii w,lsi [],x4,x5]) (o1:= .val (.lst [.int 1,.int (-1)],true)) (fM (by simp[gA])) (fM (e3 _ _ _ rfl rfl)) rfl rfl hs)) (fM (gG (o1:= .val (.int 1,false)) rfl (fM (e4 _ _ (.slot 1) rfl rfl)) rfl rfl rfl)) rfl rfl (hm _ hs)
   ·exact gw (jg (hU (os:=[.slot 3]) rfl rfl rfl))
 ·refine⟨a2,c,⟨hn,hc.1,fun s hs=>by have:=hc.2 s hs;lia⟩,?_⟩;refine iD (δ:=[stt a2 b,ii n,ii w,lsi c,x4,x5]) ⟨rfl,by decide,rfl⟩ ((pre _).trans ?_);refine(fq ((lK (δ1:=[stt a2 b,ii n,ii w,lsi c,x4,x5]) (jX (o:=false) (gG (o1:= .slot 3) (o2:= .val (.lst [],true)) (δ2:=[stt a2 b,ii n,ii w,lsi c,x4,x5]) rfl (fM (by simp[gA])) rfl rfl ((zv c []).trans (by rw[kS hn]))))).trans rfl)).trans ?_;exact gw (jg (hU (os:=[.slot 3]) rfl rfl rfl))
noncomputable def sts(n:Nat):List Int:=(List.range n).map fun(k:Nat)=>(-(n:Int)+(k:Int))
theorem nN(h:f δ=some ((.lst l,o),δ1)):gg f δ=some (l,δ1):=by unfold gg;rw[h];rfl
theorem A6{α:Type}[BEq α][LawfulBEq α]: ∀(l m:List α),l.Nodup->(∀x∈l,x∈m)->l.length<=m.length:=by
 intro iV
 induction iV with
 |nil=>
  intro m _ _;exact kA _
 |cons x l iH=>
  intro m nd hs;rw[Ax] at nd;have hx:=hs x gY;have hp:=Hb hx
  have:=iH (m.erase x) nd.2 (fun y hy=>by
   have dS:=hs y (gX _ hy);have j7:y≠x:=fun e=>nd.1 (e▸hy);exact(C0 j7).mpr dS)
  have h2:=hp.length_eq;simp only[jb] at h2 ⊢
  lia
theorem Rb{l:fN}(h:l.Pairwise (· < ·)):l.Nodup:=h.imp fun h=>by lia
theorem ClOk.len{n:Nat}{c:fN}(h:ClOk n c):c.length<=n:=by
 have:=A6 (c.map ab) (st n) (Rb h.2.1) (fun x hx=>by
  obtain⟨s,hs,rfl⟩:=kx.mp hx;exact Lj.mpr (h.2.2 s hs))
 simpa[st] using this
def TOk(n:Nat)(t:fN):Prop:=t.length=n/\ ∀x∈t,1<=ab x/\ab x<=n
theorem mp0:gIx (.lst [.int (-1),.int 1]) (.int 0)=ii (-1):=rfl
theorem mp1:gIx (.lst [.int (-1),.int 1]) (.int 1)=ii 1:=rfl
theorem Ru(u:fN)(s:Int)(h0:s≠0)(h1: -(u.length:Int)<=s)(h2:s<=u.length):
  jv [enc u,pI s]=some ((.int (led u s),false),[eN u,ii s]):=by
 simp only[jv,oJ];by_cases h:0<s
 ·have:=ixi (t:=u) (v:=s-1) (by lia) (by lia);have e0: ¬s<0:=by lia
  simp only[evF];simp[h,e0,led,this,gk,gA,mp1,T3]
 ·have:=ixi (t:=u) (v:= -s-1) (by lia) (by lia);have e0:s<0:=by lia
  simp only[evF];simp[h,e0,led,this,gk,gA,mp0,TZ]
theorem G2(i:Int):ab (-i)=ab i:=by unfold ab;split<;>split<;>lia
theorem qx{l:fN}{k:Nat}(h:k<l.length):l.getD k 0∈l:=by
 rw[uQ,ir h];exact zR h
theorem Pg{n:Nat}{t:fN}(ht:TOk n t){s:Int}(h1:1<=ab s)(h2:ab s<=n):1<=ab (led t s)/\ab (led t s)<=n:=by
 unfold led;unfold ab at h1 h2;have hl:=ht.1;split
 ·rename_i h;rw[fR (by omega)] at h1 h2;exact ht.2 _ (qx (by omega))
 ·rename_i h;rw[G2];split at h1
  ·rw[fJ (by assumption)] at h2;exact ht.2 _ (qx (by omega))
  ·omega
noncomputable def dD(ws:fN):D:= .oth .dct (ws.map fun w=> .int (ab w)) (ws.map .int)
noncomputable def AK(ws:fN)(w:Int):List Int:=if ab w∈ws.map ab then ws.map fun x=>if ab x=ab w then w else x else ws++[w]
theorem PZ(w:Int): ∀ws:List Int,((ws.map fun w=>D.int (ab w)).any (D.eqb · (.int (ab w))))=decide (ab w∈ws.map ab):=by
 intro iV
 induction iV with
 |nil=>
  simp
 |cons x ws iH=>
  simp only[gP,rK,iH,D.eqb,iY];by_cases h:ab x=ab w
  ·simp[h]
  ·have: ¬ab w=ab x:=fun e=>h e.symm;simp[h,this]
theorem Lu(w:Int): ∀ws:List Int,pT (ws.map fun w=>D.int (ab w)) (ws.map .int) (.int (ab w)) (.int w)=(ws.map fun x=>if ab x=ab w then w else x).map .int:=by
 intro iV
 induction iV with
 |nil=>
  simp[pT]
 |cons x ws iH=>
  simp only[gP,pT,iH,D.eqb];by_cases h:ab x=ab w<;>simp[h]
theorem OD(ws:fN)(w:Int):D.oth .dct (qH (ws.map fun w=> .int (ab w)) (ws.map .int) (.int (ab w)) (.int w)).1 (qH (ws.map fun w=> .int (ab w)) (ws.map .int) (.int (ab w)) (.int w)).2=dD (AK ws w):=by
 unfold qH AK dD;rw[PZ];by_cases h:ab w∈ws.map ab
 ·rw[fJ (by simpa using h),fJ h,Lu]
  congr 1
  show(ws.map fun w=>D.int (ab w))=List.map (fun w=>D.int (ab w)) (ws.map fun x=>if ab x=ab w then w else x);rw[ja];apply mC;intro x _;simp only[Function.comp];split
  ·rename_i e;rw[e]
  ·rfl
 ·rw[fR (by simpa using h),fR h];simp
def DW(n:Nat)(ws:fN):Prop:=(ws.map ab).Nodup/\ ∀w∈ws,1<=ab w/\ab w<=n
theorem DW.put(h:DW n ws)(h1:1<=ab w/\ab w<=n):DW n (AK ws w):=by
 unfold AK;split
 ·rename_i hm;refine⟨?_,fun x hx=>?_⟩
  ·have:((ws.map fun x=>if ab x=ab w then w else x).map ab)=ws.map ab:=by
    rw[ja];apply mC;intro x _;simp only[Function.comp];split
    ·rename_i e;rw[e]
    ·rfl
   rw[this];exact h.1
  ·obtain⟨y,hy,rfl⟩:=kx.mp hx;split
   ·exact h1
   ·exact h.2 y hy
 ·rename_i hm;refine⟨?_,fun x hx=>?_⟩
  ·rw[qK,CN];refine⟨h.1,by simp,fun x hx y hy e=>?_⟩;simp at hy;subst hy;subst e;exact hm hx
  ·rcases nF.mp hx with hx|hx
   ·exact h.2 x hx
   ·simp at hx;subst hx;exact h1
theorem LR(ws:fN)(w:Int):AK ws w≠[]:=by
 unfold AK;split
 ·rename_i h
  cases ws with
  |nil=>simp at h
  |cons=>simp
 ·simp
theorem DW.len(h:DW n ws):ws.length<=n:=by
 have:=A6 (ws.map ab) (st n) h.1 (fun x hx=>by
  obtain⟨s,hs,rfl⟩:=kx.mp hx;exact Lj.mpr (h.2 s hs))
 simpa[st] using this
theorem Fe(k:Int): ∀ws:List Int,k∈ws.map ab-> ∃w∈ws,ab w=k/\kT (ws.map fun w=>D.int (ab w)) (ws.map .int) (.int k)=some (.int w):=by
 intro iV
 induction iV with
 |nil=>
  intro h;simp at h
 |cons x ws iH=>
  intro h;simp only[gP,kT,D.eqb];by_cases e:ab x=k
  ·exact⟨x,by simp,e,by simp[e]⟩
  ·have:k∈ws.map ab:=by
    simp only[gP,iY] at h;rcases h with h|h
    ·exact absurd h.symm e
    ·exact h
   obtain⟨w,hw,h1,h2⟩:=iH this;exact⟨w,by simp[hw],h1,by simp[e,h2]⟩
theorem Cj(ws:fN)(k:Int):vN (ws.map fun w=>D.int (ab w)) (.int k)=true:=by simp[vN,si]
abbrev fbL:FS:=(fg (gu 4 (fj jv [(eV 0),(eV 3)])) (fg (BO 2 (gz 4) (eW (fE (g1 om) [(eV 4)]))) fF))
theorem Px{n:Nat}{t:fN}(ht:TOk n t)(hn:n<=5){s:Int}(h1:1<=ab s/\ab s<=n){ws:fN}(hw:DW n ws)(c1 x4:Sl):fbL [eN t,c1,some (dD ws,true),ii s,x4]=some (.nx [eN t,c1,some (dD (AK ws (led t s)),true),ii s,ii (led t s)]):=by
 have hl:=ht.1
 have h0:s≠0/\ -(t.length:Int)<=s/\s<=t.length:=by
  have:=h1;unfold ab at this;split at this<;>lia
 refine(fq (δ1:=[eN t,c1,some (dD ws,true),ii s,ii (led t s)]) ?_).trans ?_
 ·exact gM (i:=4) (δ1:=[eN t,c1,some (dD ws,true),ii s,x4]) (gL (δ1:=[eN t,c1,some (dD ws,true),ii s,x4]) (os:=[.slot 0,.slot 3]) (args:=[enc t,pI s]) rfl rfl kz (Ru t s h0.1 h0.2.1 h0.2.2)) (show 4<5 by decide)
 ·refine(fq (δ1:=[eN t,c1,some (dD (AK ws (led t s)),true),ii s,ii (led t s)]) ?_).trans rfl;have e1:gz 4 [eN t,c1,some (dD ws,true),ii s,ii (led t s)]=some ((.int (led t s),false),[eN t,c1,some (dD ws,true),ii s,ii (led t s)]):=rfl;have e2:eW (fE (g1 om) [(eV 4)]) [eN t,c1,some (dD ws,true),ii s,ii (led t s)]=some (.val (.int (ab (led t s)),false),[eN t,c1,some (dD ws,true),ii s,ii (led t s)]):=rfl;unfold BO;rw[e1];simp only[gy,wz,zY];rw[e2];simp only[gy,DP,wz,zY,dD];rw[fJ ⟨Cj ws _,by have:=hw.len;simp;lia⟩,OD];rfl
theorem RI{n:Nat}{t:fN}(ht:TOk n t)(hn:n<=5)(c1:Sl): ∀(c ws:fN) (x3 x4:Sl),(∀s∈c,1<=ab s/\ab s<=n)->DW n ws-> ∃cf dB p6,DW n cf/\(ws≠[]\/c≠[]->cf≠[])/\mB (fk 3) fbL (c.map .int) [eN t,c1,some (dD ws,true),x3,x4]=some (.nx [eN t,c1,some (dD cf,true),dB,p6]):=by
 intro iV
 induction iV with
 |nil=>
  intro ws x3 x4 _ hw;exact⟨ws,x3,x4,hw,fun h=>h.elim id fun h=>absurd rfl h,rfl⟩
 |cons s c iH=>
  intro ws x3 x4 h hw;have hs:=h s gY;obtain⟨cf,dB,p6,h1,h2,e⟩:=iH (AK ws (led t s)) (ii s) (ii (led t s)) (fun x hx=>h x (gX _ hx)) (hw.put (Pg ht hs.1 hs.2));refine⟨cf,dB,p6,h1,fun _=>h2 (.inl (LR _ _)),?_⟩;rw[gP];unfold mB;rw[show fk 3 (.int s) [eN t,c1,some (dD ws,true),x3,x4]=some [eN t,c1,some (dD ws,true),ii s,x4] from rfl];simp only[gy];rw[Px ht hn hs hw];simp only[gy];exact e
theorem NS{l k:fN}(nd:l.Nodup)(h:pK ltT (l.map .int)=k.map .int):k.Perm l/\k.Pairwise (· < ·):=by
 have hp:=jG ltT (l.map D.int);rw[h] at hp;have bT:=(hp.map fun d=>match d with|D.int i=>i|_=>0)
 simp only[ja] at bT;have e:((fun d=>match d with|D.int i=>i|_=>0)∘D.int)=id:=rfl;rw[e,rB,rB] at bT;refine⟨bT,?_⟩;have hs:=lS (l.map D.int);rw[h,yD] at hs;have nd2:=bT.symm.nodup nd;have:=hs.and nd2;refine this.imp fun {a b} h=>?_;have h1:=h.1;rw[vo] at h1;simp only[cT] at h1;by_cases q:b<a
 ·simp[q] at h1
 ·have:=h.2;lia
theorem GA(ws:fN): ∀k:List Int,(∀x∈k,x∈ws.map ab)-> ∃c:List Int,c.map ab=k/\(∀w∈c,w∈ws)/\k.map (fun x=>(kT (ws.map fun w=>D.int (ab w)) (ws.map .int) (.int x)).getD .non)=c.map .int:=by
 intro iV
 induction iV with
 |nil=>
  intro _;exact⟨[],rfl,by simp,rfl⟩
 |cons x k iH=>
  intro h;obtain⟨w,hw,h1,h2⟩:=Fe x ws (h x gY);obtain⟨c,e1,e2,e3⟩:=iH fun y hy=>h y (gX _ hy);exact⟨w::c,by simp[h1,e1],by simp[hw];exact e2,by simp[h2,e3]⟩
theorem MA{n:Nat}(hn:n<=5){t c ws:fN}{x3 x4:Sl}(hw:DW n ws)(j7:ws≠[])(e:mB (fk 3) fbL (c.map .int) [eN t,eN c,some (dD [],true),none,none]=some (.nx [eN t,eN c,some (dD ws,true),x3,x4])):
  ∃c',((c'.map ab).Pairwise (· < ·)/\(∀w∈c',w∈ws)/\(c'.map ab).Perm (ws.map ab))/\iB [enc t,enc c]=some (enc c',[eN t,eN c]):=by
 have hlen:=hw.len;obtain⟨k,hk⟩:=Bb (jG ltT ((ws.map ab).map D.int));obtain⟨kp,kl⟩:=NS hw.1 hk;obtain⟨c',e1,e2,e3⟩:=GA ws k fun x hx=>kp.mem_iff.mp hx;refine⟨c',⟨by rw[e1];exact kl,e2,by rw[e1];exact kp⟩,?_⟩
 ·have klen:k.length<=5:=by have:=kp.length_eq;simp at this;lia
  have s1:jh (dD ws)=some (.lst (k.map .int),true):=by
   unfold jh dD;have q:((ws.map fun w=>D.int (ab w)).all fun k=>(si k).isSome)=true:=by simp[si]
   have q2:(ws.map fun w=>D.int (ab w))≠[]:=by simpa using j7
   simp only;rw[fJ ⟨q,q2⟩];have em:(ws.map fun w=>D.int (ab w))=(ws.map ab).map D.int:=by rw[ja];rfl
   unfold iE;rw[em,fJ ⟨BK _,by rw[gA];simp;lia⟩,hk]
  obtain⟨x',b1⟩:=Bq (fD Cp (eV 0) (eV 1)) (fun d=>match d with| .int x=>(kT (ws.map fun w=>D.int (ab w)) (ws.map .int) (.int x)).getD .non|_=> .non) [some (dD ws,true)] (k.map .int) [] none (by
    intro d hd;obtain⟨x,hx,rfl⟩:=kx.mp hd;obtain⟨w,hw',h1,h2⟩:=Fe x ws (kp.mem_iff.mp hx);refine⟨false,gG (o1:= .slot 0) (o2:= .slot 1) rfl rfl rfl rfl ?_⟩;simp only[Cp,dD];rw[fJ (Cj ws x),h2];rfl) (by rw[gA];simp;lia)
  have m1:((k.map D.int).map fun d=>match d with| .int x=>(kT (ws.map fun w=>D.int (ab w)) (ws.map .int) (.int x)).getD .non|_=> .non)=c'.map .int:=by
   rw[ja,<-e3];rfl
  rw[m1] at b1;simp only[uH,sQ,jb,oF,Nat.zero_add] at b1;refine iD (δ:=[eN t,eN c,some (dD ws,true),x3,x4]) ⟨rfl,by decide,rfl⟩ ?_;refine(fq (δ1:=[eN t,eN c,some (dD [],true),none,none]) rfl).trans ?_;refine(fq ((lM (ds:=c.map .int) (δ1:=[eN t,eN c,some (dD [],true),none,none]) rfl).trans e)).trans ?_;refine gw (jg (hU (os:=[.val (.lst (c'.map .int),true)]) (lE (fM ?_)) rfl rfl));have i1:gg (fE (g1 jh) [(eV 2)]) [eN t,eN c,some (dD ws,true),x3,x4]=some (k.map .int,[eN t,eN c,some (dD ws,true),x3,x4]):=nN (hU (os:=[.slot 2]) rfl rfl s1);unfold gh;rw[i1];simp only[gy,gP,mG];rw[show iJ [eN t,eN c,some (dD ws,true),x3,x4] [.slot 2]=some [(dD ws,true)] from rfl];simp only[gy];rw[fJ (show(fW [Opd.slot 2] [(dD ws,true)]).Nodup from(nd1 2))];rw[show(List.map some [(dD ws,true)]++List.replicate 1 none:Dn)=[some (dD ws,true),none] from rfl,b1];rfl
theorem yQ{n:Nat}(hn:n<=5){t c:fN}(ht:TOk n t)(hc:ClOk n c): ∃c',ClOk n c'/\iB [enc t,enc c]=some (enc c',[eN t,eN c]):=by
 obtain⟨ws,x3,x4,hw,j7,e⟩:=RI ht hn (eN c) c [] none none hc.2.2 ⟨by simp,by simp⟩;have j7:=j7 (.inr hc.1);obtain⟨c',⟨h1,h2,h3⟩,e⟩:=MA hn hw j7 e;refine⟨c',⟨fun z=>j7 ?_,h1,fun s hs=>hw.2 s (h2 s hs)⟩,e⟩;have:=h3.length_eq;rw[z] at this;exact La.mp (by simpa using this.symm)
noncomputable abbrev cD(c:fN):D:= .tup (c.map .int)
theorem sH(c:fN):D.dep (cD c)=1:=by simp[D.dep,yq]
theorem MP: ∀cs:List (List Int),D.depL (cs.map cD)<=1:=by
 intro iV
 induction iV with
 |nil=>
  simp[D.depL]
 |cons c cs iH=>
  have:=iH;simp only[gP,D.depL,sH];lia
theorem Ks(a b:fN):D.eqb (cD a) (cD b)=decide (a=b):=by simp[D.eqb,ym]
theorem KN(c:fN): ∀cs:List (List Int),(cs.map cD).any (fun d=>D.eqb d (cD c))=decide (c∈cs):=by
 intro iV
 induction iV with
 |nil=>
  simp
 |cons x cs iH=>
  simp only[gP,rK,iH,Ks,iY];by_cases h:x=c
  ·simp[h]
  ·have: ¬c=x:=fun e=>h e.symm;simp[h,this]
theorem JG(c:fN)(cs:iq):vz (cD c) (.lst (cs.map cD))=some (.bl (!decide (c∈cs)),false):=by
 have:inD (cD c) (.lst (cs.map cD))=some (decide (c∈cs)):=by
  have hd:=MP cs;show(if D.depL (cs.map cD)<=50/\(cD c).dep<=50 then some ((cs.map cD).any fun d=>D.eqb d (cD c)) else none)=_;rw[fJ ⟨by lia,by rw[sH];lia⟩,KN]
 unfold vz;rw[this];rfl
noncomputable def yA:Nat->List (List Int)
 |0=>[[]]
 |k+1=>yA k++((yA k).map fun c=>c++[((k:Int)+1)])++((yA k).map fun c=>c++[-((k:Int)+1)])
theorem KP: ∀(k:Nat) (c:fN),(c.map ab).Pairwise (· < ·)->(∀s∈c,1<=ab s/\ab s<=k)->c∈yA k:=by
 intro iV
 induction iV with
 |zero=>
  intro c _ h
  cases c with
  |nil=>simp[yA]
  |cons s c=>have:=h s gY;lia
 |succ k iH=>
  intro c hp h;simp only[yA,nF,kx];by_cases hn:c=[]
  ·subst hn;exact .inl (.inl (iH [] (by simp) (by simp)))
  ·have hd:=Ha hn;generalize c.dropLast=i at hd;generalize c.getLast hn=s at hd;subst hd;rw[qK,rA] at hp;have hs:=h s (by simp);have hi: ∀x∈i,1<=ab x/\ab x<ab s:=fun x hx=>⟨(h x (by simp[hx])).1,hp.2.2 (ab x) (zS hx) (ab s) (by simp)⟩
   by_cases q:ab s<=k
   ·refine .inl (.inl (iH _ ?_ fun x hx=>?_))
    ·rw[qK,rA];exact hp
    ·rcases nF.mp hx with hx|hx
     ·have:=hi x hx;lia
     ·simp at hx;subst hx;lia
   ·have e:ab s=(k:Int)+1:=by lia
    have hk:=iH i hp.1 fun x hx=>by have:=hi x hx;lia
    unfold ab at e;split at e
    ·exact .inr ⟨i,hk,by rw[show s= -((k:Int)+1) by lia]⟩
    ·exact .inl (.inr ⟨i,hk,by rw[show s=((k:Int)+1) by lia]⟩)
theorem G0: ∀(k:Nat) (n:Nat),n<=k->(yA n).length<=(yA k).length:=by
 intro iV
 induction iV with
 |zero=>
  intro n h;rw[show n=0 by lia];exact gJ _
 |succ k iH=>
  intro n h;by_cases e:n=k+1
  ·subst e;exact gJ _
  ·have:=iH n (by lia);simp only[yA,lr,gW];lia
def CsOk(n:Nat)(cs:iq):Prop:=cs.Nodup/\ ∀c∈cs,ClOk n c
theorem CsOk.len(hn:n<=5)(h:CsOk n cs):cs.length<=243:=by
 have h1:=A6 cs (yA n) h.1 fun c hc=>KP n c (h.2 c hc).2.1 (h.2 c hc).2.2;have h2:=G0 5 n hn;have h3:(yA 5).length=243:=by decide
 lia
theorem CsOk.snoc{n:Nat}{cs:iq}{c:fN}(h:CsOk n cs)(hc:ClOk n c)(hm:c∉cs):CsOk n (cs++[c]):=by
 refine⟨?_,fun x hx=>?_⟩
 ·rw[CN];exact⟨h.1,by simp,fun x hx y hy e=>by simp at hy;subst hy;subst e;exact hm hx⟩
 ·rcases nF.mp hx with hx|hx
  ·exact h.2 x hx
  ·simp at hx;subst hx;exact hc
noncomputable abbrev lsC(cs:iq):Sl:=some (.lst (cs.map cD),true)
abbrev Pw:FS:=(fg (gu 5 (fj iB [(eV 4),(eW (fD gIx (eV 2) (eV 3)))])) (fg (sIf (fT (fD vz (eV 5) (eV 2))) (fg (jW (jQ 2 (gz 5))) fF) fF) fF))
theorem ixc{cs:iq}{i:Nat}(h:i<cs.length):gIx (.lst (cs.map cD)) (.int i)=some (cD (cs.getD i []),false):=by
 have:(i:Int)<cs.length:=by lia
 simp[gIx,atI,ixN,h]
theorem GJ{cs:iq}{i:Nat}(h:i<cs.length):cs.getD i []∈cs:=by
 rw[uQ,ir h];exact zR h
theorem MK{n:Nat}(hn:n<=5){t:fN}(ht:TOk n t){cs:iq}(hc:CsOk n cs){i:Nat}(hi:i<cs.length)(c0 c1 x5:Sl): ∃m6 r8,CsOk n m6/\cs.length<=m6.length/\Pw [c0,c1,lsC cs,ii i,eN t,x5]=some (.nx [c0,c1,lsC m6,ii i,eN t,r8]):=by
 obtain⟨c',bJ,e⟩:=yQ hn ht (hc.2 _ (GJ hi));have hl:=hc.len hn
 have s1: ∀g,fg (gu 5 (fj iB [(eV 4),(eW (fD gIx (eV 2) (eV 3)))])) g [c0,c1,lsC cs,ii i,eN t,x5]=g [c0,c1,lsC cs,ii i,eN t,eN c']:=fun g=>
  fq (gM (i:=5) (δ1:=[c0,c1,lsC cs,ii i,eN t,x5]) (gL (δ1:=[c0,c1,lsC cs,ii i,eN t,x5]) (os:=[.slot 4,.val (enc (cs.getD i []))]) (args:=[enc t,enc (cs.getD i [])]) (mr rfl (fM (gG (o1:= .slot 2) (o2:= .slot 3) rfl rfl rfl rfl (ixc hi)))) rfl kz e) (show 5<6 by decide))
 have t1:(fT (fD vz (eV 5) (eV 2))) [c0,c1,lsC cs,ii i,eN t,eN c']=some (!decide (c'∈cs),[c0,c1,lsC cs,ii i,eN t,eN c']):=
  jX (o:=false) (gG (o1:= .slot 5) (o2:= .slot 2) rfl rfl rfl rfl (JG c' cs))
 by_cases h:c'∈cs
 ·refine⟨cs,eN c',hc,gJ _,(s1 _).trans ((fq ((lK ?_).trans rfl)).trans rfl)⟩;rw[t1,ny h];rfl
 ·refine⟨cs++[c'],eN c',hc.snoc bJ h,by simp,(s1 _).trans ?_⟩;rw[kS h] at t1;refine(fq ((oI t1).trans (sG (δ1:=[c0,c1,lsC cs,ii i,eN t,eN c']) (r:=enc c') (l0:=cs.map cD) (l:=cs.map cD) rfl rfl rfl (by simp;lia)))).trans ?_;simp[lsC,fF]
theorem RH{n:Nat}(hn:n<=5)(i:Nat)(c0 c1:Sl): ∀(ts:iq) (cs:iq) (x4 x5:Sl),(∀t∈ts,TOk n t)->CsOk n cs->i<cs.length-> ∃m6 p6 r8,CsOk n m6/\cs.length<=m6.length/\mB (fk 4) Pw (ts.map cD) [c0,c1,lsC cs,ii i,x4,x5]=some (.nx [c0,c1,lsC m6,ii i,p6,r8]):=by
 intro iV
 induction iV with
 |nil=>
  intro cs x4 x5 _ hc hi;exact⟨cs,x4,x5,hc,gJ _,rfl⟩
 |cons t ts iH=>
  intro cs x4 x5 ht hc hi;obtain⟨cO,y5,h1,l1,e1⟩:=MK hn (ht t gY) hc hi c0 c1 x5;obtain⟨m6,p6,r8,h2,l2,e2⟩:=iH cO (eN t) y5 (fun u hu=>ht u (gX _ hu)) h1 (by lia);refine⟨m6,p6,r8,h2,by lia,?_⟩;rw[gP];unfold mB;rw[show fk 4 (cD t) [c0,c1,lsC cs,ii i,x4,x5]=some [c0,c1,lsC cs,ii i,eN t,x5] from rfl];simp only[gy];rw[e1];simp only[gy];exact e2
abbrev ftW:FT:=(fT (fD (kf .Lt) (eV 3) (eW (fE (g1 ly) [(eV 2)]))))
abbrev fbW:FS:=(fg (lN (gg (gz 1)) (fk 4) Pw) (fg (gu 3 (fD jc (eV 3) (eW (fC (.int 1))))) fF))
theorem NF{n:Nat}(hn:n<=5)(c0:Sl)(ts:iq)(bp: ∀t∈ts,TOk n t): ∀(m fuel i:Nat) (o:Bool) (cs:iq) (x4 x5:Sl),i+m=243->m<fuel->CsOk n cs-> ∃m6 o' i' p6 r8,CsOk n m6/\cs.length<=m6.length/\mn ftW fbW fuel [c0,some (.lst (ts.map cD),o),lsC cs,ii i,x4,x5]=some (.nx [c0,some (.lst (ts.map cD),o'),lsC m6,ii i',p6,r8]):=by
 intro m
 induction m with
 |zero=>
  intro fuel i o cs x4 x5 him hf hc;have hl:=hc.len hn;obtain⟨f,rfl⟩: ∃f,fuel=f+1:=⟨fuel-1,by lia⟩
  refine⟨cs,o,i,x4,x5,hc,gJ _,?_⟩;have h: ¬((i:Int)<cs.length):=by lia
  have t1:ftW [c0,some (.lst (ts.map cD),o),lsC cs,ii i,x4,x5]=some (false,[c0,some (.lst (ts.map cD),o),lsC cs,ii i,x4,x5]):=
   jX (o:=false) (gG (o1:= .slot 3) (o2:= .val (.int cs.length,false)) rfl (fM (hU (os:=[.slot 2]) rfl rfl (by simp))) rfl rfl (by rw[N8,kS h]))
  unfold mn;rw[t1];rfl
 |succ m ih=>
  intro fuel i o cs x4 x5 him hf hc;obtain⟨f,rfl⟩: ∃f,fuel=f+1:=⟨fuel-1,by lia⟩
  have t1:ftW [c0,some (.lst (ts.map cD),o),lsC cs,ii i,x4,x5]=some (decide ((i:Int)<cs.length),[c0,some (.lst (ts.map cD),o),lsC cs,ii i,x4,x5]):=
   jX (o:=false) (gG (o1:= .slot 3) (o2:= .val (.int cs.length,false)) rfl (fM (hU (os:=[.slot 2]) rfl rfl (by simp))) rfl rfl (by rw[N8]))
  by_cases h:((i:Int)<cs.length)
  ·rw[ny h] at t1;obtain⟨cO,y4,y5,h1,l1,e1⟩:=RH hn i c0 (some (.lst (ts.map cD),false)) ts cs x4 x5 bp hc (by lia);obtain⟨m6,o',i',p6,r8,h2,l2,e2⟩:=ih f (i+1) false cO y4 y5 (by lia) (by lia) h1;refine⟨m6,o',i',p6,r8,h2,by lia,?_⟩;unfold mn;rw[t1];simp only[gy,iu]
   have b1:fbW [c0,some (.lst (ts.map cD),o),lsC cs,ii i,x4,x5]=some (.nx [c0,some (.lst (ts.map cD),false),lsC cO,ii (i+1:Nat),y4,y5]):=by
    refine(fq ((lM (ds:=ts.map cD) (δ1:=[c0,some (.lst (ts.map cD),false),lsC cs,ii i,x4,x5]) rfl).trans e1)).trans ?_;refine(fq (gM (i:=3) (δ1:=[c0,some (.lst (ts.map cD),false),lsC cO,ii i,y4,y5]) (gG (o1:= .slot 3) (o2:= .val (.int 1,false)) rfl rfl rfl rfl rfl) (show 3<6 by decide))).trans ?_;simp[fF]
   rw[b1];simp only[gy];exact e2
  ·rw[kS h] at t1;refine⟨cs,o,i,x4,x5,hc,gJ _,?_⟩;unfold mn;rw[t1];rfl
theorem GR{n:Nat}(hn:n<=5){ts cs:iq}(bp: ∀t∈ts,TOk n t)(hc:CsOk n cs)(o:Bool): ∃m6 sl,CsOk n m6/\cs.length<=m6.length/\lh [(.lst (cs.map cD),false),(.lst (ts.map cD),o)]=some ((.lst (m6.map cD),true),[some (.lst (cs.map cD),false),sl]):=by
 obtain⟨m6,o',i',p6,r8,h2,l2,e⟩:=NF hn (some (.lst (cs.map cD),false)) ts bp 243 R5 0 o cs none none (by lia) (by decide) hc;refine⟨m6,if o=true then some (.lst (ts.map cD),o') else some (.lst (ts.map cD),o),h2,l2,?_⟩;refine(iD (r:=(.lst (m6.map cD),true)) (δ:=[some (.lst (cs.map cD),false),some (.lst (ts.map cD),o'),none,ii i',p6,r8]) ⟨rfl,(show 2<=6 by decide),by cases o<;>rfl⟩ ?_).trans ?_
 ·refine(fq (δ1:=[some (.lst (cs.map cD),false),some (.lst (ts.map cD),o),lsC cs,none,none,none]) rfl).trans ?_;refine(fq (δ1:=[some (.lst (cs.map cD),false),some (.lst (ts.map cD),o),lsC cs,ii 0,none,none]) rfl).trans ?_;exact(fq e).trans (gw rfl)
 ·cases o<;>rfl
noncomputable def yX(vs:iq)(c:fN):List (List Int):=if c∈vs then vs else vs++[c]
noncomputable def dd(cs:iq):List (List Int):=cs.foldl yX []
theorem MY(vs:iq)(c:fN):qh (vs.map cD) (cD c)=(yX vs c).map cD:=by
 unfold qh yX;rw[show(vs.map cD).any (D.eqb · (cD c))=decide (c∈vs) from KN c vs];by_cases h:c∈vs<;>simp[h]
theorem Kw: ∀(cs vs:iq),(cs.map cD).foldl qh (vs.map cD)=(cs.foldl yX vs).map cD:=by
 intro iV
 induction iV with
 |nil=>
  intro vs;exact rfl
 |cons c cs iH=>
  intro vs;rw[gP,pz,pz,MY,iH]
theorem KU:x∈yX vs c↔x∈vs\/x=c:=by
 unfold yX;by_cases h:c∈vs
 ·rw[fJ h];constructor
  ·exact .inl
  ·rintro(h1|rfl)
   ·exact h1
   ·exact h
 ·rw[fR h];simp
theorem GN: ∀(cs vs:iq) (x:fN),x∈cs.foldl yX vs↔x∈vs\/x∈cs:=by
 intro iV
 induction iV with
 |nil=>
  intro vs x;simp
 |cons c cs iH=>
  intro vs x;rw[pz,iH,KU,iY,or_assoc]
theorem MZ(h:vs.Nodup):(yX vs c).Nodup:=by
 unfold yX;split
 ·exact h
 ·rename_i hm;rw[CN];exact⟨h,by simp,fun x hx y hy e=>by simp at hy;subst hy;subst e;exact hm hx⟩
theorem Km: ∀(cs vs:iq),vs.Nodup->(cs.foldl yX vs).Nodup:=by
 intro iV
 induction iV with
 |nil=>
  intro vs h;exact h
 |cons c cs iH=>
  intro vs h;rw[pz];exact iH _ (MZ h)
theorem xk: ∀l:List Int,D.prL (l.map .int)=true:=by
 intro iV
 induction iV with
 |nil=>
  simp[D.prL]
 |cons x l iH=>
  simp[D.prL,D.pr,iH]
theorem Pe(c:fN):okS (cD c)=true:=by simp[okS,xk,yq]
theorem JD(cs:iq):(cs.map cD).all okS=true:=by
 rw[my];intro d hd;obtain⟨c,_,rfl⟩:=kx.mp hd;exact Pe c
theorem vC(op:CmpOp): ∀a b:List Int,(oA op (a.map .int) (b.map .int)).isSome=true
 |[],b=>by simp[oA]
 |x::a,[]=>by simp[oA]
 |x::a,y::b=>by
  simp only[gP,oA];split
  ·exact vC op a b
  ·simp[kN]
theorem ze(cs:iq)(h: ∀c∈cs,c≠[]):kU (cs.map cD)=true:=by
 have hk: ∀c:List Int,c≠[]->jo (cD c)=some 1:=fun c hc=>by
  cases c with
  |nil=>exact absurd rfl hc
  |cons=>rfl
 unfold kU
 cases cs with
 |nil=>rfl
 |cons c cs=>
  rw[uN];right;simp only[gP];rw[kB,kB,hk c (h c gY)];refine⟨⟨rfl,?_⟩,?_⟩
  ·rw[my];intro d hd;rw[<-gP (f:=cD)] at hd;obtain⟨x,hx,rfl⟩:=kx.mp hd;rw[hk x (h x hx),sH];simp[D.pr,xk]
  ·rw[my];intro d hd;rw[my];intro e he;rw[<-gP (f:=cD)] at hd he;obtain⟨x,hx,rfl⟩:=kx.mp hd;obtain⟨y,hy,rfl⟩:=kx.mp he;simp only[kN];exact vC _ _ _
noncomputable def unC:D->List Int
 | .tup l=>l.map iOf
 |_=>[]
theorem pH(c:fN):unC (cD c)=c:=by
 simp only[unC,ja];rw[mC (g:=id),rB];intro x _;rfl
theorem yt(h:m.Perm (cs.map cD)): ∃ks:List (List Int),m=ks.map cD/\ks.Perm cs:=by
 refine⟨m.map unC,?_,?_⟩
 ·rw[ja]
  symm
  rw[mC (g:=id),rB];intro d hd;obtain⟨c,_,rfl⟩:=kx.mp (h.mem_iff.mp hd);simp only[Function.comp,pH];rfl
 ·have:=h.map unC;rw[ja] at this;rw[show List.map (unC∘cD) cs=List.map id cs from mC (fun c _=>pH c),rB] at this;exact this
def SrtC(ks:iq):Prop:=ks.Pairwise fun a b=>ltT (cD b) (cD a)=false
theorem QK{n:Nat}{cs:iq}(hc: ∀c∈cs,ClOk n c)(hl:cs.length<500): ∃vs ks:List (List Int),CsOk n ks/\SrtC ks/\(∀c,c∈ks↔c∈cs)/\ks.length<=cs.length/\Eg (.lst (cs.map cD))=some (.oth .set [] (vs.map cD),true)/\jh (.oth .set [] (vs.map cD))=some (.lst (ks.map cD),true):=by
 have hm: ∀c,c∈dd cs↔c∈cs:=fun c=>by unfold dd;rw[GN];simp
 have hnd:(dd cs).Nodup:=Km cs [] (by simp);obtain⟨ks,e,hp⟩:=yt (jG ltT ((dd cs).map cD));have hlen:(dd cs).length<=cs.length:=A6 _ _ hnd fun c h=>(hm c).mp h;refine⟨dd cs,ks,⟨hp.symm.nodup hnd,fun c h=>hc c ((hm c).mp (hp.mem_iff.mp h))⟩,?_,fun c=>hp.mem_iff.trans (hm c),by rw[hp.length_eq];exact hlen,?_,?_⟩
 ·have:=lS ((dd cs).map cD);rw[e,yD] at this;exact this
 ·show(if(cs.map cD).all okS=true/\(cs.map cD).length<500 then some (D.oth .set [] (nj (cs.map cD)),true) else none)=_;rw[fJ ⟨JD cs,by simpa using hl⟩];unfold nj;rw[show([]:List D)=([]:List (List Int)).map cD from rfl,Kw];rfl
 ·show(if((dd cs).map cD).all okS=true then iE ((dd cs).map cD) else none)=_;rw[fJ (JD _)];unfold iE;rw[fJ ⟨ze _ fun c h=>(hc c ((hm c).mp h)).1,by rw[gA];simp;lia⟩,e]
theorem Gp: ∀(k:Nat) (r f t:fN),t∈kJ k r f-> ∀x∈t,x∈f\/ ∃y∈r,x=y*1\/x=y* -1:=by
 intro iV
 induction iV with
 |zero=>
  intro r f t h x hx;simp[kJ] at h;subst h;exact .inl hx
 |succ k iH=>
  intro r f t h x hx;simp only[kJ,uI,nF,qE] at h;obtain⟨v,hv,h⟩:=h
  have key: ∀s:Int,(s=1\/s= -1)->t∈kJ k (r.eraseIdx v) (f++[r.getD v 0*s])->x∈f\/ ∃y∈r,x=y*1\/x=y* -1:=by
   intro s hs h;rcases iH _ _ t h x hx with h1|⟨y,hy,h1⟩
   ·rcases nF.mp h1 with h1|h1
    ·exact .inl h1
    ·simp at h1;refine .inr ⟨r.getD v 0,qx hv,?_⟩;rw[uQ];rcases hs with rfl|rfl<;>simp[h1]
   ·exact .inr ⟨y,zO hy,h1⟩
  rcases h with h|h
  ·exact key 1 (.inl rfl) h
  ·exact key (-1) (.inr rfl) h
theorem HW{n:Nat}{t:fN}(h:t∈kJ n (st n) []):TOk n t:=by
 refine⟨HV h,fun x hx=>?_⟩;rcases Gp n _ _ t h x hx with h1|⟨y,hy,h1⟩
 ·simp at h1
 ·have:=Lj.mp hy;unfold ab;rcases h1 with rfl|rfl<;>split<;>omega
theorem TOk.abs(h:TOk n t):TOk n (t.map ab):=by
 refine⟨by simpa using h.1,fun x hx=>?_⟩;obtain⟨y,hy,rfl⟩:=kx.mp hx;have:=h.2 y hy;rw[Bs (i:=ab y) (by lia)];exact this
theorem KH(ev:EvF)(P:List Int->Prop)(b:Bool)(n:Int)(h: ∀a,∃a' c,P c/\ev [pS a b,pI n]=some (enc c,[stt a' b,ii n])): ∀(ds:List D) (acc:iq) (a:Int) (x:Sl),(∀c∈acc,P c)->acc.length+ds.length<=1000->
  ∃(a':Int) (i3:iq) (x':Sl),(∀c∈i3,P c)/\i3.length=acc.length+ds.length/\jA (fk 2) gq (gn (fj ev [eV 0,eV 1])) ds (acc.map cD) [stt a b,ii n,x]=some (i3.map cD,[stt a' b,ii n,x']):=by
 intro iV
 induction iV with
 |nil=>
  intro acc a x hp _;exact⟨a,acc,x,hp,by simp,rfl⟩
 |cons d ds iH=>
  intro acc a x hp hl;obtain⟨a1,z,hz,e1⟩:=h a
  obtain⟨a',i3,x',h',du,e⟩:=iH (acc++[z]) a1 (some (d,false)) (fun y hy=>by
   rcases nF.mp hy with hy|hy
   ·exact hp y hy
   ·simp at hy;subst hy;exact hz) (by simp at hl ⊢;lia)
  refine⟨a',i3,x',h',by simp at du ⊢;lia,?_⟩;have hs:(acc.map cD).length<sizeLine:=by rw[gA];simp at hl ⊢;lia
  have e2:fj ev [eV 0,eV 1] [stt a b,ii n,some (d,false)]=some (enc z,[stt a1 b,ii n,some (d,false)]):=
   gL (δ1:=[stt a b,ii n,some (d,false)]) (os:=[.slot 0,.slot 1]) (args:=[pS a b,pI n]) rfl rfl (nd1 0) e1
  rw[jA,show fk 2 d [stt a b,ii n,x]=some [stt a b,ii n,some (d,false)] from rfl];simp only[gy,tR,iu,tU];rw[e2];simp only[gy];rw[fJ hs];rw[qK] at e;exact e
theorem yv(ev:EvF)(P:List Int->Prop)(b:Bool)(n:Int)(h: ∀a,∃a' c,P c/\ev [pS a b,pI n]=some (enc c,[stt a' b,ii n]))(ds:List D)(hd:ds.length<=1000)(a:Int)(c1 c2:Sl)(fY:Dn)(fi:FIt)(hfi:fi (stt a b::c1::c2::ii n::fY)=some (ds,stt a b::c1::c2::ii n::fY)):
  ∃(a':Int) (cs:iq),(∀c∈cs,P c)/\cs.length=ds.length/\gh [0,3] 1 fi (fk 2) gq (gn (fj ev [eV 0,eV 1])) (stt a b::c1::c2::ii n::fY)=some ((.lst (cs.map cD),true),stt a' b::c1::c2::ii n::fY):=by
 obtain⟨a',cs,x',h1,h2,e⟩:=KH ev P b n h ds [] a none (by simp) (by simpa using hd);refine⟨a',cs,h1,by simpa using h2,?_⟩;unfold gh;rw[hfi];simp only[gy,gP,mG];rw[show iJ (stt a b::c1::c2::ii n::fY) [.slot 0,.slot 3]=some [pS a b,pI n] from rfl];simp only[gy];rw[fJ (show(fW [Opd.slot 0,Opd.slot 3] [(D.lst [.int a,.bl b],true),pI n]).Nodup from(nd1 0))];rw[show(List.map some [(D.lst [.int a,.bl b],true),(D.int n,false)]++List.replicate 1 none:Dn)=[stt a b,ii n,none] from rfl];rw[show([]:List D)=([]:List (List Int)).map cD from rfl,e];rfl
theorem Kx(ks:iq)(v:Nat): ∃m,m<=v/\PX.we (ks.map cD) none (some (v:Int))=(ks.take m).map cD:=by
 refine⟨min v ks.length,by lia,?_⟩;unfold PX.we;rw[HT.Nd,HT.NZ,List.map_take,gW,List.drop_zero,Nat.sub_zero]
theorem SrtC.take(h:SrtC ks)(m:Nat):SrtC (ks.take m):=List.Pairwise.sublist (uV m ks) h
theorem CsOk.take(h:CsOk n ks)(m:Nat):CsOk n (ks.take m):=⟨List.Nodup.sublist (uV m ks) h.1,fun c hc=>h.2 c (uP hc)⟩
theorem KW(t:fN)(ht:t.length<=100):fE (g1 jj) [(eW (gh [] 1 (gg (gz 0)) (fk 0) gq (gn (fE (g1 om) [(eV 0)]))))] [some (cD t,false)]=some ((cD (t.map ab),false),[some (cD t,false)]):=by
 obtain⟨x',e⟩:=Bq (fE (g1 om) [eV 0]) (fun d=> .int (ab (iOf d))) [] (t.map .int) [] none (by
  intro d hd;obtain⟨i,_,rfl⟩:=kx.mp hd;exact⟨false,rfl⟩) (by rw[gA];simp;lia)
 simp only[uH,sQ,jb,oF,ja] at e;refine hU (os:=[.val (.lst ((t.map ab).map .int),true)]) (lE (fM ?_)) rfl rfl;unfold gh;rw[show gg (gz 0) [some (cD t,false)]=some (t.map .int,[some (cD t,false)]) from rfl];simp only[gy,mG,vm,fW,kz,iu,sQ,List.replicate_succ,List.replicate_zero];rw[e,ja];rfl
theorem RT{f:F}{fi:FIt}{δ δ1:Dn}{ds rs:List D}{x':Sl}(h1:fi δ=some (ds,δ1))(h2:jA (fk 0) gq (gn f) ds [] [none]=some (rs,[x'])):gh [] 1 fi (fk 0) gq (gn f) δ=some ((.lst rs,true),δ1):=by
 unfold gh;rw[h1];simp only[gy,mG,vm,fW,kz,iu,sQ,List.replicate_succ,List.replicate_zero];rw[h2];rfl
theorem G1(ts:iq)(hl:ts.length<=1000)(ht: ∀t∈ts,t.length<=100)(c0 c1 c2 c3 c4 c5 c6:Sl)(o:Bool):gh [] 1 (gg (gz 7)) (fk 0) gq (gn (fE (g1 jj) [(eW (gh [] 1 (gg (gz 0)) (fk 0) gq (gn (fE (g1 om) [(eV 0)]))))])) [c0,c1,c2,c3,c4,c5,c6,some (.lst (ts.map cD),o)]=some ((.lst ((ts.map (List.map ab)).map cD),true),[c0,c1,c2,c3,c4,c5,c6,some (.lst (ts.map cD),false)]):=by
 obtain⟨x',e⟩:=Bq (fE (g1 jj) [(eW (gh [] 1 (gg (gz 0)) (fk 0) gq (gn (fE (g1 om) [(eV 0)]))))]) (fun d=>cD ((unC d).map ab)) [] (ts.map cD) [] none (by
  intro d hd;obtain⟨t,h,rfl⟩:=kx.mp hd;refine⟨false,?_⟩;rw[pH];exact KW t (ht t h)) (by rw[gA];simp;lia)
 simp only[uH,sQ,jb,oF,ja] at e;have:(ts.map ((fun d=>cD ((unC d).map ab))∘cD))=ts.map (cD∘List.map ab):=mC fun t _=>by simp only[Function.comp,pH]
 rw[this] at e;rw[ja];exact RT rfl e
def vD(n:Nat)(ks:iq):Prop:=n<=5/\CsOk n ks/\SrtC ks/\ks.length<=30
noncomputable abbrev rD'(n:Nat)(ks:iq):D:= .tup [.int n,.tup (ks.map cD)]
noncomputable abbrev rS(n:Nat)(ks:iq):Sl:=some (rD' n ks,false)
noncomputable abbrev lv(L:List D):Sl:=some (.lst L,true)
theorem Ei(h:hC fs δ=hC eI δ'):fj ev fs δ=fj ev eI δ':=by unfold fj;rw[h]
theorem F6(a:Int)(b:Bool)(lo hi:Nat)(h1:lo<=hi)(h5:hi<=5): ∃a' n ks,vD n ks/\lo<=n/\n<=hi/\kh [pS a b,pI lo,pI hi]=some ((rD' n ks,false),[stt a' b,ii lo,ii hi]):=by
 obtain⟨v,a1,v0,v1,e1⟩:=kD a b ((hi:Int)-lo+1) (by lia) (by lia);obtain⟨w,a2,w0,w1,e2⟩:=kD a1 b 4 (by lia) (by lia);obtain⟨n,hn⟩: ∃n:Nat,(lo:Int)+v=n:=⟨(lo+v).toNat,by lia⟩
 have pre: ∀g,fg (gu 3 (fD jc (eV 1) (eW (fj fG [(eV 0),(eW (fD jc (eW (fD gSub (eV 2) (eV 1))) (eW (fC (.int 1)))))])))) (fg (gu 4 (fj fG [(eV 0),(eW (fC (.int 4)))])) g) [stt a b,ii lo,ii hi,none,none,none,none,none]=g [stt a2 b,ii lo,ii hi,ii n,ii w,none,none,none]:=by
  intro g;refine(fq (δ1:=[stt a1 b,ii lo,ii hi,ii n,none,none,none,none]) ?_).trans ?_
  ·refine gM (i:=3) (δ1:=[stt a1 b,ii lo,ii hi,none,none,none,none,none]) (gG (o1:= .slot 1) (o2:= .val (.int v,false)) rfl (fM (e1 _ _ _ rfl rfl)) rfl rfl ?_) (show 3<8 by decide);rw[QY,hn]
  ·exact fq (gM (i:=4) (δ1:=[stt a2 b,ii lo,ii hi,ii n,none,none,none,none]) (e2 _ [ii lo,ii hi,ii n,none,none,none,none] _ rfl rfl) (show 4<8 by decide))
 by_cases hz:n=0
 ·subst hz;refine⟨a2,0,[],⟨by lia,⟨by simp,by simp⟩,List.Pairwise.nil,by simp⟩,by lia,by lia,?_⟩;refine iD (δ:=[stt a2 b,ii lo,ii hi,ii (0:Nat),ii w,none,none,none]) ⟨rfl,by decide,rfl⟩ ((pre _).trans ?_);refine gw ((oI (δ1:=[stt a2 b,ii lo,ii hi,ii (0:Nat),ii w,none,none,none]) (by simp)).trans (gw (jg ?_)));simp[gA]
 ·have n1:1<=n:=by lia
  have n5:n<=5:=by lia
  obtain⟨u,a3,u0,u1,e3⟩:=kD a2 b 3 (by lia) (by lia)
  let mL:List Int:=[4,8,13]
  let m:=mL.getD u.toNat 0
  have hm:0<m/\m<=13:=by
   rcases(show u=0\/u=1\/u=2 by lia) with rfl|rfl|rfl<;>decide
  obtain⟨c,a4,q0,q1,e4⟩:=kD a3 b m hm.1 (by lia);obtain⟨cn,rfl⟩: ∃cn:Nat,c=cn:=⟨c.toNat,by lia⟩
  have i1:qc (eV 5) [stt a4 b,ii lo,ii hi,ii n,ii w,ii cn,none,none]=some (gf 0 cn,[stt a4 b,ii lo,ii hi,ii n,ii w,ii cn,none,none]):=qv (o:= .slot 5) rfl rfl (by lia);obtain⟨a5,cs,bI,l9,e5⟩:=yv lj (ClOk n) b n (fun a=>GS a b n n1 n5) (gf 0 cn) (by simp[gf];lia) a4 (ii lo) (ii hi) [ii w,ii cn,none,none] (qc (eV 5)) i1;have k5:cs.length<13:=by simp[gf] at l9;lia
  have mid: ∃(a6:Int) (aW:iq) (sl:Sl),(∀c∈aW,ClOk n c)/\aW.length<500/\(sIf (fT (fD (kf .Gt) (eV 4) (eW (fC (.int 0))))) (fg (gu 7 (gh [0,3] 1 (qc (eW (fD jc (eW (fC (.int 1))) (eW (fD uk (eV 4) (eW (fC (.int 2)))))))) (fk 2) gq (gn (fj il [(eV 0),(eV 1)])))) (fg (sIf (fT (fD gEq (eV 4) (eW (fC (.int 3))))) (fg (gu 7 (gh [] 1 (gg (gz 7)) (fk 0) gq (gn (fE (g1 jj) [(eW (gh [] 1 (gg (gz 0)) (fk 0) gq (gn (fE (g1 om) [(eV 0)]))))])))) fF) fF) (fg (gu 6 (fj lh [(eW (uq (eW (fE (g1 jh) [(eW (fE (g1 Eg) [(eV 6)]))])) (eW (fC (.int 2))))),(eV 7)])) fF))) fF) [stt a5 b,ii lo,ii hi,ii n,ii w,ii cn,lv (cs.map cD),none]=some (.nx [stt a6 b,ii lo,ii hi,ii n,ii w,ii cn,lv (aW.map cD),sl]):=by
   by_cases hw:0<w
   ·obtain⟨k,hk,bC⟩: ∃k:Nat,(1:Int)+w%2=k/\k<=2:=⟨(1+w%2).toNat,by lia,by lia⟩
    have i2:qc (eW (fD jc (eW (fC (.int 1))) (eW (fD uk (eV 4) (eW (fC (.int 2))))))) [stt a5 b,ii lo,ii hi,ii n,ii w,ii cn,lv (cs.map cD),none]=some (gf 0 k,[stt a5 b,ii lo,ii hi,ii n,ii w,ii cn,lv (cs.map cD),none]):=by
     refine qv (o:= .val (.int k,false)) (fM ?_) rfl (by lia);rw[<-hk];simp[uk,gI]
    obtain⟨a6,ts,bp,htl,e6⟩:=yv il (TOk n) b n (fun a=>by
     obtain⟨a',t,ht,e⟩:=wX a b n n5;exact⟨a',t,HW ht,e⟩) (gf 0 k) (by simp[gf];lia) a5 (ii lo) (ii hi) [ii w,ii cn,lv (cs.map cD),none] _ i2
    have htl2:ts.length<=1000:=by simp[gf] at htl;lia
    have th: ∃av:List (List Int),(∀t∈av,TOk n t)/\ ∀g,fg (sIf (fT (fD gEq (eV 4) (eW (fC (.int 3))))) (fg (gu 7 (gh [] 1 (gg (gz 7)) (fk 0) gq (gn (fE (g1 jj) [(eW (gh [] 1 (gg (gz 0)) (fk 0) gq (gn (fE (g1 om) [(eV 0)]))))])))) fF) fF) g [stt a6 b,ii lo,ii hi,ii n,ii w,ii cn,lv (cs.map cD),lv (ts.map cD)]=g [stt a6 b,ii lo,ii hi,ii n,ii w,ii cn,lv (cs.map cD),lv (av.map cD)]:=by
     by_cases h3:w=3
     ·refine⟨ts.map (List.map ab),fun t ht=>?_,fun g=>?_⟩
      ·obtain⟨t',ht',rfl⟩:=kx.mp ht;exact(bp t' ht').abs
      ·refine fq ((oI (δ1:=[stt a6 b,ii lo,ii hi,ii n,ii w,ii cn,lv (cs.map cD),lv (ts.map cD)]) (jX (o:=false) (gG (o1:= .slot 4) (o2:= .val (.int 3,false)) rfl rfl rfl rfl (by rw[IK,h3];rfl)))).trans ((fq (gM (i:=7) (δ1:=[stt a6 b,ii lo,ii hi,ii n,ii w,ii cn,lv (cs.map cD),some (.lst (ts.map cD),false)]) (G1 ts htl2 (fun t ht=>by have:=(bp t ht).1;lia) _ _ _ _ _ _ _ true) (show 7<8 by decide))).trans rfl))
     ·refine⟨ts,bp,fun g=>fq ((lK (δ1:=[stt a6 b,ii lo,ii hi,ii n,ii w,ii cn,lv (cs.map cD),lv (ts.map cD)]) (jX (o:=false) (gG (o1:= .slot 4) (o2:= .val (.int 3,false)) rfl rfl rfl rfl (by rw[IK,wx,kS h3])))).trans rfl)⟩
    obtain⟨av,hts2,th⟩:=th;obtain⟨vs,ks,dv,eh,hkm,hkl,y1,l8⟩:=QK bI (by lia);obtain⟨mm,hmm,ct⟩:=Kx ks 2;obtain⟨aW,sl,v8,_,e7⟩:=GR n5 hts2 (dv.take mm) true;refine⟨a6,aW,sl,v8.2,by have:=v8.len n5;lia,?_⟩;refine(oI (δ1:=[stt a5 b,ii lo,ii hi,ii n,ii w,ii cn,lv (cs.map cD),none]) (jX (o:=false) (gG (o1:= .slot 4) (o2:= .val (.int 0,false)) rfl rfl rfl rfl (by rw[Lx,ny (show w>0 from hw)])))).trans ?_;refine(fq (gM (i:=7) e6 (show 7<8 by decide))).trans ((th _).trans ((fq (gM (i:=6) (δ1:=[stt a6 b,ii lo,ii hi,ii n,ii w,ii cn,lv (cs.map cD),sl]) (gL (δ1:=[stt a6 b,ii lo,ii hi,ii n,ii w,ii cn,lv (cs.map cD),lv (av.map cD)]) (os:=[.val (.lst ((ks.take mm).map cD),true),.slot 7]) (args:=[(.lst ((ks.take mm).map cD),false),(.lst (av.map cD),true)]) (mr (δ1:=[stt a6 b,ii lo,ii hi,ii n,ii w,ii cn,lv (cs.map cD),lv (av.map cD)]) (fM ?_) rfl) rfl (nd1 7) e7) (show 6<8 by decide))).trans rfl))
    have f1:fE (g1 jh) [(eW (fE (g1 Eg) [(eV 6)]))] [stt a6 b,ii lo,ii hi,ii n,ii w,ii cn,lv (cs.map cD),lv (av.map cD)]=some ((.lst (ks.map cD),true),[stt a6 b,ii lo,ii hi,ii n,ii w,ii cn,lv (cs.map cD),lv (av.map cD)]):=
     hU (os:=[.val (.oth .set [] (vs.map cD),true)]) (lE (fM (hU (os:=[.slot 6]) rfl rfl y1))) rfl l8
    unfold uq;rw[fM f1];simp only[gy];rw[show eW (fC (.int 2)) [stt a6 b,ii lo,ii hi,ii n,ii w,ii cn,lv (cs.map cD),lv (av.map cD)]=some (.val (.int 2,false),[stt a6 b,ii lo,ii hi,ii n,ii w,ii cn,lv (cs.map cD),lv (av.map cD)]) from rfl];simp only[gy,DP];rw[show gSl none (some 2) (.lst (ks.map cD))=some (.lst (PX.we (ks.map cD) none (some 2)),true) from rfl];simp only[gy];rw[show PX.we (ks.map cD) none (some 2)=(ks.take mm).map cD from ct]
   ·refine⟨a5,cs,none,bI,by lia,?_⟩;exact(lK (δ1:=[stt a5 b,ii lo,ii hi,ii n,ii w,ii cn,lv (cs.map cD),none]) (jX (o:=false) (gG (o1:= .slot 4) (o2:= .val (.int 0,false)) rfl rfl rfl rfl (by rw[Lx,kS (show ¬w>0 from hw)])))).trans rfl
  obtain⟨a6,aW,sl,v8,aU,mid⟩:=mid;obtain⟨vs,ks,dv,eh,hkm,hkl,y1,l8⟩:=QK v8 aU
  have f1:fE (g1 jh) [(eW (fE (g1 Eg) [(eV 6)]))] [stt a6 b,ii lo,ii hi,ii n,ii w,ii cn,lv (aW.map cD),sl]=some ((.lst (ks.map cD),true),[stt a6 b,ii lo,ii hi,ii n,ii w,ii cn,lv (aW.map cD),sl]):=
   hU (os:=[.val (.oth .set [] (vs.map cD),true)]) (lE (fM (hU (os:=[.slot 6]) rfl rfl y1))) rfl l8
  have last: ∃(a7:Int) (bg:iq),CsOk n bg/\SrtC bg/\bg.length<=30/\sIf (fT (fD (kf .Gt) (eW (fE (g1 ly) [(eV 6)])) (eW (fC (.int 30))))) (fg (gu 6 (uq (eV 6) (eW (fj fG [(eV 0),(eW (fC (.int 30)))])))) fF) fF [stt a6 b,ii lo,ii hi,ii n,ii w,ii cn,lv (ks.map cD),sl]=some (.nx [stt a7 b,ii lo,ii hi,ii n,ii w,ii cn,lv (bg.map cD),sl]):=by
   have t1:(fT (fD (kf .Gt) (eW (fE (g1 ly) [(eV 6)])) (eW (fC (.int 30))))) [stt a6 b,ii lo,ii hi,ii n,ii w,ii cn,lv (ks.map cD),sl]=some (decide ((ks.length:Int)>30),[stt a6 b,ii lo,ii hi,ii n,ii w,ii cn,lv (ks.map cD),sl]):=
    jX (o:=false) (gG (o1:= .val (.int ks.length,false)) (o2:= .val (.int 30,false)) (fM (hU (os:=[.slot 6]) rfl rfl (by simp))) rfl rfl rfl (Lx _ _))
   by_cases hb:(ks.length:Int)>30
   ·obtain⟨p,a7,p0,p1,e8⟩:=kD a6 b 30 (by lia) (by lia);obtain⟨pn,rfl⟩: ∃pn:Nat,p=pn:=⟨p.toNat,by lia⟩
    obtain⟨mm,hmm,ct⟩:=Kx ks pn;refine⟨a7,ks.take mm,dv.take mm,eh.take mm,by rw[qU];lia,?_⟩;rw[ny hb] at t1;refine(oI t1).trans ((fq (gM (i:=6) (δ1:=[stt a7 b,ii lo,ii hi,ii n,ii w,ii cn,lv (ks.map cD),sl]) (r:=(.lst ((ks.take mm).map cD),true)) ?_ (show 6<8 by decide))).trans rfl);unfold uq;rw[show eV 6 [stt a6 b,ii lo,ii hi,ii n,ii w,ii cn,lv (ks.map cD),sl]=some (.slot 6,[stt a6 b,ii lo,ii hi,ii n,ii w,ii cn,lv (ks.map cD),sl]) from rfl];simp only[gy];rw[fM (e8 _ [ii lo,ii hi,ii n,ii w,ii cn,lv (ks.map cD),sl] _ rfl rfl)];simp only[gy,DP];rw[show res (stt a7 b::[ii lo,ii hi,ii n,ii w,ii cn,lv (ks.map cD),sl]) (.slot 6)=some (.lst (ks.map cD)) from rfl];simp only[gy];rw[show gSl none (some (pn:Int)) (.lst (ks.map cD))=some (.lst (PX.we (ks.map cD) none (some (pn:Int))),true) from rfl,ct];rfl
   ·rw[kS hb] at t1;exact⟨a6,ks,dv,eh,by lia,(lK t1).trans rfl⟩
  obtain⟨a7,bg,k1,k2,k3,last⟩:=last;refine⟨a7,n,bg,⟨n5,k1,k2,k3⟩,by lia,by lia,?_⟩;refine iD (δ:=[stt a7 b,ii lo,ii hi,ii n,ii w,ii cn,lv (bg.map cD),sl]) ⟨rfl,by decide,rfl⟩ ((pre _).trans ?_);refine(fq ((lK (δ1:=[stt a2 b,ii lo,ii hi,ii n,ii w,none,none,none]) (by simp[hz])).trans rfl)).trans ?_;refine(fq (δ1:=[stt a4 b,ii lo,ii hi,ii n,ii w,ii cn,none,none]) ?_).trans ?_
  ·refine gM (i:=5) (δ1:=[stt a4 b,ii lo,ii hi,ii n,ii w,none,none,none]) ?_ (show 5<8 by decide)
   have em:eW (fD gIx (eW (jx [(fC (.int 4)),(fC (.int 8)),(fC (.int 13))])) (eW (fj fG [(eV 0),(eW (fC (.int 3)))]))) [stt a2 b,ii lo,ii hi,ii n,ii w,none,none,none]=some (.val (.int m,false),[stt a3 b,ii lo,ii hi,ii n,ii w,none,none,none]):=
    fM (gG (o1:= .val (.lst (mL.map .int),true)) (o2:= .val (.int u,false)) (fM (δ1:=[stt a2 b,ii lo,ii hi,ii n,ii w,none,none,none]) (by simp[mL,gA])) (fM (e3 _ [ii lo,ii hi,ii n,ii w,none,none,none] _ rfl rfl)) rfl rfl (Rw u0 (by simpa[mL] using u1)))
   have e4':=e4 (fun _=>some (.val (.int m,false),[stt a3 b,ii lo,ii hi,ii n,ii w,none,none,none])) [ii lo,ii hi,ii n,ii w,none,none,none] (.val (.int m,false)) rfl rfl
   have hf:hC [eV 0,eW (fD gIx (eW (jx [(fC (.int 4)),(fC (.int 8)),(fC (.int 13))])) (eW (fj fG [(eV 0),(eW (fC (.int 3)))])))] [stt a2 b,ii lo,ii hi,ii n,ii w,none,none,none]=hC [eV 0,fun _=>some (.val (.int m,false),[stt a3 b,ii lo,ii hi,ii n,ii w,none,none,none])] (stt a3 b::[ii lo,ii hi,ii n,ii w,none,none,none]):=by
    rw[mr (o1:= .slot 0) rfl em];rfl
   exact(Ei hf).trans e4'
  refine(fq (gM (i:=6) e5 (show 6<8 by decide))).trans ?_;refine(fq mid).trans ?_;refine(fq (gM (i:=6) f1 (show 6<8 by decide))).trans ?_;refine(fq last).trans (gw (jg ?_));simp[gz,gA]
noncomputable abbrev frz(ds:List D):Dn:=ds.map fun d=>some (d,false)
theorem uf: ∀(os:List Opd) (ds:List D),fW os (ds.map fun d=>(d,false))=[]
 |[],_=>by simp[fW]
 |_::_,[]=>by simp[fW]
 |o::os,d::ds=>by cases o<;>simp[fW,uf os ds]
theorem EE: ∀(os:List Opd) (ds:List D) (outs δ:Dn),wb os (ds.map fun d=>(d,false)) outs δ=δ
 |[],_,_,_=>by simp[wb]
 |_::_,[],_,_=>by simp[wb]
 |_::_,_::_,[],_=>by simp[wb]
 |o::os,d::ds,x::xs,δ=>by cases o<;>simp[wb,EE os ds xs]
theorem Ue{f:F}{ti:FT}{g:D->D}{p:D->Bool}{pre:Dn}: ∀(l acc:List D) (x:Sl),(∀d∈l,ti (pre++[some (d,false)])=some (p d,pre++[some (d,false)])/\(p d=true-> ∃o,f (pre++[some (d,false)])=some ((g d,o),pre++[some (d,false)])))->acc.length+l.length<=sizeLine->
  ∃x',jA (fk pre.length) ti (gn f) l acc (pre++[x])=some (acc++(l.filter p).map g,pre++[x']):=by
 intro iV
 induction iV with
 |nil=>
  intro acc x _ _;exact⟨x,by simp[jA]⟩
 |cons d l iH=>
  intro acc x h hl;obtain⟨h1,h2⟩:=h d gY;have hs:acc.length<sizeLine:=by simp at hl;lia
  rw[jA,AD];simp only[gy];rw[h1]
  cases hp:p d with
  |false=>
   obtain⟨x',e⟩:=iH acc (some (d,false)) (fun d' h'=>h d' (gX _ h')) (by simp at hl ⊢;lia);exact⟨x',by simp[e,hp]⟩
  |true=>
   obtain⟨o,hd⟩:=h2 hp;obtain⟨x',e⟩:=iH (acc++[g d]) (some (d,false)) (fun d' h'=>h d' (gX _ h')) (by simp at hl ⊢;lia);refine⟨x',?_⟩;simp only[gy,iu,tU];rw[hd];simp only[gy];rw[fJ hs];simp only[gy];rw[e];simp[hp]
theorem Kz{caps:hV}{fi:FIt}{f:F}{ti:FT}{δ δ1:Dn}{l args:List D}(g:D->D)(p:D->Bool)(h1:fi δ=some (l,δ1))(h2:iJ δ1 (caps.map .slot)=some (args.map fun d=>(d,false)))(hc:args.length=caps.length)
  (h: ∀d∈l,ti (frz args++[some (d,false)])=some (p d,frz args++[some (d,false)])/\(p d=true-> ∃o,f (frz args++[some (d,false)])=some ((g d,o),frz args++[some (d,false)])))(hl:l.length<=10000):
  gh caps 1 fi (fk caps.length) ti (gn f) δ=some ((.lst ((l.filter p).map g),true),δ1):=by
 obtain⟨x',e⟩:=Ue (f:=f) (ti:=ti) (g:=g) (p:=p) (pre:=frz args) l [] none h (by rw[gA];simp;lia);unfold gh;rw[h1];simp only[gy];rw[h2];simp only[gy,uf,kz,iu,ja,EE];rw[show fk caps.length=fk (frz args).length from by rw[gW,hc]];rw[show((args.map (some∘fun d=>(d,false)))++List.replicate 1 none:Dn)=frz args++[none] from rfl,e];simp
theorem oz{caps:hV}{fi:FIt}{f:F}{δ δ1:Dn}{l args:List D}(g:D->D)(h1:fi δ=some (l,δ1))(h2:iJ δ1 (caps.map .slot)=some (args.map fun d=>(d,false)))(hc:args.length=caps.length)
  (h: ∀d∈l,∃o,f (frz args++[some (d,false)])=some ((g d,o),frz args++[some (d,false)]))(hl:l.length<=10000):
  gh caps 1 fi (fk caps.length) gq (gn f) δ=some ((.lst (l.map g),true),δ1):=by
 rw[Kz g (fun _=>true) h1 h2 hc (fun d hd=>⟨rfl,fun _=>h d hd⟩) hl,List.filter_eq_self.mpr fun _ _=>rfl]
theorem CB{caps:hV}{fi:FIt}{f:F}{δ δ1:Dn}{l args:List D}(p:D->Bool)(h1:fi δ=some (l,δ1))(h2:iJ δ1 (caps.map .slot)=some (args.map fun d=>(d,false)))(hc:args.length=caps.length)
  (h: ∀d∈l,∃o,f (frz args++[some (d,false)])=some ((.bl (p d),o),frz args++[some (d,false)]))(hl:l.length<=10000):
  fE (g1 vZ) [eW (gh caps 1 fi (fk caps.length) gq (gn f))] δ=some ((.bl (l.all p),false),δ1):=
 hU (lE (fM (oz (fun d=> .bl (p d)) h1 h2 hc h hl))) rfl (sM p l)
theorem wq{tg:Tg}{fb:FS}(I:List D->Dn->Prop)(step: ∀d ds δ,I (d::ds) δ-> ∃δ1 δ2,tg d δ=some δ1/\fb δ1=some (.nx δ2)/\I ds δ2): ∀(ds:List D) (δ:Dn),I ds δ-> ∃δ',I [] δ'/\mB tg fb ds δ=some (.nx δ'):=by
 intro iV
 induction iV with
 |nil=>
  intro δ h;exact⟨δ,h,rfl⟩
 |cons d ds iH=>
  intro δ h;obtain⟨δ1,δ2,h1,h2,h3⟩:=step d ds δ h;obtain⟨δ',h4,h5⟩:=iH δ2 h3;refine⟨δ',h4,?_⟩;unfold mB;rw[h1];simp only[gy];rw[h2];exact h5
theorem KG{tg:Tg}{f:F}(I:List D->List D->Dn->Prop)(step: ∀d ds acc δ,I (d::ds) acc δ-> ∃δ1 r o δ2,tg d δ=some δ1/\f δ1=some ((r,o),δ2)/\acc.length<=10000/\I ds (acc++[r]) δ2): ∀(ds acc:List D) (δ:Dn),I ds acc δ-> ∃i3 δ',I [] i3 δ'/\jA tg gq (gn f) ds acc δ=some (i3,δ')
 |[],acc,δ,h=>⟨acc,δ,h,rfl⟩
 |d::ds,acc,δ,h=>by
  obtain⟨δ1,r,o,δ2,h1,h2,hs,h3⟩:=step d ds acc δ h;obtain⟨i3,δ',h4,h5⟩:=KG I step ds _ δ2 h3;refine⟨i3,δ',h4,?_⟩;unfold jA;rw[h1];simp only[gy,tR,iu,tU];rw[h2];simp only[gy];rw[fJ (EN hs)];exact h5
theorem Kr{caps:hV}{k:Nat}{fi:FIt}{tg:Tg}{ti:FT}{fb:FB}{δ δ1 δ':Dn}{l acc:List D}{args:List (D×Bool)}(h1:fi δ=some (l,δ1))(h2:iJ δ1 (caps.map .slot)=some args)(h3:(fW (caps.map .slot) args).Nodup)(h4:jA tg ti fb l [] (args.map some++List.replicate k none)=some (acc,δ')):
  gh caps k fi tg ti fb δ=some ((.lst acc,true),wb (caps.map .slot) args (gk args δ') δ1):=by
 unfold gh;rw[h1];simp only[gy];rw[h2];simp only[gy];rw[fJ h3,h4];rfl
theorem Ej(h:f δ=some ((.bl true,o),δ1)):ur f g δ=g δ1:=by rw[N9,h];rfl
noncomputable def NY:D->List D
 | .tup l=>l
 | .lst l=>l
 |_=>[]
noncomputable def kj:Nat->List (List Int)
 |0=>[[]]
 |n+1=>(kj n).flatMap fun t=>[t++[0],t++[1]]
theorem zN: ∀n:Nat,(kj n).length=2^n
 |0=>rfl
 |n+1=>by
  rw[kj,List.length_flatMap,qM,<-zN n];generalize kj n=L
  induction L with
  |nil=>rfl
  |cons t L ih=>simp at ih ⊢;lia
theorem CH: ∀{n:Nat} {t:fN},t∈kj n->t.length=n/\ ∀x∈t,x=0\/x=1:=by
  intro iV
  induction iV with
  |zero=>
    intro t h;simp[kj] at h;simp[h]
  |succ n iH=>
    intro t h;rw[kj,uI] at h;obtain⟨u,hu,h⟩:=h;obtain⟨h1,h2⟩:=iH hu;simp only[iY,jD,kP] at h
    rcases h with rfl|rfl<;>
      (refine⟨by simp[h1],fun x hx=>?_⟩
       rcases nF.mp hx with hx|hx
       · exact h2 x hx
       · simp at hx;simp[hx])
theorem KQ{n:Nat}(hn:n<=5):(kj n).length<=32:=by
 rw[zN];exact wA (n:=2) (by decide) hn
noncomputable abbrev Nw:List D:=[.int 0,.int 1]
noncomputable def M3(d e:D):D:= .tup (NY d++[e])
theorem M0(t:fN)(ht:t.length<=100)(e:D):fD jc (eV 0) (eW (jB [(gz 1)])) [some (cD t,false),some (e,false)]=some ((M3 (cD t) e,false),[some (cD t,false),some (e,false)]):=by
 have:=gA;have h:t.length<=16777215:=by lia
 simp[gz,this,jc,M3,NY,h]
theorem GP(δ:Dn):gg (jB [(fC (.int 0)),(fC (.int 1))]) δ=some (Nw,δ):=by simp[gA]
abbrev Py:FS:=(fg (jW (mR 3 (gh [4] 1 (gg (jB [(fC (.int 0)),(fC (.int 1))])) (fk 1) gq (gn (fD jc (eV 0) (eW (jB [(gz 1)]))))))) fF)
abbrev RL:FS:=(fg (gu 3 (jx [])) (fg (lN (gg (gz 1)) (fk 4) Py) (fg (gu 1 (gz 3)) fF)))
theorem ML(z x1 x2:Sl)(L:iq)(hL:L.length<=100)(t:fN)(ht:t.length<=100):Py [z,x1,x2,lv (L.map cD),some (cD t,false)]=some (.nx [z,x1,x2,lv ((L++[t++[0],t++[1]]).map cD),some (cD t,false)]):=by
 have c:=oz (caps:=[4]) (fi:=gg (jB [(fC (.int 0)),(fC (.int 1))])) (f:=fD jc (eV 0) (eW (jB [(gz 1)]))) (δ:=[z,x1,x2,lv (L.map cD),some (cD t,false)]) (l:=Nw) (args:=[cD t]) (M3 (cD t)) (GP _) rfl rfl (fun e _=>⟨false,M0 t ht e⟩) (by simp);have h1:=gA;have h2:L.length+2<=16777216:=by lia
 refine(fq ?_).trans rfl;rw[Lv];unfold mR;simp only[wz,zY];rw[show gh [4] 1 (gg (jB [(fC (.int 0)),(fC (.int 1))])) (fk 1) gq (gn (fD jc (eV 0) (eW (jB [(gz 1)])))) [z,x1,x2,lv (L.map cD),some (cD t,false)]=_ from c];simp[h1,h2,M3,NY,cD]
noncomputable abbrev ext(t:fN):List (List Int):=[t++[0],t++[1]]
theorem vX{n:Nat}(hn:n<=5): ∃o,iU [pI n]=some ((.lst ((kj n).map cD),o),[ii n]):=by
 let z:Sl:=ii n
 obtain⟨δ',⟨j,o,x2,x3,x4,hj,rfl⟩,e⟩:=wq (tg:=fk 2) (fb:=RL) (fun ds δ=> ∃j o x2 x3 x4,j+ds.length=n/\δ=[z,some (.lst ((kj j).map cD),o),x2,x3,x4]) (fun d ds δ hQ=>by
  obtain⟨j,o,x2,x3,x4,hj,e⟩:=hQ;subst e;have hj5:j<=5:=by simp at hj;lia
  have h32:=KQ hj5
  obtain⟨δ',⟨bO,fY,y4,h1,h2,rfl⟩,e⟩:=wq (tg:=fk 4) (fb:=Py) (fun ds δ=> ∃bO fY y4,bO++fY=kj j/\ds=fY.map cD/\δ=[z,some (.lst ((kj j).map cD),false),some (d,false),lv ((bO.flatMap ext).map cD),y4]) (fun t ds δ hQ=>by
   obtain⟨bO,fY,y4,h1,h2,h3⟩:=hQ;subst h3
   cases fY with
   |nil=>cases h2
   |cons u fY=>
    obtain⟨rfl,rfl⟩:=pe h2;have hu:u∈kj j:=by rw[<-h1];simp
    have hd:bO.length<=32:=by have:=lH List.length h1;simp at this;lia
    refine⟨_,_,rfl,ML z _ _ (bO.flatMap ext) ?_ u (by have:=(CH hu).1;lia),bO++[u],fY,some (cD u,false),by simp[<-h1],rfl,?_⟩
    ·have: ∀L:List (List Int),(L.flatMap ext).length=2*L.length:=fun L=>by
      induction L with
      |nil=>rfl
      |cons t L ih=>simp at ih ⊢;lia
     rw[this];lia
    ·simp[List.flatMap_append]) ((kj j).map cD) [z,some (.lst ((kj j).map cD),false),some (d,false),lv [],x4] ⟨[],kj j,x4,rfl,rfl,rfl⟩
  have hr:fY=[]:=by simpa using h2.symm
  subst hr;rw[wK] at h1;subst h1;exact⟨_,_,rfl,(fq (δ1:=[z,some (.lst ((kj j).map cD),o),some (d,false),lv [],x4]) rfl).trans ((fq ((lM (nN (o:=false) rfl)).trans e)).trans rfl),j+1,false,_,_,_,by simp at hj;lia,rfl⟩) (gf 0 n) [z,some (.lst ((kj 0).map cD),true),none,none,none] ⟨0,true,none,none,none,by simp[gf],rfl⟩
 have:j=n:=by simpa using hj
 subst this
 have pre: ∀g,fg (gu 1 (jx [(jB [])])) (fg (lN (qc (eV 0)) (fk 2) RL) g) [z,none,none,none,none]=g [z,some (.lst ((kj j).map cD),o),x2,x3,x4]:=fun g=>
  (fq (δ1:=[z,some (.lst ((kj 0).map cD),true),none,none,none]) rfl).trans (fq ((lM (qv (o:= .slot 0) rfl rfl (by lia))).trans e))
 refine⟨o,?_⟩
 cases o with
 |true=>exact iD (δ:=[z,none,x2,x3,x4]) ⟨rfl,by decide,rfl⟩ ((pre _).trans (gw rfl))
 |false=>exact iD (δ:=[z,some (.lst ((kj j).map cD),false),x2,x3,x4]) ⟨rfl,by decide,rfl⟩ ((pre _).trans (gw rfl))
def NR(n:Nat)(cs:iq)(r:D):Prop:=(r= .non/\[]∈cs)\/ ∃ks,r=rD' n ks/\vD n ks/\[]∉cs/\ ∀c,c∈ks↔c∈cs
theorem wO{α:Type}{R:α->α->Prop}: ∀{l:List α},l.Pairwise R-> ∀p∈l.zip l.tail,R p.1 p.2
 |[],_,p,h=>by simp at h
 |[_],_,p,h=>by simp at h
 |x::y::l,hp,p,h=>by
  simp only[List.tail_cons,pd] at h;obtain⟨h1,h2⟩:=CM.mp hp;rcases iY.mp h with rfl|h
  ·exact h1 y gY
  ·exact wO h2 p h
theorem Nv(l:List D):PX.we l (some 1) none=l.tail:=by
 unfold PX.we;rw[show(some (1:Int))=some ((1:Nat):Int) from rfl,HT.NZ,HT.Nd]
 cases l with
 |nil=>rfl
 |cons x l=>rw[show min 1 (x::l).length=1 from by simp];simp
theorem ET(l:List D)(d:D)(hd:d= .lst l\/d= .tup l)(h: ∀p∈l.zip l.tail,kf .Lt p.1 p.2=some (.bl true,false))(hl:l.length<=1000):lQ [(d,false)]=some ((.bl true,false),[some (d,false)]):=by
 have hz:vO (gz 0) (oK (eV 0) (eW (fC (.int 1)))) [some (d,false)]=some ((l.zip l.tail).map fun p=> .tup [p.1,p.2],[some (d,false)]):=by
  rcases hd with rfl|rfl
  ·have:oK (eV 0) (eW (fC (.int 1))) [some (.lst l,false)]=some ((.lst l.tail,true),[some (.lst l,false)]):=by rw[<-Nv l];rfl
   simp[vO,gz,this,qV]
  ·have:oK (eV 0) (eW (fC (.int 1))) [some (.tup l,false)]=some ((.tup l.tail,false),[some (.tup l,false)]):=by rw[<-Nv l];rfl
   simp[vO,gz,this,qV]
 have hzl:(l.zip l.tail).length<=1000:=by rw[List.length_zip];lia
 obtain⟨acc,δ',⟨ps,us,u,v,h1,h2,h3,h4,rfl⟩,e⟩:=KG (tg:=mI [(fk 0),(fk 1)]) (f:=fD (kf .Lt) (eV 0) (eV 1)) (fun ds acc δ=> ∃(ps:List (D×D)) (us:List D) (u v:Sl),ds=ps.map (fun p=> .tup [p.1,p.2])/\(∀p∈ps,kf .Lt p.1 p.2=some (.bl true,false))/\acc=us.map (fun _=> .bl true)/\acc.length+ps.length<=1000/\δ=[u,v]) (fun d ds acc δ hQ=>by
  obtain⟨ps,us,u,v,h1,h2,h3,h4,h5⟩:=hQ;subst h5
  cases ps with
  |nil=>cases h1
  |cons p ps=>
   obtain⟨rfl,rfl⟩:=pe h1;exact⟨[some (p.1,false),some (p.2,false)],.bl true,false,[some (p.1,false),some (p.2,false)],rfl,gG (o1:= .slot 0) (o2:= .slot 1) rfl rfl rfl rfl (h2 p gY),by lia,ps,us++[.non],_,_,rfl,fun q hq=>h2 q (gX _ hq),by simp[h3],by simp at h4 ⊢;lia,rfl⟩) ((l.zip l.tail).map fun p=> .tup [p.1,p.2]) [] [none,none] ⟨l.zip l.tail,[],none,none,rfl,h,rfl,by simpa using hzl,rfl⟩
 refine iD (δ:=[some (d,false)]) ⟨rfl,by decide,rfl⟩ (gw (jg (hU (lE (fM (Kr (caps:=[]) (k:=2) (args:=[]) hz rfl kz e))) rfl ?_)));subst h3;refine(sM (fun _=>true) us).trans ?_;simp
theorem Kb{n:Nat}(hn:n<=5){c:fN}(h:ClOk n c):kM [pI n,enc c]=some ((.bl true,false),[ii n,eN c]):=by
 have hl:=ClOk.len h;have h1:1<=c.length:=Lb.mpr h.1;have k1:(1:Int)<=c.length:=by lia
 have k2:(c.length:Int)<=5:=by lia
 have y1:(wd (iF (fT (gB (mz [.tuple]) (eV 1)))) (iF (fT (mq .LtE .LtE (eW (fC (.int 1))) (eW (fE (g1 ly) [(eV 1)])) (eW (fC (.int 5))))))) [ii n,eN c]=some (false,[ii n,eN c]):=by
  simp[isT,mq,iN,k1,k2]
 have c1:=CB (caps:=[0]) (fi:=gg (gz 1)) (f:=fj jJ [(eV 0),(eV 1)]) (δ:=[ii n,eN c]) (δ1:=[ii n,eN c]) (l:=c.map .int) (args:=[.int n]) (fun _=>true) rfl rfl rfl (fun d hd=>⟨false,by
  obtain⟨s,hs,rfl⟩:=kx.mp hd;have:=h.2.2 s hs;refine(gL (δ1:=[ii n,ii s]) (os:=[.slot 0,.slot 1]) (args:=[pI n,pI s]) rfl rfl kz (EO n (.int s))).trans ?_;rw[sg,ny this.1,ny this.2];rfl⟩) (by simp;lia)
 rw[show(c.map D.int).all (fun _=>true)=true by simp] at c1
 have c2:=oz (caps:=[]) (fi:=gg (gz 1)) (f:=fE (g1 om) [(eV 0)]) (δ:=[ii n,eN c]) (δ1:=[ii n,eN c]) (l:=c.map .int) (args:=[]) (fun d=> .int (ab (iOf d))) rfl rfl rfl (fun d hd=>⟨false,by
  obtain⟨s,hs,rfl⟩:=kx.mp hd;rfl⟩) (by simp;lia)
 rw[show(c.map D.int).map (fun d=>D.int (ab (iOf d)))=(c.map ab).map D.int by rw[ja,ja];rfl] at c2
 have r:=ET ((c.map ab).map .int) (.lst ((c.map ab).map .int)) (.inl rfl) (fun p hp=>by
  have:=wO (R:=fun a b:D=>kf .Lt a b=some (.bl true,false)) (l:=(c.map ab).map .int) (yD.mpr (h.2.1.imp fun {a b} bX=>by rw[N8,ny bX])) p hp;exact this) (by simp;lia)
 refine iD (δ:=[ii n,eN c]) ⟨rfl,by decide,rfl⟩ ((fq ((lK y1).trans rfl)).trans ((fq ((lK (nP (jX c1))).trans rfl)).trans ?_));exact gw (jg (gL (δ1:=[ii n,eN c]) (args:=[(.lst ((c.map ab).map .int),false)]) (lE (fM c2)) rfl kz r))
theorem Pf{a b:fN}(h:ltT (cD b) (cD a)=false)(j7:a≠b):kf .Lt (cD a) (cD b)=some (.bl true,false):=by
 obtain⟨r,hr⟩: ∃r,kN .Lt (cD a) (cD b)=some r:=G7.mp (vC .Lt a b);have pa: ∀x:List Int,D.pr (cD x)=true:=fun x=>by simp[D.pr,xk]
 have e:=wu (cD a) (cD b) (pa a) (pa b) r hr
 have i8:ltT (cD a) (cD b)=true:=by
  rw[vo,uA] at h;rw[K6]
  cases hc:cT (cD a) (cD b) with
  |lt=>rfl
  |gt=>rw[hc] at h;exact absurd rfl h
  |eq=>
   have:=uB _ _ (pa a) (pa b) hc;exact absurd (by simpa[pH] using lH unC this) j7
 unfold kf;rw[fJ ⟨by rw[sH];lia,by rw[sH];lia⟩,hr,e,i8];rfl
theorem Pm{n:Nat}{ks:iq}(h:vD n ks):ot [(rD' n ks,false)]=some ((.bl true,false),[rS n ks]):=by
 have hn:=h.1;have hl:=h.2.2.2;have hp:(ks.map cD).Pairwise fun a b=>kf .Lt a b=some (.bl true,false):=yD.mpr ((List.Pairwise.and h.2.2.1 h.2.1.1).imp fun {a b} bX=>Pf bX.1 bX.2);have r:=ET (ks.map cD) (.tup (ks.map cD)) (.inr rfl) (wO hp) (by simp;lia)
 have c1:=CB (caps:=[0]) (fi:=gg (gz 1)) (f:=fj kM [(eV 0),(eV 1)]) (δ:=[ii n,some (.tup (ks.map cD),false)]) (δ1:=[ii n,some (.tup (ks.map cD),false)]) (l:=ks.map cD) (args:=[.int n]) (fun _=>true) rfl rfl rfl (fun d hd=>⟨false,by
  obtain⟨c,hc,rfl⟩:=kx.mp hd;exact gL (δ1:=[ii n,eN c]) (os:=[.slot 0,.slot 1]) (args:=[pI n,enc c]) rfl rfl kz (Kb hn (h.2.1.2 c hc))⟩) (by simp;lia)
 rw[show(ks.map cD).all (fun _=>true)=true by simp] at c1
 have t1:(wd (iF (fT (gB (mz [.tuple]) (eV 1)))) (fT (fD (kf .Gt) (eW (fE (g1 ly) [(eV 1)])) (eW (fC (.int 30)))))) [ii n,some (.tup (ks.map cD),false)]=some (false,[ii n,some (.tup (ks.map cD),false)]):=
  (Ko (δ1:=[ii n,some (.tup (ks.map cD),false)]) rfl).trans (jX (o:=false) (gG (o1:= .val (.int (ks.map cD).length,false)) (o2:= .val (.int 30,false)) rfl rfl rfl rfl (by rw[Lx,kS (by simp;lia)])))
 have are:mv [pI n,(.tup (ks.map cD),false)]=some ((.bl true,false),[ii n,some (.tup (ks.map cD),false)]):=
  iD (δ:=[ii n,some (.tup (ks.map cD),false)]) ⟨rfl,by decide,rfl⟩ ((fq ((lK t1).trans rfl)).trans (gw (jg ((Ej c1).trans (gL (δ1:=[ii n,some (.tup (ks.map cD),false)]) (os:=[.slot 1]) (args:=[(.tup (ks.map cD),false)]) rfl rfl kz r)))))
 let R:Sl:=rS n ks
 let δ:Dn:=[R,ii n,some (.tup (ks.map cD),false)]
 have cB:ou [(rD' n ks,false)]=some ((.bl true,false),[R]):=by simp[ou,yd,evF,isT,gk,R]
 have bz:ju [pI n,pI 0,pI 5]=some ((.bl true,false),[ii n,ii 0,ii 5]):=by rw[zm];simp;lia
 refine iD (δ:=δ) ⟨rfl,by decide,rfl⟩ ((fq ((lK (δ1:=[R,none,none]) (nP (b:=true) (jX (o:=false) (gL (δ1:=[R,none,none]) (os:=[.slot 0]) (args:=[(rD' n ks,false)]) rfl rfl kz cB)))).trans rfl)).trans ((fq (δ1:=δ) rfl).trans (gw (jg ((Ej (o:=false) (δ1:=δ) ?_).trans ?_)))))
 ·exact gL (δ1:=δ) (os:=[.slot 1,.val (.int 0,false),.val (.int 5,false)]) (args:=[pI n,pI 0,pI 5]) rfl rfl kz bz
 ·exact gL (δ1:=δ) (os:=[.slot 1,.slot 2]) (args:=[pI n,(.tup (ks.map cD),false)]) rfl rfl kz are
theorem Kh{d:D}(h:d.dep<=50):gNe d d=some (.bl false,false):=by unfold gNe;rw[fJ ⟨h,h⟩,D.eqb_refl];rfl
theorem PL(l:List D)(v:Nat):PX.we l (some (v:Int)) none=l.drop v:=by
 unfold PX.we;rw[HT.NZ,HT.Nd];by_cases h:v<=l.length
 ·rw[wB h,List.take_of_length_le (by simp)]
 ·rw[Nat.min_eq_right (by lia),rL (gJ _),rL (by lia),List.take_nil]
def TT(n:Nat)(t:fN):Prop:=(t.map ab).Perm (st n)
def SG(n:Nat)(s:Int):Prop:=1<=ab s/\ab s<=n
theorem TT.len{n:Nat}{t:fN}(h:TT n t):t.length=n:=by simpa using(Jp.mp h).1
theorem TT.sg{n:Nat}{t:fN}(h:TT n t){x:Int}(hx:x∈t):SG n x:=(Jp.mp h).2.1 _ (zS hx)
theorem NP(n:Nat):(st n).length=n:=by simp[st]
theorem DZ: ∀(k:Nat) (r f t:fN),r.length=k->(∀x∈r,0<=x)->t∈kJ k r f->(t.map ab).Perm (f.map ab++r):=by
 intro iV
 induction iV with
 |zero=>
  intro r f t hr _ h;simp[kJ] at h;subst h;rw[La.mp hr];simp
 |succ k iH=>
  intro r f t hr h0 h;simp only[kJ,uI,nF,qE] at h;obtain⟨v,hv,h⟩:=h;have hl:(r.eraseIdx v).length=k:=by rw[rC,fJ hv];lia
  have hz: ∀x∈r.eraseIdx v,0<=x:=fun x hx=>h0 x (zO hx);have hx:=h0 _ (qx hv)
  have fin: ∀y:Int,ab y=r.getD v 0->(List.map ab (f++[y])++r.eraseIdx v).Perm (f.map ab++r):=fun y hy=>by
   rw[qK,mE];refine Hr _ ?_;simp only[gP,mG,uH,sQ,hy];have e:r.getD v 0=r[v]:=by simp[uQ,hv]
   rw[e];rw[List.eraseIdx_eq_take_drop_succ];have e2:r=r.take v++r[v]::r.drop (v+1):=by rw[<-rM hv,rH]
   conv=>rhs;rw[e2]
   exact K0.symm
  rcases h with h|h
  ·exact(iH _ _ t hl hz h).trans (fin _ (by rw[wN];exact Bs hx))
  ·exact(iH _ _ t hl hz h).trans (fin _ (by rw[Int.mul_neg,wN];exact Ew hx))
theorem Lh{n:Nat}{t:fN}(h:t∈kJ n (st n) []):TT n t:=by
 have:=DZ n (st n) [] t (NP n) (fun x hx=>by have:=Lj.mp hx;lia) h;unfold TT;simpa using this
def R6(n:Nat)(a:fN):Prop:=a.length=n/\ ∀x∈a,x=0\/x=1
theorem P9: ∀{n:Nat} {a:fN},a∈kj n↔R6 n a:=fun {n a}=>by
 constructor
 ·exact fun h=>CH h
 ·intro h
  induction n generalizing a with
  |zero=>rw[La.mp h.1];simp[kj]
  |succ n ih=>
   have j7:a≠[]:=fun e=>by have:=h.1;rw[e] at this;simp at this
   have e:=Ha j7;have hl:=h.2 _ (List.getLast_mem j7);have:=ih (a:=a.dropLast) ⟨by rw[List.length_dropLast,h.1];rfl,fun x hx=>h.2 x (List.dropLast_subset _ hx)⟩;simp only[kj,uI];refine⟨a.dropLast,this,?_⟩;rcases hl with z|z
   ·rw[z] at e;rw[e];simp
   ·rw[z] at e;rw[e];simp
def RJ(fo:FO)(δ:Dn)(d:D):Prop:= ∃o,fo δ=some (o,δ)/\res δ o=some d
def FJ(fo:FO)(δ:Dn)(d:D):Prop:= ∃o,fo δ=some (o,δ)/\res δ o=some d/\uE δ o=some (d,false)
theorem FJ.r{fo:FO}{δ:Dn}{d:D}(h:FJ fo δ d):RJ fo δ d:=let⟨o,a,b,_⟩:=h;⟨o,a,b⟩
theorem jV{i:Nat}{δ:Dn}{d:D}(h:δ[i]?=some (some (d,false))):FJ (eV i) δ d:=⟨.slot i,by unfold eV;rw[h],by unfold res;simp[h],by simp[h]⟩
theorem jR{i:Nat}{δ:Dn}{d:D}{b:Bool}(h:δ[i]?=some (some (d,b))):RJ (eV i) δ d:=⟨.slot i,by unfold eV;rw[h],by unfold res;simp[h]⟩
theorem jE{f:F}{δ:Dn}{d:D}{b:Bool}(h:f δ=some ((d,b),δ)):FJ (eW f) δ d:=⟨.val (d,b),fM h,rfl,rfl⟩
theorem jU1{ev:EvF}{fa:FO}{δ:Dn}{a:D}{r:D×Bool}{outs:Dn}(h:ev [(a,false)]=some (r,outs))(ha:FJ fa δ a):fj ev [fa] δ=some (r,δ):=by
 obtain⟨o,h1,_,h3⟩:=ha;refine(gL (lE h1) (args:=[a].map fun d=>(d,false)) (by simp[h3]) (by rw[uf];exact kz) h).trans ?_;rw[EE]
theorem jU2{ev:EvF}{fa fb:FO}{δ:Dn}{a b:D}{r:D×Bool}{outs:Dn}(h:ev [(a,false),(b,false)]=some (r,outs))(ha:FJ fa δ a)(hb:FJ fb δ b):fj ev [fa,fb] δ=some (r,δ):=by
 obtain⟨o,h1,_,h3⟩:=ha;obtain⟨o',k1,_,k3⟩:=hb;refine(gL (mr h1 k1) (args:=[a,b].map fun d=>(d,false)) (by simp[h3,k3]) (by rw[uf];exact kz) h).trans ?_;rw[EE]
theorem jO{g:D->D->Option (D×Bool)}{fa fb:FO}{δ:Dn}{a b:D}{r:D×Bool}(h:g a b=some r)(ha:RJ fa δ a)(hb:RJ fb δ b):fD g fa fb δ=some (r,δ):=by
 obtain⟨o,h1,h2⟩:=ha;obtain⟨o',k1,k2⟩:=hb;exact gG h1 k1 h2 k2 h
theorem jC{g:D->Option (D×Bool)}{fa:FO}{δ:Dn}{a:D}{r:D×Bool}(h:g a=some r)(ha:RJ fa δ a):fE (g1 g) [fa] δ=some (r,δ):=by
 obtain⟨o,h1,h2⟩:=ha;exact hU (ds:=[a]) (lE h1) (by simp[h2]) h
theorem Iz{f:F}{np:Nat}{args:List (D×Bool)}{r:D×Bool}{δ:Dn}(h1:args.length=np/\np<=np/\(args.zipIdx.all fun p=>!(p.1.2&&([]:List Nat).contains p.2))=true)(h2:f (args.map some++List.replicate (np-np) none)=some (r,δ)):evF np np [] (fg (gK f) fF) args=some (r,gk args δ):=
 iD h1 (gw (jg h2))
theorem BD{n:Nat}(hn:n<=5){t:fN}(ht:TT n t):iM [pI n,enc t]=some ((.bl true,false),[ii n,eN t]):=by
 have h:tB n (cD t)=true:=by
  rw[Qz];simp only[lB,kB,my,pv,ja];refine⟨fun d hd=>?_,ht⟩;obtain⟨x,_,rfl⟩:=kx.mp hd;rfl
 rw[wW n (cD t) (fun l e=>by cases e;rw[gW,ht.len];lia),h]
theorem Pp(a b:fN):gEq (cD a) (cD b)=some (.bl (decide (a=b)),false):=by
 unfold gEq;rw[fJ (by rw[sH,sH];decide),Ks]
theorem Ll{cs:iq}(h:kU (cs.map cD)=true)(hl:cs.length<=10000): ∃ds:List (List Int),ds.Perm cs/\SrtC ds/\iE (cs.map cD)=some (.lst (ds.map cD),true):=by
 obtain⟨ds,e,hp⟩:=yt (jG ltT (cs.map cD));refine⟨ds,hp,?_,?_⟩
 ·have:=lS (cs.map cD);rw[e,yD] at this;exact this
 ·unfold iE;rw[fJ ⟨h,by rw[gW];exact AH hl⟩,e]
theorem TY{a b:D}{fa fb:FO}{δ:Dn}(h:a=b)(hd:a.dep<=50)(ha:RJ fa δ a)(hb:RJ fb δ b):fT (fD gNe fa fb) δ=some (false,δ):=by
 subst h;exact jX (o:=false) (jO (Kh hd) ha hb)
theorem no{t:FT}{f:FS}{δ:Dn}(g:FS)(h:t δ=some (false,δ)):fg (sIf t f fF) g δ=g δ:=(fq ((lK h).trans rfl))
theorem Lr{tg:Tg}{f:F}{δ δ1 δ2:Dn}{r:D×Bool}(h:f δ=some (r,δ1))(h2:tg r.1 δ1=some δ2):DL tg f δ=some (.nx δ2):=by rw[N6,h];simp only[gy];rw[h2];rfl
end PV
namespace L2
open PySem PySem.Spec PyProof.Rows PySem.W
section
variable {P:fS}{w:fL}{outer:List Env}{H H':Hp}{s s':eZ}{C ea:eX}{h0 B h':fP}{F:ig}
end
section
variable {X:Cx}{pins:gc}{σ:St}{H:Hp}{s s':eZ}{C ea:eX}
variable {P:fS}{w:fL}{outer:List Env}{H0:Hp}{s0:eZ}{E:XK}
end
section
variable {X:Cx}{P:fS}{w:fL}{outer:List Env}{H0:Hp}{s0:eZ}{E:XK}{x:Str}{C:eX}{a:fw}{ta:TE}{np d8 pos:Pos}
end
end L2
namespace PX
open PySem PySem.Spec PyProof.Rows L2
end PX
namespace L2
open PySem PySem.Spec PyProof.Rows PySem.W
section
variable {X:Cx}{pins:gc}{σ:St}{H:Hp}{s:eZ}{P c:eX}{params:Arguments}{body:fw}{scope:hJ}{bQ:jy}{pos:Pos}
end
section
variable {CX:CXT}{P:fS}{w:fL}{K:Frag}{mg:jY}{base:fP}{N:fV}{q:Str}{scope:hJ}{fl:eX}{cd:fI}{bQ:jy}{A:fQ}{outer:List Env}{s:eZ}{H:Hp}{E:XK}{σ:St}
end
open PySem.Calls Builtin Builtin.ObjectAttr Builtin.Getset_descriptor
section
variable {K:Frag}{C x:eX}{o:Obj}
end
section
variable {X:Cx}{pins:gc}{σ σ':St}{H:Hp}{s:eZ}{a:eX}{o:Obj}{h':fP}
end
section
variable {X:Cx}{pins:gc}{σ:St}{H H':Hp}{s s':eZ}{C ea:eX}{h0 B h':fP}{F:ig}{a0:fI}
end
end L2
namespace PX
open PySem PySem.Spec PyProof.Rows L2 PySem.SeqAt PySem.W
abbrev XS:=Dn->Option Str
section
variable {X:Cx}{P:fS}{w:fL}{outer:List Env}{H0:Hp}{s0:eZ}{E:XK}{A:gR}{st:Stmt}{sts a b:List Stmt}{x y:XS}{e:fw}{pos:Pos}
variable {k:Nat}{f:eX}{fd:kO}{ps:fV}{xc:List D->Option Str}{es:hW}{fs:List FO}{z:Str}{p:Pos}
end
end PX
namespace L2
open PySem PySem.Spec PyProof.Rows PySem.W
section
variable {fs:ig}{N:fV}{scope:hJ}{bQ:jy}{σ:St}{H H':Hp}{h h':fP}{q:Str}{params:Arguments}{body:fw}{fl:eX}
end
section
variable {X:Cx}{N:fV}{scope:hJ}{bQ:jy}{σl:St}{q:Str}{params:Arguments}{body:fw}{fl:eX}{k:Nat}{t:XK->TE}
end
end L2
namespace PX
open PySem PySem.Spec PyProof.Rows L2 PySem.SeqAt PySem.W
section
variable {X:Cx}
end
section
variable {X:Cx}{Pt c:eX}{params:Arguments}{body:fw}{scope:hJ}{pos lpos pf:Pos}{caps:hV}{N' NR:fV}{fB:F}{xB:XS}{fsR:FS}{CI:Str->Option Nat}{asg:hV}{st:Stmt}{fr:eX}{fdr:kO}{xf xc xr xx xn:Str}{CR:eX}{i j k:Nat}
end
section
variable {X:Cx}
variable {pos b8 apos d8 p2:Pos}{i:Nat}{x:Str}{kk:Nat}
end
section
variable {X:Cx}{e:fw}{fa:FO}{pos p p2:Pos}{z:Str}{CL:hV}{D0:Nat}
variable {x:Str}{i kk:Nat}{b8 apos:Pos}{a:fw}{f:F}
end
section
variable {X:Cx}{P:fS}{w:fL}{outer:List Env}{H0:Hp}{s0:eZ}{E:XK}{A:gR}{st:Stmt}{sts b:List Stmt}{x y:XS}{e:fw}{pos p d8:Pos}{f:FS}{z:Str}{a:fw}{fa:F}{k:Nat}{ps:fV}{xc:List D->Option Str}{es:hW}{fs:List FO}{ft:FT}{c:fw}
end
section
variable {X:Cx}{k:Nat}{f:eX}{fd:kO}{ps:fV}{x:Str}{p pos:Pos}{e a:fw}{es:hW}{ev:EvF}{fs:List FO}{fa:FO}{TB:List (Addr×Str)}
end
section
variable {Z:ZZ}{ct rs:List (Str×Nat)}{CR:Nat}
end
end PX
namespace PV
open PySem PySem.Spec PyProof.Rows L2 PX
def vT(ev:EvF)(d:D):Prop:= ∀b c,ev [(d,b),(d,c)]=some ((.bl true,false),[some (d,b),some (d,c)])
theorem FF{ev:EvF}: ∀(l acc:List D) (x y:Sl),(∀d∈l,vT ev d)->acc.length+l.length<=10000-> ∃x' y',jA (mI [(fk 0),(fk 1)]) gq (gn (fj ev [(eV 0),(eV 1)])) ((l.zip l).map fun p=> .tup [p.1,p.2]) acc [x,y]=some (acc++l.map fun _=> .bl true,[x',y'])
 |[],acc,x,y,_,_=>⟨x,y,by simp[jA]⟩
 |d::l,acc,x,y,h,hl=>by
  obtain⟨x',y',e⟩:=FF l (acc++[.bl true]) (some (d,false)) (some (d,false)) (fun d' h'=>h d' (gX _ h')) (by simp at hl ⊢;lia);refine⟨x',y',?_⟩;have hs:acc.length<sizeLine:=by rw[gA];simp at hl;lia
  simp only[pd,gP,jA];rw[show mI [(fk 0),(fk 1)] (.tup [d,d]) [x,y]=some [some (d,false),some (d,false)] from rfl];simp only[gy,tR,iu,tU];rw[gL (os:=[.slot 0,.slot 1]) (args:=[(d,false),(d,false)]) rfl rfl kz (h d gY false false)];simp only[gy];rw[fJ hs];simp only[gy];rw[show wb [.slot 0,.slot 1] [(d,false),(d,false)] [some (d,false),some (d,false)] [some (d,false),some (d,false)]=[some (d,false),some (d,false)] from rfl,e];simp
noncomputable def sgs(n:Nat):List Int:=((List.range (2*n+1)).map fun(k:Nat)=> -(n:Int)+k).filter fun s=>!(s==0)
theorem NW{n:Nat}{s:Int}:s∈sgs n↔SG n s:=by
 unfold sgs SG;simp only[List.mem_filter,kx,qE];constructor
 ·rintro⟨⟨k,hk,rfl⟩,h0⟩;unfold ab;simp at h0;split<;>lia
 ·rintro⟨h1,h2⟩;unfold ab at h1 h2;refine⟨⟨(s+n).toNat,by split at h2<;>lia,by split at h2<;>lia⟩,by simp;split at h1<;>lia⟩
theorem Pl{f g:FO}{δ δ1 δ2:Dn}{o1 o2:Opd}{i j:Int}(h1:f δ=some (o1,δ1))(h2:g δ1=some (o2,δ2))(h3:res δ2 o1=some (.int i))(h4:res δ2 o2=some (.int j))(hi: -1000<=i/\i<=1000)(hj: -1000<=j/\j<=1000):vq f g δ=some (gf i (j-i).toNat,δ2):=by
 unfold vq;rw[mr h1 h2];simp only[gy,qG,h3,h4];rw[fJ (by lia)]
theorem uF{n:Nat}(hn:n<=5):jS [pI n]=some ((.lst ((sgs n).map .int),true),[ii n]):=by
 have e:=Kz (caps:=[]) (fi:=vq (eW (gB su (eV 0))) (eW (fD jc (eV 0) (eW (fC (.int 1)))))) (f:=gz 0) (ti:=fT (fD gNe (eV 0) (eW (fC (.int 0))))) (δ:=[ii n]) (δ1:=[ii n]) (l:=gf (-(n:Int)) (2*n+1)) (args:=[]) (fun d=>d) (fun d=>!(iOf d==0)) ?_ rfl rfl (fun d hd=>?_) (by simp[gf];lia)
 ·have e2:((gf (-(n:Int)) (2*n+1)).filter fun d=>!(iOf d==0)).map (fun d=>d)=(sgs n).map .int:=by
   rw[List.map_id'];unfold gf sgs;rw[show(fun(k:Nat)=>D.int (-(n:Int)+k))=D.int∘(fun(k:Nat)=> -(n:Int)+k) from rfl,<-ja,List.filter_map];rfl
  rw[e2] at e;exact Iz ⟨rfl,by decide,rfl⟩ e
 ·rw[Pl (o1:= .val (.int (-n),false)) (o2:= .val (.int (n+1),false)) (δ1:=[ii n]) (δ2:=[ii n]) rfl rfl rfl rfl (by lia) (by lia),show((n:Int)+1- -n).toNat=2*n+1 by lia]
 ·obtain⟨k,_,rfl⟩:=kx.mp hd;exact⟨by simp[iOf],fun _=>⟨false,rfl⟩⟩
theorem PD{t:FT}{f g:F}{δ δ1:Dn}{b:Bool}(h:t δ=some (b,δ1)):fIf t f g δ=if b=true then f δ1 else g δ1:=by unfold fIf;rw[h];rfl
section
variable {n:Nat}{ks js:iq}(hn:n<=5)(hk: ∀c∈ks,ClOk n c)(hl:ks.length<=30)
include hn hk hl
end
section
variable {n:Nat}{ks:iq}(h:vD n ks){d:D}(hd:OkD d)
include h hd
end
theorem DI{ev:EvF}{l:List D}{d:D}(hd:d= .lst l\/d= .tup l)(h: ∀d∈l,vT ev d)(hl:l.length<=5000):vT (evF 2 2 [] (gD ev)) d:=fun b c=>by
 obtain⟨x',y',e⟩:=FF (ev:=ev) l [] none none h (by simp;lia)
 have hc:gh [] 2 (qb (eV 0) (eV 1)) (mI [(fk 0),(fk 1)]) gq (gn (fj ev [(eV 0),(eV 1)])) [some (d,b),some (d,c)]=some ((.lst (l.map fun _=> .bl true),true),[some (d,b),some (d,c)]):=by
  unfold gh;rw[show qb (eV 0) (eV 1) [some (d,b),some (d,c)]=some ((l.zip l).map fun p=> .tup [p.1,p.2],[some (d,b),some (d,c)]) from by rcases hd with rfl|rfl<;>rfl];simp only[gy,mG,vm,fW,kz,iu,sQ,List.replicate_succ,List.replicate_zero];rw[e];rfl
 have ha:fE (g1 vZ) [(eW (gh [] 2 (qb (eV 0) (eV 1)) (mI [(fk 0),(fk 1)]) gq (gn (fj ev [(eV 0),(eV 1)]))))] [some (d,b),some (d,c)]=some ((.bl true,false),[some (d,b),some (d,c)]):=
  hU (lE (fM hc)) rfl (by rw[show g1 vZ [.lst (l.map fun _=> .bl true)]=vZ (.lst (l.map fun _=> .bl true)) from rfl,sM (fun _=>true)];simp)
 have hL:fD gEq (eW (fE (g1 ly) [(eV 0)])) (eW (fE (g1 ly) [(eV 1)])) [some (d,b),some (d,c)]=some ((.bl true,false),[some (d,b),some (d,c)]):=by
  rcases hd with rfl|rfl<;>simp
 have ho:gk [(d,b),(d,c)] [some (d,b),some (d,c)]=[some (d,b),some (d,c)]:=by cases b<;>cases c<;>rfl
 have:=iD (args:=[(d,b),(d,c)]) (np:=2) (n:=2) (asg:=[]) (f:=gD ev) (δ:=[some (d,b),some (d,c)]) (r:=(.bl true,false)) ⟨rfl,by decide,by simp⟩ (by
  refine gw ((oI (δ1:=[some (d,b),some (d,c)]) (by rcases hd with rfl|rfl<;>rfl)).trans ?_);refine(fq ((lK (δ1:=[some (d,b),some (d,c)]) ?_).trans rfl)).trans (gw (jg ((Ej hL).trans ha)));rcases hd with rfl|rfl<;>simp[isT])
 rwa [ho] at this
theorem QM(ev:EvF)(i:Int):vT (evF 2 2 [] (gD ev)) (.int i):=fun b c=>by
 cases b<;>cases c<;>simp[gD,evF,gk,isT]
abbrev tN(i:Int):Str:=(toString i:String)
def n11:List Int:=[-5, -4, -3, -2, -1,0,1,2,3,4,5]
theorem iA{i:Int}(h: -5<=i/\i<=5):i∈n11:=by
 have:i= -5\/i= -4\/i= -3\/i= -2\/i= -1\/i=0\/i=1\/i=2\/i=3\/i=4\/i=5:=by lia
 rcases this with rfl|rfl|rfl|rfl|rfl|rfl|rfl|rfl|rfl|rfl|rfl<;>decide
def rdN(w:Str):Int:=(n11.find? fun i=>tN i==w).getD 0
theorem ky: ∀i∈n11,((tN i).length<=2/\i.natAbs.log2<1920/\47∉(tN i).cps.toList/\58∉(tN i).cps.toList/\32∉(tN i).cps.toList)/\rdN (tN i)=i/\tN i≠(("none":String):Str):=by decide+kernel
theorem Io:(("/":String):Str)=⟨#[47]⟩:=by decide+kernel
theorem EK:((" ":String):Str)=⟨#[32]⟩:=by decide+kernel
theorem RU:((":":String):Str)=⟨#[58]⟩:=by decide+kernel
abbrev S5(c:fN):Prop:= ∀s∈c, -5<=s/\s<=5
theorem NL{i j:Int}(hi: -5<=i/\i<=5)(hj: -5<=j/\j<=5)(h:tN i=tN j):i=j:=by
 rw[<-(ky i (iA hi)).2.1,<-(ky j (iA hj)).2.1,h]
def jn(sep:Str)(c:fN):Str:=Str.join sep (c.map tN)
theorem BF: ∀ts:List Str,FX (ts.map D.str)=some ts
 |[]=>rfl
 |t::ts=>by rw[gP,FX,BF ts];rfl
theorem xX{sep:Str}{ts:fV}(h:(ts.map (·.length)).sum+ts.length*sep.length<=16777216):mh sep (.lst (ts.map D.str))=some (.str (Str.join sep ts),false):=by
 show(FX _).bind _=_;rw[BF];simp only[gy];rw[fJ h];show some (D.str (Builtin.Str.glued sep ts),false)=_;rw[StrLaws.glued_eq_join]
theorem DF{ts:fV}{B:Nat}(h: ∀t∈ts,t.length<=B):(ts.map (·.length)).sum<=ts.length*B:=by
 induction ts with
 |nil=>simp
 |cons t ts ih=>
  rw[gP,List.sum_cons,jb,Ad];have:=ih fun x hx=>h x (gX _ hx);have:=h t gY
  lia
theorem bnd{ts:fV}{sep:Str}{B:Nat}(h: ∀t∈ts,t.length<=B)(hl:ts.length<=100)(hB:B<=1000)(hs:sep.length<=10):(ts.map (·.length)).sum+ts.length*sep.length<=16777216:=by
 have h1:=DF h;have h2:ts.length*B<=100*1000:=Nat.mul_le_mul hl hB;have h3:ts.length*sep.length<=100*10:=Nat.mul_le_mul hl hs
 lia
abbrev MN:F:=gh [] 1 (gg (gz 0)) (fk 0) gq (gn (fE (g1 oR) [(eV 0)]))
def gS:D->D
 | .int i=> .str (tN i)
 |d=>d
theorem MM{c:fN}(h:S5 c)(hl:c.length<=100):MN [eN c]=some ((.lst ((c.map tN).map D.str),true),[eN c]):=by
 have q:=oz (caps:=[]) (fi:=gg (gz 0)) (f:=fE (g1 oR) [(eV 0)]) (δ:=[eN c]) (δ1:=[eN c]) (l:=c.map .int) (args:=[]) gS rfl rfl rfl (fun d hd=>by
  obtain⟨s,hs,rfl⟩:=kx.mp hd;refine⟨false,jC ?_ (jV rfl).r⟩;show(if s.natAbs.log2<1920 then _ else _)=_;rw[fJ (ky s (iA (h s hs))).1.2.1];rfl) (by simp;lia)
 rw[ja] at q ⊢;exact q
theorem A9{c:fN}(sep:Str)(hs:sep.length<=10)(h:S5 c)(hl:c.length<=100):gB (mh sep) (eW MN) [eN c]=some ((.str (jn sep c),false),[eN c]):=by
 have hb: ∀t∈c.map tN,t.length<=2:=fun t ht=>by
  obtain⟨s,hs,rfl⟩:=kx.mp ht;exact(ky s (iA (h s hs))).1.1
 unfold gB;rw[fM (MM h hl)];simp only[gy,res];rw[xX (bnd hb (by simpa using hl) (by decide) hs)];rfl
abbrev ct(c:fN):Str:=jn "/" c
theorem Cy{c:fN}(h:S5 c)(hl:c.length<=100):jK [enc c]=some ((.str (ct c),false),[eN c]):=
 Iz ⟨rfl,by decide,rfl⟩ (A9 _ (by decide) h hl)
theorem cl5{n:Nat}(hn:n<=5){c:fN}(h:ClOk n c):c.length<=5:=by have:=h.len;lia
theorem zD{n:Nat}(hn:n<=5){c:fN}(h:ClOk n c):S5 c:=fun s hs=>by
 have:=h.2.2 s hs;unfold ab at this;split at this<;>lia
theorem M9{n:Nat}(hn:n<=5){t:fN}(h:TT n t):S5 t:=fun s hs=>by
 have:=h.sg hs;unfold SG ab at this;split at this<;>lia
theorem Ea{sep:Str}{c:fN}(hs:sep.length=1)(h:S5 c)(hl:c.length<=5):(jn sep c).length<=15:=by
 have h1:=G9 sep (c.map tN)
 have h2:=DF (ts:=c.map tN) (B:=2) fun t ht=>by
  obtain⟨s,hs,rfl⟩:=kx.mp ht;exact(ky s (iA (h s hs))).1.1
 rw[gW] at h1 h2;rw[hs] at h1;unfold jn;lia
theorem Cb{c:Nat}{sep:Str}: ∀{ws:fV},c∈(Str.join sep ws).cps.toList->c∈sep.cps.toList\/ ∃w∈ws,c∈w.cps.toList
 |[],h=>by cases h
 |[w],h=> .inr ⟨w,by simp,h⟩
 |w::x::r,h=>by
  rw[sj] at h;simp only[Str.cps_append,Array.toList_append,nF] at h;rcases h with(h|h)|h
  ·exact .inr ⟨w,by simp,h⟩
  ·exact .inl h
  ·rcases Cb h with h|⟨u,hu,h⟩
   ·exact .inl h
   ·exact .inr ⟨u,gX _ hu,h⟩
theorem RS{c:fN}(h:S5 c):32∉(ct c).cps.toList:=fun z=>by
 rcases Cb z with z|⟨w,hw,z⟩
 ·rw[Io] at z;revert z;decide
 ·obtain⟨s,hs,rfl⟩:=kx.mp hw;exact(ky s (iA (h s hs))).1.2.2.2.2 z
def rt(n:Nat)(ks:iq):Str:=Str.join " " ((tN n++(":":String))::ks.map ct)
theorem Iu{n:Nat}{ks:iq}(h:vD n ks): ∀t∈(tN n++((":":String):Str))::ks.map ct,t.length<=15:=fun t ht=>by
 rcases iY.mp ht with rfl|ht
 ·have:=(ky n (iA (by have:=h.1;lia))).1.1;rw[Str.length_append];have e:(((":":String):Str)).length=1:=rfl
  lia
 ·obtain⟨c,hc,rfl⟩:=kx.mp ht;exact Ea rfl (zD h.1 (h.2.1.2 c hc)) (cl5 h.1 (h.2.1.2 c hc))
theorem Iw{n:Nat}{ks:iq}(h:vD n ks):(rt n ks).length<=1000:=by
 have h1:=G9 " " ((tN n++((":":String):Str))::ks.map ct);have h2:=DF (Iu h);have:=h.2.2.2;rw[jb,gW] at h1 h2;have e:(((" ":String):Str)).length=1:=rfl;rw[e] at h1;unfold rt;lia
def gC:D->D:=fun d=> .str (ct (unC d))
theorem Fu(ks:iq):(ks.map cD).map gC=(ks.map ct).map D.str:=by
 rw[ja,ja];refine mC fun c _=>?_;simp[gC,pH]
theorem BP{n:Nat}{ks:iq}(h:vD n ks):iP [(rD' n ks,false)]=some ((.str (rt n ks),false),[rS n ks]):=by
 let δ:Dn:=[rS n ks,ii n,some (.tup (ks.map cD),false)]
 have hn:=h.1;have hl:=h.2.2.2;refine iD (δ:=δ) ⟨rfl,by decide,rfl⟩ ((fq (δ1:=δ) rfl).trans (gw (jg ?_)))
 have q:=oz (caps:=[]) (fi:=gg (gz 2)) (f:=fj jK [(eV 0)]) (δ:=δ) (δ1:=δ) (l:=ks.map cD) (args:=[]) gC rfl rfl rfl (fun d hd=>by
  obtain⟨c,hc,rfl⟩:=kx.mp hd;have hc:=h.2.1.2 c hc;refine⟨false,(jU1 (Cy (zD hn hc) (by have:=cl5 hn hc;lia)) (jV rfl)).trans ?_⟩;rw[gC,pH]) (by simp;lia)
 rw[Fu] at q
 have hf:Kp ":" (eV 1) δ=some ((.str (tN n++((":":String):Str)),false),δ):=by
  show(if(n:Int).natAbs.log2<1920 then some ((D.str ((Str.empty++tN n)++((":":String):Str)),false),δ) else none)=_;rw[fJ (ky n (iA (by lia))).1.2.1,Str.empty_append]
 have ha:fD jc (eW (jx [(Kp ":" (eV 1))])) (eW (gh [] 1 (gg (gz 2)) (fk 0) gq (gn (fj jK [(eV 0)])))) δ=some ((.lst (((tN n++((":":String):Str))::ks.map ct).map D.str),true),δ):=
  jO (a:= .lst [.str (tN n++((":":String):Str))]) (R0 (by simp) (by simp;lia)) (jE (b:=true) (Fp (fs:=[Kp ":" (eV 1)]) (os:=[.val (.str (tN n++((":":String):Str)),false)]) (lE (fM hf)) rfl (AH (by show 1<=10000;decide)))).r (jE q).r
 show gB (mh " ") _ δ=_;unfold gB;rw[fM ha];simp only[gy,res];rw[xX (bnd (Iu h) (by simp;lia) (by decide) (by decide))];rfl
theorem zp{n:Nat}{ks:iq}(h:vD n ks):gQ [(rD' n ks,false)]=some ((.str (rt n ks),false),[rS n ks]):=by
 let δ:Dn:=[rS n ks]
 have hn:=h.1;have hl:=h.2.2.2;refine Iz (δ:=δ) ⟨rfl,by decide,rfl⟩ ?_
 have q:=oz (caps:=[]) (fi:=gg (fD gIx (eV 0) (eW (fC (.int 1))))) (f:=fj iR [(eV 0)]) (δ:=δ) (δ1:=δ) (l:=ks.map cD) (args:=[]) gC rfl rfl rfl (fun d hd=>by
  obtain⟨c,hc,rfl⟩:=kx.mp hd;have hc:=h.2.1.2 c hc;refine⟨false,(jU1 (show iR [enc c]=_ from Cy (zD hn hc) (by have:=cl5 hn hc;lia)) (jV rfl)).trans ?_⟩;rw[gC,pH]) (by simp;lia)
 rw[Fu] at q
 have hf:fD jc (eW (fE (g1 oR) [(eW (fD gIx (eV 0) (eW (fC (.int 0)))))])) (eW (fC (.str ":"))) δ=some ((.str (tN n++((":":String):Str)),false),δ):=by
  refine jO (a:= .str (tN n)) (b:= .str ":") ?_ (jE (b:=false) (jC (a:= .int n) ?_ (jE (b:=false) (jO rfl (jV rfl).r (jE rfl).r)).r)).r (jE rfl).r
  ·have:=(ky n (iA (by lia))).1.1;simp only[jc];rw[fJ (by rw[gA];have e:(((":":String):Str)).length=1:=rfl;lia)]
  ·show(if(n:Int).natAbs.log2<1920 then _ else _)=_;rw[fJ (ky n (iA (by lia))).1.2.1]
 have ha:fD jc (eW (jx [(fD jc (eW (fE (g1 oR) [(eW (fD gIx (eV 0) (eW (fC (.int 0)))))])) (eW (fC (.str ":"))))])) (eW (gh [] 1 (gg (fD gIx (eV 0) (eW (fC (.int 1))))) (fk 0) gq (gn (fj iR [(eV 0)])))) δ=some ((.lst (((tN n++((":":String):Str))::ks.map ct).map D.str),true),δ):=
  jO (a:= .lst [.str (tN n++((":":String):Str))]) (R0 (by simp) (by simp;lia)) (jE (b:=true) (Fp (fs:=[fD jc (eW (fE (g1 oR) [(eW (fD gIx (eV 0) (eW (fC (.int 0)))))])) (eW (fC (.str ":")))]) (os:=[.val (.str (tN n++((":":String):Str)),false)]) (lE (fM hf)) rfl (AH (by show 1<=10000;decide)))).r (jE q).r
 show gB (mh " ") _ δ=_;unfold gB;rw[fM ha];simp only[gy,res];rw[xX (bnd (Iu h) (by simp;lia) (by decide) (by decide))];rfl
abbrev sS'(x:Str):Sl:=some (.str x,false)
abbrev Eh:FS:=(fg (sIf (fT (fD gEq (eW (fE (g1 oR) [(eV 2)])) (eV 0))) (fg (jM 2) fF) fF) fF)
theorem Bg(a b:Str):gEq (.str a) (.str b)=some (.bl (a==b),false):=by unfold gEq;rw[fJ (by simp[D.dep])];simp[D.eqb]
theorem MF{i:Int}(h: -5<=i/\i<=5):oR (.int i)=some (.str (tN i),false):=by
 show(if i.natAbs.log2<1920 then _ else _)=_;rw[fJ (ky i (iA h)).1.2.1]
theorem Gw{i:Int}(hi: -5<=i/\i<=5)(c1:Sl): ∀(L:fN) (x:Sl),S5 L->i∈L->mB (fk 2) Eh (L.map .int) [sS' (tN i),c1,x]=some (.rt (.int i,false) [sS' (tN i),c1,ii i]):=by
 intro L
 induction L with
 |nil=>intro x _ h;cases h
 |cons j L ih=>
  intro x h hm;have hj:=h j gY;have t1:fT (fD gEq (eW (fE (g1 oR) [(eV 2)])) (eV 0)) [sS' (tN i),c1,ii j]=some (tN j==tN i,[sS' (tN i),c1,ii j]):=jX (o:=false) (jO (Bg _ _) (jE (b:=false) (jC (MF hj) (jV rfl).r)).r (jV rfl).r)
  have go:mB (fk 2) Eh ((j::L).map .int) [sS' (tN i),c1,x]=(Eh [sS' (tN i),c1,ii j]).bind fun o=>match o with
   | .nx δ2=>mB (fk 2) Eh (L.map .int) δ2
   | .ct δ2=>mB (fk 2) Eh (L.map .int) δ2
   | .bk δ2=>some (.nx δ2)
   | .rt r δ2=>some (.rt r δ2):=rfl
  rw[go];by_cases e:j=i
  ·subst e;rw[beq_self_eq_true] at t1;have s1:Eh [sS' (tN j),c1,ii j]=some (.rt (.int j,false) [sS' (tN j),c1,ii j]):=gw ((oI t1).trans rfl);rw[s1];rfl
  ·have j7:(tN j==tN i)=false:=by
    rw[yC];exact fun z=>e (NL hj hi z)
   rw[j7] at t1;have s1:Eh [sS' (tN i),c1,ii j]=some (.nx [sS' (tN i),c1,ii j]):=(fq ((lK t1).trans rfl)).trans rfl;rw[s1];exact ih _ (fun s hs=>h s (gX _ hs)) ((iY.mp hm).resolve_left fun z=>e z.symm)
theorem xJ{i:Int}(hi: -5<=i/\i<=5){L:fN}(hL:S5 L)(hm:i∈L):iQ [(.str (tN i),false),(.lst (L.map .int),false)]=some ((.int i,false),[sS' (tN i),some (.lst (L.map .int),false)]):=
 iD (δ:=[sS' (tN i),some (.lst (L.map .int),false),ii i]) ⟨rfl,by decide,rfl⟩ (gw ((lM (δ1:=[sS' (tN i),some (.lst (L.map .int),false),none]) rfl).trans (Gw hi _ L none hL hm)))
theorem Ip{n:Nat}(hn:n<=5):S5 (sgs n):=fun s hs=>by
 have:=NW.mp hs;unfold SG ab at this;split at this<;>lia
theorem wZ{sep:Str}{ch i:Nat}{ws:fV}{δ:Dn}(hs:sep=⟨#[ch]⟩)(h0:ws≠[])(h: ∀w∈ws,ch∉w.cps.toList)(hi:δ[i]?=some (sS' (Str.join sep ws)))(hl:(Str.join sep ws).length<=10000):gB (kK sep) (eV i) δ=some ((.lst (ws.map D.str),true),δ):=by
 subst hs
 have e:kK ⟨#[ch]⟩ (.str (Str.join ⟨#[ch]⟩ ws))=some (.lst (ws.map D.str),true):=by
  show(if _ then some (D.lst ((Txt.split (Str.join ⟨#[ch]⟩ ws) ⟨#[ch]⟩).map D.str),true) else none)=_;rw[fJ ⟨rfl,by rw[gA];lia⟩,nR h0 h]
 unfold gB;rw[show eV i δ=some (.slot i,δ) by unfold eV;rw[hi]];simp only[gy];rw[show res δ (.slot i)=some (.str (Str.join ⟨#[ch]⟩ ws)) by unfold res;simp[hi]];simp only[gy];rw[e];rfl
def gRd:D->D
 | .str w=> .int (rdN w)
 |d=>d
theorem IE{c:fN}(h:S5 c):((c.map tN).map D.str).map gRd=c.map D.int:=by
 rw[ja,ja];refine mC fun s hs=>?_;show D.int (rdN (tN s))=_;rw[(ky s (iA (h s hs))).2.1]
theorem Ky{n:Nat}(hn:n<=5){c:fN}(hc:ClOk n c):jL [pI n,(.str (ct c),false)]=some ((cD c,false),[ii n,sS' (ct c)]):=by
 have s5:=zD hn hc;have hl:=cl5 hn hc
 let δ:Sl->Dn:=fun x=>[ii n,sS' (ct c),x]
 have sp:gB (kK "/") (eV 1) (δ none)=some ((.lst ((c.map tN).map D.str),true),δ none):=wZ Io (by simpa using hc.1) (fun w hw=>by
  obtain⟨s,hs,rfl⟩:=kx.mp hw;exact(ky s (iA (s5 s hs))).1.2.2.1) rfl (by have:=Ea (sep:="/") rfl s5 hl;show(jn "/" c).length<=_;lia)
 have q:=oz (caps:=[0]) (fi:=gg (gB (kK "/") (eV 1))) (f:=fj iQ [(eV 1),(eW (fj jS [(eV 0)]))]) (δ:=δ none) (δ1:=δ none) (l:=(c.map tN).map D.str) (args:=[.int n]) gRd (nN sp) rfl rfl (fun d hd=>by
  obtain⟨w,hw,rfl⟩:=kx.mp hd;obtain⟨s,hs,rfl⟩:=kx.mp hw;refine⟨false,(jU2 (xJ (s5 s hs) (Ip hn) (NW.mpr (hc.2.2 s hs))) (jV rfl) (jE (b:=true) (jU1 (uF hn) (jV rfl)))).trans ?_⟩;show _=some ((D.int (rdN (tN s)),false),_);rw[(ky s (iA (s5 s hs))).2.1]) (by simp;lia)
 rw[IE s5] at q;refine iD (δ:=δ (eN c)) ⟨rfl,by decide,rfl⟩ ?_;refine(fq (gM (i:=2) (δ1:=δ none) (jC (a:= .lst (c.map .int)) rfl (jE q).r) (show 2<3 by decide))).trans ?_;refine(no (δ:=δ (eN c)) _ (nP (b:=true) (jX (o:=false) (jU2 (Kb hn hc) (jV rfl) (jV rfl))))).trans ?_;exact gw rfl
def gRC:D->D
 | .str w=>cD ((Txt.split w "/").map rdN)
 |d=>d
theorem rdC{n:Nat}(hn:n<=5){c:fN}(hc:ClOk n c):(Txt.split (ct c) "/").map rdN=c:=by
 have s5:=zD hn hc;unfold ct jn
 rw[Io,nR (by simpa using hc.1) fun w hw=>by
  obtain⟨s,hs,rfl⟩:=kx.mp hw;exact(ky s (iA (s5 s hs))).1.2.2.1,ja]
 conv=>rhs;rw[<-rB c]
 exact mC fun s hs=>(ky s (iA (s5 s hs))).2.1
theorem Oc{n:Nat}(hn:n<=5){ks:iq}(h: ∀c∈ks,ClOk n c):((ks.map ct).map D.str).map gRC=ks.map cD:=by
 rw[ja,ja];refine mC fun c hc=>?_;show cD ((Txt.split (ct c) "/").map rdN)=_;rw[rdC hn (h c hc)]
def rs9(ks:iq):Str:=Str.join " " (Str.empty::ks.map ct)
theorem Iv(n:Nat)(ks:iq):rt n ks=tN n++((":":String):Str)++rs9 ks:=by
 unfold rt rs9
 cases ks with
 |nil=>exact(Str.append_empty _).symm
 |cons c ks=>
  rw[gP,sj,sj,Str.empty_append];simp only[Str.append_assoc]
theorem Mh{n:Nat}{ks:iq}(h:vD n ks)(δ:Dn):gB (Fm ":") (eV 0) (sS' (rt n ks)::δ)=some ((.tup [.str (tN n),.str ":",.str (rs9 ks)],false),sS' (rt n ks)::δ):=by
 have hn:=h.1
 have e:Fm ":" (.str (rt n ks))=some (.tup [.str (tN n),.str ":",.str (rs9 ks)],false):=by
  show(if _ then some (D.tup ((pt3 (rt n ks) ":").map D.str),false) else none)=_;rw[fJ ⟨rfl,by rw[gA];have:=Iw h;lia⟩]
  have p:Txt.partition (rt n ks) ":"=(tN n,((":":String):Str),rs9 ks):=by
   rw[Iv,RU];exact Jy (ky n (iA (by lia))).1.2.2.2.1
  unfold pt3;rw[p];rfl
 unfold gB;rw[show eV 0 (sS' (rt n ks)::δ)=some (.slot 0,sS' (rt n ks)::δ) from rfl];simp only[gy];rw[show res (sS' (rt n ks)::δ) (.slot 0)=some (.str (rt n ks)) from rfl];simp only[gy];rw[e];rfl
theorem PM(x:Str):ll [(.str x,false)]=some ((.non,false),[sS' x]):=rfl
theorem Iy{n:Nat}{ks:iq}(h:vD n ks):kL [(.str (rt n ks),false)]=some ((rD' n ks,false),[sS' (rt n ks)]):=by
 have hn:=h.1;have hl:=h.2.2.2;have hk:=h.2.1.2
 let T:=sS' (rt n ks)
 let δ:Sl->Sl->Dn:=fun x y=>[T,sS' (tN n),sS' ":",sS' (rs9 ks),x,y]
 refine iD (δ:=δ (ii n) (rS n ks)) ⟨rfl,by decide,rfl⟩ ?_;refine(fq (δ1:=[T,none,none,none,none,none]) (nK (jU1 (PM _) (jV rfl)))).trans ?_;refine(fq (δ1:=δ none none) (Lr (Mh h _) rfl)).trans ?_;have rg:fE (gRg .lst true) [(eW (fD jc (eW (fC (.int 5))) (eW (fC (.int 1)))))] (δ none none)=some ((.lst (([0,1,2,3,4,5]:List Int).map .int),true),δ none none):=rfl
 refine(fq (δ1:=δ (ii n) none) (gM (i:=4) (δ1:=δ none none) (jU2 (xJ (i:=n) (by lia) (L:=[0,1,2,3,4,5]) (by intro s hs;simp at hs;lia) (by
  have:n=0\/n=1\/n=2\/n=3\/n=4\/n=5:=by lia
  rcases this with rfl|rfl|rfl|rfl|rfl|rfl<;>decide)) (jV rfl) (jE (b:=true) rg)) (show 4<6 by decide))).trans ?_
 have h32: ∀w∈Str.empty::ks.map ct,32∉w.cps.toList:=fun w hw=>by
  rcases iY.mp hw with rfl|hw
  ·decide
  ·obtain⟨c,hc,rfl⟩:=kx.mp hw;exact RS (zD hn (hk c hc))
 have rl:(rs9 ks).length<=10000:=by
  have:=Iw h;rw[Iv,Str.length_append] at this;lia
 have sp:gB (kK " ") (eV 3) (δ (ii n) none)=some ((.lst ((Str.empty::ks.map ct).map D.str),true),δ (ii n) none):=wZ EK (by simp) h32 rfl rl
 have sl:oK (eW (gB (kK " ") (eV 3))) (eW (fC (.int 1))) (δ (ii n) none)=some ((.lst ((ks.map ct).map D.str),true),δ (ii n) none):=by
  unfold oK;rw[fM sp];show some ((D.lst (PX.we ((Str.empty::ks.map ct).map D.str) (some ((1:Nat):Int)) none),true),_)=_;rw[PL];rfl
 have q:=oz (caps:=[4]) (fi:=gg (oK (eW (gB (kK " ") (eV 3))) (eW (fC (.int 1))))) (f:=fj jL [(eV 0),(eV 1)]) (δ:=δ (ii n) none) (δ1:=δ (ii n) none) (l:=(ks.map ct).map D.str) (args:=[.int n]) gRC (nN sl) rfl rfl (fun d hd=>by
  obtain⟨w,hw,rfl⟩:=kx.mp hd;obtain⟨c,hc,rfl⟩:=kx.mp hw;refine⟨false,(jU2 (Ky hn (hk c hc)) (jV rfl) (jV rfl)).trans ?_⟩;show _=some ((cD ((Txt.split (ct c) "/").map rdN),false),_);rw[rdC hn (hk c hc)]) (by simp;lia)
 rw[Oc hn hk] at q;refine(fq (δ1:=δ (ii n) (rS n ks)) (gM (i:=5) (δ1:=δ (ii n) none) ?_ (show 5<6 by decide))).trans ?_
 ·rw[IJ];simp only[gP,mG];rw[mr (show eW (gz 4) (δ (ii n) none)=some (.val (.int n,false),δ (ii n) none) from rfl) (fM (show fE (g1 jj) [eW (gh [4] 1 (gg (oK (eW (gB (kK " ") (eV 3))) (eW (fC (.int 1))))) (fk 1) gq (gn (fj jL [(eV 0),(eV 1)])))] (δ (ii n) none)=some ((.tup (ks.map cD),false),δ (ii n) none) from jC (g:=jj) (a:= .lst (ks.map cD)) rfl (jE q).r))];simp[gA,lC]
 refine(no (δ:=δ (ii n) (rS n ks)) _ ((Ko (nP (b:=true) (jX (o:=false) (jU1 (Pm h) (jV rfl))))).trans (TY (a:= .str (rt n ks)) rfl (by simp[D.dep]) (jE (jU1 (BP h) (jV rfl))).r (jV rfl).r))).trans ?_;exact gw rfl
def tx(sep:Str)(t:fN):Str:=if t=[] then(("none":String):Str) else jn sep t
theorem Qo{sep:Str}(hs:sep.length<=10){t:fN}(h:S5 t)(hl:t.length<=100):fIf (Ct (eV 0)) (gB (mh sep) (eW MN)) (fC (.str "none")) [eN t]=some ((.str (tx sep t),false),[eN t]):=by
 have e:Ct (eV 0) [eN t]=some (!(t.map D.int).isEmpty,[eN t]):=rfl;rw[PD e];unfold tx
 cases t with
 |nil=>rfl
 |cons x t=>rw[fJ (show(!(List.map D.int (x::t)).isEmpty)=true from rfl),fR (by simp)];exact A9 sep hs h hl
theorem Qn{sep:Str}(hs:sep.length<=10){t:fN}(h:S5 t)(hl:t.length<=100):(fg (sIf (fT (fD gEq (eV 0) (eW (jB [])))) (fg (gK (fC (.str "none"))) fF) fF) (fg (gK (gB (mh sep) (eW MN))) fF)) [eN t]=some (.rt (.str (tx sep t),false) [eN t]):=by
 have t1:fT (fD gEq (eV 0) (eW (jB []))) [eN t]=some (decide (t=[]),[eN t]):=jX (o:=false) (jO (b:=cD []) (Pp t []) (jV rfl).r (jE (b:=false) rfl).r);unfold tx;by_cases e:t=[]
 ·rw[fJ e];rw[ny e] at t1;exact gw ((oI t1).trans rfl)
 ·rw[fR e];rw[kS e] at t1;exact(fq ((lK t1).trans rfl)).trans (gw (jg (A9 sep hs h hl)))
theorem Ia{t:fN}(h:S5 t)(hl:t.length<=100):jd [enc t]=some ((.str (tx " " t),false),[eN t]):=Iz ⟨rfl,by decide,rfl⟩ (Qo (by decide) h hl)
theorem KJ{t:fN}(h:S5 t)(hl:t.length<=100):jq [enc t]=some ((.str (tx "" t),false),[eN t]):=Iz ⟨rfl,by decide,rfl⟩ (Qo (by decide) h hl)
theorem zo{t:fN}(h:S5 t)(hl:t.length<=100):gF [enc t]=some ((.str (tx " " t),false),[eN t]):=iD ⟨rfl,by decide,rfl⟩ (Qn (by decide) h hl)
theorem Gz{t:fN}(h:S5 t)(hl:t.length<=100):iT [enc t]=some ((.str (tx "" t),false),[eN t]):=iD ⟨rfl,by decide,rfl⟩ (Qn (by decide) h hl)
theorem w32{t:fN}(h:S5 t): ∀w∈t.map tN,32∉w.cps.toList:=fun w hw=>by
 obtain⟨s,hs,rfl⟩:=kx.mp hw;exact(ky s (iA (h s hs))).1.2.2.2.2
theorem Ib{n:Nat}(hn:n<=5){t:fN}(ht:TT n t):km [(.str (tx " " t),false)]=some ((cD t,false),[sS' (tx " " t)]):=by
 have s5:=M9 hn ht;have hl:t.length<=5:=by rw[ht.len];exact hn
 let T:=sS' (tx " " t)
 have t1:fT (fD gEq (eV 0) (eW (fC (.str "none")))) [T,none]=some (tx " " t==(("none":String):Str),[T,none]):=jX (o:=false) (jO (Bg _ _) (jV rfl).r (jE rfl).r);by_cases e:t=[]
 ·subst e;refine iD (δ:=[T,none]) ⟨rfl,by decide,rfl⟩ ((fq (δ1:=[T,none]) (nK (jU1 (PM _) (jV rfl)))).trans (gw ((oI (t1.trans (by rw[show tx " " []=(("none":String):Str) from rfl,beq_self_eq_true]))).trans ?_)));exact gw (jg (by simp[gA]))
 ·have hx:tx " " t=jn " " t:=fR e
  have j7:(tx " " t==(("none":String):Str))=false:=by
   rw[yC,hx];intro z;have s1:=nR (c:=32) (ws:=t.map tN) (by simpa using e) (w32 s5);have s2:=nR (c:=32) (ws:=[(("none":String):Str)]) (by simp) (by decide+kernel);unfold jn at z;rw[<-EK,z] at s1;rw[<-EK] at s2;have s3:t.map tN=[(("none":String):Str)]:=s1.symm.trans s2
   cases t with
   |nil=>exact e rfl
   |cons x t=>
    have:=(pe s3).1;exact(ky x (iA (s5 x (by simp)))).2.2 this
  rw[j7] at t1;have sp:gB (kK " ") (eV 0) [T,none]=some ((.lst ((t.map tN).map D.str),true),[T,none]):=wZ EK (by simpa using e) (w32 s5) (by show some T=_;simp only[T];rw[hx];rfl) (by have:=Ea (sep:=" ") rfl s5 hl;show(jn " " t).length<=_;lia)
  have q:=oz (caps:=[]) (fi:=gg (gB (kK " ") (eV 0))) (f:=fj iQ [(eV 0),(eW (fj jS [(eW (fC (.int 5)))]))]) (δ:=[T,none]) (δ1:=[T,none]) (l:=(t.map tN).map D.str) (args:=[]) gRd (nN sp) rfl rfl (fun d hd=>by
   obtain⟨w,hw,rfl⟩:=kx.mp hd;obtain⟨s,hs,rfl⟩:=kx.mp hw;refine⟨false,(jU2 (xJ (s5 s hs) (Ip (n:=5) (by decide)) (NW.mpr ?_)) (jV rfl) (jE (b:=true) (jU1 (uF (n:=5) (by decide)) (jE rfl)))).trans ?_⟩
   ·have:=ht.sg hs;unfold SG at this ⊢;lia
   ·show _=some ((D.int (rdN (tN s)),false),_);rw[(ky s (iA (s5 s hs))).2.1]) (by simp;lia)
  rw[IE s5] at q;refine iD (δ:=[T,eN t]) ⟨rfl,by decide,rfl⟩ ((fq (δ1:=[T,none]) (nK (jU1 (PM _) (jV rfl)))).trans ((no (δ:=[T,none]) _ t1).trans ?_));refine(fq (δ1:=[T,eN t]) (gM (i:=1) (δ1:=[T,none]) (jC (a:= .lst (t.map .int)) rfl (jE q).r) (show 1<2 by decide))).trans ?_;refine(no (δ:=[T,eN t]) _ (nP (b:=true) (jX (o:=false) (jU2 (BD hn ht) (jE (b:=false) (jC (a:=cD t) (by show some (D.int (t.map D.int).length,false)=_;rw[gW,ht.len]) (jV rfl).r)) (jV rfl))))).trans ?_;exact gw rfl
theorem NU(ev:EvF)(x:Str):vT (evF 2 2 [] (gD ev)) (.str x):=fun b c=>by
 cases b<;>cases c<;>simp[gD,evF,gk,isT,Bg]
theorem QN{m:Nat}{c:fN}(hl:c.length<=100):vT (evF 2 2 [] (gD (fv (m+1)))) (cD c):=
 DI (.inr rfl) (fun d hd=>by
  obtain⟨i,_,rfl⟩:=kx.mp hd;exact QM (fv m) i) (by simp;lia)
theorem SU{n:Nat}{ks:iq}(h:vD n ks):vT (fv RD) (rD' n ks):=
 DI (ev:=fv 5) (.inr rfl) (fun d hd=>by
  rcases iY.mp hd with rfl|hd
  ·exact QM (fv 4) n
  ·cases Ez.mp hd
   exact DI (ev:=fv 4) (.inr rfl) (fun d hd=>by
    obtain⟨c,hc,rfl⟩:=kx.mp hd;exact QN (m:=2) (by have:=cl5 h.1 (h.2.1.2 c hc);lia)) (by have:=h.2.2.2;simp;lia)) (by simp)
def gx:Nat->List (List Int)
 |0=>[[]]
 |m+1=>(gx m).flatMap fun t=>[t++[(m:Int)+1],t++[-((m:Int)+1)]]
theorem RE:(gx 5).length=32/\(gx 5).Nodup/\ ∀c∈gx 5,c≠[]/\(c.map ab).Pairwise (· < ·)/\ ∀s∈c,1<=ab s/\ab s<=5:=by decide+kernel
abbrev Ud:FS:=(fg (gu 3 (jx [])) (fg (lN (gg (gz 1)) (fk 4) (fg (jW (mR 3 (jx [(fD jc (eV 4) (eW (jB [(gz 2)]))),(fD jc (eV 4) (eW (jB [(gB su (eV 2))])))]))) fF)) (fg (sMv 1 3) fF)))
theorem Po(s:Sl):lN (vq (eW (fC (.int 1))) (eW (fC (.int 6)))) (fk 2) Ud [s,lsC [[]],none,none,none]=some (.nx [s,lsC (gx 5),ii 5,none,eN [-1, -2, -3, -4]]):=by kernel_rfl
theorem PH{α β:Type}(f:α->β)(l:List α): ∀i,(l.map f).eraseIdx i=(l.eraseIdx i).map f:=by
 induction l with
 |nil=>intro i;rfl
 |cons a l ih=>
  intro i
  cases i with
  |zero=>rfl
  |succ i=>simp[ih]
theorem EW{a a':Int}{b:Bool}{v:Int}{M:iq}{m:Int}(v0:0<=v)(v1:v<M.length)(e: ∀(fo:FO) (δ:Dn) (o:Opd),fo (stt a b::δ)=some (o,stt a b::δ)->uE (stt a b::δ) o=ii m->fj fG [eV 0,fo] (stt a b::δ)=some ((.int v,false),stt a' b::δ))(hM:M.length<=100)(x y z:Sl):jW (ni 1 (eW (fj fG [(eV 0),(eW (fC (.int m)))]))) [stt a b,lsC M,x,y,z]=some (.nx [stt a' b,lsC (M.eraseIdx v.toNat),x,y,z]):=by
 have hv:v.toNat<M.length:=by lia
 refine nK (r:=(cD M[v.toNat],false)) ((zw (k:=v) (δ1:=[stt a' b,lsC M,x,y,z]) (l0:=M.map cD) (l:=M.map cD) (o:= .val (.int v,false)) rfl (fM (e _ _ (.val (.int m,false)) rfl rfl)) rfl rfl ⟨by lia,by lia⟩ (j:=v.toNat) (d:=cD M[v.toNat]) ?_ ?_).trans ?_)
 ·unfold ixN;rw[gW,fJ v0,fJ v1]
 ·rw[jU,ir hv];rfl
 ·show some ((cD M[v.toNat],false),[stt a' b,some (D.lst ((M.map cD).eraseIdx v.toNat),true),x,y,z])=_;rw[PH]
theorem Kf(a:Int)(b:Bool): ∃a' ks,vD 5 ks/\lP [pS a b]=some ((rD' 5 ks,false),[stt a' b]):=by
 obtain⟨k1,k2,k3⟩:=RE;obtain⟨v,a1,v0,v1,e1⟩:=kD a b 32 (by lia) (by lia);obtain⟨w,a2,w0,w1,e2⟩:=kD a1 b 31 (by lia) (by lia)
 let M1:=(gx 5).eraseIdx v.toNat
 let M2:=M1.eraseIdx w.toNat
 have l1:M1.length=31:=by simp only[M1];rw[rC,fJ (by rw[k1];lia),k1]
 have l2:M2.length=30:=by simp only[M2];rw[rC,fJ (by rw[l1];lia),l1]
 have sb: ∀c∈M2,c∈gx 5:=fun c hc=>zO (zO hc);have nd:M2.Nodup:=(k2.sublist (G8 _ _)).sublist (G8 _ _);obtain⟨ks,hp,hs,es⟩:=Ll (cs:=M2) (ze _ fun c hc=>(k3 c (sb c hc)).1) (by lia);refine⟨a2,ks,⟨by lia,⟨hp.nodup_iff.mpr nd,fun c hc=>?_⟩,hs,by rw[hp.length_eq];lia⟩,?_⟩
 ·have:=k3 c (sb c (hp.mem_iff.mp hc));exact⟨this.1,this.2.1,this.2.2⟩
 let δ:Dn:=[stt a2 b,lsC M2,ii 5,none,eN [-1, -2, -3, -4]]
 refine iD (δ:=δ) ⟨rfl,by decide,rfl⟩ ?_;refine(fq (δ1:=[stt a b,lsC [[]],none,none,none]) (by simp[gA])).trans ?_;refine(fq (Po _)).trans ?_;refine(fq (EW v0 (by rw[k1];exact v1) e1 (by lia) _ _ _)).trans ?_;refine(fq (EW (M:=M1) w0 (by rw[l1];exact w1) e2 (by lia) _ _ _)).trans (gw (jg ?_));have q:fE (g1 jj) [(eW (fE (g1 mQ) [(eV 1)]))] δ=some ((.tup (ks.map cD),false),δ):=jC (g:=jj) (a:= .lst (ks.map cD)) rfl (jE (b:=true) (jC (g:=mQ) (a:= .lst (M2.map cD)) es (jR (i:=1) rfl))).r;show jB _ δ=_;rw[IJ];simp only[gP,mG];rw[mr (show eW (fC (.int 5)) δ=some (.val (.int 5,false),δ) from rfl) (fM q)];simp[gA,lC]
theorem xg{d:D}(h:vT (fv RD) d){fa fb:FO}{δ:Dn}(ha:FJ fa δ d)(hb:FJ fb δ d):iF (fT (fj (fv RD) [fa,fb])) δ=some (false,δ):=nP (b:=true) (jX (o:=false) (jU2 (h false false) ha hb))
abbrev PC:FS:=(fg (sIf (iF (fT (fj (fv RD) [(eW (fj kL [(eW (fj gQ [(eV 3)]))])),(eV 3)]))) (fg (gK (fC (.bl false))) fF) fF) (fg (sIf (iF (fT (fj (fv RD) [(eW (fj km [(eW (fj gF [(eV 6)]))])),(eV 6)]))) (fg (gK (fC (.bl false))) fF) fF) fF))
abbrev Np:FS:=(fg (gu 2 (fj jt [(eV 0),(eV 1)])) (fg (gu 3 (fj kh [(eV 2),(eW (fC (.int 0))),(eW (fC (.int 5)))])) (fg (sIf (fT (fD gEq (eW (fj fG [(eV 2),(eW (fC (.int 4)))])) (eW (fC (.int 0))))) (fg (gu 3 (fj lP [(eV 2)])) fF) fF) (fg (gu 4 (fj iU [(eW (fD gIx (eV 3) (eW (fC (.int 0)))))])) (fg (gu 5 (fD gIx (eV 4) (eW (fj fG [(eV 2),(eW (fE (g1 ly) [(eV 4)]))])))) (fg (gu 6 (fj il [(eV 2),(eW (fD gIx (eV 3) (eW (fC (.int 0)))))])) (fg (sIf (iF (fT (fj (fv RD) [(eW (fj iP [(eV 3)])),(eW (fj gQ [(eV 3)]))]))) (fg (gK (fC (.bl false))) fF) fF) (fg (sIf (iF (fT (fj (fv RD) [(eW (fj jq [(eV 5)])),(eW (fj iT [(eV 5)]))]))) (fg (gK (fC (.bl false))) fF) fF) (fg (sIf (iF (fT (fj (fv RD) [(eW (fj jd [(eV 6)])),(eW (fj gF [(eV 6)]))]))) (fg (gK (fC (.bl false))) fF) fF) (fg (lN (qc (eW (fC (.int 2)))) (fk 7) PC) fF))))))))))
theorem EH{n:Nat}{ks:iq}(h:vD n ks)(a1:Int)(b:Bool)(z0 z1 c4 c5 c6 c7:Sl): ∃d2 d4 d5 d6 d7,(fg (gu 4 (fj iU [(eW (fD gIx (eV 3) (eW (fC (.int 0)))))])) (fg (gu 5 (fD gIx (eV 4) (eW (fj fG [(eV 2),(eW (fE (g1 ly) [(eV 4)]))])))) (fg (gu 6 (fj il [(eV 2),(eW (fD gIx (eV 3) (eW (fC (.int 0)))))])) (fg (sIf (iF (fT (fj (fv RD) [(eW (fj iP [(eV 3)])),(eW (fj gQ [(eV 3)]))]))) (fg (gK (fC (.bl false))) fF) fF) (fg (sIf (iF (fT (fj (fv RD) [(eW (fj jq [(eV 5)])),(eW (fj iT [(eV 5)]))]))) (fg (gK (fC (.bl false))) fF) fF) (fg (sIf (iF (fT (fj (fv RD) [(eW (fj jd [(eV 6)])),(eW (fj gF [(eV 6)]))]))) (fg (gK (fC (.bl false))) fF) fF) (fg (lN (qc (eW (fC (.int 2)))) (fk 7) PC) fF))))))) [z0,z1,stt a1 b,rS n ks,c4,c5,c6,c7]=some (.nx [z0,z1,d2,rS n ks,d4,d5,d6,d7]):=by
 have hn:=h.1;obtain⟨o,ea⟩:=vX hn;have hl:=KQ hn
 have hp:0<(kj n).length:=by
  have: ∀n,n<6->0<(kj n).length:=by decide+kernel
  exact this n (by lia)
 obtain⟨w,a2,w0,w1,e2⟩:=BE a1 b ((kj n).length:Int) (by lia) (by lia);have hw:w.toNat<(kj n).length:=by lia
 have hA:=P9.mp (zR hw);generalize hAA:(kj n)[w.toNat]=an at hA;obtain⟨a3,t,ht,e3⟩:=wX a2 b n hn;have ht:=Lh ht;have s5:=M9 hn ht;have tl:t.length<=100:=by rw[ht.len];lia
 have al:an.length<=100:=by rw[hA.1];lia
 have a5:S5 an:=fun s hs=>by rcases hA.2 s hs with rfl|rfl<;>lia
 let Q:Sl:=some (.lst ((kj n).map cD),o)
 let δ:Int->Sl->Sl->Sl->Dn:=fun a x5 x6 x7=>[z0,z1,stt a b,rS n ks,Q,x5,x6,x7]
 obtain⟨_,⟨x,rfl⟩,ef⟩:=wq (tg:=fk 7) (fb:=PC) (fun _ δ'=> ∃x,δ'=δ a3 (eN an) (eN t) x) (fun q ds δ' ⟨x,hd⟩=>by
  subst hd;refine⟨_,δ a3 (eN an) (eN t) (some (q,false)),rfl,?_,_,rfl⟩;refine(no (δ:=δ a3 (eN an) (eN t) (some (q,false))) _ (xg (SU h) (jE (b:=false) (jU1 (Iy h) (jE (b:=false) (jU1 (zp h) (jV rfl))))) (jV rfl))).trans ?_;exact(no (δ:=δ a3 (eN an) (eN t) (some (q,false))) _ (xg (QN (m:=4) tl) (jE (b:=false) (jU1 (Ib hn ht) (jE (b:=false) (jU1 (zo s5 tl) (jV rfl))))) (jV rfl))).trans rfl) (gf 0 2) (δ a3 (eN an) (eN t) c7) ⟨c7,rfl⟩
 refine⟨stt a3 b,Q,eN an,eN t,x,?_⟩;refine(fq (δ1:=δ a1 c5 c6 c7) (gM (i:=4) (δ1:=[z0,z1,stt a1 b,rS n ks,c4,c5,c6,c7]) (jU1 ea (jE (b:=false) (jO rfl (jV rfl).r (jE rfl).r))) (show 4<8 by decide))).trans ?_;refine(fq (δ1:=δ a2 (eN an) c6 c7) (gM (i:=5) (δ1:=δ a2 c5 c6 c7) (gG (o1:= .slot 4) (o2:= .val (.int w,false)) (δ1:=δ a1 c5 c6 c7) rfl (fM (e2 _ z0 z1 [rS n ks,Q,c5,c6,c7] (.val (.int (kj n).length,false)) (by simp[Q]) rfl)) rfl rfl (z:=(cD an,false)) ?_) (show 5<8 by decide))).trans ?_
 ·rw[ixl (L:=(kj n).map cD) w0 (by simpa using w1),<-hAA];simp[uQ,hw]
 refine(fq (δ1:=δ a3 (eN an) (eN t) c7) (gM (i:=6) (δ1:=δ a3 (eN an) c6 c7) ((gL (δ1:=δ a2 (eN an) c6 c7) (os:=[.slot 2,.val (.int n,false)]) (args:=[pS a2 b,pI n]) (mr rfl (fM (jO rfl (jV rfl).r (jE rfl).r))) rfl (nd1 2) e3).trans rfl) (show 6<8 by decide))).trans ?_;refine(no (δ:=δ a3 (eN an) (eN t) c7) _ (xg (NU (fv 5) (rt n ks)) (jE (b:=false) (jU1 (BP h) (jV rfl))) (jE (b:=false) (jU1 (zp h) (jV rfl))))).trans ?_;refine(no (δ:=δ a3 (eN an) (eN t) c7) _ (xg (NU (fv 5) (tx "" an)) (jE (b:=false) (jU1 (KJ a5 al) (jV rfl))) (jE (b:=false) (jU1 (Gz a5 al) (jV rfl))))).trans ?_;refine(no (δ:=δ a3 (eN an) (eN t) c7) _ (xg (NU (fv 5) (tx " " t)) (jE (b:=false) (jU1 (Ia s5 tl) (jV rfl))) (jE (b:=false) (jU1 (zo s5 tl) (jV rfl))))).trans ?_;exact(fq ((lM (δ1:=δ a3 (eN an) (eN t) c7) (qv (n:=2) (o:= .val (.int 2,false)) rfl rfl (by decide))).trans ef)).trans rfl
theorem Kn(ns:fN)(k:Nat)(c2 c3 c4 c5 c6 c7:Sl): ∃d2 d3 d4 d5 d6 d7,Np [some (.lst (ns.map .int),false),ii k,c2,c3,c4,c5,c6,c7]=some (.nx [some (.lst (ns.map .int),false),ii k,d2,d3,d4,d5,d6,d7]):=by
 let z0:Sl:=some (.lst (ns.map .int),false)
 obtain⟨a,b,e0⟩:=Ii ns k;obtain⟨a1,n,ks,hr,_,_,e1⟩:=F6 a b 0 5 (by lia) (by lia);obtain⟨w,a2,w0,w1,e2⟩:=BE a1 b 4 (by lia) (by lia)
 let δ:Int->Sl->Dn:=fun a x=>[z0,ii k,stt a b,x,c4,c5,c6,c7]
 have pre: ∀(g:FS),fg (gu 2 (fj jt [(eV 0),(eV 1)])) (fg (gu 3 (fj kh [(eV 2),(eW (fC (.int 0))),(eW (fC (.int 5)))])) g) [z0,ii k,c2,c3,c4,c5,c6,c7]=g (δ a1 (rS n ks)):=fun g=>
  (fq (gM (i:=2) (δ1:=[z0,ii k,c2,c3,c4,c5,c6,c7]) (jU2 e0 (jV rfl) (jV rfl)) (show 2<8 by decide))).trans (fq (δ1:=δ a1 (rS n ks)) (gM (i:=3) (δ1:=δ a1 c3) ((gL (δ1:=δ a c3) (os:=[.slot 2,.val (.int 0,false),.val (.int 5,false)]) (args:=[pS a b,pI 0,pI 5]) rfl rfl (nd1 2) e1).trans rfl) (show 3<8 by decide)))
 have t1:fT (fD gEq (eW (fj fG [(eV 2),(eW (fC (.int 4)))])) (eW (fC (.int 0)))) (δ a1 (rS n ks))=some (decide (w=0),δ a2 (rS n ks)):=jX (o:=false) (gG (o1:= .val (.int w,false)) (o2:= .val (.int 0,false)) (δ1:=δ a2 (rS n ks)) (fM (e2 _ z0 (ii k) [rS n ks,c4,c5,c6,c7] (.val (.int 4,false)) rfl rfl)) rfl rfl rfl ((IK _ _).trans (by rw[wx])));by_cases hw:w=0
 ·obtain⟨a3,js,hj,e3⟩:=Kf a2 b;obtain⟨d2,d4,d5,d6,d7,e⟩:=EH hj a3 b z0 (ii k) c4 c5 c6 c7;exact⟨d2,rS 5 js,d4,d5,d6,d7,(pre _).trans ((fq (δ1:=δ a3 (rS 5 js)) ((oI (t1.trans (by rw[ny hw]))).trans ((fq (gM (i:=3) (δ1:=δ a3 (rS n ks)) ((gL (δ1:=δ a2 (rS n ks)) (os:=[.slot 2]) (args:=[pS a2 b]) rfl rfl (nd1 2) e3).trans rfl) (show 3<8 by decide))).trans rfl))).trans e)⟩
 ·obtain⟨d2,d4,d5,d6,d7,e⟩:=EH hr a2 b z0 (ii k) c4 c5 c6 c7;exact⟨d2,rS n ks,d4,d5,d6,d7,(pre _).trans ((fq ((lK (t1.trans (by rw[kS hw]))).trans rfl)).trans e)⟩
abbrev δ91(z0:Sl):Dn:=[z0,none,none,none,none,none,none,none]
theorem P6(ns:fN)(hl:ns.length<=63): ∃o outs,rm [(.lst (ns.map .int),false)]=some ((.bl true,o),outs):=by
 let z0:Sl:=some (.lst (ns.map .int),false)
 let N:Nat:=if 1<min ns.length 10 then min ns.length 10 else 1
 obtain⟨_,⟨d1,d2,d3,d4,d5,d6,d7,_,rfl⟩,e⟩:=wq (tg:=fk 1) (fb:=Np) (fun ds δ=> ∃d1 d2 d3 d4 d5 d6 d7,(∀d∈ds,∃k:Nat,d= .int k)/\δ=[z0,d1,d2,d3,d4,d5,d6,d7]) (fun d ds δ ⟨d1,d2,d3,d4,d5,d6,d7,h1,h⟩=>by
  subst h;obtain⟨k,rfl⟩:=h1 d gY;obtain⟨g2,g3,g4,g5,g6,g7,e⟩:=Kn ns k d2 d3 d4 d5 d6 d7
  exact⟨_,_,rfl,e,_,_,_,_,_,_,_,fun x hx=>h1 x (gX _ hx),rfl⟩) (gf 0 N) (δ91 z0) ⟨none,none,none,none,none,none,none,fun d hd=>by
   obtain⟨k,_,rfl⟩:=kx.mp hd;exact⟨k,by simp⟩,rfl⟩
 let δ:Dn:=[z0,d1,d2,d3,d4,d5,d6,d7]
 refine⟨false,_,iD (δ:=δ) ⟨rfl,by decide,rfl⟩ ?_⟩;refine(fq ((lM (ds:=gf 0 N) (δ1:=δ91 z0) ?_).trans e)).trans (gw (jg ?_))
 ·refine qv (o:= .val (.int N,false)) (fM ?_) rfl (by simp only[N];split<;>lia)
  have hN:(N:Int)=if(if(10:Int)<ns.length then 10 else(ns.length:Int))>1 then(if(10:Int)<ns.length then 10 else(ns.length:Int)) else 1:=by
   simp only[N];split<;>split<;>split<;>lia
  rw[hN];simp[z0,δ91]
 ·kernel_rfl
end PV
theorem K91.main(ns:fN)(hl:ns.length<=63): ∃o outs,PV.rm [(.lst (ns.map .int),false)]=some ((.bl true,o),outs):=PV.P6 ns hl
namespace PySem.W.Fast
def tw13263078467854798437:=()
def tw16993466664789955980:=()
def tw1349883969324179232:=()
def tw1918925360153311404:=()
def tw2021806974887917985:=()
def tw475969646025976182:=()
def tw2780099593391279946:=()
def tw8222967168844111946:=()
def tw1433398303303693918:=()
def tw13578701073638072882:=()
def tw3840340639170035417:=()
def tw4286538737467481444:=()
def tw5142697162336809680:=()
def tw13890939901602534328:=()
def tw15973618016325624703:=()
def tw11282494599678712859:=()
def tw14976115852049298234:=()
def tw6111862984842996745:=()
def tw14032763685438817846:=()
def tw3877628858512682019:=()
def tw1288179836227948917:=()
def tw12439722612412216636:=()
def tw7529293275169230789:=()
def tw3679979630376248742:=()
def tw12379164141962186478:=()
def tw4763853170516371812:=()
def tw5052230444438721757:=()
def tw6324891174139826276:=()
def tw6232454052522121322:=()
def tw15585186664698693455:=()
def tw14251647025424247377:=()
def tw10135577014685564718:=()
def tw11044749763335255065:=()
def tw4036811893894475789:=()
def tw5286660913690538660:=()
def tw6572994018129319472:=()
def tw2025685480628802238:=()
def tw17975588362829228739:=()
def tw11059642736598065815:=()
def tw11634649453590813322:=()
def tw8131728650273931480:=()
def tw10208260356588774203:=()
def tw12351560944244049186:=()
def tw6654045225237120198:=()
def tw6529889645269122327:=()
def tw4932088714407977668:=()
def tw18296089711799931099:=()
def tw15031212616578083504:=()
def tw14225277216849775308:=()
def tw13602309213317816526:=()
def tw14490273578298880898:=()
def tw3377833658454347875:=()
def tw1880638680243061027:=()
def tw9988626954262064914:=()
def tw15489531408408298402:=()
def tw15508470954560403093:=()
def tw13906427909220269302:=()
def tw5416882782271121441:=()
def tw13725417947307779382:=()
def tw1693358803971336686:=()
def tw18253454511296357045:=()
def tw13129774146378657233:=()
def tw18192931825455934667:=()
def tw10997644181992136617:=()
def tw5588267884428080606:=()
def tw11191261208713979213:=()
def tw635720315465046239:=()
def tw14983685797558061357:=()
def tw2618576752379714941:=()
def tw15161940438802257897:=()
def tw17068555357641652220:=()
def tw12688899189275507335:=()
def tw3484370838637395140:=()
def tw1022835448443724594:=()
def tw3192605112907211741:=()
def tw10684232016886997397:=()
def tw790782879374811824:=()
def tw14573369292756084842:=()
def tw7353008861742369347:=()
def tw10850911963606625624:=()
def tw1457780473693364180:=()
def tw8837422866669691577:=()
def tw13949383666944700611:=()
def tw10167805024242948405:=()
def tw10028067191340691024:=()
def tw10641211350819326087:=()
def tw14495674897912882059:=()
def tw16225989849626406113:=()
def tw11453844484112995002:=()
def tw2509623386286026741:=()
def tw11167918344822014195:=()
def tw13725511774489313795:=()
def tw7279997316176801498:=()
def tw5690215864498734909:=()
def tw8883638045136127288:=()
def tw4072515868904510265:=()
def tw17204218296042927976:=()
def tw10577105375206754171:=()
def tw3416361439917302128:=()
def tw1961105261834678590:=()
def tw11947487949428511704:=()
def tw14685732169616571264:=()
def tw8423976668818490510:=()
def tw17279592665988596436:=()
def tw17031496661972526032:=()
def tw10174174696399457673:=()
def tw14655763389801146453:=()
def tw6024252922095204900:=()
def tw14082031675472672615:=()
def tw11834549682383094833:=()
def tw5020496204929492144:=()
def tw9097824958347998942:=()
def tw11182646179488790497:=()
def tw421499371779712720:=()
def tw3962123367744929863:=()
def tw17965676005772566657:=()
def tw11989272326475169914:=()
def tw12185840571762941417:=()
def tw8651099750725953471:=()
def tw6610495945129350566:=()
def tw6019598412313774453:=()
def tw2097320404053874893:=()
def tw4498639282825877936:=()
def tw2161043900906001625:=()
def tw3481698925790711215:=()
def tw2763182793239780613:=()
def tw16554789214106905762:=()
def tw13104466570101500705:=()
def tw11714450629390745824:=()
def tw10616344533943087677:=()
def tw10377248555720941089:=()
def tw12110263731239507936:=()
def tw7323102770857689982:=()
def tw13267025053667130777:=()
def tw10409520699001191601:=()
def tw18290463802306101960:=()
def tw3687280913071837098:=()
def tw3553739076816857763:=()
def tw13201007050337894563:=()
def tw11636849048494830360:=()
def tw10093487274600714934:=()
def tw2094533003384775456:=()
def tw10318024191903993007:=()
def tw17816552971809263539:=()
def tw12386485371793633709:=()
def tw12324576322833621288:=()
def tw3844924474510988146:=()
def tw8647163286014567888:=()
def tw15211487653638985586:=()
def tw7590853621556410370:=()
def tw15146181087386406230:=()
def tw10692047090764209547:=()
def tw9629185555086761781:=()
def tw4123154028777344784:=()
def tw468310703681677795:=()
def tw1116293235522999549:=()
def tw17687092260212378664:=()
def tw15111332655144007287:=()
def tw1201396286323800808:=()
def tw9803056766853608702:=()
def tw4400712217943681409:=()
def tw1467001835810435109:=()
def tw7992183274663484710:=()
def tw16599682652376996965:=()
def tw10123451433553177327:=()
def tw8505379287363991740:=()
def tw655115958893139335:=()
def tw14808831610107890770:=()
def tw9643314585034940672:=()
def tw7769732981528181803:=()
def tw5873129213355212299:=()
end PySem.W.Fast
open PySem PySem.W PyProof.Rows PX
set_option maxRecDepth 100000 in
set_option maxHeartbeats 0 in
theorem PySem.Challenge.cw_twinriddles_k91_texts_written_and_read_holds : PySem.Challenge.rw_twinriddles_k91_texts_written_and_read.Holds := by
  w_on; o_law; k_head; (case hw => w_witness2)
  k_fill
  refine walkG (l:=Challenge.rw_twinriddles_k91_texts_written_and_read) (LV:=9) (x:="_law_script") ⟨rfl,by decide,by decide,rfl⟩ rfl rfl (fun w h Y=>kIn_of Y) ?F K91.main
  case F =>
   intro w mg fa h KX G hmg
   refine' K91.all_mk hmg (txK KX G ?_ ?_ ?_ ?_ ?_ ?_ ?_ ?_ ?_ ?_ ?_ ?_ ?_ ?_ ?_ ?_) ?_ ?_ ?_ ?_ ?_ ?_ ?_ ?_ ?_ ?_ ?_ ?_ ?_ ?_ ?_ ?_ ?_ ?_ ?_ ?_ ?_ ?_ ?_ ?_ ?_ ?_ ?_ ?_ ?_ ?_ ?_ ?_ ?_ ?_ ?_ ?_ ?_ (mg_none_of KX G ?_) (mgI KX G ?_) (mgI KX G ?_) (mgI KX G ?_) (mgS KX G ?_)<;>try first|refine' fz KX G ?_ ?_ ?_ ?_<;>try k_is|k_is
