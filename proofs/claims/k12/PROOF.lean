import PyProof.Rows.All
import Wide.All
import OpenK.AllK
import Wide.FinOn
import PyProof.EqAt
import PyProof.EqKinds
import PyProof.TupleCall
import Lean
import PySem.Challenge.RW_twinriddles_k12_answers
set_option Elab.async false
set_option linter.all false
set_option maxRecDepth 100000
set_option maxHeartbeats 8000000
noncomputable section
section
open PySem PySem.Spec PyProof.Rows
abbrev hG:=Value->Shared->Prop
abbrev hJ:=List (Addr×Obj)
abbrev gL:=PySem.W.Frag
abbrev ja:=List (List Int)
abbrev gU:=List Int
abbrev iG:=List Value
abbrev kO:=Str->Option Value
abbrev iA:=List Nat
abbrev kN:=Nat->Nat->Bool
abbrev jz:=Array Nat
abbrev mh:=Array (Int×Value)
abbrev jS:=Array Value
abbrev iw:=List Str
abbrev jl:=List Expr
abbrev pA:=Bool->Shared->Prop
abbrev Fy:=Option Value->Shared->Prop
abbrev vH:=Value->Value->Sem Value
abbrev sZ:=Array (Option Nat)
abbrev sY:=Array (Option Value)
abbrev pz:=List (Str×Addr)
abbrev pv:=List Comprehension
abbrev mR:=Array Keyed
abbrev mQ:=Nat->Keyed
abbrev za:=Option Nat->SortSt->Prop
abbrev jb:=Nat->Prop
abbrev jE:=List Addr
abbrev gr:=Shared
abbrev gP:=Program
abbrev gM:=Around
abbrev gH:=World
abbrev iH:=SortSt
abbrev kA:=SetTable
abbrev gB:=Value
abbrev nN:=Comprehension
abbrev mP:=FuncData
abbrev jD:=Scope
abbrev gC:=Expr
abbrev gQ:=Heap
abbrev gn:=Addr
end
section
open PySem PySem.Spec PyProof.Rows PySem.SeqAt
def gi:=@wpAny_bind
theorem gu:type_of% @if_pos:=@if_pos
theorem gv:type_of% @if_neg:=@if_neg
def gw:=@wpAny_pure
theorem hU:type_of% @Nat.le_refl:=@Nat.le_refl
theorem iC:type_of% @Bool.false_eq_true:=@Bool.false_eq_true
theorem iI:type_of% @Option.bind_some:=@Option.bind_some
theorem iP:type_of% @if_false:=@if_false
theorem iO:type_of% @List.getElem?_eq_getElem:=@List.getElem?_eq_getElem
theorem iQ:type_of% @List.map_cons:=@List.map_cons
def hV:=@Heap.lt_size
theorem hZ:type_of% @List.size_toArray:=@List.size_toArray
def ig:=@Heap.get?_push_of_some
theorem ie:type_of% @if_true:=@if_true
theorem jg:type_of% @List.mem_cons:=@List.mem_cons
theorem iu:type_of% @sizeLine_eq:=@sizeLine_eq
def iz:=@Nat.ne_of_lt
def iE:=@Option.some.inj
def iR:=@List.mem_cons_self
theorem mC:type_of% @List.mem_append:=@List.mem_append
def iT:=@List.mem_cons_of_mem
theorem iX:type_of% @List.length_map:=@List.length_map
theorem iY:type_of% @Array.length_toList:=@Array.length_toList
def jc:=@Bool.false_ne_true
theorem oA:type_of% @List.mem_map:=@List.mem_map
def jr:=@Heap.get?_push_size
def lE:=@List.pairwise_append
theorem jF:type_of% @List.not_mem_nil:=@List.not_mem_nil
def jL:=@List.getElem_mem
def uI:=@List.getElem?_eq_some_iff
theorem jX:type_of% @List.length_cons:=@List.length_cons
theorem jW:type_of% @List.append_assoc:=@List.append_assoc
theorem jV:type_of% @List.nodup_nil:=@List.nodup_nil
theorem kF:type_of% @List.getElem?_map:=@List.getElem?_map
def kE:=@wpAny_newObj_type
def kD:=@Array.getElem?_toList
def kM:=@Nat.le_trans
theorem kL:type_of% @or_false:=@or_false
theorem kQ:type_of% @Bool.and_eq_true:=@Bool.and_eq_true
def kP:=@List.mem_of_mem_drop
def lu:=@wpAny_field
def lr:=@Nat.zero_le
theorem lq:type_of% @Bool.not_true:=@Bool.not_true
def ll:=@List.take_append_drop
theorem lj:type_of% @List.map_map:=@List.map_map
def lR:=@wpAny_holding
def lQ:=@List.mem_of_getElem?
theorem lP:type_of% @List.length_append:=@List.length_append
def pK:=@List.mem_singleton
theorem nL:type_of% @List.all_eq_true:=@List.all_eq_true
def lO:=@List.mem_of_mem_take
theorem mx:type_of% @decide_eq_false:=@decide_eq_false
def mw:=@Nat.lt_of_lt_of_le
def mv:=@List.take_sublist
def mq:=@wpAny_call_entry
def mn:=@Array.getElem?_eq_getElem
def ml:=@PySem.W.mg_none_of
def ph:=@List.pairwise_cons
theorem nu:type_of% @List.lookup_cons:=@List.lookup_cons
theorem nV:type_of% @Nat.lt_irrefl:=@Nat.lt_irrefl
def nU:=@List.mem_append_right
theorem nS:type_of% @List.length_take:=@List.length_take
theorem nR:type_of% @Function.comp_def:=@Function.comp_def
theorem nQ:type_of% @not_or:=@not_or
theorem nP:type_of% @List.drop_drop:=@List.drop_drop
def nO:=@List.drop_sublist
theorem uH:type_of% @List.mem_range:=@List.mem_range
def oX:=@Ne.symm
def oW:=@wpAny_mono
def oV:=@wpAny_of_eq
def pJ:=@List.getElem?_set_self
def pI:=@Nat.ne_of_gt
theorem pH:type_of% @Int.toNat_natCast:=@Int.toNat_natCast
def pG:=@wpAny_callSpecial?_slot
theorem pF:type_of% @List.map_nil:=@List.map_nil
def pE:=@codeAny_builtin
def pD:=@wpAny_seqItems
def pB:=@List.map_congr_left
def rB:=@List.getElem?_set_ne
def rA:=@congrArg
def rq:=@wpAny_typeOf
def rp:=@Heap.get?_update_self
theorem rm:type_of% @List.length_set:=@List.length_set
theorem rl:type_of% @List.length_nil:=@List.length_nil
def rk:=@Around.under_plainId
def rh:=@Obj.data_mapFields
theorem rf:type_of% @List.nil_append:=@List.nil_append
def rd:=@Nat.pow_succ
def qZ:=@wpAny_setState_of
def tJ:=@List.filterMap_cons
def tH:=@List.append_nil
def wz:=@PyProof.Rows.slot_tuple_getitem
theorem tE:type_of% @decide_eq_true:=@decide_eq_true
theorem tD:type_of% @bne_self_eq_false:=@bne_self_eq_false
def tx:=@wpAny_rule
def tw:=@Heap.size_push
def tu:=@List.getElem?_of_mem
def tq:=@Nat.lt_succ_self
def tj:=@Heap.SameBut.update
def tf:=@List.Perm.append_left
theorem oE:type_of% @List.map_append:=@List.map_append
def oD:=@wpAny_forIn_list
def oB:=@Nat.mul_assoc
def pV:=@codeAny_mono
def pU:=@eq_of_beq
theorem pT:type_of% @bind_assoc:=@bind_assoc
def pS:=@Nat.lt_succ_of_lt
def pR:=@PySem.W.kia_one
def pQ:=@PySem.W.kia_tup
def pP:=@plainId_quiet
def pO:=@List.cons.inj
theorem pN:type_of% @Array.getD_eq_getD_getElem?:=@Array.getD_eq_getD_getElem?
def pM:=@Nat.min_eq_left
def IB:=@PySem.F.called_set
def su:=@wpAny_truthy_bool
def sj:=@wpAny_passesOwn
def Lq:=@Option.isSome_iff_exists
def si:=@PySem.mem_of_lookup
theorem sh:type_of% @List.length_drop:=@List.length_drop
def sg:=@Prod.mk.inj
def sf:=@List.drop_eq_getElem_cons
theorem se:type_of% @decide_eq_true_eq:=@decide_eq_true_eq
def sd:=@wpAny_setField
def rZ:=@wpAny_attempt
def rY:=@List.Perm.refl
def rX:=@List.take_of_length_le
theorem rW:type_of% @List.take_take:=@List.take_take
theorem rV:type_of% @List.foldl_cons:=@List.foldl_cons
theorem rT:type_of% @List.zip_cons_cons:=@List.zip_cons_cons
def rS:=@Nat.mul_add
def Lp:=@Array.getElem?_eq_some_iff
def rR:=@wpAny_specialOf
def rQ:=@List.map_id
theorem yG:type_of% @beq_eq_false_iff_ne:=@beq_eq_false_iff_ne
def va:=@wpAny_load
def uZ:=@List.getElem?_append_right
def uY:=@Heap.get?_update_other
def uX:=@Nat.le_succ
def uW:=@wpAny_askSetting
theorem uV:type_of% @List.find?_cons:=@List.find?_cons
theorem uU:type_of% @List.any_cons:=@List.any_cons
theorem uT:type_of% @List.any_map:=@List.any_map
def uS:=@wpAny_setField_rec
def uR:=@wpAny_isInstance
def uQ:=@List.Perm.append_right
theorem uP:type_of% @List.extract_toArray:=@List.extract_toArray
theorem uO:type_of% @List.extract_eq_take_drop:=@List.extract_eq_take_drop
theorem uN:type_of% @List.getElem?_drop:=@List.getElem?_drop
def uM:=@Bool.or_eq_true
def uL:=@Nat.mul_comm
def uK:=@Nat.mul_one
def uJ:=@Nat.mod_lt
def wR:=@wpAny_standAt
def wQ:=@wpAny_pyIter_list
def IA:=@List.nodup_cons
def wO:=@List.getElem?_append_left
def wN:=@IsTup.new
def wM:=@List.length_singleton
theorem wK:type_of% @List.forIn_cons:=@List.forIn_cons
def wJ:=@codeAny_of_tree
def wI:=@List.drop_eq_nil_of_le
def wH:=@List.ext_getElem?
def wG:=@wpAny_onRaise
def M0:=@Array.perm_iff_toList_perm
def FC:=@List.pairwise_iff_getElem
def wF:=@List.getElem_of_mem
def wD:=@List.drop_zero
def wC:=@Nat.pow_le_pow_right
theorem wB:type_of% @List.getElem?_cons_succ:=@List.getElem?_cons_succ
def zb:=@PySem.F.slot_dict_keyiterator_next
def FA:=@PySem.F.slot_tuple_hash
def wA:=@List.getD_eq_getElem?_getD
def AJ:=@Paired.length
def Nr:=@List.mem_filter
def AI:=@Nat.le_of_lt
def AH:=@boot_range
def AG:=@PyProof.Rows.callWith_type1
def AF:=@wpAny_Call_Name_kw
def AE:=@concat_meets
def AD:=@slicePart_none
def AB:=@List.reverse_cons
def AA:=@call_meets
def Az:=@Heap.SameBut.refl
def Ay:=@List.getElem?_set
theorem Dr:type_of% @List.getElem?_zip_eq_some:=@List.getElem?_zip_eq_some
def Ax:=@wpAny_runValue
theorem Aw:type_of% @List.getElem?_eq_none:=@List.getElem?_eq_none
def Av:=@F.slot_tuple_iterator_next
def Au:=@Obj.isFreed_of_fields
def As:=@Obj.cls_mapFields
def Ar:=@F.slot_zip_next
def Aq:=@Nat.lt_or_ge
def Ap:=@List.pairwise_singleton
def Dq:=@List.perm_middle
def Ao:=@List.perm_append_comm
def An:=@List.take_succ
def Am:=@List.Perm.of_eq
def Al:=@AutoSeq1.sub_tuple_tuple
def Ak:=@richCompare_meets_room
def Aj:=@Nat.mul_left_comm
theorem Ai:type_of% @Array.getElem?_setIfInBounds:=@Array.getElem?_setIfInBounds
theorem Ah:type_of% @Array.getElem?_eq_none:=@Array.getElem?_eq_none
def Ag:=@wpAny_isSame_ref_self
theorem Af:type_of% @List.getElem?_cons_zero:=@List.getElem?_cons_zero
def Ae:=@isSubtype_type
def Ad:=@List.length_eraseIdx
def Ac:=@PySem.F.plain_list_iadd
def Ab:=@wpAny_updateSeq
def Aa:=@wpAny_typeNameOfWhole_keyiter
def zZ:=@Array.forIn_toList
def D9:=@wpAny_pyHash_int
def D8:=@wpAny_execs_nil
def D7:=@Int.mul_one
def D6:=@List.of_mem_zip
def D5:=@noFill_tuple_add
def D4:=@seq_tuple_add
def D3:=@PySem.F.slot_tuple_add
def D2:=@PySem.F.entry_tuple_add
def D1:=@PySem.F.args_tuple_add_2
def D0:=@wpAny_sequenceKey
def DZ:=@entry_tuple_getitem
def DY:=@args_tuple_getitem
def DX:=@tupleItemsOf_
def DV:=@evalPart_none
def DU:=@seqIndex_of
def DT:=@seqIndex_neg
def DS:=@List.ext_getElem
def DR:=@PySem.F.plainAttrs_list
def Lu:=@F.called_tuple
def DQ:=@wpAny_handled
def DP:=@wpAny_throw
def DO:=@wpAny_updateSeq_pair
def DN:=@wpAny_letGo
def DM:=@isSubtype_stop
def DL:=@List.range'_succ
def Pz:=@Array.mem_toList_iff
def DK:=@List.singleton_append
def DJ:=@List.drop_left
def DI:=@Nat.add_zero
def DH:=@listUpdate_at
def DG:=@get?_update_seq
def DF:=@seqEpoch_at
def DE:=@Nat.one_mul
def DD:=@Nat.mul_zero
def DC:=@Int.emod_lt_of_pos
def DA:=@Int.emod_nonneg
def Py:=@List.length_eq_zero_iff
def Dz:=@wpAny_pyIter_slot
def Dy:=@wpAny_setEntries_of
def Dx:=@PyProof.Rows.F.plain_set_update_loop
def Dw:=@wpAny_dictEntries
def Dv:=@wpAny_dictEpoch
def Du:=@List.mem_map_of_mem
def Dt:=@List.nodup_append
def Iz:=@List.mem_append_left
def Iy:=@Calls.Name_function_global
def Iw:=@PySem.W.cellsFrom_some
def Iv:=@List.getElem?_take_of_lt
def Iu:=@subscriptTail_builtinR
def Ir:=@F.entry_list_append
def Iq:=@F.args_list_append_2
def Ip:=@wpAny_comprehension_free
def Io:=@List.getElem?_zipIdx
def Im:=@F.entry_tuple_iterator_next
def Il:=@F.args_tuple_iterator_next_1
def Ik:=@PySem.W.kas_swaps_map
def Ij:=@List.take_set_of_le
def Ii:=@List.drop_set_of_lt
def Ih:=@List.take_succ_cons
def Ig:=@List.Perm.eq_of_pairwise
def MZ:=@List.pairwise_lt_range
def Ie:=@Heap.get?_update_ne
def Ic:=@List.length_reverse
def Ib:=@List.mem_erase_of_ne
def Ia:=@List.filterMap_append
def H9:=@List.perm_append_singleton
def HZ:=@Array.getElem?_replicate
def HY:=@builtinLookup_eq_fast
def HX:=@PySem.F.slot_set_iter
def HW:=@PySem.F.entry_proto_collect
def HV:=@PySem.F.plain_proto_collect
def HU:=@PySem.F.entry_list_iadd
def HS:=@PySem.F.plain_extend_loop
def HR:=@codeAny_extend_loopS
def HQ:=@PyProof.Rows.F.entry_set_update_loop
def HP:=@PySem.F.plain_set_new
def HN:=@PySem.F.slot_dict_iter
def HM:=@PySem.F.entry_dict_keyiterator_next
def HL:=@PySem.F.args_dict_keyiterator_next_1
def HK:=@wpAny_isOneOf_keyiter
def PL:=@Array.toList_eq_nil_iff
def PK:=@List.filter_eq_self
def HJ:=@List.length_filter_le
end
namespace TT
open PySem
noncomputable def adv(mask:Nat)(p:SetTable.Probe):SetTable.Probe:=
 if p.more>0 then {p with j:=p.j+1,more:=p.more-1} else
 {p with j:=(SetTable.leap mask p.i p.perturb).1,more:=SetTable.runEnd mask (SetTable.leap mask p.i p.perturb).1-(SetTable.leap mask p.i p.perturb).1,i:=(SetTable.leap mask p.i p.perturb).1,perturb:=(SetTable.leap mask p.i p.perturb).2}
noncomputable def stt(mask:Nat)(h:Int):SetTable.Probe:={j:=SetTable.bits h%(mask+1),more:=SetTable.runEnd mask (SetTable.bits h%(mask+1))-SetTable.bits h%(mask+1),i:=SetTable.bits h%(mask+1),perturb:=SetTable.bits h,dummy:=none}
noncomputable def pr(mask:Nat)(h:Int):Nat->SetTable.Probe
 |0=>stt mask h
 |n+1=>adv mask (pr mask h n)
structure TabOk(hs:gU)(t:kA):Prop where
 pow: ∃k,3<=k/\k<=11/\t.mask+1=2^k
 dum:t.dummies= #[]
 len:t.place.size=hs.length
 room:5*hs.length<3*t.mask
 ris:t.place.toList.Pairwise (· < ·)
 bd: ∀j∈t.place.toList,j<=t.mask
 road: ∀(i:Nat) (h:Int) (j:Nat),hs[i]?=some h->t.place[i]?=some j-> ∃n,(pr t.mask h n).j=j/\ ∀m,m<n->(pr t.mask h m).j∈t.place.toList
end TT
namespace L2
open PySem PySem.Spec PyProof.Rows
abbrev Key:=Sum Int Str
noncomputable def xS:Key->Value->Bool
 | .inl k,v=>Value.isInt k v
 | .inr x,v=>Value.isStrOf x v
noncomputable def SW(w:gH):Key->Int
 | .inl k=>hashInt k
 | .inr x=>hashStr w x
theorem jj: ∀{k:Key} {v:gB},xS k v=true->(∃i t,k=Sum.inl i/\v=Value.int i t)\/(∃x t,k=Sum.inr x/\v=Value.str x t)
 | .inl i,v,h=>by
  obtain⟨t,e⟩:=Value.isInt_shape (k:=i) (v:=v) h;exact .inl ⟨i,t,rfl,e⟩
 | .inr x,v,h=>by
  obtain⟨t,e⟩:=Value.isStrOf_shape (x:=x) (v:=v) h;exact .inr ⟨x,t,rfl,e⟩
theorem Hm(i:Int)(t:Tok):xS (.inl i) (.int i t)=true:=by simp[xS,Value.isInt]
theorem Hl(x:Str)(t:Tok):xS (.inr x) (.str x t)=true:=by simp[xS,Value.isStrOf]
theorem Kn(a b:Int):decide ((Sum.inl a:Key)=Sum.inl b)=(a==b):=by
 by_cases e:a=b
 ·subst e;simp
 ·have h: ¬(Sum.inl a:Key)=Sum.inl b:=fun q=>e (Sum.inl.inj q);rw[mx h];exact(yG.mpr e).symm
theorem Kk(a b:Str):decide ((Sum.inr a:Key)=Sum.inr b)=decide (a=b):=by
 by_cases e:a=b
 ·subst e;simp
 ·have h: ¬(Sum.inr a:Key)=Sum.inr b:=fun q=>e (Sum.inr.inj q);rw[mx h,mx e]
theorem Km(a:Int)(b:Str):decide ((Sum.inl a:Key)=Sum.inr b)=false:=mx (fun q=>nomatch q)
theorem Kl(a:Str)(b:Int):decide ((Sum.inr a:Key)=Sum.inl b)=false:=mx (fun q=>nomatch q)
noncomputable def kb(prog:gP)(w:gH):PySem.KeyKind prog w Key where
 is:=xS
 hash:=SW w
 inj:=fun v a b ha hb=>by
  rcases jj ha with⟨i,t,rfl,rfl⟩|⟨x,t,rfl,rfl⟩
  ·rcases jj hb with⟨j,u,rfl,e⟩|⟨y,u,rfl,e⟩
   ·injection e with e1 _;rw[e1]
   ·exact nomatch e
  ·rcases jj hb with⟨j,u,rfl,e⟩|⟨y,u,rfl,e⟩
   ·exact nomatch e
   ·injection e with e1 _;rw[e1]
 byValue:=fun k v h=>by
  rcases jj h with⟨i,t,rfl,rfl⟩|⟨x,t,rfl,rfl⟩<;>rfl
 pyHash:=fun hv h=>by
  rcases jj hv with⟨i,t,rfl,rfl⟩|⟨x,t,rfl,rfl⟩
  ·exact D9 h
  ·exact wpAny_pyHash_str h
 eqBool:=fun hu hv h=>by
  rcases jj hu with⟨i,t,rfl,rfl⟩|⟨x,t,rfl,rfl⟩
  ·rcases jj hv with⟨j,u,rfl,rfl⟩|⟨y,u,rfl,rfl⟩
   ·rw[Kn] at h;exact wpAny_eqBool_int h
   ·rw[Km] at h;exact SeqAt.EqAt.int_str i t y u _ _ _ _ h
  ·rcases jj hv with⟨j,u,rfl,rfl⟩|⟨y,u,rfl,rfl⟩
   ·rw[Kl] at h;exact SeqAt.EqAt.str_int x t j u _ _ _ _ h
   ·rw[Kk] at h;exact wpAny_eqBool_str h
 «strs»:=fun k x t v h=>by
  rcases jj h with⟨i,u,rfl,e⟩|⟨y,u,rfl,e⟩
  ·exact nomatch e
  ·injection e with e1 _
   subst e1;cases v<;>rfl
theorem Cz(prog:gP)(w:gH)(i:Int)(t:Tok):(kb prog w).is (.inl i) (.int i t)=true:=Hm i t
theorem Cy(prog:gP)(w:gH)(x:Str)(t:Tok):(kb prog w).is (.inr x) (.str x t)=true:=Hl x t
inductive V where
 |non|bl(b:Bool)|int(i:Int)|str(x:Str)|byt(b:Array UInt8)|flt(b:UInt64)|ref(a:gn)|ty(n:String)
 deriving DecidableEq
def RelV:V->Value->Prop
 | .non,u=>u=Value.none
 | .bl b,u=>u=Value.bool b
 | .int i,u=> ∃t,u=Value.int i t
 | .str x,u=> ∃t,u=Value.str x t
 | .byt b,u=> ∃t,u=Value.bytes b t
 | .flt b,u=> ∃t,u=Value.float b t
 | .ref a,u=>u=Value.ref a
 | .ty n,u=>u=Value.type n
abbrev Vals:List V->List Value->Prop:=Paired RelV
theorem Vals.length{xs:List V}{us:iG}(r:Vals xs us):xs.length=us.length:=AJ r
theorem Vals.get: ∀{xs:List V} {us:iG} {i:Nat} {x:V},Vals xs us->xs[i]?=some x-> ∃u,us[i]?=some u/\RelV x u
 |_,_,_,_,.nil,e=>by simp at e
 |_,_,0,_,.cons r _,e=>by simp at e;subst e;exact⟨_,rfl,r⟩
 |_,_,i+1,x,.cons _ t,e=>by
  obtain⟨u,h1,h2⟩:=Vals.get (i:=i) (x:=x) t (by simpa using e);exact⟨u,by simpa using h1,h2⟩
theorem Vals.set{x:V}{u:gB}(r:RelV x u): ∀{xs:List V} {us:iG} (i:Nat),Vals xs us->Vals (xs.set i x) (us.set i u)
 |_,_,_,.nil=> .nil
 |_,_,0,.cons _ t=> .cons r t
 |_,_,i+1,.cons q t=> .cons q (Vals.set r i t)
theorem Vals.append: ∀{xs ys:List V} {us ws:iG},Vals xs us->Vals ys ws->Vals (xs++ys) (us++ws)
 |_,_,_,_,.nil,s=>s
 |_,_,_,_,.cons r t,s=> .cons r (Vals.append t s)
theorem Vals.take: ∀{xs:List V} {us:iG} (n:Nat),Vals xs us->Vals (xs.take n) (us.take n)
 |_,_,0,_=> .nil
 |_,_,_+1,.nil=> .nil
 |_,_,n+1,.cons r t=> .cons r (Vals.take n t)
theorem Vals.drop: ∀{xs:List V} {us:iG} (n:Nat),Vals xs us->Vals (xs.drop n) (us.drop n)
 |_,_,0,r=>r
 |_,_,_+1,.nil=> .nil
 |_,_,n+1,.cons _ t=>Vals.drop n t
def RelO:Option V->Option Value->Prop
 |some v,some u=>RelV v u
 |none,none=>True
 |_,_=>False
def KV{κ:Type}:List (κ×V)->List (κ×Value)->Prop:=Paired fun(p:κ×V) (q:κ×Value)=>p.1=q.1/\RelV p.2 q.2
noncomputable def kV:Key->V
 | .inl i=> .int i
 | .inr x=> .str x
inductive HO where
 /-- a list -/
 |lst(xs:List V)
 /-- a tuple(never changes) -/
 |tup(xs:List V)
 /-- a dict whose keys are ints and texts;one whose keys are tuples of ints and texts(the empty one is both) -/
 |dK(kvs:List (Key×V))|dT(kvs:List (List Key×V))
 /-- a set of ints:b6 members,b6 size -/
 |set (S:Int->Bool) (n:Nat)
 |stt (zs:List (Int×V))
 /-- an instance of the class at C,b6 dict at dx,b6 attributes -/
 |ins (C dx:gn) (fs:List (Str×V))
 /-- the dict of the instance at x -/
 |own (x:gn)
 /-- the dict of an exception -/
 |xd (fs:List (Str×V))
 /-- a bound method,f of x -/
 |met (f x:gn)
 /-- a range object lo,lo+1,.. below hi -/
 |rng (lo hi:Int)
 /-- a thing that is known to the object (the script;a dict while a loop walks it):read,never written while it is so -/
 |frz (o:Obj) (u:HO)
 /-- a code object's table -/
 |tbl (ps:jS)
 /-- any other thing,by what is true of b6 one object (a def of one's own:SetO a S n:=HO.ext fun h=> ..) -/
 |ext (φ:Heap->Prop)
abbrev Hp:=Addr->Option HO
noncomputable def upd(H:Hp)(a:gn)(o:HO):Hp:=fun b=>if b=a then some o else H b
theorem ik{H:Hp}{a:gn}{o:HO}:upd H a o a=some o:=by unfold upd;rw[gu rfl]
theorem iq{H:Hp}{a b:gn}{o:HO}(h:b≠a):upd H a o b=H b:=by unfold upd;rw[gv h]
theorem FG{H:Hp}{a:gn}{o u:HO}:upd (upd H a o) a u=upd H a u:=by
 funext b;unfold upd;split<;>rfl
theorem Nd{H:Hp}{a b:gn}{o u:HO}(h:H a=some o)(h':H b=some u)(d:o≠u):a≠b:=by
 intro e;subst e;rw[h] at h';exact d (iE h')
theorem lA{H:Hp}{a b:gn}{o:HO}(h:H a=some o)(h':H b=none):a≠b:=by
 intro e;subst e;rw[h] at h';cases h'
section
variable(P:gP)(w:gH)
def ObjOk(H:Hp)(h:gQ)(a:gn):HO->Prop
 | .lst xs=>xs.length<=sizeLine/\ ∃(b6:iG) (n:Nat),Vals xs b6/\h.get? a=some {cls:= .type "list",data:= .seq b6.toArray n}
 | .tup xs=>xs.length<=sizeLine/\ ∃b6:List Value,Vals xs b6/\IsTup h a b6.toArray
 | .dK kvs=>kvs.length<=sizeLine/\(a==sysModules)=false/\ ∃vs,KV kvs vs/\h.DictOf (kb P w) a vs
 | .dT kvs=>kvs.length<=sizeLine/\(a==sysModules)=false/\ ∃xs:List (List Key×Addr×Value),
   Paired (fun(p:List Key×V) (q:List Key×Addr×Value)=>p.1=q.1/\H q.2.1=some (.tup (p.1.map kV))/\RelV p.2 q.2.2) kvs xs/\
   ∃o es ep,h.get? a=some o/\o.ExactDict/\o.data= .dict es ep/\es.toList=xs.map (entryOfKey (tupleKind (kb P w)))/\(xs.map (·.1)).Nodup
 | .set S n=>h.SetOf (intKind P w) a S n
 | .stt zs=> ∃(es:mh) (n:Nat) (t:kA),h.get? a=some {cls:= .type "set",data:= .set es n t}/\Paired (fun(z:Int×V) (e:Int×Value)=>z.1=e.1/\RelV z.2 e.2) zs es.toList/\
   TT.TabOk (zs.map (·.1)) t/\t.plain=true/\t.led=!w.params.followText "set-order"
 | .ins C dx fs=>H dx=some (.own a)/\fs.length<=1000/\dx≠a/\h.get? a=some (PySem.W.instObj C dx)/\
   ∃mA,h.Ns1 dx mA/\(∀f,RelO (fs.lookup f) (mA f))/\PySem.Within mA (fs.map (·.1))
 | .own _=> ∃o,h.get? a=some o
 | .xd fs=> ∃mA,h.Ns1 a mA/\ ∀f,RelO (fs.lookup f) (mA f)
 | .rng lo hi=> ∃t u v,h.get? a=some {cls:= .type "range",data:= .fields #[.int lo t,.int hi u,.int 1 v]}
 | .frz o u=>h.get? a=some o/\ObjOk H h a u
 | .tbl ps=>h.get? a=some {cls:= .none,data:= .fields ps}
 | .met f x=>h.get? a=some (PySem.W.methodObj (.ref f) (.ref x))
 | .ext φ=>φ h/\(∃o,h.get? a=some o)/\ ∀h1 h2:Heap,φ h1->(∀o,h1.get? a=some o->h2.get? a=some o)->φ h2
def HOk(H:Hp)(h:gQ):Prop:= ∀a o,H a=some o->ObjOk P w H h a o
end
section
variable {P:gP}{w:gH}{H H':Hp}{h h':gQ}{a:gn}{o:HO}
theorem ObjOk.lt(x:ObjOk P w H h a o):a<h.objs.size:=by
 cases o with
 |lst xs=>obtain⟨_,_,_,_,e⟩:=x;exact hV e
 |tup xs=>obtain⟨_,_,_,p⟩:=x;exact p.lt
 |dK kvs=>obtain⟨_,_,_,_,o,_,_,e,_⟩:=x;exact hV e
 |dT kvs=>obtain⟨_,_,_,_,o,_,_,e,_⟩:=x;exact hV e
 |set S n=>obtain⟨o,_,_,_,e,_⟩:=x;exact hV e
 |stt zs=>obtain⟨_,_,_,e,_⟩:=x;exact hV e
 |ins C dx fs=>obtain⟨_,_,_,e,_⟩:=x;exact hV e
 |own y=>obtain⟨_,e⟩:=x;exact hV e
 |xd fs=>obtain⟨_,⟨_,_,_,e,_⟩,_⟩:=x;exact hV e
 |rng lo hi=>obtain⟨_,_,_,e⟩:=x;exact hV e
 |frz ob u=>obtain⟨e,_⟩:=x;exact hV e
 |tbl ps=>exact hV (show h.get? a=some _ from x)
 |met f y=>exact hV (show h.get? a=some _ from x)
 |ext φ=>obtain⟨_,⟨_,e⟩,_⟩:=x;exact hV e
theorem Paired.mapP{α β:Type}{F G:α->β->Prop}: ∀{l₁:List α} {l₂:List β},Paired F l₁ l₂->(∀a b,F a b->G a b)->Paired G l₁ l₂
 |_,_,.nil,_=> .nil
 |_,_,.cons r t,f=> .cons (f _ _ r) (Paired.mapP t f)
theorem ObjOk.stay(x:ObjOk P w H h a o)(k: ∀b u,(b=a\/H b=some (.own a))->h.get? b=some u->h'.get? b=some u)
  (ho: ∀b,H b=some (.own a)->H' b=some (.own a))(ht: ∀b xs,H b=some (.tup xs)->H' b=some (.tup xs)):ObjOk P w H' h' a o:=by
 induction o with
 |lst xs=>obtain⟨z,b6,n,r,e⟩:=x;exact⟨z,b6,n,r,k _ _ (.inl rfl) e⟩
 |tup xs=>obtain⟨z,b6,r,ob,e,c⟩:=x;exact⟨z,b6,r,ob,k _ _ (.inl rfl) e,c⟩
 |dK kvs=>obtain⟨z,y,vs,r,ob,es,ep,e,c⟩:=x;exact⟨z,y,vs,r,ob,es,ep,k _ _ (.inl rfl) e,c⟩
 |dT kvs=>
  obtain⟨z,y,xs,r,ob,es,ep,e,c⟩:=x;exact⟨z,y,xs,Paired.mapP r fun p q z=>⟨z.1,ht _ _ z.2.1,z.2.2⟩,ob,es,ep,k _ _ (.inl rfl) e,c⟩
 |set S n=>obtain⟨ob,es,ep,t,e,c⟩:=x;exact⟨ob,es,ep,t,k _ _ (.inl rfl) e,c⟩
 |stt zs=>obtain⟨es,n,t,e,c⟩:=x;exact⟨es,n,t,k _ _ (.inl rfl) e,c⟩
 |ins C dx fs=>
  obtain⟨d,z,ne,e,mA,⟨od,es,ep,e2,c⟩,r⟩:=x;exact⟨ho _ d,z,ne,k _ _ (.inl rfl) e,mA,⟨od,es,ep,k _ _ (.inr d) e2,c⟩,r⟩
 |own y=>obtain⟨ob,e⟩:=x;exact⟨ob,k _ _ (.inl rfl) e⟩
 |xd fs=>obtain⟨mA,⟨od,es,ep,e,c⟩,r⟩:=x;exact⟨mA,⟨od,es,ep,k _ _ (.inl rfl) e,c⟩,r⟩
 |rng lo hi=>obtain⟨t,u,v,e⟩:=x;exact⟨t,u,v,k _ _ (.inl rfl) e⟩
 |frz ob u ih=>obtain⟨e,q⟩:=x;exact⟨k _ _ (.inl rfl) e,ih q⟩
 |tbl ps=>
  have e:h.get? a=some {cls:= .none,data:= .fields ps}:=x;show h'.get? a=some {cls:= .none,data:= .fields ps};exact k a _ (.inl rfl) e
 |met f y=>
  have e:h.get? a=some (PySem.W.methodObj (.ref f) (.ref y)):=x;show h'.get? a=some (PySem.W.methodObj (.ref f) (.ref y));exact k a _ (.inl rfl) e
 |ext φ=>obtain⟨p,⟨o,e⟩,st⟩:=x;exact⟨st _ _ p fun o q=>k _ _ (.inl rfl) q,⟨o,k _ _ (.inl rfl) e⟩,st⟩
theorem HOk.lt(x:HOk P w H h)(e:H a=some o):a<h.objs.size:=(x a o e).lt
theorem HOk.fresh(x:HOk P w H h)(e:h.objs.size<=a):H a=none:=by
 cases q:H a with
 |none=>rfl
 |some u=>exact absurd (mw (x.lt q) e) (nV _)
theorem HOk.kept(x:HOk P w H h)(k: ∀b u,h.get? b=some u->h'.get? b=some u):HOk P w H h':=fun a o e=>
 (x a o e).stay (fun b u _ q=>k b u q) (fun _ q=>q) fun _ _ q=>q
theorem HOk.laid(x:HOk P w H h)(k: ∀b u,h.get? b=some u->h'.get? b=some u)(hp:h.objs.size<=a)(new:ObjOk P w (upd H a o) h' a o):HOk P w (upd H a o) h':=fun b u e=>by
 have hn:=x.fresh hp;by_cases hb:b=a
 ·subst hb;rw[ik] at e;cases e;exact new
 ·rw[iq hb] at e;exact(x b u e).stay (fun c v _ q=>k c v q) (fun c q=>by rw[iq (lA q hn)];exact q) fun c xs q=>by rw[iq (lA q hn)];exact q
end
def Rd(H:Hp)(a:gn)(u:HO):Prop:=H a=some u\/ ∃o,H a=some (.frz o u)
theorem Rd.ok{P:gP}{w:gH}{H:Hp}{h:gQ}{a:gn}{u:HO}(r:Rd H a u)(x:HOk P w H h):ObjOk P w H h a u:=by
 rcases r with r|⟨o,r⟩
 ·exact x a u r
 ·obtain⟨_,q⟩:=x a _ r;exact q
def Mut:Option HO->Prop
 |some (.lst _)=>True
 |some (.dK _)=>True
 |some (.dT _)=>True
 |some (.set _ _)=>True
 |some (.stt _)=>True
 |some (.ins _ _ _)=>True
 |some (.ext _)=>True
 |_=>False
section
variable {P:gP}{w:gH}{H:Hp}{h h':gQ}{x e:gn}{o':HO}
theorem HOk.write(ok:HOk P w H h)(mu:Mut (H x))(he:e=x\/H e=some (.own x))(k: ∀b u,b≠e->h.get? b=some u->h'.get? b=some u)(df: ∃u,h'.get? e=some u)
  (new:ObjOk P w (upd H x o') h' x o'):HOk P w (upd H x o') h':=fun b u q=>by
 have nown: ∀c y,H c=some (.own y)->c≠x:=fun c y r z=>by subst z;rw[r] at mu;exact mu
 have ntup: ∀c xs,H c=some (.tup xs)->c≠x:=fun c xs r z=>by subst z;rw[r] at mu;exact mu
 by_cases hb:b=x
 ·subst hb;rw[ik] at q;cases q;exact new
 ·rw[iq hb] at q;by_cases cO:b=e
  ·have q':H b=some (.own x):=by
    rcases he with z|z
    ·exact absurd (cO.trans z) hb
    ·rw[cO];exact z
   rw[q] at q';cases q';obtain⟨v,hv⟩:=df;exact⟨v,by rw[cO];exact hv⟩
  ·refine(ok b u q).stay (fun c v hc r=>k c v ?_ r) (fun c r=>by rw[iq (nown c b r)];exact r) fun c xs r=>by rw[iq (ntup c xs r)];exact r
   rcases hc with rfl|hc
   ·exact cO
   ·rintro rfl;rcases he with z|z
    ·exact nown c b hc z
    ·rw[hc] at z;cases z;exact hb rfl
end
structure Un(fs ex:jE)(H H':Hp)(h h':gQ):Prop where
 keep: ∀b o,h.get? b=some o->H b=none->b∉fs->b∉ex->h'.get? b=some o
 slot: ∀b o,h.get? b=some o->H b=none->b∈fs->b∉ex-> ∃sl,h'.get? b=some {o with slots:=sl}
 free: ∀b o,h.get? b=some o->H b=none->b∉ex->H' b=none
 there: ∀b o,h.get? b=some o->b∉ex-> ∃o',h'.get? b=some o'
 tups: ∀b xs,H b=some (.tup xs)->H' b=some (.tup xs)
 frzs: ∀b o u,H b=some (.frz o u)->H' b=some (.frz o u)
 tbls: ∀b ps,H b=some (.tbl ps)-> ∃more,H' b=some (.tbl (ps++more))
section
variable {fs fW ex ex':jE}{H H1 H2:Hp}{h h1 h2 h':gQ}{a x e:gn}{o:HO}
theorem Un.any(u:Un fs ex H H1 h h1){b:gn}{ob:Obj}(q:h.get? b=some ob)(n:H b=none)(hx:b∉ex): ∃sl,h1.get? b=some {ob with slots:=sl}:=by
 by_cases hb:b∈fs
 ·exact u.slot b ob q n hb hx
 ·exact⟨ob.slots,u.keep b ob q n hb hx⟩
theorem Un.kept(k: ∀b u,h.get? b=some u->h'.get? b=some u):Un fs ex H H h h':=
 ⟨fun b ob q _ _ _=>k b ob q,fun b ob q _ _ _=>⟨ob.slots,k b ob q⟩,fun _ _ _ n _=>n,fun b ob q _=>⟨ob,k b ob q⟩,fun _ _ q=>q,fun _ _ _ q=>q,fun _ ps q=>⟨#[],by rw[q];simp⟩⟩
theorem Un.refl:Un fs ex H H h h:=Un.kept fun _ _ q=>q
theorem Un.laid(k: ∀b u,h.get? b=some u->h'.get? b=some u)(hp:h.objs.size<=a)(hn:H a=none):Un fs ex H (upd H a o) h h' where
 keep:=fun b u q _ _ _=>k b u q
 slot:=fun b u q _ _ _=>⟨u.slots,k b u q⟩
 free:=fun b u q n _=>by rw[iq (iz (mw (hV q) hp))];exact n
 there:=fun b u q _=>⟨u,k b u q⟩
 tups:=fun b xs q=>by rw[iq (lA q hn)];exact q
 frzs:=fun b u xs q=>by rw[iq (lA q hn)];exact q
 tbls:=fun b ps q=>⟨#[],by rw[iq (lA q hn),q];simp⟩
theorem Un.write(mu:Mut (H x))(he:e=x\/H e=some (.own x))(k: ∀b u,b≠e->h.get? b=some u->h'.get? b=some u)(df: ∃u,h'.get? e=some u):Un fs ex H (upd H x o) h h':=by
 have hx: ∀b,H b=none->b≠x:=fun b n z=>by subst z;rw[n] at mu;exact mu
 have hb: ∀b,H b=none->b≠e:=fun b n z=>by
  subst z;rcases he with r|r
  ·exact hx b n r
  ·rw[n] at r;cases r
 have hm: ∀b u,H b=some u-> ¬Mut (some u)->b≠x:=fun b u q nm z=>by subst z;rw[q] at mu;exact nm mu
 refine⟨fun b u q n _ _=>k b u (hb b n) q,fun b u q n _ _=>⟨u.slots,k b u (hb b n) q⟩,fun b u q n _=>by rw[iq (hx b n)];exact n,fun b u q _=>?_,
  fun b xs q=>by rw[iq (hm b _ q fun z=>z)];exact q,fun b u xs q=>by rw[iq (hm b _ q fun z=>z)];exact q,fun b ps q=>⟨#[],by rw[iq (hm b _ q fun z=>z),q];simp⟩⟩
 by_cases cO:b=e
 ·subst cO;exact df
 ·exact⟨u,k b u cO q⟩
end
noncomputable def trk(h:gQ)(H:Hp):List Addr:=(List.range h.objs.size).filter fun a=>(H a).isSome
noncomputable def Bg(h:gQ)(H:Hp):Heap:=PySem.W.hideAll h (trk h H)
theorem Hs(h:gQ)(H:Hp):(Bg h H).objs.size=h.objs.size:=PySem.W.hideAll_size _ _
theorem Kv{h:gQ}{H:Hp}{b:gn}{o:Obj}(e:h.get? b=some o)(n:H b=none):(Bg h H).get? b=some o:=
 PySem.W.hideAll_get _ e fun hm=>by
  have q:(H b).isSome=true:=(Nr.mp hm).2;rw[n] at q;simp at q
theorem My{h:gQ}{H:Hp}{b:gn}{o:Obj}(e:(Bg h H).get? b=some o):h.get? b=some o/\H b=none:=by
 have e':h.get? b=some o:=PySem.W.of_hideAll (trk h H) e;refine⟨e',?_⟩
 cases q:H b with
 |none=>rfl
 |some x=>
  have hm:b∈trk h H:=Nr.mpr ⟨uH.mpr (hV e'),by simp[q]⟩;have z:(Bg h H).get? b=none:=PySem.W.hideAll_none (trk h H) hm;rw[z] at e;cases e
noncomputable def MT(g h:gQ)(L:gn):List (Addr×Obj):=(List.range h.objs.size).filterMap fun a=>if a=L\/(g.get? a).isSome=true then none else(h.get? a).map fun o=>(a,o)
noncomputable def gJ(g h:gQ)(L d:gn):List (Addr×Obj):=(MT g h L).filter fun p=>decide (p.1≠d)
structure Mod(K:gL)(mg:kO)(base:gQ):Prop where
 kin:K.In base
 glob:base.Ns mainGlobals mg
 blt: ∃mb,base.Ns builtinsNs mb/\ ∀x:Str,x≠"__name__"->mb x=bootBuiltins x
 nolimit:base.NoLimit
structure Cx where
 prog:Program
 w:World
 K:PySem.W.Frag
 mg:Str->Option Value
 base:Heap
 A:Around
 N:List Str
 s₀:Shared
 H₀:Hp
 env:Env
 outer:List Env
 stack:List Env
 ex:List Addr
 fn:Str->Bool
 calm:Bool
 pn:List (Addr×Obj)
 xe:Value->Shared->Prop
noncomputable def frs(l:List Env):List Addr:=l.filterMap (·.frame)
abbrev Cx.fs(X:Cx):List Addr:=frs X.outer
def Vis(sc:jD)(x:Str):Prop:=sc.names.lookup x=some .local\/sc.names.lookup x=some .cell\/sc.names.lookup x=some .free
def Loc(sc:jD)(x:Str):Prop:=sc.names.lookup x=some .local\/sc.names.lookup x=some .cell
def Tf(env:Env)(h:gQ)(m:kO)(x:Str)(u:gB):Prop:=
 (env.kindOf x=some .local/\m x=some u)\/((env.kindOf x=some .cell\/env.kindOf x=some .free)/\ ∃c,env.cells.lookup x=some c/\h.IsCell c (some u))
structure Cx.Ok(X:Cx):Prop where
 mod:Mod X.K X.mg X.base
 kind:X.env.scope.kind= .function
 glob:X.env.globals=mainGlobals
 blt:X.env.builtins=builtinsNs
 above:X.s₀.heap.objs.size<=X.env.locals
 inj: ∀x y c,X.env.cells.lookup x=some c->X.env.cells.lookup y=some c->x=y
 has: ∀x,(X.env.kindOf x=some .cell\/X.env.kindOf x=some .free)-> ∃c,X.env.cells.lookup x=some c
 cab: ∀x c,X.fn x=true->X.env.cells.lookup x=some c->X.s₀.heap.objs.size<=c
 hd:X.calm=true->X.A.handled=none
 frames:X.A.frames=some X.stack
 stk:X.stack=X.outer\/(X.stack=X.env::X.outer/\X.env.frame=some X.env.locals)
 exf: ∀b∈X.ex,b≠X.env.locals/\ ∀x c,X.env.cells.lookup x=some c->c≠b
 bs: ∀b o,X.base.get? b=some o->X.s₀.heap.get? b=some o/\X.H₀ b=none
 bsz:X.base.objs.size<=X.s₀.heap.objs.size
 noex: ∀b o,X.base.get? b=some o->b∉X.ex
 exfs: ∀b∈X.ex,b∉X.fs
 funs:X.s₀.heap.FunFrames X.base X.outer
 frf: ∀b∈X.fs,X.H₀ b=none
structure Inv(X:Cx)(pins:hJ)(σ:List (Option V))(H:Hp)(s:gr):Prop where
 ok:X.Ok
 os:s.os=X.s₀.os
 bare:AllBare s.gens
 base:Un X.fs X.ex X.H₀ H X.s₀.heap s.heap
 loc: ∃m,s.heap.Ns X.env.locals m/\ ∀(i:Nat) (x:Str) (v:V),X.N[i]?=some x->σ[i]?=some (some v)->Vis X.env.scope x-> ∃u,RelV v u/\Tf X.env s.heap m x u
 cell: ∀x c,X.env.cells.lookup x=some c-> ∃v,s.heap.IsCell c v
 free:H X.env.locals=none
 freeC: ∀x c,X.env.cells.lookup x=some c->H c=none
 pin: ∀p∈X.pn++pins,s.heap.get? p.1=some p.2/\H p.1=none/\p.1≠X.env.locals/\p.1∉X.fs/\ ∀v,p.2.data≠ .cell v
 hok:HOk X.prog X.w H s.heap
 len:σ.length=X.N.length
section
variable {X:Cx}{pins:hJ}{σ:List (Option V)}{H H':Hp}{s:gr}{h':gQ}
theorem Cx.Ok.nofr(ok:X.Ok){b:gn}{o:Obj}(e:X.base.get? b=some o):b∉X.fs:=fun hb=>by
 have:=(ok.funs.mem hb).1;rw[e] at this;cases this
theorem Inv.bs(I:Inv X pins σ H s): ∀b o,X.base.get? b=some o->s.heap.get? b=some o/\H b=none:=fun b o e=>
 ⟨I.base.keep b o (I.ok.bs b o e).1 (I.ok.bs b o e).2 (I.ok.nofr e) (I.ok.noex b o e),I.base.free b o (I.ok.bs b o e).1 (I.ok.bs b o e).2 (I.ok.noex b o e)⟩
theorem Inv.bk(I:Inv X pins σ H s): ∀b o,X.base.get? b=some o->s.heap.get? b=some o:=fun b o e=>(I.bs b o e).1
theorem Inv.mod(I:Inv X pins σ H s):Mod X.K X.mg X.base:=I.ok.mod
theorem Inv.kIn(I:Inv X pins σ H s):X.K.In s.heap:=I.ok.mod.kin.keeps I.bk
theorem Inv.lt(I:Inv X pins σ H s):X.env.locals<s.heap.objs.size:=let⟨_,hn,_⟩:=I.loc;hn.lt
theorem Inv.sz(I:Inv X pins σ H s):X.s₀.heap.objs.size<=s.heap.objs.size:=kM I.ok.above (AI I.lt)
theorem Inv.nofs(I:Inv X pins σ H s){a:gn}(h:s.heap.objs.size<=a):a∉X.fs:=fun hb=>by
 obtain⟨_,o,ho,_⟩:=I.ok.funs.mem hb;exact absurd (mw (hV ho) (kM I.sz h)) (nV _)
theorem Inv.cne(I:Inv X pins σ H s): ∀x c,X.env.cells.lookup x=some c->c≠X.env.locals:=fun x c e z=>by
 obtain⟨v,o,ho,hd⟩:=I.cell x c e;obtain⟨m,⟨o',es,ep,aS,cM,_⟩,_⟩:=I.loc;rw[z,aS] at ho;cases ho;rw[cM] at hd;cases hd
theorem Inv.funs(I:Inv X pins σ H s):s.heap.FunFrames X.base X.outer:=by
 have all: ∀(l:List Env),(∀b∈frs l,b∈X.fs)->X.s₀.heap.FunFrames X.base l->s.heap.FunFrames X.base l:=by
  intro l
  induction l with
  |nil=>intro _ _;trivial
  |cons env r ih=>
   intro hs hl;obtain⟨hk,⟨L,o,hf,hn,ho,hd⟩,hr⟩:=hl;have hL:L∈X.fs:=hs L (by unfold frs;rw[tJ,hf];exact iR);obtain⟨sl,e⟩:=I.base.slot L o ho (I.ok.frf L hL) hL fun z=>I.ok.exfs L z hL;exact⟨hk,⟨L,_,hf,hn,e,hd⟩,ih (fun b hb=>hs b (by unfold frs;rw[tJ,hf];exact iT _ hb)) hr⟩
 exact all X.outer (fun _ hb=>hb) I.ok.funs
theorem Inv.stack(I:Inv X pins σ H s):s.heap.FunFrames X.base X.stack:=by
 rcases I.ok.stk with e|⟨e,hf⟩
 ·rw[e];exact I.funs
 ·rw[e];obtain⟨m,hn,_⟩:=I.loc;refine .cons (by rw[I.ok.kind];decide) hf hn ?_ I.funs;exact Heap.get?_none_of_le (kM I.ok.bsz I.ok.above)
theorem Inv.stkSub(I:Inv X pins σ H s): ∀b∈frs X.stack,b∈X.env.locals::X.fs:=fun b hb=>by
 rcases I.ok.stk with e|⟨e,hf⟩
 ·rw[e] at hb;exact iT _ hb
 ·rw[e] at hb;unfold frs at hb;rw[tJ,hf] at hb;exact hb
theorem Inv.stkFree(I:Inv X pins σ H s): ∀b∈frs X.stack,H b=none:=fun b hb=>by
 rcases jg.mp (I.stkSub b hb) with e|hb
 ·rw[e];exact I.free
 ·obtain⟨_,o,ho,_⟩:=I.ok.funs.mem hb;exact I.base.free b o ho (I.ok.frf b hb) fun z=>I.ok.exfs b z hb
theorem Inv.step{g':Array GenState}{t':Nat}{d':Drawn}{ch:jE}(I:Inv X pins σ H s)
  (bz: ∀b∈ch,(b∈X.ex\/X.s₀.heap.objs.size<=b)/\b≠X.env.locals/\(∀x c,X.env.cells.lookup x=some c->c≠b)/\ ∀p∈X.pn++pins,p.1≠b)
  (keep: ∀b o,b≠X.env.locals->b∉X.fs->b∉ch->s.heap.get? b=some o->H b=none->h'.get? b=some o)
  (slot: ∀b o,b≠X.env.locals->b∈X.fs->b∉ch->s.heap.get? b=some o->H b=none-> ∃sl,h'.get? b=some {o with slots:=sl})(free: ∀b o,b∉ch->s.heap.get? b=some o->H b=none->H' b=none)
  (there: ∀b o,b∉ch->s.heap.get? b=some o-> ∃o',h'.get? b=some o')
  (tups: ∀b xs,H b=some (.tup xs)->H' b=some (.tup xs))(frzs: ∀b o u,H b=some (.frz o u)->H' b=some (.frz o u))(tbls: ∀b ps,H b=some (.tbl ps)-> ∃more,H' b=some (.tbl (ps++more)))
  (ns: ∀m,s.heap.Ns X.env.locals m->h'.Ns X.env.locals m)(hok:HOk X.prog X.w H' h')(hg:AllBare g'):
  Inv X pins σ H' {s with heap:=h',gens:=g',drawn:=d',toks:=t'}:=by
 have neL: ∀b o,X.s₀.heap.get? b=some o->b≠X.env.locals:=fun b o e=>iz (mw (hV e) I.ok.above)
 have eu: ∀b o,X.s₀.heap.get? b=some o->b∉X.ex->b∉ch:=fun b o e hx hb=>by
  rcases(bz b hb).1 with z|z
  ·exact hx z
  ·exact absurd (mw (hV e) z) (nV _)
 have cellK: ∀x c,X.env.cells.lookup x=some c-> ∀v,s.heap.IsCell c v->h'.IsCell c v:=fun x c e v ⟨o,ho,hd⟩=>by
  have aP:c∉ch:=fun z=>(bz c z).2.2.1 x c e rfl;by_cases hc:c∈X.fs
  ·obtain⟨sl,q⟩:=slot c o (I.cne x c e) hc aP ho (I.freeC x c e);exact⟨_,q,hd⟩
  ·exact⟨o,keep c o (I.cne x c e) hc aP ho (I.freeC x c e),hd⟩
 refine⟨I.ok,I.os,hg,⟨fun b o e n hb hx=>?_,fun b o e n hb hx=>?_,fun b o e n hx=>?_,fun b o e hx=>?_,fun b xs e=>tups b xs (I.base.tups b xs e),fun b o xs e=>frzs b o xs (I.base.frzs b o xs e),fun b ps e=>?_⟩,?_,fun x c e=>?_,?_,fun x c e=>?_,fun p hp=>?_,hok,I.len⟩
 ·exact keep b o (neL b o e) hb (eu b o e hx) (I.base.keep b o e n hb hx) (I.base.free b o e n hx)
 ·obtain⟨sl,e1⟩:=I.base.slot b o e n hb hx;obtain⟨sl',e2⟩:=slot b _ (neL b o e) hb (eu b o e hx) e1 (I.base.free b o e n hx);exact⟨sl',e2⟩
 ·obtain⟨o',e1⟩:=I.base.there b o e hx;exact free b o' (eu b o e hx) e1 (I.base.free b o e n hx)
 ·obtain⟨o',e1⟩:=I.base.there b o e hx;exact there b o' (eu b o e hx) e1
 ·obtain⟨m1,e1⟩:=I.base.tbls b ps e;obtain⟨m2,e2⟩:=tbls b _ e1;exact⟨m1++m2,by rw[e2,Array.append_assoc]⟩
 ·obtain⟨m,hn,hl⟩:=I.loc;refine⟨m,ns m hn,fun i x v e1 e2 e3=>?_⟩;obtain⟨u,r,l⟩:=hl i x v e1 e2 e3;refine⟨u,r,?_⟩;rcases l with l|⟨k,c,e,z⟩
  ·exact .inl l
  ·exact .inr ⟨k,c,e,cellK x c e _ z⟩
 ·obtain⟨v,z⟩:=I.cell x c e;exact⟨v,cellK x c e v z⟩
 ·obtain⟨m,⟨o,_,_,ho,_⟩,_⟩:=I.loc;exact free _ o (fun z=>(bz _ z).2.1 rfl) ho I.free
 ·obtain⟨v,o,ho,hd⟩:=I.cell x c e;exact free c o (fun z=>(bz c z).2.2.1 x c e rfl) ho (I.freeC x c e)
 ·obtain⟨e,n,ne,nf,d⟩:=I.pin p hp;have aP:p.1∉ch:=fun z=>(bz p.1 z).2.2.2 p hp rfl;exact⟨keep p.1 p.2 ne nf aP e n,free p.1 p.2 aP e n,ne,nf,d⟩
theorem Inv.un{t':Nat}(I:Inv X pins σ H s)(u:Un X.fs [] H H' s.heap h')(hok:HOk X.prog X.w H' h'):Inv X pins σ H' {s with heap:=h',toks:=t'}:=by
 obtain⟨m,⟨o,es,ep,ho,r⟩,_⟩:=id I.loc;obtain⟨sl,hL⟩:=u.any ho I.free (by simp)
 exact I.step (g':=s.gens) (d':=s.drawn) (ch:=[]) (fun _ z=>nomatch z) (fun b o _ hb _ e n=>u.keep b o e n hb (by simp)) (fun b o _ hb _ e n=>u.slot b o e n hb (by simp)) (fun b o _ e n=>u.free b o e n (by simp)) (fun b o _ e=>u.there b o e (by simp)) u.tups u.frzs u.tbls (fun m' hm=>by
  obtain⟨o',es',fZ,aS,r'⟩:=hm;rw[ho] at aS;cases aS;exact⟨_,es',fZ,hL,r'⟩) hok I.bare
theorem Inv.call{g':Array GenState}{t':Nat}{d':Drawn}{ch:jE}(I:Inv X pins σ H s)(u:Un (frs X.stack) ch H H' s.heap h')(hok:HOk X.prog X.w H' h')(hg:AllBare g')
  (bz: ∀b∈ch,(b∈X.ex\/X.s₀.heap.objs.size<=b)/\b≠X.env.locals/\(∀x c,X.env.cells.lookup x=some c->c≠b)/\ ∀p∈X.pn++pins,p.1≠b):
  Inv X pins σ H' {s with heap:=h',gens:=g',drawn:=d',toks:=t'}:=by
 obtain⟨m,⟨o,es,ep,ho,r⟩,_⟩:=id I.loc;obtain⟨sl,hL⟩:=u.any ho I.free fun z=>(bz _ z).2.1 rfl
 exact I.step (ch:=ch) bz (fun b o hL hb hc e n=>u.keep b o e n (fun z=>(jg.mp (I.stkSub b z)).elim hL hb) hc) (fun b o _ _ hc e n=>u.any e n hc) (fun b o hc e n=>u.free b o e n hc) (fun b o hc e=>u.there b o e hc) u.tups u.frzs u.tbls (fun m' hm=>by
  obtain⟨o',es',fZ,aS,r'⟩:=hm;rw[ho] at aS;cases aS;exact⟨_,es',fZ,hL,r'⟩) hok hg
theorem Inv.turned{t':Nat}{it:gn}(I:Inv X pins σ H s)(k: ∀b o,b≠it->s.heap.get? b=some o->h'.get? b=some o)(hn:H it=none)(hL:it≠X.env.locals)
  (h1:it∈X.ex\/X.s₀.heap.objs.size<=it)(h2: ∀x c,X.env.cells.lookup x=some c->c≠it)(h3: ∀p∈X.pn++pins,p.1≠it):Inv X pins σ H {s with heap:=h',toks:=t'}:=by
 have nit: ∀b u,H b=some u->b≠it:=fun b u e z=>by rw[z,hn] at e;cases e
 refine I.step (g':=s.gens) (d':=s.drawn) (ch:=[it]) (fun b hb=>?_) (fun b o _ _ hc e _=>k b o (fun z=>hc (by simp[z])) e) (fun b o _ _ hc e _=>⟨o.slots,k b o (fun z=>hc (by simp[z])) e⟩) (fun _ _ _ _ n=>n)
  (fun b o hc e=>⟨o,k b o (fun z=>hc (by simp[z])) e⟩) (fun _ _ e=>e) (fun _ _ _ e=>e) (fun b ps e=>⟨#[],by rw[e];simp⟩) (fun m hm=>?_) (fun b u e=>?_) I.bare
 ·have e:b=it:=by simpa using hb
  subst e;exact⟨h1,hL,h2,h3⟩
 ·obtain⟨o,es,ep,ho,r⟩:=hm;exact⟨o,es,ep,k _ o (oX hL) ho,r⟩
 ·refine(I.hok b u e).stay (fun c v hc q=>k c v ?_ q) (fun _ q=>q) fun _ _ q=>q;rcases hc with z|z
  ·rw[z];exact nit b u e
  ·exact nit c _ z
theorem Inv.tok(I:Inv X pins σ H s)(t:Nat):Inv X pins σ H {s with toks:=t}:=I.un (h':=s.heap) (t':=t) Un.refl I.hok
theorem Inv.kept{t':Nat}(I:Inv X pins σ H s)(k: ∀b u,s.heap.get? b=some u->h'.get? b=some u):Inv X pins σ H {s with heap:=h',toks:=t'}:=I.un (Un.kept k) (I.hok.kept k)
theorem Inv.laid{a:gn}{o:HO}{t':Nat}(I:Inv X pins σ H s)(k: ∀b u,s.heap.get? b=some u->h'.get? b=some u)(hp:s.heap.objs.size<=a)(new:ObjOk X.prog X.w (upd H a o) h' a o):
  Inv X pins σ (upd H a o) {s with heap:=h',toks:=t'}:=I.un (Un.laid k hp (I.hok.fresh hp)) (I.hok.laid k hp new)
theorem Inv.write{x e:gn}{o:HO}{t':Nat}(I:Inv X pins σ H s)(mu:Mut (H x))(he:e=x\/H e=some (.own x))(k: ∀b u,b≠e->s.heap.get? b=some u->h'.get? b=some u)(df: ∃u,h'.get? e=some u)
  (new:ObjOk X.prog X.w (upd H x o) h' x o):Inv X pins σ (upd H x o) {s with heap:=h',toks:=t'}:=I.un (Un.write mu he k df) (I.hok.write mu he k df new)
theorem Inv.pins_of{pins':hJ}(I:Inv X pins σ H s)(h: ∀p∈pins',s.heap.get? p.1=some p.2/\H p.1=none/\p.1≠X.env.locals/\p.1∉X.fs/\ ∀v,p.2.data≠ .cell v):Inv X pins' σ H s:=
 ⟨I.ok,I.os,I.bare,I.base,I.loc,I.cell,I.free,I.freeC,fun p hp=>(mC.mp hp).elim (fun z=>I.pin p (Iz _ z)) (h p),I.hok,I.len⟩
theorem Cw{N:iw}(hN:N.Nodup){i j:Nat}{x:Str}(a:N[i]?=some x)(b:N[j]?=some x):i=j:=by
 obtain⟨h1,e1⟩:=uI.mp a;obtain⟨h2,e2⟩:=uI.mp b;exact(List.getElem_inj hN).mp (e1.trans e2.symm)
theorem GQ{M:Model}{A:gM}{E:hG}{i:Nat}{x:Str}{v:V}{u:gB}{Q:Unit->Shared->Prop}(I:Inv X pins σ H s)(hN:X.N.Nodup)(hi:X.N[i]?=some x)(hx:Loc X.env.scope x)(r:RelV v u)
  (h: ∀s',Inv X pins (σ.set i (some v)) H s'->(∃a,Heap.SameBut a s.heap s'.heap/\(a=X.env.locals\/X.env.cells.lookup x=some a))->Q () s')(hf:X.fn x=true\/X.env.scope.names.lookup x=some .local:=by first|exact .inl rfl|exact .inr rfl|assumption):wpAny M A (storeName X.env x u) Q E s:=by
 obtain⟨m,hn,hl⟩:=id I.loc;have hcls:(X.env.scope.kind== .class||(X.env.scope.kind== .module&&X.env.locals !=X.env.globals))=false:=by rw[I.ok.kind];rfl
 have hiσ:i<σ.length:=by rw[I.len];exact(uI.mp hi).1
 have cne:=I.cne
 have tracked: ∀{a:gn} {h':gQ},(∃o,s.heap.get? a=some o/\H a=none)->Heap.SameBut a s.heap h'->HOk X.prog X.w H h':=fun {a h'} ha hs b ob e=>by
  obtain⟨_,_,l8⟩:=ha;refine(I.hok b ob e).stay (fun c w' hc q=>(hs.2 c ?_).trans q) (fun _ q=>q) fun _ _ q=>q;rintro rfl;rcases hc with rfl|hc
  ·rw[l8] at e;cases e
  ·rw[l8] at hc;cases hc
 rcases hx with hk|hk
 ·refine wpAny_storeName_local hk hn (fun h' dJ hs=>?_) hcls;obtain⟨oL,_,_,hoL,_⟩:=id hn;refine h _ ⟨I.ok,I.os,I.bare,⟨fun b o e n hb hx=>?_,fun b o e n hb hx=>?_,I.base.free,fun b o e hx=>?_,I.base.tups,I.base.frzs,I.base.tbls⟩,⟨_,dJ,fun j y v' e1 e2 e3=>?_⟩,fun y c e=>?_,I.free,I.freeC,fun p hp=>?_,tracked ⟨oL,hoL,I.free⟩ hs,by simpa using I.len⟩ ⟨_,hs,.inl rfl⟩
  ·exact(hs.2 b (iz (mw (hV e) I.ok.above))).trans (I.base.keep b o e n hb hx)
  ·obtain⟨sl,e1⟩:=I.base.slot b o e n hb hx;exact⟨sl,(hs.2 b (iz (mw (hV e) I.ok.above))).trans e1⟩
  ·obtain⟨o',e1⟩:=I.base.there b o e hx;exact⟨o',(hs.2 b (iz (mw (hV e) I.ok.above))).trans e1⟩
  ·by_cases hj:j=i
   ·subst hj;rw[hi] at e1;cases e1;rw[pJ hiσ] at e2;cases e2;exact⟨u,r,.inl ⟨hk,by simp⟩⟩
   ·rw[rB (oX hj)] at e2;obtain⟨u',r',q⟩:=hl j y v' e1 e2 e3;refine⟨u',r',?_⟩;rcases q with⟨k,e⟩|⟨k,c,e,z⟩
    ·refine .inl ⟨k,?_⟩;have:y≠x:=fun e=>hj (Cw hN e1 (e▸hi));simp[this,e]
    ·exact .inr ⟨k,c,e,z.sameBut hs (cne y c e)⟩
  ·obtain⟨w',z⟩:=I.cell y c e;exact⟨w',z.sameBut hs (cne y c e)⟩
  ·obtain⟨e,n,ne,nf,d⟩:=I.pin p hp;exact⟨(hs.2 p.1 ne).trans e,n,ne,nf,d⟩
 ·have fL:X.fn x=true:=by
   rcases hf with z|z
   ·exact z
   ·rw[z] at hk;cases hk
  obtain⟨c,hc⟩:=I.ok.has x (.inl hk);obtain⟨w',z⟩:=I.cell x c hc;refine wpAny_storeName_cell I.ok.kind hk hc z (fun h' cN hs=>?_);obtain⟨oc,hoc,hocd⟩:=id z;refine h {s with heap:=h'} ⟨I.ok,I.os,I.bare,⟨fun b o e n hb hx=>?_,fun b o e n hb hx=>?_,I.base.free,fun b o e hx=>?_,I.base.tups,I.base.frzs,I.base.tbls⟩,⟨m,hn.sameBut hs (oX (cne x c hc)),fun j y v' e1 e2 e3=>?_⟩,fun y c' e=>?_,I.free,I.freeC,fun p hp=>?_,tracked ⟨oc,hoc,I.freeC x c hc⟩ hs,by simpa using I.len⟩ ⟨c,hs,.inr hc⟩
  ·exact(hs.2 b (iz (mw (hV e) (I.ok.cab x c fL hc)))).trans (I.base.keep b o e n hb hx)
  ·obtain⟨sl,e1⟩:=I.base.slot b o e n hb hx;exact⟨sl,(hs.2 b (iz (mw (hV e) (I.ok.cab x c fL hc)))).trans e1⟩
  ·obtain⟨o',e1⟩:=I.base.there b o e hx;exact⟨o',(hs.2 b (iz (mw (hV e) (I.ok.cab x c fL hc)))).trans e1⟩
  ·by_cases hj:j=i
   ·subst hj;rw[hi] at e1;cases e1;rw[pJ hiσ] at e2;cases e2;exact⟨u,r,.inr ⟨.inl hk,c,hc,cN⟩⟩
   ·rw[rB (oX hj)] at e2;obtain⟨u',r',q⟩:=hl j y v' e1 e2 e3;refine⟨u',r',?_⟩;rcases q with q|⟨k,c',e,z'⟩
    ·exact .inl q
    ·refine .inr ⟨k,c',e,z'.sameBut hs ?_⟩;rintro rfl;exact hj (Cw hN e1 (I.ok.inj _ _ _ e hc▸hi))
  ·by_cases hcc:c'=c
   ·subst hcc;exact⟨_,cN⟩
   ·obtain⟨w2,z2⟩:=I.cell y c' e;exact⟨w2,z2.sameBut hs hcc⟩
  ·obtain⟨e,n,ne,nf,d⟩:=I.pin p hp;refine⟨(hs.2 p.1 ?_).trans e,n,ne,nf,d⟩;intro q;rw[q,hoc] at e;have q':oc=p.2:=iE e;exact d w' (by rw[<-q'];exact hocd)
theorem BR{M:Model}{A:gM}{E:hG}{i:Nat}{x:Str}{v:V}{u:gB}{Q:Unit->Shared->Prop}(I:Inv X pins σ H s)(hN:X.N.Nodup)(hi:X.N[i]?=some x)(hx:Loc X.env.scope x)(r:RelV v u)
  (h: ∀s',Inv X pins (σ.set i (some v)) H s'->Q () s')(hf:X.fn x=true\/X.env.scope.names.lookup x=some .local:=by first|exact .inl rfl|exact .inr rfl|assumption):wpAny M A (storeName X.env x u) Q E s:=
 GQ I hN hi hx r (fun s' I' _=>h s' I') hf
theorem Inv.call'{s':gr}{ch:jE}(I:Inv X pins σ H s)(ho:s'.os=s.os)(u:Un (frs X.stack) ch H H' s.heap s'.heap)(hok:HOk X.prog X.w H' s'.heap)(hg:AllBare s'.gens)
  (bz: ∀b∈ch,(b∈X.ex\/X.s₀.heap.objs.size<=b)/\b≠X.env.locals/\(∀x c,X.env.cells.lookup x=some c->c≠b)/\ ∀p∈X.pn++pins,p.1≠b):Inv X pins σ H' s':=by
 obtain⟨h',g',d',t',o'⟩:=s';have e:o'=s.os:=ho;subst e;exact I.call (g':=g') (t':=t') (d':=d') u hok hg bz
end
abbrev XK:=Value->Option Addr->Hp->Prop
abbrev St:=List (Option V)
abbrev VK:=V->Hp->Prop
abbrev TE:=St->Hp->VK->Prop
abbrev TT:=St->Hp->(Bool->Hp->Prop)->Prop
abbrev TA:=St->Hp->(List V->Hp->Prop)->Prop
structure Ends where
 nx:St->Hp->Prop
 rt:VK
 bk:St->Hp->Prop:=fun _ _=>False
 ct:St->Hp->Prop:=fun _ _=>False
abbrev TS:=Ends->St->Hp->Prop
def EP(X:Cx)(pins:hJ)(σ:St)(Q:VK)(u:gB)(s':gr):Prop:= ∃v H',Inv X pins σ H' s'/\RelV v u/\Q v H'
def TP(X:Cx)(pins:hJ)(σ:St)(Q:Bool->Hp->Prop)(b:Bool)(s':gr):Prop:= ∃H',Inv X pins σ H' s'/\Q b H'
def AP(X:Cx)(pins:hJ)(σ:St)(Q:List V->Hp->Prop)(us:iG)(s':gr):Prop:= ∃vs H',Inv X pins σ H' s'/\Vals vs us/\Q vs H'
def SP(X:Cx)(pins:hJ)(D:Ends)(f:Flow)(s':gr):Prop:=
 match f with
 | .next=> ∃σ' H',Inv X pins σ' H' s'/\D.nx σ' H'
 | .brk=> ∃σ' H',Inv X pins σ' H' s'/\D.bk σ' H'
 | .cont=> ∃σ' H',Inv X pins σ' H' s'/\D.ct σ' H'
 | .ret u=> ∃v σ' H',Inv X pins σ' H' s'/\RelV v u/\D.rt v H'
def PE(X:Cx)(e:gC)(t:TE):Prop:=
 ∀(pins:hJ) (s:gr) (σ:St) (H:Hp) (Q:VK),Inv X pins σ H s->t σ H Q->wpAny (model X.prog X.w) X.A (eval e X.env) (EP X pins σ Q) X.xe s
def PT(X:Cx)(e:gC)(t:TT):Prop:=
 ∀(pins:hJ) (s:gr) (σ:St) (H:Hp) (Q:Bool->Hp->Prop),Inv X pins σ H s->t σ H Q->wpAny (model X.prog X.w) X.A (isTrue e X.env (eval e X.env)) (TP X pins σ Q) X.xe s
def PW(X:Cx)(e:gC)(t:TT):Prop:=
 ∀(whole:Sem Value) (pins:hJ) (s:gr) (σ:St) (H:Hp) (Q:Bool->Hp->Prop),Inv X pins σ H s->t σ H Q->wpAny (model X.prog X.w) X.A (isTrue e X.env whole) (TP X pins σ Q) X.xe s
theorem PW.pt{X:Cx}{e:gC}{t:TT}(h:PW X e t):PT X e t:=h _
def PA(X:Cx)(es:jl)(t:TA):Prop:=
 ∀(pos:Pos) (pins:hJ) (s:gr) (σ:St) (H:Hp) (Q:List V->Hp->Prop),Inv X pins σ H s->t σ H Q->wpAny (model X.prog X.w) X.A (spliced (backTo pos (starEach es X.env))) (AP X pins σ Q) X.xe s
def PS(X:Cx)(st:Stmt)(t:TS):Prop:=
 ∀(pins:hJ) (s:gr) (σ:St) (H:Hp) (D:Ends),Inv X pins σ H s->t D σ H->wpAny (model X.prog X.w) X.A (exec st X.env) (SP X pins D) X.xe s
def PSs(X:Cx)(st:List Stmt)(t:TS):Prop:=
 ∀(pins:hJ) (s:gr) (σ:St) (H:Hp) (D:Ends),Inv X pins σ H s->t D σ H->wpAny (model X.prog X.w) X.A (execs st X.env) (SP X pins D) X.xe s
theorem thn{α:Type}{t:Sem α}{Q Q':α->Shared->Prop}{M:Model}{A:gM}{E:hG}{s:gr}(h:wpAny M A t Q E s)(hQ: ∀a s,Q a s->Q' a s):wpAny M A t Q' E s:=oW h hQ fun _ _ x=>x
section
variable {X:Cx}
def RK(i:Nat):TE:=fun σ H Q=> ∃v,σ[i]?=some (some v)/\Q v H
noncomputable def tC(v:V):TE:=fun _ H Q=>Q v H
theorem Ez{i:Nat}{x:Str}{pos:Pos}(hN:X.N[i]?=some x)(hv:Vis X.env.scope x)(hd:(x==("__debug__":Str))=false:=by decide)(x8:(x==("__classdict__":Str))=false:=by decide):PE X (.Name x pos) (RK i):=by
 intro pins s σ H Q I h;obtain⟨v,e,h⟩:=h;obtain⟨m,hn,hl⟩:=I.loc;obtain⟨u,r,l⟩:=hl i x v hN e hv;have fin:EP X pins σ Q u s:=⟨v,H,I,r,h⟩
 rcases l with⟨hk,hm⟩|⟨hk,c,hc,ak⟩
 ·exact wpAny_Name (wpAny_loadName_local I.ok.kind hk hn hm fin) hd
 ·rcases hk with hk|hk
  ·exact wpAny_Name (wpAny_loadName_cell I.ok.kind hk hc ak fin) hd
  ·exact wpAny_Name (wpAny_loadName_free I.ok.kind hk hc ak fin x8) hd
theorem OB{i j pos}:PE X (.Constant (.int i) j pos) (tC (.int i)):=fun _ _ _ H _ I h=>wpAny_Constant_int ⟨.int i,H,I.tok _,⟨_,rfl⟩,h⟩
theorem Qw{b j pos}:PE X (.Constant (.bool b) j pos) (tC (.bl b)):=fun _ _ _ H _ I h=>Constant_bool ⟨.bl b,H,I,rfl,h⟩
theorem Oy{j pos}:PE X (.Constant .none j pos) (tC .non):=fun _ _ _ H _ I h=>Constant_none ⟨.non,H,I,rfl,h⟩
theorem Ov{x j pos}:PE X (.Constant (.str x) j pos) (tC (.str x)):=fun _ _ _ H _ I h=>Calls.Constant_str ⟨.str x,H,I.tok _,⟨_,rfl⟩,h⟩
def Gl(X:Cx)(x:Str):Prop:=X.env.kindOf x=some .globalImplicit
theorem Gg{E:hG}{pins:hJ}{s:gr}{σ:St}{H:Hp}{x:Str}{u:gB}{pos:Pos}{Q:hG}(I:Inv X pins σ H s)(hg:Gl X x)(hm:X.mg x=some u)(h:Q u s)
  (hd:(x==("__debug__":Str))=false:=by decide):wpAny (model X.prog X.w) X.A (eval (.Name x pos) X.env) Q E s:=
 Iy I.ok.kind hg (Calls.loadGlobal_global (by rw[I.ok.glob];exact I.mod.glob.keeps I.bk) hm h) hd
theorem vm{E:hG}{pins:hJ}{s:gr}{σ:St}{H:Hp}{x:Str}{u:gB}{pos:Pos}{Q:hG}(I:Inv X pins σ H s)(hg:Gl X x)(hm:X.mg x=none)(hv:bootBuiltins x=some u)(h:Q u s)
  (hn:x≠"__name__":=by decide)(hd:(x==("__debug__":Str))=false:=by decide):wpAny (model X.prog X.w) X.A (eval (.Name x pos) X.env) Q E s:=by
 obtain⟨mb,h1,h2⟩:=I.mod.blt;exact Iy I.ok.kind hg (Calls.loadGlobal_builtin (by rw[I.ok.glob];exact I.mod.glob.keeps I.bk) hm (by rw[I.ok.blt];exact h1.keeps I.bk) ((h2 x hn).trans hv) h) hd
theorem Ml{x:Str}{v:V}{u:gB}{pos:Pos}(hg:Gl X x)(hm:X.mg x=some u)(r:RelV v u)(hd:(x==("__debug__":Str))=false:=by decide):PE X (.Name x pos) (tC v):=
 fun _ _ _ H _ I h=>Gg I hg hm ⟨v,H,I,r,h⟩ hd
theorem AZ{x:Str}{v:V}{u:gB}{pos:Pos}(hg:Gl X x)(hm:X.mg x=none)(hv:bootBuiltins x=some u)(r:RelV v u)(hn:x≠"__name__":=by decide)(hd:(x==("__debug__":Str))=false:=by decide):PE X (.Name x pos) (tC v):=
 fun _ _ _ H _ I h=>vm I hg hm hv ⟨v,H,I,r,h⟩ hn hd
def t2I(ta tb:TE)(k:Int->Int->Hp->Prop):St->Hp->Prop:=fun σ H=>ta σ H fun x H1=>tb σ H1 fun y H2=> ∃i j,x= .int i/\y= .int j/\k i j H2
variable {a b:gC}{ta tb:TE}{pos:Pos}
noncomputable def tCmp(p:Int->Int->Bool)(ta tb:TE):TE:=fun σ H Q=>t2I ta tb (fun i j H2=>Q (.bl (p i j)) H2) σ H
def tB(t:TE):TT:=fun σ H Q=>t σ H fun x H1=> ∃c,x= .bl c/\Q c H1
theorem Og{e:gC}{t:TE}(h:PE X e t)(he: ∀whole,isTrue e X.env whole=(do let v <-whole;standAt e.pos;holding [v] (truthy v)):=by intro _;rfl):PT X e (tB t):=by
 intro pins s σ H Q I hw;refine isTrue_plain (thn (h pins s σ H _ I hw) fun v s1 ⟨x,H1,I1,r1,q1⟩=>?_) (he _);obtain⟨d,rfl,q⟩:=q1;cases r1;exact su ⟨H1,I1,q⟩
variable {tA tB':TT}{gJ:jl}
noncomputable def tOr(t u:TT):TT:=fun σ H Q=>t σ H fun c H1=>if c=true then Q true H1 else u σ H1 Q
noncomputable def tNot(t:TT):TT:=fun σ H Q=>t σ H fun c H1=>Q (!c) H1
theorem Oe(ha:PT X a tA):PW X (.BoolOp .Or [a] pos) tA:=by
 intro wh pins s σ H Q I h;refine isTrue_or (thn (ha pins s σ H Q I h) fun c s1 e=>?_)
 cases c with
 |false=>exact isTrue_or_nil e
 |true=>exact e
theorem Qq(ha:PT X a tA)(hb:PW X (.BoolOp .Or (b::gJ) pos) tB'):PW X (.BoolOp .Or (a::b::gJ) pos) (tOr tA tB'):=by
 intro wh pins s σ H Q I h;refine isTrue_or (thn (ha pins s σ H _ I h) fun c s1 ⟨H1,I1,q1⟩=>?_)
 cases c with
 |true=>exact⟨H1,I1,q1⟩
 |false=>exact hb wh pins s1 σ H1 Q I1 q1
theorem Oh(ha:PT X a tA):PT X (.UnaryOp .Not a pos) (tNot tA):=by
 intro pins s σ H Q I h;exact isTrue_not (ha pins s σ H (fun c H1=>Q (!c) H1) I h)
def P8(ta tb:TE):TE:=fun σ H Q=>ta σ H fun x H1=> ∃c,x= .bl c/\if c=true then tb σ H1 Q else Q (.bl false) H1
def PY(ta:TE):TE:=fun σ H Q=>ta σ H fun x H1=> ∃c,x= .bl c/\Q (.bl (!c)) H1
theorem Ow{op}{t:TE}(h:PE X a t):PE X (.BoolOp op [a] pos) t:=fun pins s σ H Q I hw=>BoolOp_one (h pins s σ H Q I hw)
theorem OC(ha:PE X a ta)(hb:PE X (.BoolOp .And (b::gJ) pos) tb):PE X (.BoolOp .And (a::b::gJ) pos) (P8 ta tb):=by
 intro pins s σ H Q I h;refine BoolOp_and (thn (ha pins s σ H _ I h) fun v s1 ⟨x,H1,I1,r1,q1⟩=>?_);obtain⟨c,rfl,q1⟩:=q1;cases r1;refine su ?_
 cases c with
 |true=>exact hb pins s1 σ H1 Q I1 q1
 |false=>exact⟨.bl false,H1,I1,rfl,q1⟩
theorem Ox(ha:PE X a ta):PE X (.UnaryOp .Not a pos) (PY ta):=by
 intro pins s σ H Q I h;refine UnaryOp_ (thn (ha pins s σ H _ I h) fun v s1 ⟨x,H1,I1,r1,q1⟩=>?_);obtain⟨c,rfl,q1⟩:=q1;cases r1;exact not_of (su ⟨.bl (!c),H1,I1,rfl,q1⟩)
noncomputable def tIf(t:TT)(ta tb:TE):TE:=fun σ H Q=>t σ H fun c H1=>if c=true then ta σ H1 Q else tb σ H1 Q
theorem JQ{c:gC}(hc:PT X c tA)(ha:PE X a ta)(hb:PE X b tb):PE X (.IfExp c a b pos) (tIf tA ta tb):=by
 intro pins s σ H Q I h;refine wpAny_IfExp (thn (hc pins s σ H _ I h) fun d s1 ⟨H1,I1,q1⟩=>?_)
 cases d with
 |true=>exact ha pins s1 σ H1 Q I1 q1
 |false=>exact hb pins s1 σ H1 Q I1 q1
end
def SqL(K:gL)(H:Hp)(a:gn)(xs:List V):Prop:=
 Rd H a (.lst xs)\/
  ∃(o:Obj) (b6:jS) (n:Nat),K.lookup a=some o/\o.cls= .type "list"/\o.dict=none/\o.data= .seq b6 n/\b6.size<=sizeLine/\Vals xs b6.toList
def SqT(K:gL)(H:Hp)(a:gn)(xs:List V):Prop:=
 Rd H a (.tup xs)\/
  ∃(o:Obj) (b6:jS) (n:Nat),K.lookup a=some o/\o.cls= .type "tuple"/\o.data= .seq b6 n/\b6.size<=sizeLine/\Vals xs b6.toList
noncomputable def Ta:Value->Option V
 | .none=>some .non
 | .bool b=>some (.bl b)
 | .int i _=>some (.int i)
 | .str x _=>some (.str x)
 | .bytes b _=>some (.byt b)
 | .float b _=>some (.flt b)
 | .ref a=>some (.ref a)
 | .type n=>some (.ty n)
 |_=>none
theorem RelV.abs{x:V}{u:gB}(r:RelV x u):Ta u=some x:=by
 cases x with
 |non=>cases r;rfl
 |bl _=>cases r;rfl
 |int _=>obtain⟨t,rfl⟩:=r;rfl
 |str _=>obtain⟨t,rfl⟩:=r;rfl
 |byt _=>obtain⟨t,rfl⟩:=r;rfl
 |flt _=>obtain⟨t,rfl⟩:=r;rfl
 |ref _=>cases r;rfl
 |ty _=>cases r;rfl
theorem RelV.inj{x y:V}{u:gB}(r:RelV x u)(q:RelV y u):x=y:=iE (r.abs.symm.trans q.abs)
theorem Vals.inj: ∀{xs ys:List V} {us:iG},Vals xs us->Vals ys us->xs=ys
 |_,_,_,.nil,.nil=>rfl
 |_,_,_,.cons r t,.cons r' t'=>by rw[r.inj r',Vals.inj t t']
section
variable {X:Cx}{pins:hJ}{σ:St}{H:Hp}{s:gr}{a:gn}{xs ys:List V}
theorem SqL.of{K:gL}(h:H a=some (.lst xs)):SqL K H a xs:= .inl (.inl h)
theorem Inv.list(I:Inv X pins σ H s)(h:SqL X.K H a xs): ∃b6:List Value,Vals xs b6/\PlainL s.heap a b6.toArray/\xs.length<=sizeLine:=by
 rcases h with h|⟨o,b6,n,hk,hc,hd,hs,hz,r⟩
 ·obtain⟨z,b6,n,r,e⟩:=h.ok I.hok;exact⟨b6,r,⟨_,n,e,rfl,rfl,rfl⟩,z⟩
 ·refine⟨b6.toList,r,⟨o,n,I.kIn a o hk,hc,hd,by simpa using hs⟩,?_⟩;have e:=r.length;simp only[iY] at e;omega
theorem Inv.tuple(I:Inv X pins σ H s)(h:SqT X.K H a xs): ∃b6:List Value,Vals xs b6/\IsTup s.heap a b6.toArray/\xs.length<=sizeLine:=by
 rcases h with h|⟨o,b6,n,hk,hc,hs,hz,r⟩
 ·obtain⟨z,b6,r,p⟩:=h.ok I.hok;exact⟨b6,r,p,z⟩
 ·refine⟨b6.toList,r,⟨o,I.kIn a o hk,hc,n,by simpa using hs⟩,?_⟩;have e:=r.length;simp only[iY] at e;omega
theorem Inv.list_inj(I:Inv X pins σ H s)(h:SqL X.K H a xs)(h':SqL X.K H a ys):xs=ys:=by
 obtain⟨b6,r,⟨o,n,e,_,_,d⟩,_⟩:=I.list h;obtain⟨its',r',⟨o',n',e',_,_,d'⟩,_⟩:=I.list h';rw[e] at e';cases e';rw[d] at d';injection d' with d1 _
 have:b6=its':=by simpa using rA Array.toList d1
 subst this;exact r.inj r'
theorem Inv.tuple_inj(I:Inv X pins σ H s)(h:SqT X.K H a xs)(h':SqT X.K H a ys):xs=ys:=by
 obtain⟨b6,r,⟨o,e,_,n,d⟩,_⟩:=I.tuple h;obtain⟨its',r',⟨o',e',_,n',d'⟩,_⟩:=I.tuple h';rw[e] at e';cases e';rw[d] at d';injection d' with d1 _
 have:b6=its':=by simpa using rA Array.toList d1
 subst this;exact r.inj r'
end
abbrev Cx.wish(X:Cx)(E:hG):Cx:={X with xe:=E}
abbrev Cx.nox(X:Cx):Cx:=X.wish fun _ _=>False
theorem Cx.Ok.wish{X:Cx}(ok:X.Ok)(E:hG):(X.wish E).Ok:=
 ⟨ok.mod,ok.kind,ok.glob,ok.blt,ok.above,ok.inj,ok.has,ok.cab,ok.hd,ok.frames,ok.stk,ok.exf,ok.bs,ok.bsz,ok.noex,ok.exfs,ok.funs,ok.frf⟩
theorem Cx.Ok.unwish{X:Cx}{E:hG}(ok:(X.wish E).Ok):X.Ok:=
 ⟨ok.mod,ok.kind,ok.glob,ok.blt,ok.above,ok.inj,ok.has,ok.cab,ok.hd,ok.frames,ok.stk,ok.exf,ok.bs,ok.bsz,ok.noex,ok.exfs,ok.funs,ok.frf⟩
section
variable {X:Cx}{pins:hJ}{σ:St}{H:Hp}{s:gr}{E:hG}
theorem Inv.wish(I:Inv X pins σ H s)(E:hG):Inv (X.wish E) pins σ H s:=⟨I.ok.wish E,I.os,I.bare,I.base,I.loc,I.cell,I.free,I.freeC,I.pin,I.hok,I.len⟩
theorem Inv.unwish(I:Inv (X.wish E) pins σ H s):Inv X pins σ H s:=⟨I.ok.unwish,I.os,I.bare,I.base,I.loc,I.cell,I.free,I.freeC,I.pin,I.hok,I.len⟩
theorem SP.unwish{D:Ends}{f:Flow}{s':gr}(h:SP (X.wish E) pins D f s'):SP X pins D f s':=by
 cases f with
 |next=>obtain⟨σ',H',I,q⟩:=h;exact⟨σ',H',I.unwish,q⟩
 |brk=>obtain⟨σ',H',I,q⟩:=h;exact⟨σ',H',I.unwish,q⟩
 |cont=>obtain⟨σ',H',I,q⟩:=h;exact⟨σ',H',I.unwish,q⟩
 |ret u=>obtain⟨v,σ',H',I,r,q⟩:=h;exact⟨v,σ',H',I.unwish,r,q⟩
theorem PSs.nox{st:List Stmt}{t:TS}(h:PSs X.nox st t):PSs X st t:=fun pins s σ H D I hw=>
 oW (h pins s σ H D (I.wish _) hw) (fun _ _ q=>q.unwish) fun _ _ z=>False.elim z
end
section
variable {X:Cx}{st:Stmt}{gJ:List Stmt}{t u:TS}{e:gC}{te:TE}{pos:Pos}
noncomputable def PZ:TS:=fun D σ H=>D.nx σ H
noncomputable def RM(t u:TS):TS:=fun D σ H=>t {D with nx:=u D} σ H
theorem Md:PSs X [] PZ:=fun _ _ σ H _ I h=>D8 ⟨σ,H,I,h⟩
theorem Jx(h1:PS X st t)(h2:PSs X gJ u):PSs X (st::gJ) (RM t u):=by
 intro pins s σ H D I h;refine wpAny_execs_cons (thn (h1 pins s σ H {D with nx:=u D} I h) fun f s1 q=>?_)
 cases f with
 |next=>
  obtain⟨σ',H',I',q⟩:=q;exact h2 pins s1 σ' H' D I' q
 |ret v=>exact q
 |brk=>exact q
 |cont=>exact q
theorem Inv.quiet{pins:hJ}{σ:St}{H:Hp}{s:gr}(I:Inv X pins σ H s):interactive X.env=false:=by simp[interactive,I.ok.kind]
noncomputable def P4(te:TE):TS:=fun D σ H=>te σ H fun _ H1=>D.nx σ H1
theorem Me(he:PE X e te)(hs:swapsWith e none pos.line X.env=pure false:=by rfl):PS X (.Expr e pos) (P4 te):=by
 intro pins s σ H D I h;exact wpAny_Expr_any (thn (he pins s σ H _ I h) fun v s1 ⟨x,H1,I1,r1,q1⟩=>⟨σ,H1,I1,q1⟩) I.quiet hs
noncomputable def RO(te:TE):TS:=fun D σ H=>te σ H D.rt
theorem Jz(he:PE X e te):PS X (.Return (some e) pos) (RO te):=by
 intro pins s σ H D I h;exact wpAny_Return_some (thn (he pins s σ H _ I h) fun v s1 ⟨x,H1,I1,r1,q1⟩=>⟨x,σ,H1,I1,r1,q1⟩)
noncomputable def RS(c:TT)(t u:TS):TS:=fun D σ H=>c σ H fun b H1=>if b=true then t D σ H1 else u D σ H1
theorem Qs{c:gC}{a b:List Stmt}{tc:TT}(hc:PT X c tc)(ha:PSs X a t)(hb:PSs X b u):PS X (.If c a b pos) (RS tc t u):=by
 intro pins s σ H D I h;refine wpAny_If (thn (hc pins s σ H _ I h) fun d s1 ⟨H1,I1,q1⟩=>?_)
 cases d with
 |true=>exact ha pins s1 σ H1 D I1 q1
 |false=>exact hb pins s1 σ H1 D I1 q1
end
abbrev TG:=V->St->Hp->(St->Hp->Prop)->Prop
abbrev TGs:=List V->St->Hp->(St->Hp->Prop)->Prop
def PG(X:Cx)(target:gC)(t:TG):Prop:=
 ∀(pins:hJ) (s:gr) (σ:St) (H:Hp) (v:V) (u:gB) (Q:St->Hp->Prop),Inv X pins σ H s->RelV v u->t v σ H Q->
  wpAny (model X.prog X.w) X.A (assign target X.env u) (fun _ s'=> ∃σ' H',Inv X pins σ' H' s'/\Q σ' H') X.xe s
def PGs(X:Cx)(ts:jl)(t:TGs):Prop:=
 ∀(pins:hJ) (s:gr) (σ:St) (H:Hp) (vs:List V) (us:iG) (Q:St->Hp->Prop),Inv X pins σ H s->Vals vs us->t vs σ H Q->
  wpAny (model X.prog X.w) X.A (assignInOrder ((assignEach ts X.env).map (·.2)) us) (fun _ s'=> ∃σ' H',Inv X pins σ' H' s'/\Q σ' H') X.xe s
abbrev MX:=V->V->V->Hp->(Hp->Prop)->Prop
def Pw(X:Cx)(t:MX):Prop:=
 ∀(pins:hJ) (s:gr) (σ:St) (H:Hp) (o i v:V) (ov iv u:gB) (Q:Hp->Prop),Inv X pins σ H s->RelV o ov->RelV i iv->RelV v u->t o i v H Q->
  wpAny (model X.prog X.w) X.A (setItem ov iv u) (fun _ s'=> ∃H',Inv X pins σ H' s'/\Q H') X.xe s
section
variable {X:Cx}{pos:Pos}
noncomputable def CQ(i:Nat):TG:=fun v σ H Q=>Q (σ.set i (some v)) H
theorem F3{i:Nat}{x:Str}(hN:X.N.Nodup)(hi:X.N[i]?=some x)(hx:Loc X.env.scope x)(hf:X.fn x=true\/X.env.scope.names.lookup x=some .local:=by first|exact .inl rfl|exact .inr rfl|assumption):PG X (.Name x pos) (CQ i):=by
 intro pins s σ H v u Q I r h;exact wpAny_assign_Name (BR I hN hi hx r (fun s' I'=>⟨_,H,I',h⟩) hf)
noncomputable def S9:TGs:=fun vs σ H Q=>vs=[]/\Q σ H
def Q2(t:TG)(u:TGs):TGs:=fun vs σ H Q=> ∃v r,vs=v::r/\t v σ H fun σ' H'=>u r σ' H' Q
theorem Mk:PGs X [] S9:=by
 intro pins s σ H vs us Q I r h;obtain⟨e,h⟩:=h;subst e;cases r;exact assignInOrder_nil ⟨σ,H,I,h⟩
theorem JM{e:gC}{es:jl}{t:TG}{u:TGs}(h1:PG X e t)(h2:PGs X es u)
  (hs:(assignEach (e::es) X.env).map (·.2)=assign e X.env::(assignEach es X.env).map (·.2):=by rfl):PGs X (e::es) (Q2 t u):=by
 intro pins s σ H vs us Q I r h;obtain⟨v,vr,e1,h⟩:=h;subst e1
 cases r with
 |cons r rr=>
  rw[hs];refine assignInOrder_cons (thn (h1 pins s σ H _ _ _ I r h) fun _ s1 ⟨σ1,H1,I1,q1⟩=>?_);exact h2 pins s1 σ1 H1 _ _ Q I1 rr q1
def S8(K:gL)(n:Nat)(t:TGs):TG:=fun v σ H Q=> ∃a xs,v= .ref a/\SqT K H a xs/\xs.length=n/\t xs σ H Q
theorem Ou{es:jl}{k:Nat}{t:TGs}{n:Nat}(hc:X.calm=true)(h:PGs X es t)
  (hn:(assignEach es X.env).length=n:=by rfl)(p9:(assignEach es X.env).findIdx? (·.1)=none:=by rfl):PG X (.Tuple es k pos) (S8 X.K n t):=by
 intro pins s σ H v u Q I r hw;obtain⟨a,xs,e1,hq,hl,hw⟩:=hw;subst e1;cases r;obtain⟨b6,rv,ht,hz⟩:=I.tuple hq;refine assign_Tuple_tuple (I.ok.hd hc) ht (by simp[hn,<-hl,rv.length]) p9 fun h' hx=>?_;have I1:Inv X pins σ H {s with heap:=h'}:=I.kept (t':=s.toks) fun b o e=>hx b o (iz (hV e)) e;exact h pins _ σ H xs _ Q I1 (by simpa using rv) hw
noncomputable def gSub(to ti:TE)(t:MX):TG:=fun v σ H Q=>to σ H fun o H1=>ti σ H1 fun i H2=>t o i v H2 fun H3=>Q σ H3
theorem JN{o i:gC}{to ti:TE}{t:MX}(ho:PE X o to)(hi:PE X i ti)(hs:Pw X t)
  (ha: ∀v,assign (.Subscript o i pos) X.env v=(do
   let ov <-holding [v] (eval o X.env)
   let iv <-holding [v,ov] (eval i X.env)
   standAt pos
   holding [v,ov,iv] (setItem ov iv v)
   release [v,ov,iv] []):=by intro _;rfl):PG X (.Subscript o i pos) (gSub to ti t):=by
 intro pins s σ H v u Q I r h;rw[ha];refine gi (lR (thn (ho pins s σ H _ I h) fun ov s1 ⟨x,H1,I1,r1,q1⟩=>?_));refine gi (lR (thn (hi pins s1 σ H1 _ I1 q1) fun iv s2 ⟨y,H2,I2,r2,q2⟩=>?_));refine gi (wR (gi (lR (thn (hs pins s2 σ H2 x y v ov iv u _ I2 r1 r2 r q2) fun _ s3 ⟨H3,I3,q3⟩=>?_))));exact wpAny_release ⟨σ,H3,I3,q3⟩
noncomputable def NG(te:TE)(g:TG):TS:=fun D σ H=>te σ H fun x H1=>g x σ H1 D.nx
theorem Et{tg e:gC}{te:TE}{g:TG}(he:PE X e te)(hg:PG X tg g)(hs:swapsWithSole [tg] e pos.line X.env=pure false:=by rfl)(hw:swappedStores [tg] e X.env=pure none:=by rfl)
  (h1:(assignEach [tg] X.env).map (·.2)=[assign tg X.env]:=by rfl):PS X (.Assign [tg] e pos) (NG te g):=by
 intro pins s σ H D I h;refine wpAny_Assign_stores (thn (he pins s σ H _ I h) fun v s1 ⟨x,H1,I1,r1,q1⟩=>?_) hs hw;rw[h1];exact thn (hg pins s1 σ H1 x v _ I1 r1 q1) fun _ s2 q=>q
theorem Oj{i:Nat}{x:Str}{e:gC}{te:TE}{pos':Pos}(hN:X.N.Nodup)(hi:X.N[i]?=some x)(hx:Loc X.env.scope x)(he:PE X e te)(hs:swapsWith e (some (.Name x pos')) pos.line X.env=pure false:=by rfl)(hf:X.fn x=true\/X.env.scope.names.lookup x=some .local:=by first|exact .inl rfl|exact .inr rfl|assumption):
  PS X (.Assign [.Name x pos'] e pos) (NG te (CQ i)):=by
 intro pins s σ H D I h;refine wpAny_Assign_Name (thn (he pins s σ H _ I h) fun v s1 ⟨y,H1,I1,r1,q1⟩=>?_) hs;exact BR I1 hN hi hx r1 (fun s2 I2=>⟨_,H1,I2,q1⟩) hf
def ND(c:TT)(tb:TS):TS:=fun D σ H=> ∃W:Nat->St->Hp->Prop,(∃m,W m σ H)/\ ∀m σ H,W m σ H->
 c σ H fun b H1=>if b=true then ∃N:St->Hp->Prop,(∀σ' H',N σ' H'-> ∃m',m'<m/\W m' σ' H')/\tb {D with nx:=N,ct:=N,bk:=D.nx} σ H1 else D.nx σ H1
theorem Jy{c:gC}{body:List Stmt}{tc:TT}{tb:TS}(hp:PassesOwn (model X.prog X.w) X.A X.env X.xe)(hc:PT X c tc)(hb:PSs X body tb):PS X (.While c body [] pos) (ND tc tb):=by
 intro pins s σ H D I h;obtain⟨W,⟨m0,w0⟩,turn⟩:=h;refine wpAny_While (codeAny_whileLoop (fun n s'=> ∃σ' H',Inv X pins σ' H' s'/\W n σ' H') ?_ m0 ⟨σ,H,I,w0⟩);rintro n s1 ⟨σ1,H1,I1,w1⟩;refine sj hp (thn (hc pins s1 σ1 H1 _ I1 (turn n σ1 H1 w1)) fun b s2 ⟨H2,I2,q2⟩=>?_)
 cases b with
 |true=>
  obtain⟨N,hN,q2⟩:=q2;rw[gu rfl];refine sj hp (thn (hb pins s2 σ1 H2 _ I2 q2) fun f s3 q3=>?_)
  cases f with
  |next=>
   obtain⟨σ3,H3,I3,n3⟩:=q3;obtain⟨m',hm,w3⟩:=hN σ3 H3 n3;exact⟨m',hm,σ3,H3,I3,w3⟩
  |cont=>
   obtain⟨σ3,H3,I3,n3⟩:=q3;obtain⟨m',hm,w3⟩:=hN σ3 H3 n3;exact⟨m',hm,σ3,H3,I3,w3⟩
  |brk=>exact q3
  |ret v=>exact q3
 |false=>
  rw[gv jc];exact D8 ⟨σ1,H2,I2,q2⟩
end
structure It where
 go:Nat->Hp->Prop
 yld:Nat->Hp->V->Hp->Prop
 stop:Nat->Hp->Prop
def qv(X:Cx)(pins:hJ)(H:Hp)(b:gn):Prop:=
 H b=none/\b≠X.env.locals/\b∉X.fs/\(b∈X.ex\/X.s₀.heap.objs.size<=b)/\(∀x c,X.env.cells.lookup x=some c->c≠b)/\ ∀p∈X.pn++pins,p.1≠b
theorem Inv.fpOk{X:Cx}{pins:hJ}{σ:St}{H H':Hp}{s:gr}{b:gn}(I:Inv X pins σ H s)(hb:s.heap.objs.size<=b)(hn:H' b=none):qv X pins H' b:=by
 refine⟨hn,pI (mw I.lt hb),I.nofs hb,.inr (kM I.sz hb),fun x c e z=>?_,fun p hp z=>?_⟩
 ·obtain⟨v,q⟩:=I.cell x c e;exact absurd (mw q.lt (by rw[z];exact hb)) (nV _)
 ·exact absurd (mw (hV (I.pin p hp).1) (by rw[z];exact hb)) (nV _)
structure Turn(P:gP)(w:gH)(K:gL)(tg:gC)(J:It)(fp:jE)(it:gn)(tn:Nat->Heap->Prop):Prop where
 mem:it∈fp
 obj: ∀i h,tn i h-> ∀b∈fp,∃o,h.get? b=some o/\ ∀v,o.data≠ .cell v
 keep: ∀i h h',tn i h->(∀b∈fp,∀o,h.get? b=some o->h'.get? b=some o)->tn i h'
 item: ∀(X:Cx),X.prog=P->X.w=w->X.K=K->X.calm=true-> ∀(i:Nat) (pins:hJ) (s:gr) (σ:St) (H:Hp) (E:hG),Inv X pins σ H s->(∀b∈fp,qv X pins H b)->tn i s.heap->J.go i H->
  wpAny (model P w) X.A (pyNext (.ref it)) (fun r s1=> ∃u,r=some u/\
   wpAny (model P w) X.A (letOwnedTupleGo tg (.ref it) u) (fun _ s2=> ∃x H',Inv X pins σ H' s2/\RelV x u/\J.yld i H x H'/\tn (i+1) s2.heap/\ ∀b∈fp,H' b=none) E s1) E s
 done: ∀(X:Cx),X.prog=P->X.w=w->X.K=K->X.calm=true-> ∀(i:Nat) (pins:hJ) (s:gr) (σ:St) (H:Hp) (E:hG),Inv X pins σ H s->(∀b∈fp,qv X pins H b)->tn i s.heap->J.stop i H->
  wpAny (model P w) X.A (pyNext (.ref it)) (fun r s1=>r=none/\Inv X pins σ H s1) E s
 self: ∀(A:gM) (i:Nat) (s:gr) (Q:hG) (E:hG),tn i s.heap->Q (.ref it) s->wpAny (model P w) A (pyIter (.ref it)) Q E s
abbrev TI:=St->Hp->(It->Hp->Prop)->Prop
def PIE(X:Cx)(pins:hJ)(σ:St)(tg:gC)(R:It->Hp->Prop)(dC:gB)(s2:gr):Prop:=
 ∃(it:gn) (fp:jE) (tn:Nat->Heap->Prop) (J:It) (H':Hp),dC= .ref it/\Inv X pins σ H' s2/\Turn X.prog X.w X.K tg J fp it tn/\tn 0 s2.heap/\(∀b∈fp,qv X pins H' b)/\R J H'
def PI(X:Cx)(tg iter:gC)(wi:TI):Prop:=
 ∀(pins:hJ) (s:gr) (σ:St) (H:Hp) (R:It->Hp->Prop),Inv X pins σ H s->wi σ H R->
  wpAny (model X.prog X.w) X.A (eval iter X.env) (fun v s1=>wpAny (model X.prog X.w) X.A (pyIter v) (PIE X pins σ tg R) X.xe s1) X.xe s
theorem Kw{M:Model}{A:gM}{E:hG}{s:gr}{tg:gC}{it:gn}{u:gB}{o:Obj}{n:String}{vs:jS}{Q:Unit->Shared->Prop}(ho:s.heap.get? it=some o)(hc:o.cls= .type n)(hd:o.data= .fields vs)
  (hn:["enumerate","zip","dict_itemiterator","dict_reverseitemiterator","odict_iterator","itertools.zip_longest","itertools.pairwise"].contains n=false)(hQ:Q () s):wpAny M A (letOwnedTupleGo tg (.ref it) u) Q E s:=by
 unfold letOwnedTupleGo
 cases tg<;>first
  |exact gw hQ
  |(cases u<;>first
    |exact gw hQ
    |(
      refine gi (va ho ?_);rw[hc,hd];show wpAny M A (if(["enumerate","zip","dict_itemiterator","dict_reverseitemiterator","odict_iterator","itertools.zip_longest","itertools.pairwise"].contains n&&vs[0]?==some (rawInt _))=true then _ else _) Q E s;rw[gv (by intro h;rw[hn,Bool.false_and] at h;cases h)];exact gw hQ))
noncomputable def Itl(K:gL)(a:gn):It:=
 ⟨fun i H=> ∃xs x,SqL K H a xs/\xs[i]?=some x,fun i H x H'=>H'=H/\ ∀xs,SqL K H a xs->xs[i]?=some x,fun i H=> ∃xs,SqL K H a xs/\xs.length<=i⟩
noncomputable def Itt(K:gL)(a:gn):It:=
 ⟨fun i H=> ∃xs x,SqT K H a xs/\xs[i]?=some x,fun i H x H'=>H'=H/\ ∀xs,SqT K H a xs->xs[i]?=some x,fun i H=> ∃xs,SqT K H a xs/\xs.length<=i⟩
noncomputable def Itr(lo:Int)(n:Nat):It:=⟨fun i _=>i<n,fun i H x H'=>H'=H/\x= .int (lo+i),fun i _=>n<=i⟩
theorem GO{P:gP}{w:gH}{K:gL}{tg:gC}(a it:gn):Turn P w K tg (Itl K a) [it] it (fun i h=>h.IsListIter it a i) where
 mem:=by simp
 obj:=fun i h st b hb=>by
  have e:b=it:=by simpa using hb
  subst e;obtain⟨o,e,c,d⟩:=st;exact⟨o,e,fun v z=>by rw[d] at z;cases z⟩
 keep:=fun i h h' st k=>st.at fun o e=>k it (by simp) o e
 item:=by
  intro X hP hw hK hc i pins s σ H E I hf st hg;subst hP hw hK;obtain⟨xs,x,hq,hx⟩:=hg;obtain⟨b6,rv,p,hz⟩:=I.list hq;obtain⟨u,hu,ru⟩:=rv.get hx;obtain⟨f0,f1,f2,f3,f4,f5⟩:=hf it (by simp);refine wpAny_pyNext_list_item st p.isList (x:=u) (by simpa using hu) fun h' b8 sb=>?_;have I1:Inv X pins σ H {s with heap:=h'}:=I.turned (t':=s.toks) (fun b o hb e=>(sb.2 b hb).trans e) f0 f1 f3 f4 f5;obtain⟨o,e,c,d⟩:=id b8;exact⟨u,rfl,Kw (s:={s with heap:=h'}) e c d (by decide) ⟨x,H,I1,ru,⟨rfl,fun ys hy=>by rw[I.list_inj hy hq];exact hx⟩,b8,fun b hb=>(hf b hb).1⟩⟩
 done:=by
  intro X hP hw hK hc i pins s σ H E I hf st hg;subst hP hw hK;obtain⟨xs,hq,hx⟩:=hg;obtain⟨b6,rv,p,hz⟩:=I.list hq;obtain⟨f0,f1,f2,f3,f4,f5⟩:=hf it (by simp);have hl:=rv.length;exact wpAny_pyNext_list_end (I.ok.hd hc) st p.isList (by simp;omega) fun h' eb=>⟨rfl,I.turned (t':=s.toks) (fun b o hb e=>eb b o hb e) f0 f1 f3 f4 f5⟩
 self:=fun _ _ _ _ _ st h=>wpAny_pyIter_listiter st h
theorem Ee{P:gP}{w:gH}{K:gL}{tg:gC}(a it:gn):Turn P w K tg (Itt K a) [it] it (fun i h=>h.IsTupleIter it a i) where
 mem:=by simp
 obj:=fun i h st b hb=>by
  have e:b=it:=by simpa using hb
  subst e;obtain⟨o,e,c,d⟩:=st;exact⟨o,e,fun v z=>by rw[d] at z;cases z⟩
 keep:=fun i h h' st k=>st.at fun o e=>k it (by simp) o e
 item:=by
  intro X hP hw hK hc i pins s σ H E I hf st hg;subst hP hw hK;obtain⟨xs,x,hq,hx⟩:=hg;obtain⟨b6,rv,p,hz⟩:=I.tuple hq;obtain⟨u,hu,ru⟩:=rv.get hx;obtain⟨f0,f1,f2,f3,f4,f5⟩:=hf it (by simp);refine wpAny_pyNext_tuple_item st (show s.heap.IsTuple a b6.toArray from p) (x:=u) (by simpa using hu) fun h' b8 sb=>?_;have I1:Inv X pins σ H {s with heap:=h'}:=I.turned (t':=s.toks) (fun b o hb e=>(sb.2 b hb).trans e) f0 f1 f3 f4 f5;obtain⟨o,e,c,d⟩:=id b8;exact⟨u,rfl,Kw (s:={s with heap:=h'}) e c d (by decide) ⟨x,H,I1,ru,⟨rfl,fun ys hy=>by rw[I.tuple_inj hy hq];exact hx⟩,b8,fun b hb=>(hf b hb).1⟩⟩
 done:=by
  intro X hP hw hK hc i pins s σ H E I hf st hg;subst hP hw hK;obtain⟨xs,hq,hx⟩:=hg;obtain⟨b6,rv,p,hz⟩:=I.tuple hq;obtain⟨f0,f1,f2,f3,f4,f5⟩:=hf it (by simp);have hl:=rv.length;exact wpAny_pyNext_tuple_end (I.ok.hd hc) st (show s.heap.IsTuple a b6.toArray from p) (by simp;omega) fun h' eb=>⟨rfl,I.turned (t':=s.toks) (fun b o hb e=>eb b o hb e) f0 f1 f3 f4 f5⟩
 self:=fun _ _ _ _ _ st h=>wpAny_pyIter_tupleiter st h
theorem Ef{P:gP}{w:gH}{K:gL}{tg:gC}(it:gn)(lo:Int)(n:Nat):Turn P w K tg (Itr lo n) [it] it (fun i h=>IsRangeIter h it (lo+(i:Nat)*1) ((n:Int)-(i:Nat)) 1) where
 mem:=by simp
 obj:=fun i h st b hb=>by
  have e:b=it:=by simpa using hb
  subst e
  exact⟨_,st,fun v z=>by
   have z':Data.fields _=Data.cell v:=z;cases z'⟩
 keep:=fun i h h' st k=>k it (by simp) _ st
 item:=by
  intro X hP hw hK hc i pins s σ H E I hf st hg;subst hP hw hK;obtain⟨f0,f1,f2,f3,f4,f5⟩:=hf it (by simp);have W:=Walks.range (prog:=X.prog) (w:=X.w) (I.ok.hd hc) it lo 1 n;refine W.item i s _ _ hg st fun v h' tk hv b8 kk=>?_;obtain⟨t,rfl⟩:=hv;have I1:Inv X pins σ H {s with heap:=h',toks:=tk}:=I.turned (fun b o hb e=>kk b o (by simpa using hb) e) f0 f1 f3 f4 f5;refine⟨_,rfl,Kw (s:={s with heap:=h',toks:=tk}) (n:="range_iterator") b8 rfl rfl (by decide) ⟨.int (lo+i),H,I1,⟨t,?_⟩,⟨rfl,rfl⟩,b8,fun b hb=>(hf b hb).1⟩⟩;rw[D7]
 done:=by
  intro X hP hw hK hc i pins s σ H E I hf st hg;subst hP hw hK;obtain⟨f0,f1,f2,f3,f4,f5⟩:=hf it (by simp);exact wpAny_pyNext_range_end (I.ok.hd hc) st (by have:n<=i:=hg;omega) fun h' eb=>⟨rfl,I.turned (t':=s.toks) (fun b o hb e=>eb b o hb e) f0 f1 f3 f4 f5⟩
 self:=fun _ _ _ _ _ st h=>wpAny_pyIter_rangeiter st h
section
variable {X:Cx}{tg:gC}
def QZ(K:gL)(tl:TE):TI:=fun σ H R=>tl σ H fun x H1=> ∃a,x= .ref a/\(∃xs,SqL K H1 a xs)/\R (Itl K a) H1
def S7(K:gL)(tl:TE):TI:=fun σ H R=>tl σ H fun x H1=> ∃a,x= .ref a/\(∃xs,SqT K H1 a xs)/\R (Itt K a) H1
theorem Mi{l:gC}{tl:TE}(hl:PE X l tl):PI X tg l (QZ X.K tl):=by
 intro pins s σ H R I h;refine thn (hl pins s σ H _ I h) fun v s1 ⟨x,H1,I1,r1,q1⟩=>?_;obtain⟨a,e,⟨xs,hq⟩,q⟩:=q1;subst e;cases r1;obtain⟨b6,rv,p,hz⟩:=I1.list hq;refine wQ p.isList ?_;refine⟨s1.heap.objs.size,[s1.heap.objs.size],_,_,H1,rfl,I1.kept (t':=s1.toks) fun b o e=>ig _ e,GO a _,⟨_,jr _ rfl,rfl,rfl⟩,fun b hb=>?_,q⟩;have e:b=s1.heap.objs.size:=by simpa using hb
 subst e;exact I1.fpOk (hU _) (I1.hok.fresh (hU _))
theorem Ot{l:gC}{tl:TE}(hl:PE X l tl):PI X tg l (S7 X.K tl):=by
 intro pins s σ H R I h;refine thn (hl pins s σ H _ I h) fun v s1 ⟨x,H1,I1,r1,q1⟩=>?_;obtain⟨a,e,⟨xs,hq⟩,q⟩:=q1;subst e;cases r1;obtain⟨b6,rv,p,hz⟩:=I1.tuple hq;refine wpAny_pyIter_tuple (show s1.heap.IsTuple a b6.toArray from p) ?_;refine⟨s1.heap.objs.size,[s1.heap.objs.size],_,_,H1,rfl,I1.kept (t':=s1.toks) fun b o e=>ig _ e,Ee a _,⟨_,jr _ rfl,rfl,rfl⟩,fun b hb=>?_,q⟩;have e:b=s1.heap.objs.size:=by simpa using hb
 subst e;exact I1.fpOk (hU _) (I1.hok.fresh (hU _))
theorem Ck{pins:hJ}{σ:St}{H:Hp}{s:gr}{R:It->Hp->Prop}{E:hG}{lo hi:Int}{t u v:Tok}{tk:Nat}(I:Inv X pins σ H s)(h1: -(2^62)<=lo)(h2:lo<2^62)(h3: -(2^62)<=hi)(h4:hi<2^62)
  (q:R (Itr lo (hi-lo).toNat) H):wpAny (model X.prog X.w) X.A (pyIter (.ref s.heap.objs.size)) (PIE X pins σ tg R) E {s with heap:=s.heap.push {cls:= .type "range",data:= .fields #[.int lo t,.int hi u,.int 1 v]},toks:=tk}:=by
 refine wpAny_pyIter_range (IsRange.new ..) (small_one h1 h2 h3 h4) ?_;have I1:Inv X pins σ H {s with heap:=s.heap.push {cls:= .type "range",data:= .fields #[.int lo t,.int hi u,.int 1 v]},toks:=tk}:=I.kept fun b o e=>ig _ e
 refine⟨(s.heap.push {cls:= .type "range",data:= .fields #[.int lo t,.int hi u,.int 1 v]}).objs.size,[(s.heap.push {cls:= .type "range",data:= .fields #[.int lo t,.int hi u,.int 1 v]}).objs.size],_,_,H,rfl,
  I1.kept (t':=tk) fun b o e=>ig _ e,Ef _ lo (hi-lo).toNat,?_,fun b hb=>?_,q⟩
 ·have e1:lo+((0:Nat):Int)*1=lo:=by simp
  have e2:(((hi-lo).toNat:Nat):Int)-((0:Nat):Int)=Builtin.Range.rangeSize lo hi 1:=by rw[rangeSize_one];split<;>omega
  show IsRangeIter _ _ (lo+((0:Nat):Int)*1) ((((hi-lo).toNat:Nat):Int)-((0:Nat):Int)) 1;rw[e1,e2];exact jr _ rfl
 ·have e:b=(s.heap.push {cls:= .type "range",data:= .fields #[.int lo t,.int hi u,.int 1 v]}).objs.size:=by simpa using hb
  subst e;exact I1.fpOk (hU _) (I1.hok.fresh (hU _))
def QY(ta:TA):TI:=fun σ H R=>ta σ H fun vs H1=> ∃j:Int,vs=[.int j]/\ -(2^62)<=j/\j<2^62/\R (Itr 0 j.toNat) H1
def QV(ta:TA):TI:=fun σ H R=>ta σ H fun vs H1=> ∃i j:Int,vs=[.int i,.int j]/\(-(2^62)<=i/\i<2^62/\ -(2^62)<=j/\j<2^62)/\R (Itr i (j-i).toNat) H1
theorem Ha{a:gC}{ta:TA}{p pos:Pos}(hg:Gl X "range")(hm:X.mg "range"=none)(ha:PA X [a] ta)(hs:starEach [a] X.env=[(false,eval a X.env)]:=by rfl):PI X tg (.Call (.Name "range" p) [a] [] pos) (QY ta):=by
 intro pins s σ H R I h;refine Call_ (vm I hg hm AH (AG (thn (ha pos pins s σ H _ I h) fun us s1 ⟨vs,H1,I1,r1,q1⟩=>?_) hs rfl));obtain⟨j,e,q1,q2,q⟩:=q1;subst e
 cases r1 with
 |cons r rr=>
  cases rr;obtain⟨t,rfl⟩:=r;exact call_range_1 (Ck I1 (by omega) (by omega) q1 q2 (by simpa using q))
theorem G9{a b:gC}{ta:TA}{p pos:Pos}(hg:Gl X "range")(hm:X.mg "range"=none)(ha:PA X [a,b] ta)(hs:starEach [a,b] X.env=[(false,eval a X.env),(false,eval b X.env)]:=by rfl)(o8:starEach [b] X.env=[(false,eval b X.env)]:=by rfl):
  PI X tg (.Call (.Name "range" p) [a,b] [] pos) (QV ta):=by
 intro pins s σ H R I h;refine Call_ (vm I hg hm AH (AG (thn (ha pos pins s σ H _ I h) fun us s1 ⟨vs,H1,I1,r1,q1⟩=>?_) (by rw[hs,o8]) (by rw[o8];rfl)));obtain⟨i,j,e,⟨q1,q2,q3,q4⟩,q⟩:=q1;subst e
 cases r1 with
 |cons r rr=>
  cases rr with
  |cons r' rr=>
   cases rr;obtain⟨t,rfl⟩:=r;obtain⟨t',rfl⟩:=r';exact call_range_2 (Ck I1 q1 q2 q3 q4 q)
def RT(wi:TI)(g:TG)(tb:TS):TS:=fun D σ H=>wi σ H fun J H1=> ∃W:Nat->Nat->St->Hp->Prop,(∃m,W 0 m σ H1)/\ ∀i m σ H,W i m σ H->
 (J.stop i H/\D.nx σ H)\/(J.go i H/\ ∃N:St->Hp->Prop,(∀σ' H',N σ' H'-> ∃m',m'<m/\W (i+1) m' σ' H')/\ ∀x H',J.yld i H x H'->g x σ H' fun σ2 H2=>tb {D with nx:=N,ct:=N,bk:=D.nx} σ2 H2)
noncomputable def xu(fp:jE)(h:gQ):List (Addr×Obj):=fp.filterMap fun b=>(h.get? b).map fun o=>(b,o)
theorem oN{fp:jE}{h:gQ}{b:gn}{o:Obj}(hb:b∈fp)(e:h.get? b=some o):(b,o)∈xu fp h:=List.mem_filterMap.mpr ⟨b,hb,by rw[e];rfl⟩
theorem Hf{fp:jE}{h:gQ}{p:Addr×Obj}(hp:p∈xu fp h):p.1∈fp/\h.get? p.1=some p.2:=by
 obtain⟨b,hb,e⟩:=List.mem_filterMap.mp hp
 cases q:h.get? b with
 |none=>rw[q] at e;cases e
 |some o=>
  rw[q] at e;have e':(b,o)=p:=iE e;subst e';exact⟨hb,q⟩
theorem Inv.pinned{pins:hJ}{σ:St}{H:Hp}{s:gr}{fp:jE}(I:Inv X pins σ H s)(hf: ∀b∈fp,qv X pins H b)(ho: ∀b∈fp,∃o,s.heap.get? b=some o/\ ∀v,o.data≠ .cell v):Inv X (pins++xu fp s.heap) σ H s:=
 I.pins_of fun p hp=>(mC.mp hp).elim (fun z=>I.pin p (nU _ z)) fun z=>by
  obtain⟨hb,e⟩:=Hf z;obtain⟨f0,f1,f2,_⟩:=hf p.1 hb;obtain⟨o,e',d⟩:=ho p.1 hb;rw[e] at e';cases e';exact⟨e,f0,f1,f2,d⟩
theorem Inv.unpinned{pins pl:hJ}{σ:St}{H:Hp}{s:gr}(I:Inv X (pins++pl) σ H s):Inv X pins σ H s:=I.pins_of fun p hp=>I.pin p (nU _ (Iz _ hp))
theorem Ol{iter:gC}{body:List Stmt}{wi:TI}{g:TG}{tb:TS}{pos:Pos}(hp:PassesOwn (model X.prog X.w) X.A X.env X.xe)(hc:X.calm=true)(hi:PI X tg iter wi)(hg:PG X tg g)(hb:PSs X body tb)
  (hs: ∀x,foldedSetIterable iter X.env x=pure x:=by intro _;rfl):PS X (.For tg iter body [] pos) (RT wi g tb):=by
 intro pins s σ H D I h;refine wpAny_For (thn (hi pins s σ H _ I h) fun v s1 h1=>thn h1 fun dC s2 h2=>?_) hs;obtain⟨it,fp,tn,J,H2,e,I2,T,i9,f2,W,⟨m0,w0⟩,turn⟩:=h2;subst e;have y8: ∀{H':Hp},(∀b∈fp,H' b=none)-> ∀b∈fp,qv X pins H' b:=fun hn b hb=>⟨hn b hb,(f2 b hb).2⟩
 refine codeAny_forLoop_any (fun n s'=> ∃i σ' H',Inv X pins σ' H' s'/\tn i s'.heap/\(∀b∈fp,H' b=none)/\W i n σ' H') ?_ m0 ⟨0,σ,H2,I2,i9,fun b hb=>(f2 b hb).1,w0⟩;rintro n s3 ⟨i,σ3,H3,I3,k8,dk,w3⟩;rcases turn i n σ3 H3 w3 with⟨stop,qn⟩|⟨go,N,hN,step⟩
 ·refine sj hp (thn (T.done X rfl rfl rfl hc i pins s3 σ3 H3 X.xe I3 (y8 dk) k8 stop) fun r s4 ⟨hr,I4⟩=>?_);subst hr;exact D8 ⟨σ3,H3,I4,qn⟩
 ·refine sj hp (thn (T.item X rfl rfl rfl hc i pins s3 σ3 H3 X.xe I3 (y8 dk) k8 go) fun r s4 ⟨u,hr,h4⟩=>?_);subst hr;refine sj hp (thn h4 fun _ s5 ⟨x,H5,I5,r5,y5,bA,fX⟩=>?_);have gf:=I5.pinned (y8 fX) (T.obj _ _ bA);refine sj hp (thn (hg _ s5 σ3 H5 x u _ gf r5 (step x H5 y5)) fun _ s6 ⟨σ6,H6,I6,q6⟩=>?_);refine sj hp (thn (hb _ s6 σ6 H6 _ I6 q6) fun f s7 q7=>?_)
  have again: ∀{σ7:St} {H7:Hp},Inv X (pins++xu fp s5.heap) σ7 H7 s7->N σ7 H7-> ∃m,m<n/\ ∃i σ' H',Inv X pins σ' H' s7/\tn i s7.heap/\(∀b∈fp,H' b=none)/\W i m σ' H':=fun {σ7 H7} I7 n7=>by
   obtain⟨m',hm,w7⟩:=hN σ7 H7 n7;refine⟨m',hm,i+1,σ7,H7,I7.unpinned,T.keep _ _ _ bA fun b hb o e=>(I7.pin (b,o) (nU _ (nU _ (oN hb e)))).1,fun b hb=>?_,w7⟩;obtain⟨o,e,d⟩:=T.obj _ _ bA b hb;exact(I7.pin (b,o) (nU _ (nU _ (oN hb e)))).2.1
  cases f with
  |next=>obtain⟨σ7,H7,I7,n7⟩:=q7;exact again I7 n7
  |cont=>obtain⟨σ7,H7,I7,n7⟩:=q7;exact again I7 n7
  |brk=>obtain⟨σ7,H7,I7,q7⟩:=q7;exact⟨σ7,H7,I7.unpinned,q7⟩
  |ret v=>obtain⟨x7,σ7,H7,I7,r7,q7⟩:=q7;exact⟨x7,σ7,H7,I7.unpinned,r7,q7⟩
end
abbrev R2:=V->V->Hp->VK->Prop
def OpR(X:Cx)(f:vH)(r:R2):Prop:=
 ∀(pins:hJ) (s:gr) (σ:St) (H:Hp) (x y:V) (v u:gB) (Q:VK),Inv X pins σ H s->RelV x v->RelV y u->r x y H Q->
  wpAny (model X.prog X.w) X.A (f v u) (EP X pins σ Q) X.xe s
def UnR(X:Cx)(f:Value->Sem Value)(r:V->Hp->VK->Prop):Prop:=
 ∀(pins:hJ) (s:gr) (σ:St) (H:Hp) (x:V) (v:gB) (Q:VK),Inv X pins σ H s->RelV x v->r x H Q->
  wpAny (model X.prog X.w) X.A (f v) (EP X pins σ Q) X.xe s
def jf(X:Cx)(f:gB)(r:List V->Hp->VK->Prop):Prop:=
 ∀(pins:hJ) (s:gr) (σ:St) (H:Hp) (xs:List V) (us:iG) (Q:VK),Inv X pins σ H s->Vals xs us->r xs H Q->
  wpAny (model X.prog X.w) X.A (call f us) (EP X pins σ Q) X.xe s
noncomputable def tOp(r:R2)(ta tb:TE):TE:=fun σ H Q=>ta σ H fun x H1=>tb σ H1 fun y H2=>r x y H2 Q
def tUn(r:V->Hp->VK->Prop)(ta:TE):TE:=fun σ H Q=>ta σ H fun x H1=>r x H1 Q
def rI(C:Int->Int->Prop)(g:Int->Int->V):R2:=fun x y H Q=> ∃i j,x= .int i/\y= .int j/\C i j/\Q (g i j) H
def rI0(g:Int->Int->V):R2:=fun x y H Q=> ∃i j,x= .int i/\y= .int j/\Q (g i j) H
def rU(g:Int->V):V->Hp->VK->Prop:=fun x H Q=> ∃i,x= .int i/\Q (g i) H
section
variable {X:Cx}{a b c:gC}{ta tb tc:TE}{pos:Pos}
theorem Pr(ha:PE X a ta)(hb:PE X b tb){pins:hJ}{s:gr}{σ:St}{H:Hp}{R:V->V->Hp->Prop}(I:Inv X pins σ H s)
  (h:ta σ H fun x H1=>tb σ H1 fun y H2=>R x y H2){Q:hG}{f:vH}
  (hf: ∀v u s2 x y H2,Inv X pins σ H2 s2->RelV x v->RelV y u->R x y H2->wpAny (model X.prog X.w) X.A (f v u) Q X.xe s2):
  wpAny (model X.prog X.w) X.A (eval a X.env) (fun v s₁=>wpAny (model X.prog X.w) X.A (eval b X.env) (fun u s₂=>wpAny (model X.prog X.w) X.A (f v u) Q X.xe s₂) X.xe s₁) X.xe s:=by
 refine thn (ha pins s σ H _ I h) fun v s1 ⟨x,H1,I1,r1,q1⟩=>?_;refine thn (hb pins s1 σ H1 _ I1 q1) fun u s2 ⟨y,H2,I2,r2,q2⟩=>?_;exact hf v u s2 x y H2 I2 r1 r2 q2
theorem Qv{op:Operator}{r:R2}(ho:OpR X (binaryOp op) r)(ha:PE X a ta)(hb:PE X b tb):PE X (.BinOp a op b pos) (tOp r ta tb):=by
 intro pins s σ H Q I h;exact wpAny_BinOp (Pr ha hb I h fun v u s2 x y H2 I2 rx ry q=>ho pins s2 σ H2 x y v u Q I2 rx ry q)
theorem Qu{op:UnaryOp}{r:V->Hp->VK->Prop}(ho:UnR X (unaryOp op) r)(ha:PE X a ta):PE X (.UnaryOp op a pos) (tUn r ta):=by
 intro pins s σ H Q I h;exact UnaryOp_ (thn (ha pins s σ H _ I h) fun v s1 ⟨x,H1,I1,r1,q1⟩=>ho pins s1 σ H1 x v Q I1 r1 q1)
theorem opI{f:vH}{C:Int->Int->Prop}{g:Int->Int->Int}
  (rule: ∀(i j:Int) (t u:Tok) (s:gr) (Q:hG) (E:hG),C i j->Q (.int (g i j) s.toks) {s with toks:=s.toks+1}->wpAny (model X.prog X.w) X.A (f (.int i t) (.int j u)) Q E s):
  OpR X f (rI C fun i j=> .int (g i j)):=by
 intro pins s σ H x y v u Q I rx ry h;obtain⟨i,j,rfl,rfl,hc,q⟩:=h;obtain⟨t,rfl⟩:=rx;obtain⟨t',rfl⟩:=ry;exact rule i j t t' s _ _ hc ⟨.int (g i j),H,I.tok _,⟨_,rfl⟩,q⟩
theorem QJ{f:vH}{g:Int->Int->Int}
  (rule: ∀(i j:Int) (t u:Tok) (s:gr) (Q:hG) (E:hG),Q (.int (g i j) s.toks) {s with toks:=s.toks+1}->wpAny (model X.prog X.w) X.A (f (.int i t) (.int j u)) Q E s):
  OpR X f (rI0 fun i j=> .int (g i j)):=by
 intro pins s σ H x y v u Q I rx ry h;obtain⟨i,j,rfl,rfl,q⟩:=h;obtain⟨t,rfl⟩:=rx;obtain⟨t',rfl⟩:=ry;exact rule i j t t' s _ _ ⟨.int (g i j),H,I.tok _,⟨_,rfl⟩,q⟩
theorem Mu{f:vH}{g:Int->Int->Bool}
  (rule: ∀(i j:Int) (t u:Tok) (s:gr) (Q:hG) (E:hG),Q (.bool (g i j)) s->wpAny (model X.prog X.w) X.A (f (.int i t) (.int j u)) Q E s):
  OpR X f (rI0 fun i j=> .bl (g i j)):=by
 intro pins s σ H x y v u Q I rx ry h;obtain⟨i,j,rfl,rfl,q⟩:=h;obtain⟨t,rfl⟩:=rx;obtain⟨t',rfl⟩:=ry;exact rule i j t t' s _ _ ⟨.bl (g i j),H,I,rfl,q⟩
def HG(i j:Int):Prop:=0<j/\j<1073741824
def wg(i j:Int):Prop:=0<=j/\j<=1000000/\i.natAbs<2^64
def CMul(i j:Int):Prop:=(-(2^64)<i/\i<2^64)\/(-(2^64)<j/\j<2^64)
theorem CMul.ok{i j:Int}(h:CMul i j):IntMulOk i j:=by
 rcases h with⟨h1,h2⟩|⟨h1,h2⟩
 ·exact .of_left (intBits_le_64 h1 h2)
 ·exact .of_right (intBits_le_64 h1 h2)
theorem OM:OpR X (binaryOp .Add) (rI0 fun i j=> .int (i+j)):=QJ fun _ _ _ _ _ _ _ q=>add_int q
theorem OF:OpR X (binaryOp .Sub) (rI0 fun i j=> .int (i-j)):=QJ fun _ _ _ _ _ _ _ q=>sub_int q
theorem OI:OpR X (binaryOp .Mult) (rI CMul fun i j=> .int (i*j)):=opI fun _ _ _ _ _ _ _ hc q=>mul_int q hc.ok
theorem Ms:OpR X (binaryOp .FloorDiv) (rI HG fun i j=> .int (i / j)):=opI fun i j _ _ _ _ _ hc q=>by
 have h1:(0:Int)<j:=hc.1;have h2:j<1073741824:=hc.2;exact floordiv_int (by omega) (by rw[Int.fdiv_eq_ediv_of_nonneg i (by omega)];exact q) (.inl (PyProof.noPylong_small (by omega)))
theorem OJ:OpR X (binaryOp .Mod) (rI (fun _ j=>0<j) fun i j=> .int (i%j)):=opI fun i j _ _ _ _ _ hc q=>by
 have h1:(0:Int)<j:=hc;exact mod_int' (by omega) (by rw[Int.fmod_eq_emod_of_nonneg i (by omega)];exact q)
theorem OG:OpR X (binaryOp .Pow) (rI wg fun i j=> .int (i^j.toNat)):=opI fun _ _ _ _ _ _ _ hc q=>pow_int_small hc.1 hc.2.1 hc.2.2 q
theorem unI{f:Value->Sem Value}{g:Int->Int}
  (rule: ∀(i:Int) (t:Tok) (s:gr) (Q:hG) (E:hG),Q (.int (g i) s.toks) {s with toks:=s.toks+1}->wpAny (model X.prog X.w) X.A (f (.int i t)) Q E s):
  UnR X f (rU fun i=> .int (g i)):=by
 intro pins s σ H x v Q I rx h;obtain⟨i,rfl,q⟩:=h;obtain⟨t,rfl⟩:=rx;exact rule i t s _ _ ⟨.int (g i),H,I.tok _,⟨_,rfl⟩,q⟩
theorem NB:UnR X (unaryOp .USub) (rU fun i=> .int (-i)):=unI fun _ _ _ _ _ q=>neg_int q
theorem KD{pins:hJ}{σ:St}{H:Hp}{s:gr}{Q:VK}{k k':Bool}(I:Inv X pins σ H s)(q:Q (.bl k) H)(e:k=k'):EP X pins σ Q (.bool k') s:=by
 subst e;exact⟨.bl k,H,I,rfl,q⟩
theorem Qz:OpR X (compareOp .Lt) (rI0 fun i j=> .bl (decide (i<j))):=Mu fun _ _ _ _ _ _ _ q=>lt_int q
theorem QD:OpR X (compareOp .LtE) (rI0 fun i j=> .bl (decide (i<=j))):=Mu fun _ _ _ _ _ _ _ q=>le_int q
theorem QE:OpR X (compareOp .Gt) (rI0 fun i j=> .bl (decide (j<i))):=Mu fun _ _ _ _ _ _ _ q=>gt_int q
theorem QH:OpR X (compareOp .GtE) (rI0 fun i j=> .bl (decide (j<=i))):=Mu fun _ _ _ _ _ _ _ q=>ge_int q
theorem JZ:OpR X (compareOp .Is) (fun x y H Q=>y= .non/\Q (.bl (decide (x= .non))) H):=by
 intro pins s σ H x y v u Q I rx ry h;obtain⟨rfl,q⟩:=h;cases ry;refine is_none_gen (KD I q ?_)
 cases x<;>first
  |(cases rx;rfl)
  |(obtain⟨t,rfl⟩:=rx;rfl)
theorem Ka(b:gC){op:CmpOp}(h:op≠ .In:=by decide)(h2:op≠ .NotIn:=by decide):behindInMarks op b=false:=by
 have e1:(op==CmpOp.In)=false:=by cases op<;>first|rfl|exact absurd rfl h
 have e2:(op==CmpOp.NotIn)=false:=by cases op<;>first|rfl|exact absurd rfl h2
 cases b<;>simp[behindInMarks,e1,e2]
theorem Mm{op:CmpOp}{r:R2}(ho:OpR X (compareOp op) r)(ha:PE X a ta)(hb:PE X b tb)(hm:behindInMarks op b=false):PE X (.Compare a [op] [b] pos) (tOp r ta tb):=by
 intro pins s σ H Q I h;exact wpAny_Compare1 (Pr ha hb I h fun v u s2 x y H2 I2 rx ry q=>ho pins s2 σ H2 x y v u Q I2 rx ry q) hm
def PR(t:TE):TT:=fun σ H Q=>t σ H fun x H'=> ∃k,x= .bl k/\Q k H'
theorem L8{op:CmpOp}{r:R2}(ho:OpR X (compareOp op) r)(ha:PE X a ta)(hb:PE X b tb)(hm:behindInMarks op b=false):PT X (.Compare a [op] [b] pos) (PR (tOp r ta tb)):=by
 intro pins s σ H Q I h
 refine wpAny_isTrue_Compare1 (thn (ha pins s σ H _ I h) fun v s1 ⟨x,H1,I1,r1,q1⟩=>thn (hb pins s1 σ H1 _ I1 q1) fun u s2 ⟨y,H2,I2,r2,q2⟩=>
  thn (ho pins s2 σ H2 x y v u _ I2 r1 r2 q2) fun c s3 ⟨z,H3,I3,r3,k,e,q3⟩=>?_) hm
 subst e;cases r3;exact su ⟨H3,I3,q3⟩
def I9(r r':R2)(ta tb tc:TE):TE:=fun σ H Q=>ta σ H fun x H1=>tb σ H1 fun y H2=>r x y H2 fun z H3=> ∃k,z= .bl k/\
 (if k=true then tc σ H3 fun w' H4=>r' y w' H4 Q else Q (.bl false) H3)
theorem JS{op w6:CmpOp}{r r':R2}(ho:OpR X (compareOp op) r)(aS:OpR X (compareOp w6) r')(ha:PE X a ta)(hb:PE X b tb)(hc:PE X c tc)
  (hm:lastMarks [op,w6] [b,c]=false:=by with_unfolding_all rfl):PE X (.Compare a [op,w6] [b,c] pos) (I9 r r' ta tb tc):=by
 intro pins s σ H Q I h
 refine Compare_chain (thn (ha pins s σ H _ I h) fun v s1 ⟨x,H1,I1,r1,q1⟩=>chain_link (thn (hb pins s1 σ H1 _ I1 q1) fun u s2 ⟨y,H2,I2,r2,q2⟩=>
  thn (ho pins s2 σ H2 x y v u _ I2 r1 r2 q2) fun d s3 ⟨z,H3,I3,r3,k,e,q3⟩=>?_)) hm
 subst e;cases r3;refine su ?_
 cases k with
 |false=>exact ite_ff ⟨.bl false,H3,I3,rfl,q3⟩
 |true=>exact ite_tt (chain_last (thn (hc pins s3 σ H3 _ I3 q3) fun w' s4 ⟨z',H4,I4,r4,q4⟩=>aS pins s4 σ H4 y z' u w' Q I4 r2 r4 q4))
theorem Bb:(sizeLine:Nat)<2^63:=by rw[iu];decide
theorem EB:OpR X (binaryOp .Add) (fun x y H Q=> ∃i j,x= .str i/\y= .str j/\i.length+j.length<=sizeLine/\Q (.str (i++j)) H):=by
 intro pins s σ H x y v u Q I rx ry h;obtain⟨i,j,rfl,rfl,hz,q⟩:=h;obtain⟨t,rfl⟩:=rx;obtain⟨t',rfl⟩:=ry;exact add_str (fun t' tk=>⟨.str (i++j),H,I.tok _,⟨_,rfl⟩,q⟩) hz
theorem tL{x:V}{us:iG}(r:Vals [x] us): ∃u,us=[u]/\RelV x u:=by
 cases r with
 |cons r1 r2=>cases r2;exact⟨_,rfl,r1⟩
theorem xc{x y:V}{us:iG}(r:Vals [x,y] us): ∃u w',us=[u,w']/\RelV x u/\RelV y w':=by
 cases r with
 |cons r1 r2=>
  cases r2 with
  |cons r3 r4=>cases r4;exact⟨_,_,rfl,r1,r3⟩
theorem KY:jf X (.builtin "abs") (fun xs H Q=> ∃i,xs=[.int i]/\Q (.int (if i<0 then -i else i)) H):=by
 intro pins s σ H xs us Q I r h;obtain⟨i,rfl,q⟩:=h;obtain⟨u,rfl,t,rfl⟩:=tL r;exact call_abs_int fun u tk=>⟨.int (if i<0 then -i else i),H,I.tok _,⟨_,rfl⟩,q⟩
theorem HA(hc:X.calm=true):jf X (.builtin "max") (fun xs H Q=> ∃i j,xs=[.int i,.int j]/\Q (.int (if j>i then j else i)) H):=by
 intro pins s σ H xs us Q I r h;obtain⟨i,j,rfl,q⟩:=h;obtain⟨u,w',rfl,⟨t,rfl⟩,⟨t',rfl⟩⟩:=xc r;refine max_two_ints (I.ok.hd hc) fun h' tk k=>⟨_,H,I.kept k,?_,q⟩
 by_cases hj:j>i
 ·rw[gu hj,gu hj];exact⟨_,rfl⟩
 ·rw[gv hj,gv hj];exact⟨_,rfl⟩
theorem Hz(hc:X.calm=true):jf X (.builtin "min") (fun xs H Q=> ∃i j,xs=[.int i,.int j]/\Q (.int (if j<i then j else i)) H):=by
 intro pins s σ H xs us Q I r h;obtain⟨i,j,rfl,q⟩:=h;obtain⟨u,w',rfl,⟨t,rfl⟩,⟨t',rfl⟩⟩:=xc r;refine min_two_ints (I.ok.hd hc) fun h' tk k=>⟨_,H,I.kept k,?_,q⟩
 by_cases hj:j<i
 ·rw[gu hj,gu hj];exact⟨_,rfl⟩
 ·rw[gv hj,gv hj];exact⟨_,rfl⟩
theorem zQ:jf X (.type "int") (fun xs H Q=>(∃i,xs=[.int i]/\Q (.int i) H)\/ ∃k,xs=[.bl k]/\Q (.int (if k then 1 else 0)) H):=by
 intro pins s σ H xs us Q I r h;rcases h with⟨i,rfl,q⟩|⟨k,rfl,q⟩
 ·obtain⟨u,rfl,t,rfl⟩:=tL r;exact call_int_int ⟨.int i,H,I,⟨_,rfl⟩,q⟩
 ·obtain⟨u,rfl,r1⟩:=tL r;cases r1;exact call_int_bool ⟨.int (if k then 1 else 0),H,I.tok _,⟨_,rfl⟩,q⟩
end
section
variable {prog:gP}{w:gH}{A:gM}{E:hG}{s:gr}{K:gL}{x dx C f:gn}{mA:kO}{name:Str}{v:gB}
end
theorem RelO.some_of{v:V}{o:Option Value}(r:RelO (some v) o): ∃u,o=some u/\RelV v u:=by
 cases o with
 |none=>exact(show False from r).elim
 |some u=>exact⟨u,rfl,r⟩
section
variable {P:gP}{w:gH}{H H':Hp}{h h':gQ}{a C dx:gn}{fs fW:List (Str×V)}
end
section
variable {X:Cx}{pins:hJ}{σ:St}{H:Hp}{s:gr}{a C dx:gn}{fs:List (Str×V)}{f:Str}{v:V}{A:gM}{E:hG}
end
section
variable {X:Cx}{o e value:gC}{f:Str}{pos pos' aq:Pos}{ta tv:TE}
end
section
variable {X:Cx}{pins:hJ}{σ:St}{H:Hp}{s:gr}{A:gM}{E:hG}{Q:hG}{c:gB}{b:Bool}
end
structure Room(k:Nat)(A:gM):Prop where
 hd:A.handled=none
 dp:A.depth+3*k+5<recursionLimit
 un:A.units+16*k+200<cLine
theorem Room.mono{j k:Nat}{A:gM}(r:Room k A)(h:j<=k):Room j A:=⟨r.hd,by have:=r.dp;omega,by have:=r.un;omega⟩
theorem Room.deeper{k:Nat}{A:gM}(r:Room (k+1) A)(env:Env):Room k (A.deeper env):=
 ⟨r.hd,by have:=r.dp;show A.depth+1+3*k+5<_;omega,by have:=r.un;show A.units+3+16*k+200<_;omega⟩
theorem Room.depth{k:Nat}{A:gM}(r:Room k A):A.depth<recursionLimit:=by have:=r.dp;omega
noncomputable def RP:TA:=fun _ H Q=>Q [] H
noncomputable def P5(ta:TE)(tr:TA):TA:=fun σ H Q=>ta σ H fun x H1=>tr σ H1 fun xs H2=>Q (x::xs) H2
section
variable {X:Cx}{e:gC}{es:jl}{te:TE}{t:TA}{pos:Pos}
theorem oJ:PA X [] RP:=fun _ _ _ _ H Q I h=>Calls.spliced_nil ⟨[],H,I,.nil,h⟩
theorem kI(ha:PE X e te)(hr:PA X es t)(hs:starEach (e::es) X.env=(false,eval e X.env)::starEach es X.env:=by rfl):PA X (e::es) (P5 te t):=by
 intro pos pins s σ H Q I h;rw[hs];show wpAny _ _ (spliced ((false,eval e X.env)::backTo pos (starEach es X.env))) _ _ s;refine Calls.spliced_cons (thn (ha pins s σ H _ I h) fun u s1 ⟨x,H1,I1,r1,q1⟩=>?_);exact thn (hr pos pins s1 σ H1 _ I1 q1) fun us s2 ⟨xs,H2,I2,r2,q2⟩=>⟨x::xs,H2,I2,.cons r1 r2,q2⟩
noncomputable def RL(t:TA):TE:=fun σ H Q=>t σ H fun xs H1=>xs.length<=sizeLine/\ ∀p,H1 p=none->Q (.ref p) (upd H1 p (.tup xs))
noncomputable def RQ(t:TA):TE:=fun σ H Q=>t σ H fun xs H1=>xs.length<=sizeLine/\ ∀p,H1 p=none->Q (.ref p) (upd H1 p (.lst xs))
theorem JO{x1}(h:PA X es t):PE X (.Tuple es x1 pos) (RL t):=by
 intro pins s σ H Q I hq;refine wpAny_Tuple_spliced (thn (h pos pins s σ H _ I hq) fun us s1 ⟨xs,H1,I1,r,z,q⟩=>⟨by rw[<-r.length];exact z,?_⟩);have hf:H1 s1.heap.objs.size=none:=I1.hok.fresh (hU _);refine⟨.ref s1.heap.objs.size,upd H1 s1.heap.objs.size (.tup xs),I1.laid (t':=s1.toks) (fun b u e=>ig _ e) (hU _) ?_,rfl,q _ hf⟩;exact⟨z,us,r,⟨_,jr _ rfl,rfl,_,rfl⟩⟩
theorem OA(h:PA X es t):PE X (.List es pos) (RQ t):=by
 intro pins s σ H Q I hq;refine wpAny_List_spliced (thn (h pos pins s σ H _ I hq) fun us s1 ⟨xs,H1,I1,r,z,q⟩=>⟨by rw[<-r.length];exact z,?_⟩);have hf:H1 s1.heap.objs.size=none:=I1.hok.fresh (hU _);refine⟨.ref s1.heap.objs.size,upd H1 s1.heap.objs.size (.lst xs),I1.laid (t':=s1.toks) (fun b u e=>ig _ e) (hU _) ?_,rfl,q _ hf⟩;exact⟨z,us,0,r,jr _ rfl⟩
end
abbrev Sp:=List V->Hp->VK->XK->Prop
abbrev CXT:=List Env->Hp->Shared->XK->Value->Shared->Prop
structure Env0(P:gP)(w:gH)(K:gL)(mg:kO)(base:gQ)(A:gM)(outer:List Env)(s:gr)(H:Hp):Prop where
 frames:A.frames=some outer
 mod:Mod K mg base
 bs: ∀b o,base.get? b=some o->s.heap.get? b=some o/\H b=none
 bsz:base.objs.size<=s.heap.objs.size
 funs:s.heap.FunFrames base outer
 frf: ∀b∈frs outer,H b=none
 hok:HOk P w H s.heap
 bare:AllBare s.gens
def CE(outer:List Env)(P:gP)(w:gH)(H:Hp)(s:gr)(Q:VK)(u:gB)(s':gr):Prop:=
 ∃v H',s'.os=s.os/\AllBare s'.gens/\Un (frs outer) [] H H' s.heap s'.heap/\HOk P w H' s'.heap/\RelV v u/\Q v H'
def CR(CX:CXT)(outer:List Env)(P:gP)(w:gH)(H:Hp)(s:gr)(Q:VK)(E:XK)(r:Result)(s':gr):Prop:=
 match r with
 | .ok (.ret u)=>CE outer P w H s Q u s'
 | .ok _=>False
 | .error e=>CX outer H s E e s'
structure FnOk(P:gP)(w:gH)(K:gL)(mg:kO)(base:gQ)(CX:CXT)(k:Nat)(f:gn)(fd:mP)(ps:iw)(sp:Sp):Prop where
 len: ∀vs H Q E,sp vs H Q E->vs.length=ps.length
 run: ∀(A:gM) (outer:List Env) (s:gr) (H:Hp) (args:Args) (us:iG) (vs:List V) (Q:VK) (E:XK),Room k A->Env0 P w K mg base A outer s H->BindsTo s fd args (ps.zip us)->Vals vs us->sp vs H Q E->
  codeAny (model P w) A (.call (.ref f) args) (CR CX outer P w H s Q E) s
theorem FnOk.mono{P:gP}{w:gH}{K:gL}{mg:kO}{base:gQ}{CX:CXT}{j k:Nat}{f:gn}{fd:mP}{ps:iw}{sp:Sp}(F:FnOk P w K mg base CX j f fd ps sp)(h:j<=k):
  FnOk P w K mg base CX k f fd ps sp:=⟨F.len,fun A outer s H args us vs Q E hr=>F.run A outer s H args us vs Q E (hr.mono h)⟩
section
variable {X:Cx}{pins:hJ}{σ:St}{H:Hp}{s s':gr}
theorem Inv.env0(I:Inv X pins σ H s):Env0 X.prog X.w X.K X.mg X.base X.A X.stack s H:=
 ⟨I.ok.frames,I.ok.mod,I.bs,kM I.ok.bsz I.sz,I.stack,I.stkFree,I.hok,I.bare⟩
theorem Inv.after{Q:VK}{u:gB}(I:Inv X pins σ H s)(h:CE X.stack X.prog X.w H s Q u s'):EP X pins σ Q u s':=by
 obtain⟨v,H',os,bare,un,hok,r,q⟩:=h;obtain⟨hh,g,d,t,cg⟩:=s';obtain rfl:cg=s.os:=os;exact⟨v,H',I.call (h':=hh) (g':=g) (d':=d) (t':=t) (ch:=[]) un hok bare (fun b z=>absurd z (by simp)),r,q⟩
end
noncomputable def P6(sp:Sp)(bX:List V)(E:XK)(t:TA):TE:=fun σ H Q=>t σ H fun vs H1=>sp (vs++bX) H1 Q E
def Binds(K:gL)(fd:mP)(ps:iw)(ds:iG):Prop:=
 ∀(s:gr) (us:iG),K.In s.heap->(us++ds).length=ps.length->BindsTo s fd ⟨us,[]⟩ (ps.zip (us++ds))
theorem Binds.all{K:gL}{fd:mP}{ps:iw}(h: ∀us:List Value,us.length=ps.length->bindArgs fd ⟨us,[]⟩=pure (ps.zip us)):Binds K fd ps []:=fun s us _ hl=>by
 rw[tH] at hl ⊢;exact .of_eq (h us hl)
def Fx(CX:CXT)(X:Cx)(E:XK):Prop:= ∀(pins:hJ) (σ:St) (H:Hp) (s:gr) (e:gB) (s':gr),Inv X pins σ H s->CX X.stack H s E e s'->X.xe e s'
section
variable {X:Cx}{CX:CXT}{k:Nat}{f C:gn}{fd:mP}{ps:iw}{sp:Sp}{bX:List V}{ds:iG}{E:XK}{x m:Str}{p pos apos:Pos}{e o:gC}{es:jl}{ta:TE}{t:TA}
theorem NN{pins:hJ}{σ:St}{H:Hp}{s:gr}{Q:VK}{us:iG}{vs:List V}(F:FnOk X.prog X.w X.K X.mg X.base CX k f fd ps sp)(hr:Room k X.A)(hb:Binds X.K fd ps ds)(hd:Vals bX ds)(hx:Fx CX X E)
  (I:Inv X pins σ H s)(r:Vals vs us)(h:sp (vs++bX) H Q E):wpAny (model X.prog X.w) X.A (call (.ref f) us) (EP X pins σ Q) X.xe s:=by
 have r2:Vals (vs++bX) (us++ds):=r.append hd;have hl:(us++ds).length=ps.length:=by rw[<-r2.length];exact F.len _ _ _ _ h
 refine wpAny_call (pV (F.run X.A X.stack s H ⟨us,[]⟩ (us++ds) (vs++bX) Q E hr I.env0 (hb s us I.kIn hl) r2 h) fun r s' hq=>?_)
 cases r with
 |error e=>exact hx pins σ H s e s' I hq
 |ok fl=>
  cases fl with
  |ret u=>exact I.after hq
  |next=>exact False.elim hq
  |brk=>exact False.elim hq
  |cont=>exact False.elim hq
theorem Mn(F:FnOk X.prog X.w X.K X.mg X.base CX k f fd ps sp)(hr:Room k X.A)(hg:Gl X x)(hm:X.mg x=some (.ref f))(hk:PySem.W.keepIn X.K (.ref f)=true)(hb:Binds X.K fd ps ds)(hd:Vals bX ds)(hx:Fx CX X E)
  (ha:PA X (e::es) t)(l5:(x==("__debug__":Str))=false:=by decide)(he:starEach (e::es) X.env=(false,eval e X.env)::starEach es X.env:=by rfl)(j9:(backTo pos (starEach es X.env)).any (·.1)=false:=by rfl):
  PE X (.Call (.Name x p) (e::es) [] pos) (P6 sp bX E t):=by
 intro pins s σ H Q I h;refine AF (Gg I hg hm ?_ l5);refine PySem.W.callWith_K (h₀:=X.base) I.ok.mod.kin hk (thn (ha pos pins s σ H _ I h) fun us s1 ⟨vs,H1,I1,r,q⟩=>⟨I1.kIn,?_⟩) he j9;exact NN F hr hb hd hx I1 r q
end
section
variable {X:Cx}{CX:CXT}{k:Nat}{f C:gn}{fd:mP}{ps ks:iw}{sp:Sp}{E:XK}{x m:Str}{p pos apos kpos:Pos}{e o:gC}{es:jl}{kws:List Keyword}{te ta:TE}{t tk:TA}{nm:Option Str}
variable {g:List Value->List Value->List Value}{gV:List V->List V->List V}
end
structure FnScope(N P:iw)(sc:jD):Prop where
 kind:sc.kind= .function
 co:sc.isCoroutine=false
 gen:sc.isGenerator=false
 nd:N.Nodup
 pre:N.take P.length=P
 par: ∀x∈P,sc.names.lookup x=some .local\/sc.names.lookup x=some .cell
 nofree: ∀y∈sc.names,y.2≠ .free
theorem zS{kindOf:Str->Option NameKind}{x:Str}: ∀{binds:List (Str×Value)} {m:kO},(∀v,(x,v)∉binds)->bindL kindOf binds m x=m x
 |[],_,_=>rfl
 |(n,v)::r,m,h=>by
  unfold bindL;rw[zS fun w hw=>h w (iT _ hw)];split
  ·have:x≠n:=by rintro rfl;exact h v iR
   simp[this]
  ·rfl
theorem zU{kindOf:Str->Option NameKind}{x:Str}: ∀{binds:List (Str×Value)} {m:kO},(∀v,(x,v)∉binds)->bindC kindOf binds m x=m x
 |[],_,_=>rfl
 |(n,v)::r,m,h=>by
  unfold bindC;rw[zU fun w hw=>h w (iT _ hw)];split
  ·rfl
  ·have:x≠n:=by rintro rfl;exact h v iR
   simp[this]
theorem zT{kindOf:Str->Option NameKind}{x:Str}{v:gB}: ∀{P:iw} {vs:iG} {i:Nat} {m:kO},P.Nodup->P[i]?=some x->vs[i]?=some v->kindOf x=some .local->
  bindL kindOf (P.zip vs) m x=some v
 |[],_,_,_,_,h,_,_=>by simp at h
 |_::_,[],_,_,_,_,h,_=>by simp at h
 |p::P,w::vs,0,m,nd,h1,h2,hk=>by
  simp at h1 h2;subst h1;subst h2;show bindL kindOf ((p,w)::P.zip vs) m p=_;unfold bindL;rw[zS fun v hv=>(IA.mp nd).1 (D6 hv).1,gu hk];simp
 |p::P,w::vs,i+1,m,nd,h1,h2,hk=>by
  show bindL kindOf ((p,w)::P.zip vs) m x=_;unfold bindL;exact zT (i:=i) (IA.mp nd).2 (by simpa using h1) (by simpa using h2) hk
theorem zV{kindOf:Str->Option NameKind}{x:Str}{v:gB}: ∀{P:iw} {vs:iG} {i:Nat} {m:kO},P.Nodup->P[i]?=some x->vs[i]?=some v->kindOf x≠some .local->
  bindC kindOf (P.zip vs) m x=some v
 |[],_,_,_,_,h,_,_=>by simp at h
 |_::_,[],_,_,_,_,h,_=>by simp at h
 |p::P,w::vs,0,m,nd,h1,h2,hk=>by
  simp at h1 h2;subst h1;subst h2;show bindC kindOf ((p,w)::P.zip vs) m p=_;unfold bindC;rw[zU fun v hv=>(IA.mp nd).1 (D6 hv).1,gv hk];simp
 |p::P,w::vs,i+1,m,nd,h1,h2,hk=>by
  show bindC kindOf ((p,w)::P.zip vs) m x=_;unfold bindC;exact zV (i:=i) (IA.mp nd).2 (by simpa using h1) (by simpa using h2) hk
noncomputable def pq(N:iw)(vs:List V):St:=vs.map some++List.replicate (N.length-vs.length) none
noncomputable def C4(CX:CXT)(P:gP)(w:gH)(K:gL)(mg:kO)(base:gQ)(N:iw)(qual:Str)(scope:jD)(f:gn)(cd:gB)(A:gM)(outer:List Env)(s:gr)(H:Hp)(E:XK):Cx where
 prog:=P
 w:=w
 K:=K
 mg:=mg
 base:=base
 A:=A.deeper (envOfC qual scope s.heap.objs.size f cd)
 N:=N
 s₀:=s
 H₀:=H
 env:=envOfC qual scope s.heap.objs.size f cd
 outer:=outer
 stack:=envOfC qual scope s.heap.objs.size f cd::outer
 ex:=[]
 calm:=true
 fn:=fun _=>true
 pn:=[]
 xe:=fun e s'=>wpAny (model P w) (A.deeper (envOfC qual scope s.heap.objs.size f cd)) (leaving (envOfC qual scope s.heap.objs.size f cd) e) (fun _ bP=>CX outer H s E e bP) (fun e' bP=>CX outer H s E e' bP) s'
theorem Dd{sc:jD}{n:Nat}{x:Str}(h:sc.names.lookup x=some .cell): ∃c,(cellsFrom n sc.names []).lookup x=some c:=by
 have q:=Iw sc.names n [] (.inl h);exact Lq.mp q
theorem Hr{CX:CXT}{P:gP}{w:gH}{K:gL}{mg:kO}{base:gQ}{N ps:iw}{qual:Str}{scope:jD}{f:gn}{cd:gB}{A:gM}{outer:List Env}{s s1:gr}{H:Hp}{E:XK}{us:iG}{vs:List V}
  (S:FnScope N ps scope)(hd:A.handled=none)(e0:Env0 P w K mg base A outer s H)(hl:vs.length=ps.length)(r:Vals vs us)
  (x:InCallC s s.heap.objs.size (bindL (envOfC qual scope s.heap.objs.size f cd).kindOf (ps.zip us) fun _=>none) (cellsFrom (s.heap.objs.size+1) scope.names []) (bindC (envOfC qual scope s.heap.objs.size f cd).kindOf (ps.zip us) fun _=>none) s1):
  Inv (C4 CX P w K mg base N qual scope f cd A outer s H E) [] (pq N vs) H s1:=by
 have j9:ps.length<=N.length:=by have:=rA List.length S.pre;rw[nS] at this;omega
 obtain⟨h1,tk,rfl,hk⟩:=x.done;have dA: ∀b:Addr,b∉(C4 CX P w K mg base N qual scope f cd A outer s H E).ex:=fun b z=>absurd (show b∈([]:List Addr) from z) (by simp)
 refine⟨⟨e0.mod,S.kind,rfl,rfl,hU _,fun y z c h1 h2=>?_,fun y hy=>?_,fun y c _ h=>?_,fun _=>hd,Around.frames_deeper e0.frames,.inr ⟨rfl,rfl⟩,fun b z=>absurd z (dA b),e0.bs,e0.bsz,fun b _ _=>dA b,fun b z=>absurd z (dA b),e0.funs,e0.frf⟩,
  rfl,e0.bare,Un.kept hk,⟨_,x.toInCall.ns,fun i y v h1 h2 h3=>?_⟩,fun y c h=>⟨_,x.cell y c h⟩,e0.hok.fresh (hU _),fun y c h=>?_,fun p hp=>absurd (show p∈([]:List (Addr×Obj)) from hp) (by simp),e0.hok.kept hk,?_⟩
 ·exact name_of_addr x.apart (si h1) (si h2)
 ·have hy:scope.names.lookup y=some .cell\/scope.names.lookup y=some .free:=hy;rcases hy with hy|hy
  ·exact Dd hy
  ·exact absurd rfl (S.nofree _ (si hy))
 ·exact AI (x.above y c (si h))
 ·have hi:i<vs.length:=by
   unfold pq at h2;by_cases hi:i<vs.length
   ·exact hi
   ·rw[uZ (by simpa using hi)] at h2;rw[List.getElem?_replicate] at h2;split at h2<;>cases h2
  have ha:vs[i]?=some v:=by
   unfold pq at h2;rw[wO (by simpa using hi),kF] at h2
   cases e:vs[i]? with
   |none=>rw[e] at h2;cases h2
   |some a=>rw[e] at h2;cases h2;rfl
  obtain⟨u,hu,rv⟩:=r.get ha
  have hp:ps[i]?=some y:=by
   rw[<-S.pre,Iv (by omega)];exact h1
  have ndP:ps.Nodup:=by rw[<-S.pre];exact S.nd.sublist (mv _ _)
  refine⟨u,rv,?_⟩;rcases S.par y (lQ hp) with k|k
  ·exact .inl ⟨k,zT ndP hp hu k⟩
  ·obtain⟨c,e⟩:=Dd (n:=s.heap.objs.size+1) k;refine .inr ⟨.inl k,c,e,?_⟩;have q:=x.cell y c e;rw[zV ndP hp hu (by show scope.names.lookup y≠_;rw[k];decide)] at q;exact q
 ·exact e0.hok.fresh (AI (x.above y c (si h)))
 ·unfold pq;show _=N.length;rw[lP,iX,List.length_replicate];omega
theorem Q4{CX:CXT}{P:gP}{w:gH}{K:gL}{mg:kO}{base:gQ}{k:Nat}{f:gn}{name qual:Str}{params:Arguments}{body:List Stmt}{scope:jD}{dV kV doc pm i4 ct oc:gB}{an od:Option Addr}
  {aN:sY}{N ps:iw}{sp:Sp}(lk:K.lookup f=some ⟨oc,od,.func (PySem.W.fnOf name qual params body scope dV kV doc pm an i4 ct),aN⟩)(x8:PySem.W.codeIn K i4 qual=true)(S:FnScope N ps scope)
  (len: ∀vs H Q E,sp vs H Q E->vs.length=ps.length)
  (x9: ∀(A:gM) (outer:List Env) (s:gr) (H:Hp) (vs:List V) (Q:VK) (E:XK),Room k (A.deeper (envOfC qual scope s.heap.objs.size f i4))->sp vs H Q E->
   ∃t,PSs (C4 CX P w K mg base N qual scope f i4 A outer s H E) body t/\t {nx:=fun _ H'=>Q .non H',rt:=Q} (pq N vs) H):
  FnOk P w K mg base CX (k+1) f (PySem.W.fnOf name qual params body scope dV kV doc pm an i4 ct) ps sp:=by
 refine⟨len,fun A outer s H args us vs Q E hr e0 hb r bT=>?_⟩;have hl:=len _ _ _ _ bT;have KX:K.In s.heap:=e0.mod.kin.keeps fun b o e=>(e0.bs b o e).1;have lim:s.heap.NoLimit:=e0.mod.nolimit.keeps fun b o e=>(e0.bs b o e).1
 have hkind: ∀y∈ps.zip us,scope.names.lookup y.1=some .local\/(scope.names.lookup y.1=some .cell/\((cellsFrom (s.heap.objs.size+1) scope.names []).lookup y.1).isSome=true):=fun⟨n,v⟩ hy=>by
  rcases S.par n (D6 hy).1 with q|q
  ·exact .inl q
  ·exact .inr ⟨q,Iw _ _ _ (.inl q)⟩
 refine codeAny_call_function hr.depth (KX _ _ lk) rfl S.co S.gen rfl (PySem.W.codeRec_of KX x8) (hb _ _ _ _ ?_);refine wpAny_newFunctionEnv_cells S.kind hkind fun env he s1 x=>?_;subst he;refine⟨lim.keeps x.toInCall.keep,codeAny_func ?_⟩;obtain⟨t,ht,hq⟩:=x9 A outer s H vs Q E (hr.deeper _) bT;have I:Inv (C4 CX P w K mg base N qual scope f i4 A outer s H E) [] (pq N vs) H s1:=Hr S hr.hd e0 hl r x;refine oW (ht [] s1 (pq N vs) H _ I hq) (fun fl s' hs=>?_) fun e s' hs=>hs
 have fin: ∀{σ':St} {H':Hp} {v:V} {u:gB},Inv (C4 CX P w K mg base N qual scope f i4 A outer s H E) [] σ' H' s'->RelV v u->Q v H'->CE outer P w H s Q u s':=
  fun {σ' H' v u} J rv q=>⟨v,H',J.os,J.bare,J.base,J.hok,rv,q⟩
 cases fl with
 |ret u=>
  obtain⟨v,σ',H',J,rv,q⟩:=hs;exact fin J rv q
 |next=>
  obtain⟨σ',H',J,q⟩:=hs;exact fin (v:=V.non) (u:=Value.none) J rfl q
 |brk=>
  obtain⟨_,_,_,q⟩:=hs;exact False.elim q
 |cont=>
  obtain⟨_,_,_,q⟩:=hs;exact False.elim q
section
variable {X:Cx}{x:Str}{p pos:Pos}{e:gC}{es:jl}{t:TA}{id T:String}{r:List V->Hp->VK->Prop}
def tCB(r:List V->Hp->VK->Prop)(t:TA):TE:=fun σ H Q=>t σ H fun vs H1=>r vs H1 Q
theorem xw(hc:jf X (.builtin id) r)(hg:Gl X x)(hm:X.mg x=none)(hv:bootBuiltins x=some (.builtin id))(ha:PA X (e::es) t)(hn:x≠"__name__":=by decide)(l5:(x==("__debug__":Str))=false:=by decide)
  (he:starEach (e::es) X.env=(false,eval e X.env)::starEach es X.env:=by rfl)(j9:(backTo pos (starEach es X.env)).any (·.1)=false:=by rfl):PE X (.Call (.Name x p) (e::es) [] pos) (tCB r t):=by
 intro pins s σ H Q I h;refine AF (vm I hg hm hv ?_ hn l5);exact PyProof.Rows.callWith_builtin1 (thn (ha pos pins s σ H _ I h) fun us s1 ⟨vs,H1,I1,r1,q1⟩=>hc pins s1 σ H1 vs us Q I1 r1 q1) he j9
theorem oi(hc:jf X (.type T) r)(hg:Gl X x)(hm:X.mg x=none)(hv:bootBuiltins x=some (.type T))(ha:PA X (e::es) t)(hn:x≠"__name__":=by decide)(l5:(x==("__debug__":Str))=false:=by decide)
  (he:starEach (e::es) X.env=(false,eval e X.env)::starEach es X.env:=by rfl)(j9:(backTo pos (starEach es X.env)).any (·.1)=false:=by rfl):PE X (.Call (.Name x p) (e::es) [] pos) (tCB r t):=by
 intro pins s σ H Q I h;refine AF (vm I hg hm hv ?_ hn l5);exact AG (thn (ha pos pins s σ H _ I h) fun us s1 ⟨vs,H1,I1,r1,q1⟩=>hc pins s1 σ H1 vs us Q I1 r1 q1) he j9
end
end L2
namespace HT
open PySem PyProof.Rows
section
open PySem.SeqAt
open PySem.AutoSeq1 (wpAny_loadPart')
open PySem.MeetsSeq PySem.MeetsSeq2 PySem.MeetsSeq3
end
section
variable {prog:gP}{w:gH}{A:gM}{E:hG}{s:gr}
theorem Rf{t b:gn}{vs ws:iG}{Q:hG}(ht:IsTup s.heap t vs.toArray)(hb:IsTup s.heap b ws.toArray)(hv:vs≠[])
  (h1:ws=[]->Q (.ref t) s)(h2:ws≠[]->Q (.ref s.heap.objs.size) {s with heap:=s.heap.push {cls:= .type "tuple",data:= .seq (vs++ws).toArray}})
  (hsz:vs.length+ws.length<=sizeLine):wpAny (model prog w) A (binaryOp .Add (.ref t) (.ref b)) Q E s:=by
 obtain⟨⟨cls,dd,data,sl⟩,ho,hc,n,hd⟩:=id ht;obtain⟨⟨cQ,u7,data2,u5⟩,t5,y6,n2,hd2⟩:=id hb;simp only at hc hd y6 hd2;subst hc hd y6 hd2;have e:vs.toArray++ws.toArray=(vs++ws).toArray:=by simp
 by_cases hw:ws=[]
 ·exact AE ⟨_,ho,rfl⟩ ⟨_,t5,rfl⟩ D5 D4 D3 D2 (D1 _ _)
   (tuple_addW1 t b vs.toArray ws.toArray n n2 dd u7 sl u5 (by simpa using hv) (by simp[hw])) ⟨ho,t5,h1 hw⟩
 ·refine AE ⟨_,ho,rfl⟩ ⟨_,t5,rfl⟩ D5 D4 D3 D2 (D1 _ _)
   (tuple_addW2 t b vs.toArray ws.toArray n n2 dd u7 sl u5 (by simpa using hv) (by simpa using hw) (by rw[hZ,hZ];exact hsz)) ⟨ho,t5,?_⟩
  rw[e];exact h2 hw
noncomputable def sIx(n d:Nat):Option Int->Nat
 |none=>d
 |some v=>if v<0 then(v+(n:Int)).toNat else min v.toNat n
theorem PD(n d:Nat):sIx n d none=d:=rfl
theorem Qd(n d k:Nat):sIx n d (some (k:Int))=min k n:=by
 show(if(k:Int)<0 then((k:Int)+(n:Int)).toNat else min (k:Int).toNat n)=min k n;rw[gv (by omega),pH]
theorem NM(n d:Nat)(hd:d<=n)(o:Option Int):sIx n d o<=n:=by
 cases o with
 |none=>exact hd
 |some v=>
  show(if v<0 then(v+(n:Int)).toNat else min v.toNat n)<=n;by_cases hv:v<0
  ·rw[gu hv];omega
  ·rw[gv hv];exact Nat.min_le_right _ _
theorem Gu(v:Int)(n d:Nat):(if v<0 then max (v+(n:Int)) 0 else min v (n:Int))=((sIx n d (some v):Nat):Int):=by
 show(if v<0 then max (v+(n:Int)) 0 else min v (n:Int))=(((if v<0 then(v+(n:Int)).toNat else min v.toNat n):Nat):Int)
 by_cases hv:v<0
 ·simp only[gu hv];omega
 ·simp only[gv hv];omega
theorem Fu(lo hi:Option Int)(n:Nat):Builtin.Slice.sliceAdjust lo hi 1 (n:Int)=(((sIx n 0 lo:Nat):Int),((sIx n n hi:Nat):Int)):=by
 have h1: ¬((1:Int)<0):=by omega
 unfold Builtin.Slice.sliceAdjust;simp only[h1,iP];refine Prod.ext ?_ ?_
 ·cases lo with
  |none=>rfl
  |some v=>exact Gu v n 0
 ·cases hi with
  |none=>rfl
  |some v=>exact Gu v n n
theorem Ew(i j:Nat):Builtin.Slice.slicePlaces (i:Int) (j:Int) 1=j-i:=by
 unfold Builtin.Slice.slicePlaces;have h1:(1:Int)>0:=by omega
 simp only[h1,ie,Int.ediv_one];split<;>omega
theorem xh{v:gB}{o:Option Int}{Q:Option Int->Shared->Prop}(p:IsPart v o)(h:Q o s):wpAny (model prog w) A (Builtin.Slice.slicePartIndex v) Q E s:=by
 cases p with
 |none=>exact AD h
 |int i t=>exact slicePart_int h
theorem og{sl:gn}{vl vu:gB}{lo hi:Option Int}{n:Nat}{Q:Int×Int×Nat->Shared->Prop}(hs:s.heap.IsSliceOf sl vl vu .none)(pl:IsPart vl lo)(pu:IsPart vu hi)
  (h:Q (((sIx n 0 lo:Nat):Int),1,sIx n n hi-sIx n 0 lo) s):wpAny (model prog w) A (Builtin.Slice.sliceApplied (.ref sl) (pure (n:Int))) Q E s:=by
 obtain⟨os,y3,bx,aF⟩:=id hs;unfold Builtin.Slice.sliceApplied Builtin.Slice.sliceFields;refine gi (gi (lu y3 aF (x:=vl) rfl (gi (lu y3 aF (x:=vu) rfl (gi (lu y3 aF (x:= .none) rfl (gw ?_)))))));refine gi (AD ?_);show wpAny _ _ (if((1:Int)==0)=true then _ else _) _ _ s;rw[gv (by decide)];refine gi (xh pl (gi (xh pu (gi (gw ?_)))));show wpAny _ _ (match Builtin.Slice.sliceAdjust lo hi 1 (n:Int) with|(lo,hi)=>pure (lo,(1:Int),Builtin.Slice.slicePlaces lo hi 1)) _ _ s;rw[Fu lo hi n];show wpAny _ _ (pure (((sIx n 0 lo:Nat):Int),(1:Int),Builtin.Slice.slicePlaces ((sIx n 0 lo:Nat):Int) ((sIx n n hi:Nat):Int) 1)) _ _ s;rw[Ew];exact gw h
theorem JJ(xs:jS)(i k:Nat):((List.range k).filterMap fun(m:Nat)=>xs[((i:Int)+(m:Int)*1).toNat]?).toArray=((xs.toList.drop i).take k).toArray:=by
 have e:(fun(m:Nat)=>xs[((i:Int)+(m:Int)*1).toNat]?)=fun m=>xs[i+m]?:=by
  funext m;have:((i:Int)+(m:Int)*1).toNat=i+m:=by omega
  rw[this]
 rw[e];have:=pick_run xs i k;rw[List.filterMap_map] at this;have e2:((fun x=>xs[x]?)∘fun x=>i+x)=fun m=>xs[i+m]?:=rfl;rw[e2] at this;rw[this]
theorem EV{t sl:gn}{items:jS}{vl vu:gB}{lo hi:Option Int}{Q:hG}(ht:IsTup s.heap t items)(hs:s.heap.IsSliceOf sl vl vu .none)(pl:IsPart vl lo)(pu:IsPart vu hi)
  (hw: ¬(sIx items.size 0 lo=0/\sIx items.size items.size hi=items.size))
  (h:Q (.ref s.heap.objs.size) {s with heap:=s.heap.push {cls:= .type "tuple",data:= .seq ((items.toList.drop (sIx items.size 0 lo)).take (sIx items.size items.size hi-sIx items.size 0 lo)).toArray}})
  (hsz:items.size<=sizeLine):wpAny (model prog w) A (getItem (.ref t) (.ref sl)) Q E s:=by
 have l7:sizeOk (.seq ((items.toList.drop (sIx items.size 0 lo)).take (sIx items.size items.size hi-sIx items.size 0 lo)).toArray):=by
  show((items.toList.drop (sIx items.size 0 lo)).take (sIx items.size items.size hi-sIx items.size 0 lo)).toArray.size<=sizeLine;rw[hZ,nS,sh,iY];omega
 have hj:sIx items.size items.size hi<=items.size:=NM _ _ (hU _) hi;obtain⟨os,y3,bx,aF⟩:=id hs;have dP:s.TypeIs (.ref sl) "slice":=⟨os,y3,bx⟩
 unfold getItem
 try with_reducible refine lR ?_
 first|refine gi (gw ?_)|skip
 refine gi (D0 ht.typeIs (by decide) ?_)
 refine gi (pG (name:=Str.ofString "__getitem__") ht.typeIs wz
  (mq wz ht.typeIs DZ ?_ (DY _ _)))
 show wpAny _ _ (Builtin.Tuple.tupleItemsOf (.ref t)>>=_) _ _ s;refine gi (DX ht ?_);refine gi (rq dP ?_);rw[gu (by decide)];refine gi (og hs pl pu ?_)
 have bU: ¬((((sIx items.size 0 lo:Nat):Int)==0&&(1:Int)==1&&(sIx items.size items.size hi-sIx items.size 0 lo)==items.size)=true):=by
  intro q;rw[kQ,kQ] at q;have q1:((sIx items.size 0 lo:Nat):Int)=0:=pU q.1.1;have q2:sIx items.size items.size hi-sIx items.size 0 lo=items.size:=pU q.2;exact hw ⟨by omega,by omega⟩
 show wpAny _ _ (if(((sIx items.size 0 lo:Nat):Int)==0&&(1:Int)==1&&(sIx items.size items.size hi-sIx items.size 0 lo)==items.size)=true then _ else _) _ _ s;rw[gv bU,JJ]
 first
  |exact gi (m:=Builtin.Tuple.tupleExact _) (kE (gw ⟨_,rfl,gw h⟩) l7)
  |exact gi (m:=Builtin.Tuple.tupleExact _) (kE (gi (gw (gw ⟨_,rfl,gw h⟩))) l7)
  |exact gi (gi (m:=Builtin.Tuple.tupleExact _) (kE (gw (gw ⟨_,rfl,gw h⟩)) l7))
  |exact gi (gi (m:=Builtin.Tuple.tupleExact _) (kE (gw ⟨_,rfl,gw h⟩) l7))
end
end HT
namespace L2
open PySem PySem.Spec PyProof.Rows
abbrev TO:=St->Hp->(Option Int->Hp->Prop)->Prop
def PO(X:Cx)(e:Option Expr)(t:TO):Prop:=
 ∀(pins:hJ) (s:gr) (σ:St) (H:Hp) (Q:Option Int->Hp->Prop),Inv X pins σ H s->t σ H Q->
  wpAny (model X.prog X.w) X.A (evalPart e X.env) (fun u s'=> ∃o H',Inv X pins σ H' s'/\IsPart u o/\Q o H') X.xe s
noncomputable def LA:TO:=fun _ H Q=>Q none H
def PU(t:TE):TO:=fun σ H Q=>t σ H fun x H1=> ∃i,x= .int i/\Q (some i) H1
section
variable {X:Cx}{e:gC}{te:TE}{lo hi:Option Expr}{tl th:TO}{pos p2:Pos}
theorem F1:PO X none LA:=by
 intro pins s σ H Q I h;rw[DV];exact gw ⟨none,H,I,.none,h⟩
theorem F0(h:PE X e te):PO X (some e) (PU te):=by
 intro pins s σ H Q I hw;rw[evalPart_some];refine thn (h pins s σ H _ I hw) fun u s1 ⟨x,H1,I1,r1,q1⟩=>?_;obtain⟨i,rfl,q⟩:=q1;obtain⟨t,rfl⟩:=r1;exact⟨some i,H1,I1,.int i t,q⟩
def SlR(X:Cx)(r:V->Option Int->Option Int->Hp->VK->Prop):Prop:=
 ∀(pins:hJ) (s:gr) (σ:St) (H:Hp) (x:V) (v vl vu:gB) (lo hi:Option Int) (sl:gn) (Q:VK),Inv X pins σ H s->RelV x v->s.heap.IsSliceOf sl vl vu .none->IsPart vl lo->IsPart vu hi->r x lo hi H Q->
  ∃T id,typeLookup (.type T) "__getitem__"=pure (some (.builtin id))/\s.TypeIs v T/\wpAny (model X.prog X.w) X.A (getItem v (.ref sl)) (EP X pins σ Q) X.xe s
def tSl(r:V->Option Int->Option Int->Hp->VK->Prop)(te:TE)(tl th:TO):TE:=fun σ H Q=>te σ H fun x H1=>tl σ H1 fun l H2=>th σ H2 fun u H3=>r x l u H3 Q
theorem Cp{r:V->Option Int->Option Int->Hp->VK->Prop}(hr:SlR X r)(he:PE X e te)(hl:PO X lo tl)(hu:PO X hi th):PE X (.Subscript e (.Slice lo hi none p2) pos) (tSl r te tl th):=by
 intro pins s σ H Q I h;refine Subscript_ (thn (he pins s σ H _ I h) fun v s1 ⟨x,H1,I1,r1,q1⟩=>?_);refine wpAny_Slice (thn (hl pins s1 σ H1 _ I1 q1) fun vl s2 ⟨l,H2,I2,pl,q2⟩=>thn (hu pins s2 σ H2 _ I2 q2) fun vu s3 ⟨u,H3,I3,pu,q3⟩=>?_);rw[DV];refine gw ?_;have I4:Inv X pins σ H3 {s3 with heap:=s3.heap.push {cls:= .type "slice",data:= .fields #[vl,vu,.none]}}:=I3.kept (t':=s3.toks) fun b ob q=>ig _ q;obtain⟨T,id,hT,ht,hg⟩:=hr pins {s3 with heap:=s3.heap.push {cls:= .type "slice",data:= .fields #[vl,vu,.none]}} σ H3 x v vl vu l u s3.heap.objs.size Q I4 r1 (Heap.IsSliceOf.new ..) pl pu q3;show wpAny (model X.prog X.w) X.A (subscriptTail e (.Slice lo hi none p2) v (.ref s3.heap.objs.size)) (EP X pins σ Q) X.xe {s3 with heap:=s3.heap.push {cls:= .type "slice",data:= .fields #[vl,vu,.none]}};exact tail_any (ops:=[.ref s3.heap.objs.size,v]) ht hT hg (by with_unfolding_all rfl)
noncomputable def C5(xs:List V)(lo hi:Option Int):List V:=(xs.drop (HT.sIx xs.length 0 lo)).take (HT.sIx xs.length xs.length hi-HT.sIx xs.length 0 lo)
theorem vS(xs:List V)(lo hi:Option Int):(C5 xs lo hi).length<=xs.length:=by
 unfold C5;rw[nS,sh];omega
def SM(K:gL):V->Option Int->Option Int->Hp->VK->Prop:=fun x lo hi H Q=> ∃a xs,x= .ref a/\SqT K H a xs/\
 ¬(HT.sIx xs.length 0 lo=0/\HT.sIx xs.length xs.length hi=xs.length)/\ ∀p,H p=none->Q (.ref p) (upd H p (.tup (C5 xs lo hi)))
theorem NJ:SlR X (SM X.K):=by
 intro pins s σ H x v vl vu lo hi sl Q I rx hs pl pu h;obtain⟨a,xs,rfl,hx,hw,q⟩:=h;cases rx;obtain⟨b6,r,ht,hz⟩:=I.tuple hx;have hlen:b6.toArray.size=xs.length:=by rw[hZ];exact r.length.symm
 refine⟨"tuple",_,wz.lookup,ht.typeIs,?_⟩;refine HT.EV ht hs pl pu (by rw[hlen];exact hw) ?_ (by rw[hlen];exact hz);rw[hlen];refine⟨.ref s.heap.objs.size,_,I.laid (t':=s.toks) (o:= .tup (C5 xs lo hi)) (fun b ob q=>ig _ q) (hU _) ?_,rfl,q _ (I.hok.fresh (hU _))⟩;exact⟨kM (vS xs lo hi) hz,_,(r.drop (HT.sIx xs.length 0 lo)).take (HT.sIx xs.length xs.length hi-HT.sIx xs.length 0 lo),wN _ _⟩
def Qm(K:gL):R2:=fun x y H Q=> ∃a b xs ys,x= .ref a/\y= .ref b/\SqT K H a xs/\SqT K H b ys/\xs≠[]/\xs.length+ys.length<=sizeLine/\
 (ys=[]->Q (.ref a) H)/\(ys≠[]-> ∀p,H p=none->Q (.ref p) (upd H p (.tup (xs++ys))))
theorem Vals.nil_iff{xs:List V}{us:iG}(r:Vals xs us):us=[]↔xs=[]:=by
 cases r with
 |nil=>simp
 |cons _ _=>simp
theorem Mt:OpR X (binaryOp .Add) (Qm X.K):=by
 intro pins s σ H x y v u Q I rx ry h;obtain⟨a,b,xs,ys,rfl,rfl,ha,hb,hx,hz,q1,q2⟩:=h;cases rx;cases ry;obtain⟨b6,r1,p1,_⟩:=I.tuple ha;obtain⟨e9,r2,p2,_⟩:=I.tuple hb;refine HT.Rf p1 p2 (fun z=>hx (r1.nil_iff.mp z)) (fun z=>⟨.ref a,H,I,rfl,q1 (r2.nil_iff.mp z)⟩) (fun z=>?_) (by rw[<-r1.length,<-r2.length];exact hz);refine⟨.ref s.heap.objs.size,_,I.laid (t':=s.toks) (o:= .tup (xs++ys)) (fun b ob q=>ig _ q) (hU _) ?_,rfl,q2 (fun w=>z (r2.nil_iff.mpr w)) _ (I.hok.fresh (hU _))⟩;exact⟨by rw[lP];exact hz,_,r1.append r2,wN _ _⟩
end
noncomputable def ixN(n:Nat)(i:Int):Option Nat:=if 0<=i then(if i<n then some i.toNat else none) else if -(n:Int)<=i then some (i+n).toNat else none
noncomputable def atI{α:Type}(xs:List α)(i:Int):Option α:=(ixN xs.length i).bind fun j=>xs[j]?
theorem Be{n:Nat}{i:Int}{j:Nat}(h:ixN n i=some j):seqIndex? i n=some j/\j<n/\ -(n:Int)<=i/\i<n:=by
 unfold ixN at h;by_cases h0:0<=i
 ·rw[gu h0] at h;by_cases h1:i<n
  ·rw[gu h1] at h;have e:i.toNat=j:=iE h;exact⟨by rw[DU h0 h1,e],by omega,by omega,h1⟩
  ·rw[gv h1] at h;cases h
 ·rw[gv h0] at h;by_cases h1: -(n:Int)<=i
  ·rw[gu h1] at h;have e:(i+n).toNat=j:=iE h;exact⟨by rw[DT (by omega) h1,e],by omega,h1,by omega⟩
  ·rw[gv h1] at h;cases h
theorem GB{α:Type}{xs:List α}{i:Int}{v:α}(h:atI xs i=some v): ∃j,seqIndex? i xs.length=some j/\xs[j]?=some v/\j<xs.length/\ -(xs.length:Int)<=i/\i<xs.length:=by
 unfold atI at h
 cases e:ixN xs.length i with
 |none=>rw[e] at h;cases h
 |some j=>
  rw[e] at h;obtain⟨h1,h2,h3,h4⟩:=Be e;exact⟨j,h1,h,h2,h3,h4⟩
def uG(b:gC):Prop:= ∀o i,subscripted b false o i=operate [o,i] (getItem o i)
def IxR(X:Cx)(r:R2):Prop:=
 ∀(value slice:gC) (pins:hJ) (s:gr) (σ:St) (H:Hp) (x y:V) (v u:gB) (Q:VK),Inv X pins σ H s->RelV x v->RelV y u->r x y H Q->
  subscripted slice false v u=operate [v,u] (getItem v u)->wpAny (model X.prog X.w) X.A (subscriptTail value slice v u) (EP X pins σ Q) X.xe s
def MtR(X:Cx)(id:String)(r:V->List V->Hp->VK->Prop):Prop:=
 ∀(pins:hJ) (s:gr) (σ:St) (H:Hp) (x:V) (xs:List V) (v:gB) (us:iG) (Q:VK),Inv X pins σ H s->RelV x v->Vals xs us->r x xs H Q->
  wpAny (model X.prog X.w) X.A (call (.builtin id) (v::us)) (EP X pins σ Q) X.xe s
section
variable {X:Cx}{a b:gC}{ta tb:TE}{pos:Pos}
theorem Nc{r:R2}(hr:IxR X r)(ha:PE X a ta)(hb:PE X b tb)(hs:uG b):PE X (.Subscript a b pos) (tOp r ta tb):=by
 intro pins s σ H Q I h;exact Subscript_ (Pr ha hb I h fun v u s2 x y H2 I2 rx ry q=>hr a b pins s2 σ H2 x y v u Q I2 rx ry q (hs _ _))
def SR(K:gL):R2:=fun x y H Q=> ∃p xs i v,x= .ref p/\y= .int i/\SqL K H p xs/\atI xs i=some v/\Q v H
def SQ(K:gL):R2:=fun x y H Q=> ∃p xs i v,x= .ref p/\y= .int i/\SqT K H p xs/\atI xs i=some v/\Q v H
theorem ME:IxR X (SR X.K):=by
 intro value slice pins s σ H x y v u Q I rx ry h hs;obtain⟨p,xs,i,z,rfl,rfl,hq,he,q⟩:=h;cases rx;obtain⟨t,rfl⟩:=ry;obtain⟨b6,r,pl,hz⟩:=I.list hq;obtain⟨j,h1,h2,h3,h4,h5⟩:=GB he;obtain⟨w,ew,w5⟩:=r.get h2;have hl:=r.length;have hn:=Bb;have fin:EP X pins σ Q w s:=⟨z,H,I,w5,q⟩
 by_cases h0:0<=i
 ·have hj:i.toNat=j:=by
   rw[DU h0 h5] at h1;exact iE h1
  exact item_listR pl.isList h0 (by omega) (by rw[hj];simpa using ew) fin hs
 ·have hj:(i+(b6.toArray.size:Int)).toNat=j:=by
   rw[DT (by omega) h4] at h1;rw[hZ,<-hl];exact iE h1
  exact Iu (x:=w) pl.isList.typeIs slot_list_getitem.lookup
   (wpAny_getItem_list_neg (Q:=fun r s'=>r=w/\EP X pins σ Q r s') pl.isList (by omega) (by rw[hZ]<;>omega) (by omega) (by rw[hj];simpa using ew) ⟨rfl,fin⟩) hs
theorem OY:IxR X (SQ X.K):=by
 intro value slice pins s σ H x y v u Q I rx ry h hs;obtain⟨p,xs,i,z,rfl,rfl,hq,he,q⟩:=h;cases rx;obtain⟨t,rfl⟩:=ry;obtain⟨b6,r,pl,hz⟩:=I.tuple hq;obtain⟨j,h1,h2,h3,h4,h5⟩:=GB he;obtain⟨w,ew,w5⟩:=r.get h2;have hl:=r.length;have hn:=Bb;have fin:EP X pins σ Q w s:=⟨z,H,I,w5,q⟩
 exact Iu (x:=w) pl.typeIs slot_tuple_getitem.lookup
  (getItem_tuple (j:=j) (Q:=fun r s'=>r=w/\EP X pins σ Q r s') pl (by omega) (by omega) (by rw[hZ,<-hl];exact h1) (by simpa using ew) ⟨rfl,fin⟩) hs
theorem EJ(b6:iG)(n j:Nat)(u:gB):Obj.mapSeq (·.setIfInBounds j u) {cls:= .type "list",data:= .seq b6.toArray n}={cls:= .type "list",data:= .seq (b6.set j u).toArray n}:=by
 simp[Obj.mapSeq]
theorem Inv.lst{pins:hJ}{σ:St}{H:Hp}{s:gr}{p:gn}{xs:List V}(I:Inv X pins σ H s)(h:H p=some (.lst xs)):
  ∃(b6:iG) (n:Nat),Vals xs b6/\s.heap.get? p=some {cls:= .type "list",data:= .seq b6.toArray n}/\xs.length<=sizeLine:=by
 obtain⟨z,b6,n,r,e⟩:=I.hok p _ h;exact⟨b6,n,r,e,z⟩
theorem Inv.lstUpd{pins:hJ}{σ:St}{H:Hp}{s:gr}{p:gn}{xs ys:List V}{b6 its':iG}{n n':Nat}{f:Obj->Obj}(I:Inv X pins σ H s)(h:H p=some (.lst xs))
  (ho:s.heap.get? p=some {cls:= .type "list",data:= .seq b6.toArray n})(hf:f {cls:= .type "list",data:= .seq b6.toArray n}={cls:= .type "list",data:= .seq its'.toArray n'})(r:Vals ys its')(hz:ys.length<=sizeLine)(t:Nat):
  Inv X pins σ (upd H p (.lst ys)) {s with heap:=s.heap.update p f,toks:=t}:=by
 have e:(s.heap.update p f).get? p=some {cls:= .type "list",data:= .seq its'.toArray n'}:=by
  rw[rp f ho (by rw[hf]<;>rfl),hf]
 refine I.write (x:=p) (e:=p) (by rw[h];trivial) (.inl rfl) (fun b u hb q=>(uY _ _ (oX hb)).trans q) ⟨_,e⟩ ?_;exact⟨hz,its',n',r,e⟩
def Qj:V->V->V->Hp->(Hp->Prop)->Prop:=fun o i v H Q=> ∃p xs k j,o= .ref p/\i= .int k/\H p=some (.lst xs)/\ixN xs.length k=some j/\Q (upd H p (.lst (xs.set j v)))
theorem Jd:Pw X Qj:=by
 intro pins s σ H o i v ov iv u Q I ro ri rv h;obtain⟨p,xs,k,j,rfl,rfl,hp,hj,q⟩:=h;cases ro;obtain⟨t,rfl⟩:=ri;obtain⟨b6,n,r,ho,hz⟩:=I.lst hp;obtain⟨h1,h2,h3,h4⟩:=Be hj;have hl:=r.length;have hn:=Bb
 have I':Inv X pins σ (upd H p (.lst (xs.set j v))) {s with heap:=s.heap.update p (Obj.mapSeq (·.setIfInBounds j u))}:=
  I.lstUpd hp ho (EJ b6 n j u) (r.set rv j) (by rw[rm];exact hz) s.toks
 by_cases h0:0<=k
 ·have hk:k.toNat=j:=by
   rw[DU h0 h4] at h1;exact iE h1
  exact PySem.W.ki_setAt ho h0 (by omega) (by rw[hZ,<-hl];exact h4) (by rw[hk];exact⟨_,I',q⟩)
 ·have hk:(k+(b6.toArray.size:Int)).toNat=j:=by
   rw[DT (by omega) h3] at h1;rw[hZ,<-hl];exact iE h1
  exact PySem.W.ki_setBack ho (by omega) (by rw[hZ,<-hl];exact h3) (by omega) (by rw[hk];exact⟨_,I',q⟩)
theorem AN(lo hi:Option Int)(n:Nat):(sliceBounds lo hi none n).1=((HT.sIx n 0 lo:Nat):Int)/\(sliceBounds lo hi none n).2.1=((HT.sIx n n hi:Nat):Int)/\(sliceBounds lo hi none n).2.2=1:=by
 refine⟨?_,?_,rfl⟩
 ·cases lo with
  |none=>simp[sliceBounds,HT.sIx]
  |some i=>
   simp only[sliceBounds,HT.sIx,Option.getD_none,show(1:Int)>0 by decide,ie];by_cases h:i<0
   ·simp only[h,ie]<;>omega
   ·simp only[h,iP]<;>omega
 ·cases hi with
  |none=>simp[sliceBounds,HT.sIx]
  |some i=>
   simp only[sliceBounds,HT.sIx,Option.getD_none,show(1:Int)>0 by decide,ie];by_cases h:i<0
   ·simp only[h,ie]<;>omega
   ·simp only[h,iP]<;>omega
theorem yI(b6:iG)(lo hi:Option Int):slicePick b6.toArray lo hi none=((b6.drop (HT.sIx b6.length 0 lo)).take (HT.sIx b6.length b6.length hi-HT.sIx b6.length 0 lo)).toArray:=by
 obtain⟨h1,h2,h3⟩:=AN lo hi b6.toArray.size;unfold slicePick;rw[h1,h2,h3];simp only[sliceRange_one,pick_run,hZ]<;>rfl
def SN(K:gL):V->Option Int->Option Int->Hp->VK->Prop:=fun x lo hi H Q=> ∃a xs,x= .ref a/\SqL K H a xs/\ ∀p,H p=none->Q (.ref p) (upd H p (.lst (C5 xs lo hi)))
theorem LC:SlR X (SN X.K):=by
 intro pins s σ H x v vl vu lo hi sl Q I rx hs pl pu h;obtain⟨a,xs,rfl,hx,q⟩:=h;cases rx;obtain⟨b6,r,ht,hz⟩:=I.list hx;have hlen:=r.length;refine⟨"list",_,slot_list_getitem.lookup,ht.isList.typeIs,?_⟩;refine wpAny_getItem_list_slice ht.isList hs pl pu .none (by simp) ?_ (by rw[hZ]<;>omega);rw[yI,<-hlen];refine⟨.ref s.heap.objs.size,_,I.laid (t':=s.toks) (o:= .lst (C5 xs lo hi)) (fun b ob q=>ig _ q) (hU _) ?_,rfl,q _ (I.hok.fresh (hU _))⟩;exact⟨kM (vS xs lo hi) hz,_,0,(r.drop (HT.sIx xs.length 0 lo)).take (HT.sIx xs.length xs.length hi-HT.sIx xs.length 0 lo),jr _ rfl⟩
noncomputable def Nl:V->Bool
 | .non=>true
 | .bl _=>true
 | .int _=>true
 | .str _=>true
 |_=>false
noncomputable def eqV:V->V->Bool
 | .non,.non=>true
 | .bl a,.bl b=>a==b
 | .bl a,.int b=>(if a then 1 else 0)==b
 | .int a,.bl b=>a==(if b then 1 else 0)
 | .int a,.int b=>a==b
 | .str a,.str b=>a==b
 |_,_=>false
theorem kz{A:gM}{s:gr}{y x:V}{u v:gB}(ry:RelV y u)(rx:RelV x v)(fy:Nl y=true)(fx:Nl x=true):SeqAt.EqAt A s u v (eqV y x):=by
 cases y with
 |non=>
  cases ry
  cases x with
  |non=>cases rx;exact SeqAt.EqAt.same _
  |bl b=>cases rx;exact SeqAt.EqAt.none_bool b
  |int b=>obtain⟨t,rfl⟩:=rx;exact SeqAt.EqAt.none_int b t
  |str b=>obtain⟨t,rfl⟩:=rx;exact SeqAt.EqAt.none_str b t
  |_=>exact absurd (show false=true from fx) jc
 |bl a=>
  cases ry
  cases x with
  |non=>cases rx;exact SeqAt.EqAt.bool_none a
  |bl b=>cases rx;exact SeqAt.EqAt.bool_bool a b
  |int b=>obtain⟨t,rfl⟩:=rx;exact SeqAt.EqAt.bool_int a b t
  |str b=>obtain⟨t,rfl⟩:=rx;exact SeqAt.EqAt.bool_str a b t
  |_=>exact absurd (show false=true from fx) jc
 |int a=>
  obtain⟨t',rfl⟩:=ry
  cases x with
  |non=>cases rx;exact SeqAt.EqAt.int_none a t'
  |bl b=>cases rx;exact SeqAt.EqAt.int_bool a t' b
  |int b=>obtain⟨t,rfl⟩:=rx;exact SeqAt.EqAt.int_int a t' b t
  |str b=>obtain⟨t,rfl⟩:=rx;exact SeqAt.EqAt.int_str a t' b t
  |_=>exact absurd (show false=true from fx) jc
 |str a=>
  obtain⟨t',rfl⟩:=ry
  cases x with
  |non=>cases rx;exact SeqAt.EqAt.str_none a t'
  |bl b=>cases rx;exact SeqAt.EqAt.str_bool a t' b
  |int b=>obtain⟨t,rfl⟩:=rx;exact SeqAt.EqAt.str_int a t' b t
  |str b=>obtain⟨t,rfl⟩:=rx;exact SeqAt.EqAt.str_str a t' b t
  |_=>exact absurd (show false=true from fx) jc
 |_=>exact absurd (show false=true from fy) jc
theorem uB:jf X (.builtin "len") (fun xs H Q=> ∃p ys,xs=[.ref p]/\(SqL X.K H p ys\/SqT X.K H p ys)/\Q (.int ys.length) H):=by
 intro pins s σ H xs us Q I r h;obtain⟨p,ys,rfl,hq,q⟩:=h;obtain⟨u,rfl,rx⟩:=tL r;cases rx;have hn:=Bb;rcases hq with hq|hq
 ·obtain⟨b6,r',pl,hz⟩:=I.list hq;have hlen:=r'.length;exact Calls.call_len_list pl.isList (by simp only[hZ]<;>omega) ⟨.int ys.length,H,I.tok _,⟨s.toks+1,by rw[hZ,hlen]⟩,q⟩
 ·obtain⟨b6,r',pl,hz⟩:=I.tuple hq;have hlen:=r'.length;exact len_tuple pl (by simp only[hZ]<;>omega) ⟨.int ys.length,H,I.tok _,⟨s.toks+1,by rw[hZ,hlen]⟩,q⟩
theorem uA:jf X (.type "list") (fun xs H Q=> ∃p ys,xs=[.ref p]/\(SqL X.K H p ys\/SqT X.K H p ys)/\ ∀l,H l=none->Q (.ref l) (upd H l (.lst ys))):=by
 intro pins s σ H xs us Q I r h;obtain⟨p,ys,rfl,hq,q⟩:=h;obtain⟨u,rfl,rx⟩:=tL r;cases rx
 have fin: ∀(b6:iG),Vals ys b6->ys.length<=sizeLine-> ∀(h':gQ) (c':Nat),(∀b o',s.heap.get? b=some o'->h'.get? b=some o')->
   h'.get? s.heap.objs.size=some {cls:= .type "list",dict:=none,data:= .seq b6.toArray c',slots:= #[]}->EP X pins σ Q (.ref s.heap.objs.size) {s with heap:=h'}:=fun b6 r' hz h' c' kp e=>
  ⟨.ref s.heap.objs.size,_,I.laid (t':=s.toks) kp (hU _) (show ObjOk X.prog X.w _ h' _ (.lst ys) from⟨hz,b6,c',r',e⟩),rfl,q _ (I.hok.fresh (hU _))⟩
 rcases hq with hq|hq
 ·obtain⟨b6,r',pl,hz⟩:=I.list hq;have hlen:=r'.length;obtain⟨o,ho,hc,n,hd⟩:=pl.isList;exact call_list_seq p (.inl rfl) ho hc hd (fun h' c' kp e=>fin b6 r' hz h' c' kp e) (by simp only[hZ]<;>omega)
 ·obtain⟨b6,r',pl,hz⟩:=I.tuple hq;have hlen:=r'.length;obtain⟨o,ho,hc,n,hd⟩:=pl;exact call_list_seq p (.inr rfl) ho hc hd (fun h' c' kp e=>fin b6 r' hz h' c' kp e) (by simp only[hZ]<;>omega)
theorem rO:jf X (.type "tuple") (fun xs H Q=> ∃p ys,xs=[.ref p]/\((SqL X.K H p ys/\ ∀l,H l=none->Q (.ref l) (upd H l (.tup ys)))\/(SqT X.K H p ys/\Q (.ref p) H))):=by
 intro pins s σ H xs us Q I r h;obtain⟨p,ys,rfl,h⟩:=h;obtain⟨u,rfl,rx⟩:=tL r;cases rx;rcases h with⟨hq,q⟩|⟨hq,q⟩
 ·obtain⟨b6,r',pl,hz⟩:=I.list hq;have hlen:=r'.length;refine call_tuple_list pl.isList (fun h' kp=>?_) (by simp only[hZ]<;>omega);have I1:Inv X pins σ H {s with heap:=h'}:=I.kept (t':=s.toks) kp
  have I2:Inv X pins σ (upd H h'.objs.size (.tup ys)) {s with heap:=h'.push {cls:= .type "tuple",data:= .seq b6.toArray}}:=
   I1.laid (t':=s.toks) (fun b o e=>ig _ e) (hU _) (show ObjOk X.prog X.w _ _ _ (.tup ys) from⟨hz,b6,r',wN _ _⟩)
  exact⟨.ref h'.objs.size,_,I2,rfl,q _ (I1.hok.fresh (hU _))⟩
 ·obtain⟨b6,r',pl,hz⟩:=I.tuple hq;exact call_tuple_same pl ⟨.ref p,H,I,rfl,q⟩
def tyV(K:gL)(T:String)(x:V)(H:Hp):Prop:=match x with
 | .str _=>T="str"
 | .int _=>T="int"
 | .ref p=>(T="list"/\ ∃xs,SqL K H p xs)\/(T="tuple"/\ ∃o,K.lookup p=some o/\o.cls= .type "tuple"/\o.dict=none)\/
   (T="dict"/\((∃kvs,H p=some (.dK kvs))\/ ∃kvs,H p=some (.dT kvs)))\/(T="set"/\ ∃S n,H p=some (.set S n))
 |_=>False
theorem NC{pins:hJ}{σ:St}{H:Hp}{s:gr}{T:String}{x:V}{v:gB}(I:Inv X pins σ H s)(r:RelV x v)(ty:tyV X.K T x H):
  s.TypeIs v T/\ ∀a,v= .ref a-> ∃ob,s.heap.get? a=some ob/\ob.dict=none:=by
 cases x with
 |str z=>
  obtain⟨t,rfl⟩:=r;cases(show T="str" from ty);exact⟨typeIs_str s z t,fun _ e=>nomatch e⟩
 |int i=>
  obtain⟨t,rfl⟩:=r;cases(show T="int" from ty);exact⟨typeIs_int s i t,fun _ e=>nomatch e⟩
 |ref p=>
  cases r;rcases ty with⟨rfl,xs,hq⟩|⟨rfl,o,hk,hc,hd⟩|⟨rfl,hk⟩|⟨rfl,S,n,hk⟩
  ·obtain⟨b6,_,pl,_⟩:=I.list hq;refine⟨pl.isList.typeIs,fun a e=>?_⟩;cases e;obtain⟨o,n,e,c,hd,_⟩:=pl;exact⟨o,e,hd⟩
  ·refine⟨⟨o,I.kIn p o hk,hc⟩,fun a e=>?_⟩;cases e;exact⟨o,I.kIn _ o hk,hd⟩
  ·have z: ∃o,s.heap.get? p=some o/\o.ExactDict:=by
    rcases hk with⟨kvs,hk⟩|⟨kvs,hk⟩
    ·obtain⟨_,_,_,_,o,_,_,e,ex,_⟩:=I.hok p _ hk;exact⟨o,e,ex⟩
    ·obtain⟨_,_,_,_,o,_,_,e,ex,_⟩:=I.hok p _ hk;exact⟨o,e,ex⟩
   obtain⟨o,e,ex⟩:=z;refine⟨⟨o,e,ex.1⟩,fun a e2=>?_⟩;cases e2;exact⟨o,e,ex.2.1⟩
  ·obtain⟨o,_,_,_,e,ex,_⟩:=I.hok p _ hk;refine⟨⟨o,e,ex.1⟩,fun a e2=>?_⟩;cases e2;exact⟨o,e,ex.2.1⟩
 |_=>exact False.elim ty
def tBM(K:gL)(T:String)(r:V->List V->Hp->VK->Prop)(to:TE)(t:TA):TE:=fun σ H Q=>to σ H fun x H1=>tyV K T x H1/\t σ H1 fun xs H2=>r x xs H2 Q
variable {o e:gC}{es:jl}{to:TE}{t:TA}{name:Str}{apos j5:Pos}{T id:String}{r:V->List V->Hp->VK->Prop}
theorem JT(pa:PlainAttrs T)(slot:Slot T name id)(hty:typeOf (.builtin id)=pure (.type "method_descriptor"))(hm:MtR X id r)(ho:PE X o to)(ha:PA X (e::es) t)
  (k4:attributeBase o name X.env (eval o X.env)=eval o X.env:=by rfl)
  (m9:((backTo j5 (starEach (e::es) X.env)).all (fun x=>!x.1)&&(backToKw j5 (keywordEach [] X.env)).all (fun x=>x.1.isSome)
   &&decide ((e::es).length+([]:List Keyword).length+(if([]:List Keyword).isEmpty then 0 else 1)<30))=true:=by rfl)
  (k0:(apos.endLine==j5.line)=true:=by rfl)(hs:starEach (e::es) X.env=(false,eval e X.env)::starEach es X.env:=by rfl)(j4:(backTo j5 (starEach es X.env)).any (·.1)=false:=by rfl):
  PE X (.Call (.Attribute o name apos) (e::es) [] j5) (tBM X.K T r to t):=by
 intro pins s σ H Q I h;refine wpAny_Call_method_late k4 m9 k0 rfl (thn (ho pins s σ H _ I h) fun v s1 ⟨x,H1,I1,r1,ty,q1⟩=>?_);obtain⟨h1,h2⟩:=NC I1 r1 ty;refine⟨T,id,pa,slot,hty,h1,h2,?_⟩;have hA:=ha j5 pins s1 σ H1 _ I1 q1;rw[hs] at hA ⊢;refine Calls.callWith_builtin (by show(false||(backTo j5 (starEach es X.env)).any (·.1))=false;rw[j4]<;>rfl) (Calls.evalArgs_plain ?_);exact thn hA fun us s2 ⟨vs,H2,I2,r2,q2⟩=>hm pins s2 σ H2 x vs v us Q I2 r1 r2 q2
end
def MtM(X:Cx)(id:String)(r:V->List V->Hp->VK->Prop):Prop:=
 ∀(pins:hJ) (s:gr) (σ:St) (H:Hp) (x:V) (xs:List V) (v:gB) (us:iG) (Q:VK),Inv X pins σ H s->RelV x v->Vals xs us->r x xs H Q->
  wpAny (model X.prog X.w) X.A (call (.builtin id) (v::us)) (EP X pins σ Q) X.xe s
theorem Vals.one: ∀{x:V} {us:iG},Vals [x] us-> ∃u,us=[u]/\RelV x u
 |_,_,.cons r .nil=>⟨_,rfl,r⟩
theorem Vals.eraseIdx: ∀{xs:List V} {us:iG} (i:Nat),Vals xs us->Vals (xs.eraseIdx i) (us.eraseIdx i)
 |_,_,_,.nil=> .nil
 |_,_,0,.cons _ t=>t
 |_,_,i+1,.cons r t=> .cons r (Vals.eraseIdx i t)
theorem Vals.reverse{xs:List V}{us:iG}(h:Vals xs us):Vals xs.reverse us.reverse:=by
 induction h with
 |nil=>exact .nil
 |cons r t ih=>rw[AB,AB];exact Vals.append ih (.cons r .nil)
theorem zv{α:Type}: ∀(l:List α) (i:Nat),(l.eraseIdx i).length<=l.length
 |[],_=>hU _
 |_::_,0=>uX _
 |_::r,i+1=>Nat.succ_le_succ (zv r i)
section
variable {X:Cx}{pins:hJ}{σ:St}{H:Hp}{s:gr}{l b:gn}{xs ys zs:List V}
theorem Inv.lset{b6 its':iG}{n:Nat}{f:Array Value->Array Value}{t':Nat}(I:Inv X pins σ H s)(hH:H l=some (.lst xs))
  (e:s.heap.get? l=some {cls:= .type "list",data:= .seq b6.toArray n})(hf:f b6.toArray=its'.toArray)(hv:Vals ys its')(hz:ys.length<=sizeLine):
  Inv X pins σ (upd H l (.lst ys)) {s with heap:=s.heap.update l (Obj.mapSeq f),toks:=t'}:=by
 have q:=PySem.IsL.update e f;rw[hf] at q;refine I.write (x:=l) (e:=l) (by rw[hH];exact trivial) (.inl rfl) (fun b' u hb hu=>(uY s.heap (Obj.mapSeq f) (oX hb)).trans hu) ⟨_,q⟩ ?_;exact⟨hz,its',_,hv,q⟩
theorem Inv.lnew{b6:iG}{t':Nat}(I:Inv X pins σ H s)(hv:Vals ys b6)(hz:ys.length<=sizeLine):
  Inv X pins σ (upd H s.heap.objs.size (.lst ys)) {s with heap:=s.heap.push {cls:= .type "list",data:= .seq b6.toArray},toks:=t'}:=
 I.laid (fun _ _ q=>ig _ q) (hU _) ⟨hz,b6,0,hv,jr _ rfl⟩
theorem Inv.fresh(I:Inv X pins σ H s):H s.heap.objs.size=none:=I.hok.fresh (hU _)
theorem Inv.lstM(I:Inv X pins σ H s)(hH:H l=some (.lst xs)):xs.length<=sizeLine/\ ∃(b6:iG) (n:Nat),Vals xs b6/\xs.length=b6.length/\s.heap.get? l=some {cls:= .type "list",data:= .seq b6.toArray n}:=by
 obtain⟨z,b6,n,r,e⟩:=I.hok l _ hH;exact⟨z,b6,n,r,r.length,e⟩
theorem J8{n:Nat}(h:n<=sizeLine):Builtin.List.listTooLong n=false:=by
 unfold Builtin.List.listTooLong;exact mx (by omega)
end
section
variable {X:Cx}
def LK:V->List V->Hp->VK->Prop:=fun x vs H Q=> ∃l xs y,x= .ref l/\vs=[y]/\H l=some (.lst xs)/\xs.length<sizeLine/\Q .non (upd H l (.lst (xs++[y])))
theorem Hk:MtM X "list.append" LK:=by
 intro pins s σ H x vs v us Q I rx rv h;obtain⟨l,xs,y,rfl,rfl,hH,hz,q⟩:=h;cases rx;obtain⟨u,rfl,ru⟩:=rv.one;obtain⟨z,b6,n,r,hl,e⟩:=I.lstM hH;refine AA F.slot_list_append ⟨_,e,rfl⟩ Ir (Iq _ _) (PySem.list_append l b6.toArray n u (by rw[hZ];omega)) ⟨e,?_⟩;refine⟨.non,_,I.lset (its':=b6++[u]) hH e (by simp) (r.append (.cons ru .nil)) ?_,rfl,q⟩;rw[lP,wM];omega
def LJ:V->List V->Hp->VK->Prop:=fun x vs H Q=> ∃l b xs zs,x= .ref l/\vs=[.ref b]/\H l=some (.lst xs)/\H b=some (.lst zs)/\xs.length+zs.length<=sizeLine/\Q .non (upd H l (.lst (xs++zs)))
theorem Hj:MtM X "list.extend" LJ:=by
 intro pins s σ H x vs v us Q I rx rv h;obtain⟨l,b,xs,zs,rfl,rfl,hH,hB,hz,q⟩:=h;cases rx;obtain⟨u,rfl,ru⟩:=rv.one;cases ru;obtain⟨z,b6,n,r,hl,e⟩:=I.lstM hH;obtain⟨z2,e9,n2,r2,aD,e2⟩:=I.lstM hB;have hsz:b6.toArray.size+e9.toArray.size<=sizeLine:=by rw[hZ,hZ];omega
 have hlong: ¬(!b6.toArray.isEmpty&&Builtin.List.listTooLong (b6.toArray.size+e9.toArray.size))=true:=by
  rw[J8 hsz,Bool.and_false];exact jc
 refine AA F.slot_list_extend ⟨_,e,rfl⟩ F.entry_list_extend (F.args_list_extend_2 _ _)
  (AutoSeq1.list_extend_list_list_0 l b6.toArray n b e9.toArray n2 hlong (by rw[hZ];omega) (by omega)) ⟨e,e2,?_⟩
 refine⟨.non,_,I.lset (its':=b6++e9) hH e (by simp) (r.append r2) ?_,rfl,q⟩;rw[lP];omega
def NU:V->List V->Hp->VK->Prop:=fun x vs H Q=> ∃l xs i k y,x= .ref l/\vs=[.int i]/\H l=some (.lst xs)/\ -(2^63)<=i/\i<2^63/\seqIndex? i xs.length=some k/\xs[k]?=some y/\Q y (upd H l (.lst (xs.eraseIdx k)))
theorem Kb:MtM X "list.pop" NU:=by
 intro pins s σ H x vs v us Q I rx rv h;obtain⟨l,xs,i,k,y,rfl,rfl,hH,h1,h2,hk,hy,q⟩:=h;cases rx;obtain⟨u,rfl,ru⟩:=rv.one;obtain⟨t,rfl⟩:=ru;obtain⟨z,b6,n,r,hl,e⟩:=I.lstM hH;obtain⟨w,hw,w5⟩:=r.get hy
 refine AA F.slot_list_pop ⟨_,e,rfl⟩ F.entry_list_pop (F.args_list_pop_2 _ _)
  (MeetsSeq.list_pop_at l b6.toArray n i t k w (fitsIndex_both h1 h2) (by rw[hZ,<-hl];exact hk) (by rw[<-kD];exact hw) (by rw[hZ];omega)) ⟨e,?_⟩
 refine⟨y,_,I.lset (its':=b6.eraseIdx k) hH e ?_ (r.eraseIdx k) ?_,w5,q⟩
 ·show b6.toArray.eraseIdxIfInBounds k=(b6.eraseIdx k).toArray;rw[List.eraseIdxIfInBounds_toArray]
 ·have:=zv xs k;omega
end
section
variable {prog:gP}{w:gH}{A:gM}{E:hG}{s:gr}
end
section
variable {X:Cx}
end
end L2
namespace Att
open PySem PySem.W PySem.Calls PyProof.Rows
theorem vZ{P:Params}{h:gQ}: ∀(ns:gU) (vs:iG),WellAll P h vs (ns.map WData.int)->IntsAre vs ns:=by
 intro ns
 induction ns with
 |nil=>
  intro vs w;rw[pF] at w;cases w;exact .nil
 |cons n ns ih=>
  intro vs w;rw[iQ] at w
  cases w with
  |cons a b=>
   cases a;exact .cons _ _ (ih _ b)
theorem GX{l:OpenLaw}{n:Nat}(hn:l.most=some n){P:Params}{h:gQ}{args:List WData}{vals:iG}
  (av:l.row.toRowW.claim.pre args=true)(fk:WellAll P h vals args):
  ∃a vs ns,vals=[Value.ref a]/\args=[WData.list (ns.map WData.int)]/\h.get? a=some {cls:= .type "list",data:= .seq vs.toArray}/\IntsAre vs ns/\ns.length<=n:=by
 have eF:WShape.hasAll [] args [.list .int]=true:=(pre_splitW av).1;have hc:l.pre.holds [] {args:=args}=true:=(pre_splitW av).2;obtain⟨d,r,rfl,h1,h2⟩:=hasAllW_cons eF;obtain rfl:=hasAllW_nil h2;obtain⟨xs,rfl,h3⟩:=hasW_list h1;obtain⟨ns,rfl⟩:=items_int h3
 have hlen:ns.length<=n:=by
  unfold OpenLaw.pre at hc
  have h4:(WTm.not (.lt (.lit (.int (n:Int))) (.len (.arg 0)))).holds [] {args:=[.list (ns.map .int)]}=true:=by
   have h4:=(holds_andW hc).1;rw[hn] at h4;exact h4
  have h5:=condW_of h4 (w_not (w_lt w_lit (w_len_list (w_arg rfl))));rw[iX] at h5;refine Nat.le_of_not_lt fun q=>?_;have q':(n:Int)<((ns.length:Nat):Int):=by omega
  first
   |(rw[tE q'] at h5;exact absurd h5 (by decide))
   |(simp at h5;omega)
 cases fk with
 |cons w1 w2=>
  cases w2
  cases w1 with
  |list ho hall=>exact⟨_,_,ns,rfl,rfl,ho,vZ ns _ hall,hlen⟩
theorem G8(l:OpenLaw)(args:List WData):l.row.toRowW.claim.post args (.bool true) args=true:=
 postW_of (r:=l.row.toRowW) (X:=(true==true))
  (show WShape.has [] (.bool true) .bool=true by first|rfl|decide|simp[WShape.has,WShape.arms,WShape.armsAll])
  (show(WTm.eq .res (.lit (.bool true))).value [] {args:=args,res:=some (.bool true),after:=args}=some (.bool (true==true)) from w_eq_bool (w_res rfl) w_lit) rfl
theorem MR{l:OpenLaw}{n:Nat}{q:gP}{loose:iw}{XP:(Str->Option Value)->Heap->Prop}{YP:World->Heap->Prop}{d:DefRec}
  (hn:l.most=some n)(dO:d.params.defaults=[])
  (call: ∀(w:gH) (s₀ s₁:gr) (mg mb:kO) (fa:gn) (o:Obj) (pm cd doc:gB) (a:gn) (vs:iG) (ns:gU),
   Ground q loose [] XP w s₀ mg mb s₁.heap->YP w s₁.heap->
   s₁.heap.get? fa=some o->o.data= .func (docDef d.name d.params d.body d.scope pm cd doc)->s₁.heap.CodeRec cd d.name->mg d.name=some (.ref fa)->
   s₁.heap.get? a=some {cls:= .type "list",data:= .seq vs.toArray}->IntsAre vs ns->ns.length<=n->s₁.gens= #[]->
   codeAny (model l.prog w) callerA (.call (.ref fa) ⟨[.ref a],[]⟩) (fun r s'=>r= .ok (.ret (.bool true))/\OldK s₁.heap s'.heap/\s'.os=s₁.os/\AllBare s'.gens) s₁):
  WalkO q loose XP YP l.row.toRowW d [] (fun f vs=>PySem.call f vs):=by
 intro w s₀ s₁ mg mb G Y fa o pm cd doc dV kV ho hd x8 hD hmg hg args vals as av hlay hrd fk hlo;obtain rfl:dV= .none:=Dflts.none hD dO;obtain rfl:kV= .none:=Dflts.noKw hD;obtain⟨a,vs,ns,rfl,rfl,cE,hints,hlen⟩:=GX hn av fk;refine enter_call (pV (call w s₀ s₁ mg mb fa o pm cd doc a vs ns G Y ho (fd_plain hd) x8 hmg cE hints hlen hg) fun r s' hq=>?_);obtain⟨rfl,h2,h3,h4⟩:=hq;exact⟨.inl ⟨.bool true,.bool true,[],rfl,fun _=>rfl,.bool true,G8 l _,fun _=>⟨List.Pairwise.nil,fun _ hm=>(nomatch hm)⟩⟩,h2,h3,h4⟩
section
variable {prog:gP}{w:gH}{A:gM}{E:hG}{s:gr}{K:Frag}
end
end Att
namespace L2
open PySem PySem.Spec PyProof.Rows
theorem zf: ∀{vs:iG} {ns:gU},IntsAre vs ns->Vals (ns.map V.int) vs
 |_,_,.nil=> .nil
 |_,_,.cons n t h=> .cons ⟨t,rfl⟩ (zf h)
def Px(H:Hp):Prop:= ∀b,H b=none\/ ∃o xs,H b=some (.frz o (.lst xs))
theorem Kj{P:gP}{w:gH}{K:gL}{mg mb:kO}{CX:CXT}{k:Nat}{fa a:gn}{fd:mP}{x:Str}{sp:Sp}{s₁:gr}{vs:iG}{ns:gU}
  (KX:K.In s₁.heap)(cX:s₁.heap.Ns mainGlobals mg)(hb:s₁.heap.Ns builtinsNs mb)(hbb: ∀x:Str,x≠"__name__"->mb x=bootBuiltins x)(hlim:s₁.heap.NoLimit)(hg:s₁.gens= #[])
  (ha:s₁.heap.get? a=some {cls:= .type "list",data:= .seq vs.toArray})(hi:IntsAre vs ns)(hl:ns.length<=sizeLine)(hr:Room k callerA)
  (F: ∀base:Heap,K.In base->base.Ns mainGlobals mg->FnOk P w K mg base CX k fa fd [x] sp)(hbind: ∀(s:gr) (u:gB),BindsTo s fd ⟨[u],[]⟩ [(x,u)])
  (bT: ∀H:Hp,Px H->SqL K H a (ns.map V.int)->sp [.ref a] H (fun v _=>v= .bl true) fun _ _ _=>False)
  (fU: ∀H e s',CX [] H s₁ (fun _ _ _=>False) e s'->False):
  codeAny (model P w) callerA (.call (.ref fa) ⟨[.ref a],[]⟩) (fun r s'=>r= .ok (.ret (.bool true))/\OldK s₁.heap s'.heap/\s'.os=s₁.os/\AllBare s'.gens) s₁:=by
 have rv:=zf hi;have lenV:=hi.length
 have core: ∀H:Hp,Px H->SqL K H a (ns.map V.int)->HOk P w H s₁.heap->(∀b,H b≠none->b=a)->(H a≠none->K.lookup a=none)->
   codeAny (model P w) callerA (.call (.ref fa) ⟨[.ref a],[]⟩) (fun r s'=>r= .ok (.ret (.bool true))/\OldK s₁.heap s'.heap/\s'.os=s₁.os/\AllBare s'.gens) s₁:=by
  intro H hO hS hok hA hK;have base_of: ∀{b:gn} {o:Obj},s₁.heap.get? b=some o->H b=none->(Bg s₁.heap H).get? b=some o:=fun e n=>Kv e n
  have dA: ∀{b:gn} {o:Obj} {es:Array DictEntry} {ep:Nat},s₁.heap.get? b=some o->o.data= .dict es ep->H b=none:=fun {b o es ep} e d=>by
   cases q:H b with
   |none=>rfl
   |some u=>
    have e':b=a:=hA b (by rw[q];simp);subst e';rw[ha] at e;cases e;have d':Data.seq vs.toArray _=Data.dict es ep:=d;cases d'
  have ej: ∀{b:gn} {m:kO},s₁.heap.Ns b m->(Bg s₁.heap H).Ns b m:=fun {b m} ⟨o,es,ep,e,d,r⟩=>⟨o,es,ep,base_of e (dA e d),d,r⟩
  have hKb:K.In (Bg s₁.heap H):=fun b o e=>base_of (KX b o e) (by
   cases q:H b with
   |none=>rfl
   |some u=>
    have e':b=a:=hA b (by rw[q];simp);subst e';rw[hK (by rw[q];simp)] at e;cases e)
  have hM:Mod K mg (Bg s₁.heap H):=⟨hKb,ej cX,⟨mb,ej hb,hbb⟩,let⟨mc,h1,h2⟩:=hlim;⟨mc,ej h1,h2⟩⟩
  have e0:Env0 P w K mg (Bg s₁.heap H) callerA [] s₁ H:=⟨rfl,hM,fun b o e=>My e,Nat.le_of_eq (Hs _ _),trivial,fun b hb=>absurd (show b∈([]:List Addr) from hb) (by simp),hok,.of_eq hg⟩
  refine pV ((F _ hKb (ej cX)).run callerA [] s₁ H ⟨[.ref a],[]⟩ [.ref a] [.ref a] _ _ hr e0 (hbind s₁ (.ref a)) (.cons rfl .nil) (bT H hO hS)) fun r s' h=>?_
  cases r with
  |error e=>exact(fU H e s' h).elim
  |ok fl=>
   cases fl with
   |next=>exact False.elim h
   |brk=>exact False.elim h
   |cont=>exact False.elim h
   |ret u=>
    obtain⟨v,H',os,bare,un,hok',r',q⟩:=h;have q':v= .bl true:=q;subst q';obtain rfl:u=Value.bool true:=r';refine⟨rfl,OldK.of_keep fun b o e=>?_,os,bare⟩
    cases q:H b with
    |none=>exact un.keep b o e q (by intro z;exact absurd (show b∈([]:List Addr) from z) (by simp)) (by simp)
    |some u=>
     rcases hO b with z|⟨ob,xs,z⟩
     ·rw[q] at z;cases z
     ·have z2:=un.frzs b ob _ z;obtain⟨e1,_⟩:=hok b _ z;obtain⟨e2,_⟩:=hok' b _ z2;rw[e] at e1;cases e1;exact e2
 cases hk:K.lookup a with
 |some o=>
  have e:=KX a o hk;rw[ha] at e;cases e;refine core (fun _=>none) (fun _=> .inl rfl) (.inr ⟨_,vs.toArray,_,hk,rfl,rfl,rfl,by rw[hZ,lenV];exact hl,by simpa using rv⟩) (fun b u z=>by have z':(none:Option HO)=some u:=z;cases z') (fun b z=>absurd rfl z) fun z=>absurd rfl z
 |none=>
  refine core (fun b=>if b=a then some (.frz {cls:= .type "list",data:= .seq vs.toArray} (.lst (ns.map V.int))) else none) (fun b=>?_) (.inl (.inr ⟨{cls:= .type "list",data:= .seq vs.toArray},gu rfl⟩)) (fun b u z=>?_) (fun b z=>?_) fun _=>hk
  ·by_cases hb:b=a
   ·exact .inr ⟨_,_,gu hb⟩
   ·exact .inl (gv hb)
  ·by_cases hb:b=a
   ·have z':=(gu hb).symm.trans z;cases z';subst hb;exact⟨ha,by rw[iX];exact hl,vs,_,rv,ha⟩
   ·have z':=(gv hb).symm.trans z;cases z'
  ·by_cases hb:b=a
   ·exact hb
   ·exact absurd (gv hb) z
theorem PN{l:PySem.W.OpenLaw}{n k:Nat}{q:gP}{loose:iw}{XP:(Str->Option Value)->Heap->Prop}{YP:World->Heap->Prop}{d:DefRec}{K:Params->PySem.W.Frag}{CX:World->CXT}{sp:World->Sp}{x:Str}
  (hn:l.most=some n)(hn2:n<=sizeLine)(dO:d.params.defaults=[])(hr:Room k callerA)
  (hY: ∀(w:gH) (h:gQ),YP w h->(K w.params).In h)
  (F: ∀(w:gH) (mg:kO) (fa:gn) (h:gQ),(K w.params).In h->h.Ns mainGlobals mg->mg d.name=some (.ref fa)->
   ∃fd:FuncData,(∀(s:gr) (u:gB),BindsTo s fd ⟨[u],[]⟩ [(x,u)])/\
    ∀base:Heap,(K w.params).In base->base.Ns mainGlobals mg->FnOk l.prog w (K w.params) mg base (CX w) k fa fd [x] (sp w))
  (bT: ∀(w:gH) (H:Hp) (a:gn) (ns:gU),ns.length<=n->Px H->SqL (K w.params) H a (ns.map V.int)->sp w [.ref a] H (fun v _=>v= .bl true) fun _ _ _=>False)
  (fU: ∀(w:gH) (H:Hp) (s:gr) (e:gB) (s':gr),CX w [] H s (fun _ _ _=>False) e s'->False):
  PySem.W.WalkO q loose XP YP l.row.toRowW d [] (fun f vs=>PySem.call f vs):=by
 refine Att.MR hn dO fun w s₀ s₁ mg mb fa o pm cd doc a vs ns G Y ho hd x8 hmg cE hints hlen hg=>?_;have KX:=hY w _ Y;obtain⟨fd,hb,hF⟩:=F w mg fa _ KX G.T.g hmg;exact Kj KX G.T.g G.T.b G.T.builtins G.T.nolimit hg cE hints (kM hlen hn2) hr hF hb (fun H hO hS=>bT w H a ns hlen hO hS) fun H e s'=>fU w H s₁ e s'
noncomputable def qP(s:Stmt):Arguments:=match s with
 | .FunctionDef _ a _ _ _ _ _ _ _ _=>a
 |_=>{posonlyargs:=[],args:=[],vararg:=none,kwonlyargs:=[],kw_defaults:=[],kwarg:=none,defaults:=[]}
noncomputable def mN(s:Stmt):List Stmt:=match s with
 | .FunctionDef _ _ b _ _ _ _ _ _ _=>b
 |_=>[]
noncomputable def gE(s:Stmt):Scope:=match s with
 | .FunctionDef _ _ _ _ _ _ sc _ _ _=>sc
 |_=>{kind:= .function,names:=[],isGenerator:=false,isCoroutine:=false}
abbrev CX0:CXT:=fun _ _ _ _ _ _=>False
abbrev E0:XK:=fun _ _ _=>False
theorem Qy{X:Cx}:Fx CX0 X E0:=fun _ _ _ _ _ _ _ h=>h.elim
structure Fun(K:gL)(x qual:Str)(st:Stmt)(f:gn)(fd:mP):Prop where
 ex: ∃(oc:gB) (od:Option Addr) (kV doc pm:gB) (an:Option Addr) (i4 ct:gB) (aN:sY),
  fd=PySem.W.fnOf x qual (qP st) (mN st) (gE st) .none kV doc pm an i4 ct/\K.lookup f=some ⟨oc,od,.func fd,aN⟩/\PySem.W.codeIn K i4 qual=true
 kp:PySem.W.keepIn K (.ref f)=true
section
variable {P:gP}{w:gH}{K:gL}{mg:kO}{base:gQ}
theorem Fun.ok{x qual:Str}{st:Stmt}{f:gn}{fd:mP}{N ps:iw}{k:Nat}{sp:Sp}(F:Fun K x qual st f fd)(S:FnScope N ps (gE st))(len: ∀vs H Q E,sp vs H Q E->vs.length=ps.length)
  (x9: ∀(i4:gB) (A:gM) (outer:List Env) (s:gr) (H:Hp) (vs:List V) (Q:VK) (E:XK),Room k (A.deeper (envOfC qual (gE st) s.heap.objs.size f i4))->sp vs H Q E->
   ∃t,PSs (C4 CX0 P w K mg base N qual (gE st) f i4 A outer s H E).nox (mN st) t/\t {nx:=fun _ H'=>Q .non H',rt:=Q} (pq N vs) H):FnOk P w K mg base CX0 (k+1) f fd ps sp:=by
 obtain⟨oc,od,kV,doc,pm,an,i4,ct,aN,rfl,lk,x8⟩:=F.ex;refine Q4 lk x8 S len fun A outer s H vs Q E hr bT=>?_;obtain⟨t,h,q⟩:=x9 i4 A outer s H vs Q E hr bT;exact⟨t,h.nox,q⟩
theorem Fun.binds{x qual:Str}{st:Stmt}{f:gn}{fd:mP}{ps:iw}(F:Fun K x qual st f fd)
  (h: ∀(kV doc pm:gB) (an:Option Addr) (i4 ct:gB) (us:iG),us.length=ps.length->bindArgs (PySem.W.fnOf x qual (qP st) (mN st) (gE st) .none kV doc pm an i4 ct) ⟨us,[]⟩=pure (ps.zip us)):Binds K fd ps []:=by
 obtain⟨oc,od,kV,doc,pm,an,i4,ct,aN,rfl,lk,x8⟩:=F.ex;exact .all (h kV doc pm an i4 ct)
theorem Pb{x qual:Str}{st:Stmt}{f:gn}{oc:gB}{od an:Option Addr}{aN:sY}{kV doc pm i4 ct:gB}(l:K.lookup f=some ⟨oc,od,.func (PySem.W.fnOf x qual (qP st) (mN st) (gE st) .none kV doc pm an i4 ct),aN⟩)
  (c:PySem.W.codeIn K i4 qual=true)(k:PySem.W.keepIn K (.ref f)=true):Fun K x qual st f (PySem.W.fnOf x qual (qP st) (mN st) (gE st) .none kV doc pm an i4 ct):=⟨⟨oc,od,kV,doc,pm,an,i4,ct,aN,rfl,l,c⟩,k⟩
end
section
variable {X:Cx}
end
theorem QU{A B:Prop}(h:B):if false=true then A else B:=by
 rw[gv jc];exact h
theorem QR{A B:Prop}(h:A):if true=true then A else B:=by
 rw[gu rfl];exact h
def Same(H H':Hp):Prop:= ∀b o,H b=some o->H' b=some o
theorem Same.refl(H:Hp):Same H H:=fun _ _ h=>h
theorem Same.trans{H H1 H2:Hp}(a:Same H H1)(b:Same H1 H2):Same H H2:=fun c o h=>b c o (a c o h)
theorem sU(env:Env): ∀(l:List (Str×NameKind)) (cs:pz),(∀x∈l,x.2= .free-> ∃c,env.cells.lookup x.1=some c)->(∀x c,cs.lookup x=some c->env.cells.lookup x=some c)->
  ∃cl,(forIn l cs fun x r=>if x.2==NameKind.free then do let a <-cellOf env x.1;pure (ForInStep.yield ((x.1,a)::r)) else pure (ForInStep.yield r))=(pure cl:Sem (List (Str×Addr)))/\
   (∀x c,cl.lookup x=some c->env.cells.lookup x=some c)/\(∀x,(x,NameKind.free)∈l-> ∃c,cl.lookup x=some c)/\ ∀x c,cs.lookup x=some c-> ∃c,cl.lookup x=some c
 |[],cs,_,hc=>⟨cs,rfl,hc,fun x h=>by simp at h,fun x c h=>⟨c,h⟩⟩
 |(n,k)::l,cs,h,hc=>by
  by_cases hk:k= .free
  ·subst hk;obtain⟨c,e⟩:=h (n,.free) iR rfl;have e':env.cells.lookup n=some c:=e
   obtain⟨cl,h1,h2,h3,h4⟩:=sU env l ((n,c)::cs) (fun x hx=>h x (iT _ hx)) (fun x d hx=>by
    rw[nu] at hx
    cases hb:x==n with
    |true=>rw[hb] at hx;have:=pU hb;subst this;cases hx;exact e'
    |false=>rw[hb] at hx;exact hc x d hx)
   refine⟨cl,?_,h2,fun x hx=>?_,fun x d hx=>?_⟩
   ·rw[wK];have:cellOf env n=pure c:=by unfold cellOf;rw[e']
    simp only[this,pure_bind,beq_self_eq_true,ie];exact h1
   ·rcases jg.mp hx with z|z
    ·cases z;exact h4 n c (by simp[nu])
    ·exact h3 x z
   ·cases hb:x==n with
    |true=>have:=pU hb;subst this;exact h4 x c (by simp[nu])
    |false=>exact h4 x d (by rw[nu,hb];exact hx)
  ·obtain⟨cl,h1,h2,h3,h4⟩:=sU env l cs (fun x hx=>h x (iT _ hx)) hc;have hb:(k==NameKind.free)=false:=by simpa using hk
   refine⟨cl,?_,h2,fun x hx=>?_,h4⟩
   ·rw[wK];simp only[hb,iC,iP,pure_bind];exact h1
   ·rcases jg.mp hx with z|z
    ·cases z;exact absurd rfl hk
    ·exact h3 x z
theorem ym(env:Env)(scope:jD)(h: ∀x∈scope.names,x.2= .free-> ∃c,env.cells.lookup x.1=some c):
  ∃cl,closureFor scope env=pure cl/\(∀x c,cl.lookup x=some c->env.cells.lookup x=some c)/\ ∀x,(x,NameKind.free)∈scope.names-> ∃c,cl.lookup x=some c:=by
 obtain⟨cl,h1,h2,h3,_⟩:=sU env scope.names [] h (fun x c hx=>by simp at hx);refine⟨cl,?_,h2,h3⟩;unfold closureFor;have:(forIn scope.names ([]:List (Str×Addr)) fun x r=>if x.2==NameKind.free then do let a <-cellOf env x.1;pure (ForInStep.yield ((x.1,a)::r)) else pure (ForInStep.yield r))=(pure cl:Sem (List (Str×Addr))):=h1
 first
  |exact(rA (· >>=fun r=>pure r) this).trans (pure_bind _ _)
  |(simp only[bind_pure];exact this)
  |exact this
noncomputable def Cx.comp(X:Cx)(N':iw)(scope:jD)(cl:pz)(C:gn)(s3:gr)(H3:Hp)(fp:jE)(pins:hJ):Cx:=
 {X with N:=N',s₀:=s3,H₀:=H3,env:=compEnvC scope cl C X.env,outer:=X.stack,stack:=X.stack,ex:=fp,fn:=fun _=>false,pn:=X.pn++pins,xe:=fun _ _=>False}
abbrev TB:=St->Hp->(St->Hp->Prop)->Prop
def PB(X:Cx)(code:Sem Unit)(t:TB):Prop:=
 ∀(pins:hJ) (s:gr) (σ:St) (H:Hp) (N:St->Hp->Prop),Inv X pins σ H s->t σ H N->
  wpAny (model X.prog X.w) X.A code (fun _ s'=> ∃σ' H',Inv X pins σ' H' s'/\N σ' H') X.xe s
def PIf(X:Cx)(ifs:jl)(t:TT):Prop:=
 ∀(pins:hJ) (s:gr) (σ:St) (H:Hp) (Q:Bool->Hp->Prop),Inv X pins σ H s->t σ H Q->
  wpAny (model X.prog X.w) X.A (forIn ifs true fun c r=>if r=true then do let ok <-isTrue c X.env (eval c X.env);pure (ForInStep.yield ok) else pure (ForInStep.yield r)) (TP X pins σ Q) X.xe s
noncomputable def PQ:TT:=fun _ H Q=>Q true H
section
variable {X:Cx}
theorem Mh:PIf X [] PQ:=fun pins s σ H Q I h=>wpAny_tests_nil ⟨H,I,h⟩
theorem Mg{c:gC}{t:TT}(h:PT X c t):PIf X [c] t:=fun pins s σ H Q I hw=>wpAny_tests_one (h pins s σ H Q I hw)
noncomputable def iL(e:gC)(depth:Nat)(acc:gB)(env:Env):Sem Unit:=
 match(clausesOf e)[depth+1]? with
 |some g'=>do
  let x <-eval g'.iter env
  standAt g'.iter.pos
  let x <-foldedSetIterable g'.iter env x
  let _ <-runOwn (.compStart e (depth+1) (<-holding [x] (pyIter x)) acc env) env
 |none=>match e with
  | .ListComp elt _ _ _=>do let _ <-call (.builtin "list.append") [acc,<-eval elt env]
  | .SetComp elt _ _ _=>do let v <-eval elt env;standAt elt.pos;let _ <-call (.builtin "set.add") [acc,v]
  |_=>unsupported "no"
def FP(J:It)(g:TG)(ti:TT)(tb:TB):TB:=fun σ H N=> ∃W:Nat->Nat->St->Hp->Prop,(∃m,W 0 m σ H)/\ ∀i m σ H,W i m σ H->
 (J.stop i H/\N σ H)\/(J.go i H/\ ∀x H',J.yld i H x H'->g x σ H' fun σ2 H2=>ti σ2 H2 fun b H3=>if b=true then tb σ2 H3 fun σ4 H4=> ∃m',m'<m/\W (i+1) m' σ4 H4 else ∃m',m'<m/\W (i+1) m' σ2 H3)
theorem Bm(e:gC)(depth:Nat)(it acc:gB)(env:Env)(g:nN)(hl:(∃elt gens sc p,e= .ListComp elt gens sc p)\/(∃elt gens sc p,e= .SetComp elt gens sc p))
  (hg:(clausesOf e)[depth]?=some g)(ha:g.is_async=0)(n8: ∀g',(clausesOf e)[depth+1]?=some g'->g'.is_async=0):
  compTurn e depth it acc env=(do
   standAt g.iter.pos
   match <-pyNext it with
   |none=>pure (.done .next)
   |some v=>
    letOwnedTupleGo g.target it v
    assign g.target env v
    let ok <-forIn g.ifs true fun c r=>if r=true then do let ok <-isTrue c env (eval c env);pure (ForInStep.yield ok) else pure (ForInStep.yield r)
    if ok=true then iL e depth acc env
    again (.compLoop e depth it acc env)):=by
 rcases hl with⟨elt,gens,sc,p,rfl⟩|⟨elt,gens,sc,p,rfl⟩
 ·have de:gens[depth]?=some g:=hg;unfold compTurn iL;simp only[clausesOf] at hg n8 ⊢;rw[de];simp only[ha]
  cases hn:gens[depth+1]? with
  |none=>rfl
  |some g'=>
   have:=n8 g' hn;simp only[this,tD,iC,iP]
   congr 1;funext _;congr 1;funext r
   cases r with
   |none=>rfl
   |some v=>
    dsimp only
    congr 1;funext _;congr 1;funext _;congr 1;funext ok
    cases ok with
    |false=>rfl
    |true=>simp only[ie,pT];rfl
 ·have de:gens[depth]?=some g:=hg;unfold compTurn iL;simp only[clausesOf] at hg n8 ⊢;rw[de];simp only[ha]
  cases hn:gens[depth+1]? with
  |none=>rfl
  |some g'=>
   have:=n8 g' hn;simp only[this,tD,iC,iP]
   congr 1;funext _;congr 1;funext r
   cases r with
   |none=>rfl
   |some v=>
    dsimp only
    congr 1;funext _;congr 1;funext _;congr 1;funext ok
    cases ok with
    |false=>rfl
    |true=>simp only[ie,pT];rfl
theorem KQ 
  (hl:(∃elt gens sc p,e= .ListComp elt gens sc p)\/(∃elt gens sc p,e= .SetComp elt gens sc p))
  (h:wpAny (model prog w) A ((compTurn e depth it acc env).onRaise (fun x=>do noteFrame x env;theTreesLotGoes x)) Q E s):
  wpAny (model prog w) (A.under (.compLoop e depth it acc env)) ((model prog w).den (.compLoop e depth it acc env)) Q E s:=by
 rcases hl with⟨elt,gens,sc,p,rfl⟩|⟨elt,gens,sc,p,rfl⟩
 ·exact h
 ·exact h
theorem Gb{e:gC}{depth:Nat}{acc:gB}{c:nN}{g:TG}{ti:TT}{tb:TB}{J:It}{fp:jE}{it:gn}{tn:Nat->Heap->Prop}(cu:X.xe=fun _ _=>False)(hc:X.calm=true)
  (hl:(∃elt gens sc p,e= .ListComp elt gens sc p)\/(∃elt gens sc p,e= .SetComp elt gens sc p))(hg:(clausesOf e)[depth]?=some c)(ha:c.is_async=0)(n8: ∀g',(clausesOf e)[depth+1]?=some g'->g'.is_async=0)
  (T:Turn X.prog X.w X.K c.target J fp it tn)(pg:PG X c.target g)(bD:PIf X c.ifs ti)(pb:PB X (iL e depth acc X.env) tb)
  {pins:hJ}{s:gr}{σ:St}{H:Hp}{N:St->Hp->Prop}(I:Inv X pins σ H s)(f2: ∀b∈fp,qv X pins H b)(st:tn 0 s.heap)(h:FP J g ti tb σ H N):
  codeAny (model X.prog X.w) X.A (.compLoop e depth (.ref it) acc X.env) (fun r s'=>r= .ok .next/\ ∃σ' H',Inv X pins σ' H' s'/\(∀b∈fp,H' b=none)/\N σ' H') s:=by
 obtain⟨W,⟨m0,w0⟩,turn⟩:=h;have y8: ∀{H':Hp},(∀b∈fp,H' b=none)-> ∀b∈fp,qv X pins H' b:=fun hn b hb=>⟨hn b hb,(f2 b hb).2⟩
 have F2: ∀{α:Type} {t:Sem α} {Q:α->Shared->Prop} {E:hG} {s:gr},wpAny (model X.prog X.w) X.A t Q X.xe s->wpAny (model X.prog X.w) X.A t Q E s:=fun h=>oW h (fun _ _ x=>x) fun _ _ z=>by rw[cu] at z;exact z.elim
 refine codeAny_loop rfl (fun n s'=> ∃i σ' H',Inv X pins σ' H' s'/\tn i s'.heap/\(∀b∈fp,H' b=none)/\W i n σ' H') (fun n s3 hI=>?_) m0 ⟨0,σ,H,I,st,fun b hb=>(f2 b hb).1,w0⟩;refine KQ hl ?_;refine wpAny_noted ?_;rw[Bm e depth (.ref it) acc X.env c hl hg ha n8];obtain⟨i,σ3,H3,I3,k8,dk,w3⟩:=hI;refine gi (wR ?_);rcases turn i n σ3 H3 w3 with⟨stop,qn⟩|⟨go,step⟩
 ·refine gi (thn (T.done X rfl rfl rfl hc i pins s3 σ3 H3 _ I3 (y8 dk) k8 stop) fun r s4 ⟨hr,I4⟩=>?_);subst hr;exact gw ⟨rfl,σ3,H3,I4,dk,qn⟩
 ·refine gi (thn (T.item X rfl rfl rfl hc i pins s3 σ3 H3 _ I3 (y8 dk) k8 go) fun r s4 ⟨u,hr,h4⟩=>?_);subst hr;refine gi (thn h4 fun _ s5 ⟨x,H5,I5,r5,y5,bA,fX⟩=>?_);have gf:=I5.pinned (y8 fX) (T.obj _ _ bA);refine gi (thn (F2 (pg _ s5 σ3 H5 x u _ gf r5 (step x H5 y5))) fun _ s6 ⟨σ6,H6,I6,q6⟩=>?_);refine gi (thn (F2 (bD _ s6 σ6 H6 _ I6 q6)) fun ok s7 ⟨H7,I7,q7⟩=>?_)
  have again: ∀{s8:gr} {σ8:St} {H8:Hp},Inv X (pins++xu fp s5.heap) σ8 H8 s8->(∃m',m'<n/\W (i+1) m' σ8 H8)-> ∃m,m<n/\ ∃i σ' H',Inv X pins σ' H' s8/\tn i s8.heap/\(∀b∈fp,H' b=none)/\W i m σ' H':=fun {s8 σ8 H8} I8 ⟨m',hm,w8⟩=>by
   refine⟨m',hm,i+1,σ8,H8,I8.unpinned,T.keep _ _ _ bA fun b hb o e=>(I8.pin (b,o) (nU _ (nU _ (oN hb e)))).1,fun b hb=>?_,w8⟩;obtain⟨o,e,d⟩:=T.obj _ _ bA b hb;exact(I8.pin (b,o) (nU _ (nU _ (oN hb e)))).2.1
  cases ok with
  |false=>
   rw[gv jc] at q7;exact gw ⟨rfl,again I7 q7⟩
  |true=>
   rw[gu rfl] at q7;simp only[ie];refine gi (thn (F2 (pb _ s7 σ6 H7 _ I7 q7)) fun _ s8 ⟨σ8,H8,I8,q8⟩=>?_);exact gw ⟨rfl,again I8 q8⟩
def P0(d:gn)(te:TE):TB:=fun σ H N=>te σ H fun y H1=> ∃ys,H1 d=some (.lst ys)/\ys.length<sizeLine/\N σ (upd H1 d (.lst (ys++[y])))
theorem Mp{elt:gC}{gens:pv}{sc:jD}{p:Pos}{depth:Nat}{d:gn}{te:TE}(hn:gens[depth+1]?=none)(he:PE X elt te):PB X (iL (.ListComp elt gens sc p) depth (.ref d) X.env) (P0 d te):=by
 intro pins s σ H N I h
 have e1:iL (.ListComp elt gens sc p) depth (.ref d) X.env=(do let _ <-call (.builtin "list.append") [.ref d,<-eval elt X.env]):=by
  unfold iL;simp only[clausesOf];rw[hn]
 rw[e1];refine gi (thn (he pins s σ H _ I h) fun u s1 ⟨y,H1,I1,ru,ys,hd,hz,q⟩=>?_);obtain⟨z,b6,n,r,hl,e⟩:=I1.lstM hd;refine gi (AA F.slot_list_append ⟨_,e,rfl⟩ Ir (Iq _ _) (PySem.list_append d b6.toArray n u (by rw[hZ];omega)) ⟨e,?_⟩);refine gw ⟨σ,_,I1.lset (its':=b6++[u]) hd e (by simp) (r.append (.cons ru .nil)) ?_,q⟩;rw[lP,wM];omega
theorem BV{prog:gP}{w:gH}{A:gM}{e:gC}{depth:Nat}{it acc:gB}{env:Env}{R:Result->Shared->Prop}{s:gr}{c:nN}
  (hl:(∃elt gens sc p,e= .ListComp elt gens sc p)\/(∃elt gens sc p,e= .SetComp elt gens sc p))(hg:(clausesOf e)[depth]?=some c)(ha:c.is_async=0)
  (h0:codeAny (model prog w) A (.compLoop e depth it acc env) R s)
  (self: ∀(Q:hG) (E:hG),Q it s->wpAny (model prog w) A (pyIter it) Q E s):
  codeAny (model prog w) A (.compStart e depth it acc env) R s:=by
 have core:wpAny (model prog w) A (compStart e depth it acc env) (fun fin s'=>match fin with| .done f=>R (.ok f) s'| .again c'=>c'.quiet=true/\codeAny (model prog w) A c' R s') (notedBy (model prog w) A env fun x s'=>R (.error x) s') s:=by
  unfold compStart;rw[hg];simp only[Option.elim,ha,tD,iC,iP];refine gi (uW (wpAny_ite ?_));split
  ·first
    |exact gi (gw (gw (And.intro rfl h0)))
    |exact gw (And.intro rfl h0)
  ·exact gi (tx (gi (wR (gi (self _ _ (gw (And.intro rfl h0)))))))
 rcases hl with⟨elt,gens,sc,p,rfl⟩|⟨elt,gens,sc,p,rfl⟩
 ·refine wJ ?_;show wpAny _ A ((compStart (.ListComp elt gens sc p) depth it acc env).onRaise (fun x=>do noteFrame x env;standAt theWindowsPlace)) _ _ s;exact wpAny_notedAt core
 ·refine wJ ?_;show wpAny _ A ((compStart (.SetComp elt gens sc p) depth it acc env).onRaise (fun x=>do noteFrame x env;standAt theWindowsPlace)) _ _ s;exact wpAny_notedAt core
noncomputable def IY(wi:TI)(g:TG)(ti:TT)(tb:TB):TB:=fun σ H N=>wi σ H fun J H1=>FP J g ti tb σ H1 N
theorem OD{e:gC}{depth:Nat}{acc:gB}{c:nN}{wi:TI}{g:TG}{ti:TT}{tb:TB}(cu:X.xe=fun _ _=>False)(hc:X.calm=true)
  (hl:(∃elt gens sc p,e= .ListComp elt gens sc p)\/(∃elt gens sc p,e= .SetComp elt gens sc p))(hg:(clausesOf e)[depth+1]?=some c)(ha:c.is_async=0)(n8: ∀g',(clausesOf e)[depth+1+1]?=some g'->g'.is_async=0)
  (hs: ∀x,foldedSetIterable c.iter X.env x=pure x)(pi:PI X c.target c.iter wi)(pg:PG X c.target g)(bD:PIf X c.ifs ti)(pb:PB X (iL e (depth+1) acc X.env) tb):
  PB X (iL e depth acc X.env) (IY wi g ti tb):=by
 intro pins s σ H N I h
 have e1:iL e depth acc X.env=(do
  let x <-eval c.iter X.env
  standAt c.iter.pos
  let x <-foldedSetIterable c.iter X.env x
  let _ <-runOwn (.compStart e (depth+1) (<-holding [x] (pyIter x)) acc X.env) X.env):=by
  unfold iL;rw[hg]
 rw[e1];refine gi (thn (pi pins s σ H _ I h) fun v s1 h1=>gi (wR (gi (oV (hs v) (gi (lR (thn h1 fun dC s2 h2=>?_)))))));obtain⟨it,fp,tn,J,H2,rfl,I2,T,i9,f2,hw⟩:=h2;refine gi (wpAny_runOwn ?_);refine BV hl hg ha ?_ (fun Q E hq=>T.self X.A 0 s2 Q E i9 hq);refine pV (Gb cu hc hl hg ha n8 T pg bD pb I2 f2 i9 hw) fun r s3 hr=>?_;obtain⟨rfl,σ3,H3,I3,_,q⟩:=hr;exact gw ⟨σ3,H3,I3,q⟩
end
theorem my{env:Env}: ∀{names:List (Str×NameKind)} {x:Str},names.lookup x=some .free->
  (names.map fun(n,k)=>if(k==NameKind.free&&env.scope.kind== .function&&env.kindOf n==some .cell) then(n,NameKind.cell) else(n,k)).lookup x=some .cell\/
  (names.map fun(n,k)=>if(k==NameKind.free&&env.scope.kind== .function&&env.kindOf n==some .cell) then(n,NameKind.cell) else(n,k)).lookup x=some .free
 |[],_,h=>by simp at h
 |(n,k)::r,x,h=>by
  have ih:= @my env r x;rw[iQ]
  cases hx:x==n with
  |true=>
   simp only[nu,hx] at h;cases h;by_cases hc:(NameKind.free==NameKind.free&&env.scope.kind== .function&&env.kindOf n==some .cell)=true
   ·left;simp only[hc,ie,nu,hx]
   ·right;simp only[hc,iP,nu,hx,iC]
  |false=>
   simp only[nu,hx] at h;by_cases hc:(k==NameKind.free&&env.scope.kind== .function&&env.kindOf n==some .cell)=true
   ·simp only[hc,ie,nu,hx];exact ih h
   ·simp only[hc,iP,nu,hx,iC];exact ih h
theorem jB{env:Env}: ∀{names:List (Str×NameKind)} {x:Str} {k':NameKind},
  (names.map fun(n,k)=>if(k==NameKind.free&&env.scope.kind== .function&&env.kindOf n==some .cell) then(n,NameKind.cell) else(n,k)).lookup x=some k'-> ∃k,(x,k)∈names/\(k=k'\/k= .free)
 |[],_,_,h=>by simp at h
 |(n,k)::r,x,k',h=>by
  rw[iQ] at h
  cases hx:x==n with
  |true=>
   have e:=pU hx;subst e;by_cases hc:(k==NameKind.free&&env.scope.kind== .function&&env.kindOf x==some .cell)=true
   ·refine⟨k,iR,.inr ?_⟩
    have h1:(k==NameKind.free)=true:=by
     cases hk:(k==NameKind.free) with
     |true=>rfl
     |false=>rw[hk] at hc;simp at hc
    exact pU h1
   ·simp only[hc,iP,nu,hx,iC] at h;exact⟨k,iR,.inl (by simpa using h)⟩
  |false=>
   by_cases hc:(k==NameKind.free&&env.scope.kind== .function&&env.kindOf n==some .cell)=true
   ·simp only[hc,ie,nu,hx] at h;obtain⟨k2,h1,h2⟩:=jB h;exact⟨k2,iT _ h1,h2⟩
   ·simp only[hc,iP,nu,hx,iC] at h;obtain⟨k2,h1,h2⟩:=jB h;exact⟨k2,iT _ h1,h2⟩
structure CompScope(X:Cx)(N':iw)(scope:jD)(pre:St->St):Prop where
 cell: ∀y∈scope.names,y.2≠ .cell
 kind:scope.kind= .function
 names: ∀y∈scope.names,y.2= .local->scope.names.lookup y.1=some .local
 free: ∀y∈scope.names,y.2= .free->X.env.scope.names.lookup y.1=some .cell\/X.env.scope.names.lookup y.1=some .free
 len: ∀σ:St,(pre σ).length=N'.length
 pre: ∀(σ:St) (i:Nat) (v:V) (x:Str),(pre σ)[i]?=some (some v)->N'[i]?=some x->scope.names.lookup x=some .free/\ ∃j:Nat,X.N[j]?=some x/\σ[j]?=some (some v)
section
variable {X:Cx}
theorem MN{N':iw}{scope:jD}{pre:St->St}(S:CompScope X N' scope pre){pins:hJ}{s3:gr}{σ:St}{H3:Hp}{fp:jE}{cl:pz}{h':gQ}{t':Nat}(I:Inv X pins σ H3 s3)
  (n4: ∀x c,cl.lookup x=some c->X.env.cells.lookup x=some c)(l3: ∀x,(x,NameKind.free)∈scope.names-> ∃c,cl.lookup x=some c)
  (ff: ∀b∈fp,qv X pins H3 b)(fo: ∀b∈fp,b<s3.heap.objs.size)
  (cX:h'.Ns s3.heap.objs.size (fun _=>none))(hk: ∀b o,s3.heap.get? b=some o->h'.get? b=some o):
  Inv (X.comp N' scope cl s3.heap.objs.size s3 H3 fp pins) [] (pre σ) H3 {s3 with heap:=h',toks:=t'}:=by
 have hfr: ∀b∈frs X.stack,H3 b=none:=I.stkFree;have nfs: ∀b,b≠X.env.locals->b∉X.fs->b∉frs X.stack:=fun b h1 h2 z=>(jg.mp (I.stkSub b z)).elim h1 h2
 refine⟨⟨I.ok.mod,?_,I.ok.glob,I.ok.blt,hU _,fun x y c h1 h2=>I.ok.inj x y c (n4 x c h1) (n4 y c h2),fun x hx=>?_,fun x c hf _=>absurd hf (by simp[Cx.comp]),I.ok.hd,I.ok.frames,.inl rfl,fun b hb=>?_,
  I.bs,kM I.ok.bsz I.sz,fun b o e hb=>?_,fun b hb=>nfs b (ff b hb).2.1 (ff b hb).2.2.1,I.stack,hfr⟩,rfl,I.bare,Un.kept hk,⟨_,cX,fun i x v h1 h2 h3=>?_⟩,fun x c hx=>?_,I.hok.fresh (hU _),fun x c hx=>I.freeC x c (n4 x c hx),fun p hp=>?_,I.hok.kept hk,S.len σ⟩
 ·show(relabel scope X.env).kind= .function;simp[relabel,S.kind]
 ·
  have cU:(relabel scope X.env).names.lookup x=some .cell\/(relabel scope X.env).names.lookup x=some .free:=hx
  have:(x,NameKind.free)∈scope.names:=by
   rcases cU with z|z
   ·obtain⟨k,h1,h2⟩:=jB z;rcases h2 with h2|h2
    ·subst h2;exact absurd rfl (S.cell _ h1)
    ·subst h2;exact h1
   ·obtain⟨k,h1,h2⟩:=jB z;rcases h2 with h2|h2<;>(subst h2;exact h1)
  exact l3 x this
 ·exact⟨iz (fo b hb),fun x c hx=>(ff b hb).2.2.2.2.1 x c (n4 x c hx)⟩
 ·
  have r8:b∈fp:=hb;rcases(ff b r8).2.2.2.1 with z|z
  ·exact I.ok.noex b o e z
  ·exact absurd (mw (hV e) (kM I.ok.bsz z)) (nV _)
 ·obtain⟨hf,j,hj,hv⟩:=S.pre σ i v x h2 h1;obtain⟨m,hn,hl⟩:=I.loc;have l8:=S.free (x,.free) (si hf) rfl;obtain⟨u,r,l⟩:=hl j x v hj hv (by rcases l8 with z|z;exact .inr (.inl z);exact .inr (.inr z));refine⟨u,r,.inr ⟨my hf,?_⟩⟩;rcases l with⟨cY,_⟩|⟨_,c,hc,ak⟩
  ·have fH:X.env.scope.names.lookup x=some .local:=cY;rcases l8 with z|z<;>(have z':X.env.scope.names.lookup x=_:=z;rw[fH] at z';cases z')
  ·obtain⟨c',cN⟩:=l3 x (si hf);have:=n4 x c' cN;rw[hc] at this;cases this;exact⟨c,cN,ak.keeps hk⟩
 ·obtain⟨v,hv⟩:=I.cell x c (n4 x c hx);exact⟨v,hv.keeps hk⟩
 ·have cA:p∈X.pn++pins:=by simpa[Cx.comp] using hp
  obtain⟨e,n,h1,h2,h3⟩:=I.pin p cA;exact⟨hk _ _ e,n,iz (hV e),nfs _ h1 h2,h3⟩
theorem C8{N':iw}{scope:jD}{pins:hJ}{s3 s4:gr}{σ σ':St}{H3 H4:Hp}{fp:jE}{cl:pz}{h':gQ}(I:Inv X pins σ H3 s3)(ff: ∀b∈fp,qv X pins H3 b)
  (J:Inv (X.comp N' scope cl s3.heap.objs.size s3 H3 fp pins) [] σ' H4 s4)(hs:Heap.SameBut s3.heap.objs.size s4.heap h'):Inv X pins σ H4 {s4 with heap:=h'}:=by
 have K:=I.call' (s':=s4) (ch:=fp) J.os J.base J.hok J.bare fun b hb=>⟨(ff b hb).2.2.2.1,(ff b hb).2.1,(ff b hb).2.2.2.2.1,(ff b hb).2.2.2.2.2⟩
 have eX:X.env.locals<s3.heap.objs.size:=I.lt;refine K.turned (it:=s3.heap.objs.size) (t':=s4.toks) (fun b o hb e=>by rw[hs.2 b hb];exact e) J.free (pI eX) (.inr I.sz) (fun x c hx z=>?_) (fun p hp z=>?_)
 ·obtain⟨v,o,e,_⟩:=I.cell x c hx;exact absurd (hV e) (by rw[z];exact nV _)
 ·obtain⟨e,_⟩:=I.pin p hp;exact absurd (hV e) (by rw[z];exact nV _)
def P7(J:It)(g:TG)(ti:TT)(tb:Addr->TB)(pre:St->St)(σ:St)(H:Hp)(Q:VK):Prop:=
 ∀d,H d=none->FP J g ti (tb d) (pre σ) (upd H d (.lst [])) fun _ H2=>Q (.ref d) H2
theorem C7{elt:gC}{c:nN}{gJ:pv}{scope:jD}{pos:Pos}{N':iw}{pre:St->St}{g:TG}{ti:TT}{tb:Addr->TB}{cl:pz}{J:It}{fp:jE}{it:gn}{tn:Nat->Heap->Prop}
  (S:CompScope X N' scope pre)(hc:X.calm=true)(ha:c.is_async=0)(n8: ∀g',gJ[0]?=some g'->g'.is_async=0)
  (aA: ∀(C:gn) (s3:gr) (H3:Hp) (fp:jE) (pins:hJ),let X':=X.comp N' scope cl C s3 H3 fp pins
   PG X' c.target g/\PIf X' c.ifs ti/\ ∀d,PB X' (iL (.ListComp elt (c::gJ) scope pos) 0 (.ref d) X'.env) (tb d))
  (n4: ∀x c,cl.lookup x=some c->X.env.cells.lookup x=some c)(l3: ∀x,(x,NameKind.free)∈scope.names-> ∃c,cl.lookup x=some c)
  {pins:hJ}{s2:gr}{σ:St}{H2:Hp}{Q:VK}{E:hG}{RR:Value->Addr->Result->Shared->Prop}(I2:Inv X pins σ H2 s2)(T:Turn X.prog X.w X.K c.target J fp it tn)(i9:tn 0 s2.heap)(f2: ∀b∈fp,qv X pins H2 b)
  (h:P7 J g ti tb pre σ H2 Q)
  (hRR: ∀(d:gn) (s3:gr) (H3 H4:Hp) (σ':St) (s4:gr),Inv X pins σ H3 s3->(∀b∈fp,qv X pins H3 b)->Inv (X.comp N' scope cl s3.heap.objs.size s3 H3 fp pins) [] σ' H4 s4->Q (.ref d) H4->RR (.ref d) s3.heap.objs.size (.ok .next) s4):
  wpAny (model X.prog X.w) X.A (newList []) (fun acc s₃=>wpAny (model X.prog X.w) X.A (newFunctionEnv scope X.env.globals cl [] X.env.qual none .none (some X.env)) (fun cenv s₄=>
   codeAny (model X.prog X.w) X.A (.compStart (.ListComp elt (c::gJ) scope pos) 0 (.ref it) acc {cenv with scope:=relabel scope X.env}) (RR acc cenv.locals) s₄) E s₃) E s2:=by
 have I3:Inv X pins σ (upd H2 s2.heap.objs.size (.lst [])) {s2 with heap:=s2.heap.push {cls:= .type "list",data:= .seq ([]:List Value).toArray}}:=I2.lnew (t':=s2.toks) .nil (by simp);have fo: ∀b∈fp,b<s2.heap.objs.size:=fun b hb=>by obtain⟨o,e,_⟩:=T.obj _ _ i9 b hb;exact hV e
 have ff: ∀b∈fp,qv X pins (upd H2 s2.heap.objs.size (.lst [])) b:=fun b hb=>⟨by rw[iq (iz (fo b hb))];exact(f2 b hb).1,(f2 b hb).2⟩
 refine kE ?_;refine wpAny_newFunctionEnv S.cell (by intro y hy;simp at hy) (fun h1 cX aR=>?_) S.kind
 have hk: ∀b o,(s2.heap.push {cls:= .type "list",data:= .seq ([]:List Value).toArray}).get? b=some o->h1.get? b=some o:=fun b o e=>by
  have j7:=hV e;rw[aR.2 b (iz j7)];exact ig _ e
 have hfo: ∀b∈fp,b<(s2.heap.push {cls:= .type "list",data:= .seq ([]:List Value).toArray}).objs.size:=fun b hb=>by rw[tw];exact pS (fo b hb)
 have J0:=MN (t':=s2.toks+([]:List (Str×Value)).length) S I3 n4 l3 ff hfo (by simpa using cX) hk;obtain⟨pg,bD,pb⟩:=aA (s2.heap.push {cls:= .type "list",data:= .seq ([]:List Value).toArray}).objs.size {s2 with heap:=s2.heap.push {cls:= .type "list",data:= .seq ([]:List Value).toArray}} (upd H2 s2.heap.objs.size (.lst [])) fp pins;have t9:tn 0 h1:=T.keep _ _ _ i9 fun b hb o e=>hk b o (ig _ e);have hw:=h s2.heap.objs.size (I2.hok.fresh (hU _))
 have ff': ∀b∈fp,qv (X.comp N' scope cl (s2.heap.push {cls:= .type "list",data:= .seq ([]:List Value).toArray}).objs.size {s2 with heap:=s2.heap.push {cls:= .type "list",data:= .seq ([]:List Value).toArray}} (upd H2 s2.heap.objs.size (.lst [])) fp pins) []
   (upd H2 s2.heap.objs.size (.lst [])) b:=fun b hb=>by
  obtain⟨z1,z2,z3,z4,z5,z6⟩:=ff b hb;refine⟨z1,iz (hfo b hb),fun z=>(jg.mp (I3.stkSub b z)).elim z2 z3,.inl hb,fun x c hx=>z5 x c (n4 x c hx),fun p hp=>z6 p (by simpa[Cx.comp] using hp)⟩
 have hl:(∃el gens sc p,Expr.ListComp elt (c::gJ) scope pos= .ListComp el gens sc p)\/(∃el gens sc p,Expr.ListComp elt (c::gJ) scope pos= .SetComp el gens sc p):= .inl ⟨_,_,_,_,rfl⟩;refine BV hl rfl ha ?_ (fun Q' E' hq=>T.self X.A 0 _ Q' E' t9 hq)
 refine pV (Gb (X:=X.comp N' scope cl (s2.heap.push {cls:= .type "list",data:= .seq ([]:List Value).toArray}).objs.size {s2 with heap:=s2.heap.push {cls:= .type "list",data:= .seq ([]:List Value).toArray}} (upd H2 s2.heap.objs.size (.lst [])) fp pins)
  (depth:=0) (acc:= .ref s2.heap.objs.size) rfl hc hl rfl ha (fun g' v5=>n8 g' (by simpa[clausesOf] using v5)) T pg bD (pb _) J0 ff' t9 hw) fun r s4 hr=>?_
 obtain⟨rfl,σ4,H4,I4,_,q⟩:=hr;exact hRR _ _ _ _ _ _ I3 ff I4 q
noncomputable def IZ(wi:TI)(g:TG)(ti:TT)(tb:Addr->TB)(pre:St->St):TE:=fun σ H Q=>wi σ H fun J H1=>P7 J g ti tb pre σ H1 Q
theorem JP{elt:gC}{c:nN}{gJ:pv}{scope:jD}{pos:Pos}{N':iw}{pre:St->St}{wi:TI}{g:TG}{ti:TT}{tb:Addr->TB}
  (S:CompScope X N' scope pre)(hc:X.calm=true)(ha:c.is_async=0)(n8: ∀g',gJ[0]?=some g'->g'.is_async=0)
  (hs: ∀x,foldedSetIterable c.iter X.env x=pure x)(pi:PI X c.target c.iter wi)
  (aA: ∀(cl:pz) (C:gn) (s3:gr) (H3:Hp) (fp:jE) (pins:hJ),let X':=X.comp N' scope cl C s3 H3 fp pins
   PG X' c.target g/\PIf X' c.ifs ti/\ ∀d,PB X' (iL (.ListComp elt (c::gJ) scope pos) 0 (.ref d) X'.env) (tb d)):
  PE X (.ListComp elt (c::gJ) scope pos) (IZ wi g ti tb pre):=by
 intro pins s σ H Q I h;obtain⟨tg,cS,ifs,az⟩:=c;obtain rfl:az=0:=ha;obtain⟨cl,u3,n4,l3⟩:=ym X.env scope fun x hx hf=>I.ok.has x.1 (S.free x hx hf);rw[eval_ListComp];show wpAny _ X.A (comprehension _ scope X.env _ (newList []) false (eval cS X.env)) _ _ s;refine Ip (use:=none) (g:=⟨tg,cS,ifs,0⟩) (gs:=gJ) rfl hs u3 S.kind S.names (thn (pi pins s σ H _ I h) fun v s1 h1=>thn h1 fun dC s2 h2=>?_);obtain⟨it,fp,tn,J,H2,rfl,I2,T,i9,f2,hw⟩:=h2;refine C7 (RR:=fun acc C=>compPost (model X.prog X.w) X.A X.xe none (EP X pins σ Q) acc C) S hc rfl n8 (aA cl) n4 l3 I2 T i9 f2 hw fun d s3 H3 H4 σ' s4 I3 ff J4 q=>?_;obtain⟨m,hn,_⟩:=id J4.loc;exact⟨m,hn,fun h' aR=>⟨.ref d,H4,C8 I3 ff J4 aR,rfl,q⟩⟩
theorem JA{elt:gC}{c:nN}{gJ:pv}{scope:jD}{pos h9 py:Pos}{N':iw}{pre:St->St}{wi:TI}{g:TG}{ti:TT}{tb:Addr->TB}{y:Str}{i:Nat}
  (dG:swapsWith (.ListComp elt (c::gJ) scope pos) (some (.Name y py)) h9.line X.env=pure true)
  (S:CompScope X N' scope pre)(hc:X.calm=true)(ha:c.is_async=0)(n8: ∀g',gJ[0]?=some g'->g'.is_async=0)
  (hs: ∀x,foldedSetIterable c.iter X.env x=pure x)(pi:PI X c.target c.iter wi)(eU:PG X (.Name y py) (CQ i))
  (aA: ∀(cl:pz) (C:gn) (s3:gr) (H3:Hp) (fp:jE) (pins:hJ),let X':=X.comp N' scope cl C s3 H3 fp pins
   PG X' c.target g/\PIf X' c.ifs ti/\ ∀d,PB X' (iL (.ListComp elt (c::gJ) scope pos) 0 (.ref d) X'.env) (tb d)):
  PS X (.Assign [.Name y py] (.ListComp elt (c::gJ) scope pos) h9) (NG (IZ wi g ti tb pre) (CQ i)):=by
 intro pins s σ H D I h;obtain⟨tg,cS,ifs,az⟩:=c;obtain rfl:az=0:=ha;obtain⟨cl,u3,n4,l3⟩:=ym X.env scope fun x hx hf=>I.ok.has x.1 (S.free x hx hf);rw[exec_Assign_Name_used _ _ _ _ dG];refine gi (wR (gi ?_));show wpAny _ X.A (do let _ <-comprehension (.ListComp elt (⟨tg,cS,ifs,0⟩::gJ) scope pos) scope X.env _ (newList []) false (eval cS X.env) (some (assign (.Name y py) X.env))) _ _ s
 refine gi (oW (Ip (use:=some (assign (.Name y py) X.env)) (g:=⟨tg,cS,ifs,0⟩) (gs:=gJ) (Q:=fun _ s'=>SP X pins D .next s') rfl hs u3 S.kind S.names
  (thn (pi pins s σ H _ I h) fun v s1 h1=>thn h1 fun dC s2 h2=>?_)) (fun _ s' hq=>gw (gw hq)) fun _ _ e=>e)
 obtain⟨it,fp,tn,J,H2,rfl,I2,T,i9,f2,hw⟩:=h2;refine C7 (RR:=fun acc C=>compPost (model X.prog X.w) X.A X.xe (some (assign (.Name y py) X.env)) (fun _ s'=>SP X pins D .next s') acc C) S hc rfl n8 (aA cl) n4 l3 I2 T i9 f2 hw fun d s3 H3 H4 σ' s4 I3 ff J4 q=>?_;obtain⟨m,hn,_⟩:=id J4.loc;obtain⟨oC,es,ep,ho,hd,hr⟩:=id hn;have IX:Inv X pins σ H4 s4:=C8 I3 ff J4 (Az ..);have hCl:s3.heap.objs.size≠X.env.locals:=pI I3.lt;have hCf:s3.heap.objs.size∉X.fs:=fun z=>I3.nofs (hU _) z
 have IP:Inv X (pins++[(s3.heap.objs.size,oC)]) σ H4 s4:=IX.pins_of fun p hp=>by
  rcases mC.mp hp with z|z
  ·exact IX.pin p (nU _ z)
  ·rcases pK.mp z with rfl
   exact⟨ho,J4.free,hCl,hCf,fun v z=>by rw[hd] at z;cases z⟩
 show wpAny _ X.A (assign (.Name y py) X.env (.ref d)) _ _ _;refine thn (eU _ s4 σ H4 (.ref d) (.ref d) _ IP rfl q) fun _ s5 ⟨σ5,H5,I5,q5⟩=>?_;have pC:=I5.pin (s3.heap.objs.size,oC) (by simp);refine⟨m,⟨oC,es,ep,pC.1,hd,hr⟩,fun h' aR=>⟨σ5,H5,?_,q5⟩⟩;refine I5.unpinned.turned (it:=s3.heap.objs.size) (t':=s5.toks) (fun b o hb e=>by rw[aR.2 b hb];exact e) pC.2.1 hCl (.inr I3.sz) (fun x c hx z=>?_) (fun p hp z=>?_)
 ·obtain⟨v,o,e,_⟩:=I3.cell x c hx;exact absurd (hV e) (by rw[z];exact nV _)
 ·obtain⟨e,_⟩:=I3.pin p hp;exact absurd (hV e) (by rw[z];exact nV _)
end
section
variable {κ:Type}[DecidableEq κ]
noncomputable def qS(kvs:List (κ×V))(k:κ):Option V:=(kvs.find? fun kv=>decide (kv.1=k)).map (·.2)
noncomputable def pj(kvs:List (κ×V))(k:κ)(v:V):List (κ×V):=
 if(kvs.any fun kv=>decide (kv.1=k))=true then kvs.map (fun kv=>if kv.1=k then(kv.1,v) else kv) else kvs++[(k,v)]
theorem pY{p:κ×V}{r:List (κ×V)}{k:κ}(e:p.1=k):qS (p::r) k=some p.2:=by simp[qS,uV,e]
theorem mT{p:κ×V}{r:List (κ×V)}{k:κ}(e: ¬p.1=k):qS (p::r) k=qS r k:=by simp[qS,uV,e]
theorem BO(k:κ): ∀kvs:List (κ×V),(kvs.any fun kv=>decide (kv.1=k))=(qS kvs k).isSome
 |[]=>rfl
 |p::r=>by
  rw[uU];by_cases e:p.1=k
  ·simp only[pY e,tE e,Bool.true_or,Option.isSome_some]
  ·rw[mT e,mx e,Bool.false_or];exact BO k r
theorem vP(kvs:List (κ×V))(k:κ)(v:V):(pj kvs k v).length<=kvs.length+1:=by
 unfold pj;split
 ·rw[iX];omega
 ·rw[lP,jX,rl];omega
theorem RelO.isSome_eq{o:Option V}{u:Option Value}(r:RelO o u):o.isSome=u.isSome:=by
 cases o with
 |none=>cases u with
  |none=>rfl
  |some _=>exact(show False from r).elim
 |some _=>cases u with
  |none=>exact(show False from r).elim
  |some _=>rfl
theorem KV.val{kvs:List (κ×V)}{vs:List (κ×Value)}(r:KV kvs vs)(k:κ):RelO (qS kvs k) (valueAt vs k):=by
 unfold KV at r
 induction r with
 |nil=>exact True.intro
 | @cons p q ps qs h t ih=>
  obtain⟨h1,h2⟩:=h;by_cases e:p.1=k
  ·have e':q.1=k:=h1.symm.trans e;have b:valueAt (q::qs) k=some q.2:=by simp[valueAt,uV,e']
   rw[pY e,b];exact h2
  ·have e': ¬q.1=k:=fun z=>e (h1.trans z);have b:valueAt (q::qs) k=valueAt qs k:=by simp[valueAt,uV,e']
   rw[mT e,b];exact ih
theorem KV.any{kvs:List (κ×V)}{vs:List (κ×Value)}(r:KV kvs vs)(k:κ):(kvs.any fun kv=>decide (kv.1=k))=vs.any fun kv=>decide (kv.1=k):=by
 unfold KV at r
 induction r with
 |nil=>rfl
 |cons h t ih=>rw[uU,uU,ih,h.1]
theorem KV.repl{kvs:List (κ×V)}{vs:List (κ×Value)}(r:KV kvs vs)(k:κ){y:V}{u:gB}(ry:RelV y u):
  KV (kvs.map fun kv=>if kv.1=k then(kv.1,y) else kv) (vs.map fun kv=>if kv.1=k then(kv.1,u) else kv):=by
 unfold KV at r ⊢
 induction r with
 |nil=>exact .nil
 | @cons p q ps qs h t ih=>
  rw[iQ,iQ];refine .cons ?_ ih;obtain⟨h1,h2⟩:=h;by_cases e:p.1=k
  ·rw[gu e,gu (h1.symm.trans e)];exact⟨h1,ry⟩
  ·rw[gv e,gv (fun z=>e (h1.trans z))];exact⟨h1,h2⟩
theorem KV.put{kvs:List (κ×V)}{vs:List (κ×Value)}(r:KV kvs vs)(k:κ){y:V}{u:gB}(ry:RelV y u):KV (pj kvs k y) (stored vs k u):=by
 unfold pj stored;rw[r.any k];by_cases e:(vs.any fun kv=>decide (kv.1=k))=true
 ·rw[gu e,gu e];exact r.repl k ry
 ·rw[gv e,gv e];exact Paired.snoc r ⟨rfl,ry⟩
theorem KV.length{kvs:List (κ×V)}{vs:List (κ×Value)}(r:KV kvs vs):kvs.length=vs.length:=AJ r
end
theorem Kp{P:gP}{w:gH}{k:Key}{u:gB}(r:RelV (kV k) u):(kb P w).is k u=true:=by
 cases k with
 |inl i=>obtain⟨t,e⟩:=(show ∃t,u=Value.int i t from r);subst e;exact Cz P w i t
 |inr x=>obtain⟨t,e⟩:=(show ∃t,u=Value.str x t from r);subst e;exact Cy P w x t
theorem zB{P:gP}{w:gH}: ∀{ks:List Key} {us:iG},Vals (ks.map kV) us->ItemsAre (kb P w) ks us
 |[],_,r=>by rw[pF] at r;cases r;exact .nil
 |k::ks,_,r=>by
  rw[iQ] at r
  cases r with
  |cons h t=>exact .cons (Kp h) (zB t)
abbrev KT(H:Hp):List (List Key×V)->List (List Key×Addr×Value)->Prop:=Paired fun p q=>p.1=q.1/\H q.2.1=some (.tup (p.1.map kV))/\RelV p.2 q.2.2
theorem KT.val{H:Hp}{kvs:List (List Key×V)}{xs:List (List Key×Addr×Value)}(r:KT H kvs xs)(k:List Key):RelO (qS kvs k) ((atKey xs k).map (·.2)):=by
 induction r with
 |nil=>exact True.intro
 | @cons p q ps qs h t ih=>
  obtain⟨h1,_,h2⟩:=h;by_cases e:p.1=k
  ·have e':q.1=k:=h1.symm.trans e;have b:atKey (q::qs) k=some q.2:=by simp[atKey,uV,e']
   rw[pY e,b];exact h2
  ·have e': ¬q.1=k:=fun z=>e (h1.trans z);have b:atKey (q::qs) k=atKey qs k:=by simp[atKey,uV,e']
   rw[mT e,b];exact ih
theorem KT.repl{H:Hp}{kvs:List (List Key×V)}{xs:List (List Key×Addr×Value)}(r:KT H kvs xs)(k:List Key){y:V}{u:gB}(ry:RelV y u):
  KT H (kvs.map fun kv=>if kv.1=k then(kv.1,y) else kv) (xs.map (putAt k u)):=by
 induction r with
 |nil=>exact .nil
 | @cons p q ps qs h t ih=>
  rw[iQ,iQ];refine .cons ?_ ih;obtain⟨h1,h2,h3⟩:=h;unfold putAt;by_cases e:p.1=k
  ·rw[gu e,gu (h1.symm.trans e)];exact⟨h1,h2,ry⟩
  ·rw[gv e,gv (fun z=>e (h1.trans z))];exact⟨h1,h2,h3⟩
theorem KT.put{H:Hp}{kvs:List (List Key×V)}{xs:List (List Key×Addr×Value)}(r:KT H kvs xs)(k:List Key){b:gn}{y:V}{u:gB}(hb:H b=some (.tup (k.map kV)))(ry:RelV y u):
  KT H (pj kvs k y) (storedH xs k b u):=by
 have e:(kvs.any fun kv=>decide (kv.1=k))=(atKey xs k).isSome:=by
  rw[BO,(r.val k).isSome_eq,Option.isSome_map]
 unfold pj storedH;rw[e];by_cases q:(atKey xs k).isSome=true
 ·rw[gu q,gu q];exact r.repl k ry
 ·rw[gv q,gv q];exact Paired.snoc r ⟨rfl,hb,ry⟩
theorem KT.keeps{H H':Hp}{kvs:List (List Key×V)}{xs:List (List Key×Addr×Value)}(r:KT H kvs xs)(ht: ∀b ys,H b=some (.tup ys)->H' b=some (.tup ys)):KT H' kvs xs:=
 Paired.mapP r fun _ _ z=>⟨z.1,ht _ _ z.2.1,z.2.2⟩
section
variable {P:gP}{w:gH}{H:Hp}{h:gQ}{a:gn}
theorem M7{u:HO}(ok:HOk P w H h)(e:Rd H a u):ObjOk P w H h a u:=e.ok ok
theorem Np{kvs:List (Key×V)}(ok:HOk P w H h)(e:Rd H a (.dK kvs)):kvs.length<=sizeLine/\(a==sysModules)=false/\ ∃vs,KV kvs vs/\h.DictOf (kb P w) a vs:=
 show ObjOk P w H h a (.dK kvs) from M7 ok e
theorem Nq{kvs:List (Key×V)}(ok:HOk P w H h)(e:H a=some (.dK kvs)):kvs.length<=sizeLine/\(a==sysModules)=false/\ ∃vs,KV kvs vs/\h.DictOf (kb P w) a vs:=Np ok (.inl e)
theorem EM{ks:List Key}(ok:HOk P w H h)(e:H a=some (.tup (ks.map kV))):(tupleKind (kb P w)).is h ks a:=by
 obtain⟨_,b6,r,o,h1,h2,n,h3⟩:=(show ObjOk P w H h a (.tup (ks.map kV)) from ok a _ e)
 exact⟨o,b6.toArray,n,h1,h2,h3,by simpa using zB r⟩
theorem Nn{kvs:List (List Key×V)}(ok:HOk P w H h)(e:Rd H a (.dT kvs)):kvs.length<=sizeLine/\(a==sysModules)=false/\
  ∃xs,KT H kvs xs/\h.DictOfH (tupleKind (kb P w)) a xs:=by
 obtain⟨z,y,xs,r,o,es,ep,h1,h2,h3,h4,h5⟩:=(show ObjOk P w H h a (.dT kvs) from M7 ok e)
 refine⟨z,y,xs,r,o,es,ep,h1,h2,h3,h4,fun x hx=>?_,h5⟩
 have all: ∀{l:List (List Key×V)} {m:List (List Key×Addr×Value)},KT H l m-> ∀x∈m,(tupleKind (kb P w)).is h x.1 x.2.1:=by
  intro l m q
  induction q with
  |nil=>intro x hx;exact nomatch hx
  | @cons p q ps qs hq t ih=>
   intro x hx;rcases jg.mp hx with e|hx
   ·subst e;exact EM ok (by rw[<-hq.1];exact hq.2.1)
   ·exact ih x hx
 exact all r x hx
theorem Q9{kvs:List (List Key×V)}(ok:HOk P w H h)(e:H a=some (.dT kvs)):kvs.length<=sizeLine/\(a==sysModules)=false/\
  ∃xs,KT H kvs xs/\h.DictOfH (tupleKind (kb P w)) a xs:=Nn ok (.inl e)
end
def DGet(H:Hp)(a:gn)(y:V)(r:Option V):Prop:=
 (∃kvs k,Rd H a (.dK kvs)/\y=kV k/\r=qS kvs k)\/ ∃kvs k b,Rd H a (.dT kvs)/\y= .ref b/\H b=some (.tup (k.map kV))/\r=qS kvs k
def DPut(H:Hp)(a:gn)(y v:V)(H':Hp):Prop:=
 (∃kvs k,H a=some (.dK kvs)/\y=kV k/\kvs.length<sizeLine/\H'=upd H a (.dK (pj kvs k v)))\/
 ∃kvs k b,H a=some (.dT kvs)/\y= .ref b/\H b=some (.tup (k.map kV))/\kvs.length<sizeLine/\H'=upd H a (.dT (pj kvs k v))
theorem DGet.k{H:Hp}{a:gn}{kvs:List (Key×V)}{k:Key}(e:H a=some (.dK kvs)):DGet H a (kV k) (qS kvs k):= .inl ⟨kvs,k,.inl e,rfl,rfl⟩
theorem DGet.t{H:Hp}{a b:gn}{kvs:List (List Key×V)}{k:List Key}(e:H a=some (.dT kvs))(eb:H b=some (.tup (k.map kV))):DGet H a (.ref b) (qS kvs k):= .inr ⟨kvs,k,b,.inl e,rfl,eb,rfl⟩
theorem DPut.k{H:Hp}{a:gn}{kvs:List (Key×V)}{k:Key}{v:V}(e:H a=some (.dK kvs))(hl:kvs.length<sizeLine):DPut H a (kV k) v (upd H a (.dK (pj kvs k v))):= .inl ⟨kvs,k,e,rfl,hl,rfl⟩
theorem DPut.t{H:Hp}{a b:gn}{kvs:List (List Key×V)}{k:List Key}{v:V}(e:H a=some (.dT kvs))(eb:H b=some (.tup (k.map kV)))(hl:kvs.length<sizeLine):
  DPut H a (.ref b) v (upd H a (.dT (pj kvs k v))):= .inr ⟨kvs,k,b,e,rfl,eb,hl,rfl⟩
section
variable {X:Cx}{pins:hJ}{σ:St}{H:Hp}{s:gr}{a:gn}{y v:V}{u r:gB}{o:Option V}{A:gM}{E:hG}
theorem Inv.big(I:Inv X pins σ H s):sysModules<s.heap.objs.size:=by
 have h:mainGlobals<s.heap.objs.size:=(I.mod.glob.keeps I.bk).lt;exact Nat.lt_trans (by decide) h
theorem zK{Q:hG}(hu:A.units+1<cLine)(I:Inv X pins σ H s)(g:DGet H a y (some v))(ry:RelV y u)(h: ∀w' s',Inv X pins σ H s'->RelV v w'->Q w' s'):
  wpAny (model X.prog X.w) A (getItem (.ref a) u) Q E s:=by
 rcases g with⟨kvs,k,e,ey,l⟩|⟨kvs,k,b,e,ey,eb,l⟩
 ·subst ey;obtain⟨z,hd,vs,rel,dd⟩:=Np I.hok e;obtain⟨w',hw,w5⟩:=RelO.some_of (v:=v) (o:=valueAt vs k) (by rw[l];exact rel.val k);exact wpAny_getItem_of (Kp ry) dd.mapOf hw (h w' _ (I.tok _) w5)
 ·subst ey;cases(show u=Value.ref b from ry);obtain⟨z,hd,xs,rel,dd⟩:=Nn I.hok e;obtain⟨w',hw,w5⟩:=RelO.some_of (v:=v) (o:=(atKey xs k).map (·.2)) (by rw[l];exact rel.val k);obtain⟨p,hp,cV⟩:=Option.map_eq_some_iff.mp hw;refine wpAny_getItem_heap (tupleKind_room_in1 hu) (EM I.hok eb) dd hp ?_;rw[cV];exact h w' _ (I.tok _) w5
theorem wy{h':gQ}{t':Nat}{ob:HO}(I:Inv X pins σ H s)(mu:Mut (H a))(hs:Heap.SameBut a s.heap h')(he: ∃q,h'.get? a=some q)(new:ObjOk X.prog X.w (upd H a ob) h' a ob):
  Inv X pins σ (upd H a ob) {s with heap:=h',toks:=t'}:=
 I.write (x:=a) (e:=a) mu (.inl rfl) (fun b q hb z=>(hs.2 b hb).trans z) he new
theorem Pl{P:gP}{w:gH}{H':Hp}{h':gQ}{kvs:List (Key×V)}{vs:List (Key×Value)}(z:kvs.length<=sizeLine)(hd:(a==sysModules)=false)(rel:KV kvs vs)(dd:h'.DictOf (kb P w) a vs):
  ObjOk P w H' h' a (.dK kvs):=⟨z,hd,vs,rel,dd⟩
theorem vC{H':Hp}{Q:Unit->Shared->Prop}(hu:A.units+1<cLine)(I:Inv X pins σ H s)(g:DPut H a y v H')(ry:RelV y u)(rv:RelV v r)(h: ∀s',Inv X pins σ H' s'->Q () s'):
  wpAny (model X.prog X.w) A (setItem (.ref a) u r) Q E s:=by
 rcases g with⟨kvs,k,e,ey,l,eH⟩|⟨kvs,k,b,e,ey,eb,l,eH⟩
 ·subst ey eH;obtain⟨z,hd,vs,rel,dd⟩:=Nq I.hok e;have hz:vs.length<=sizeLine:=by rw[<-rel.length];exact z
  have hl:(pj kvs k v).length<=sizeLine:=by have:=vP kvs k v;omega
  refine wpAny_setItem_pairs (hsz:=hz) (Kp ry) dd fun h' eN hs=>h _ ?_;have he: ∃q,h'.get? a=some q:=let⟨q,_,_,hq,_⟩:=eN;⟨q,hq⟩
  exact wy I (by rw[e];exact True.intro) hs he (Pl hl hd (rel.put k rv) eN)
 ·subst ey eH;cases(show u=Value.ref b from ry);obtain⟨z,hd,xs,rel,dd⟩:=Q9 I.hok e;have hz:xs.length<=sizeLine:=by rw[<-AJ rel];exact z
  have hl:(pj kvs k v).length<=sizeLine:=by have:=vP kvs k v;omega
  refine wpAny_setItem_heap (hsz:=hz) (tupleKind_room_in1 hu) (EM I.hok eb) dd fun h' eN hs=>h _ ?_;obtain⟨q,es,ep,hq,h2,h3,h4,_,h5⟩:=eN;refine wy I (by rw[e];exact True.intro) hs ⟨q,hq⟩ ⟨hl,hd,_,(rel.put k eb rv).keeps fun c ys ec=>?_,q,es,ep,hq,h2,h3,h4,h5⟩;rw[iq (Nd ec e (fun z=>nomatch z))];exact ec
end
theorem KO{P:gP}{w:gH}{H:Hp}(h:gQ)(hb:sysModules<h.objs.size):ObjOk P w H (h.push {cls:= .type "dict",data:= .dict #[]}) h.objs.size (.dK []):=
 ⟨lr _,yG.mpr (oX (iz hb)),[],.nil,Heap.DictOf.new h⟩
noncomputable def NF:TE:=fun _ H Q=> ∀p,H p=none->Q (.ref p) (upd H p (.dK []))
section
variable {X:Cx}{pos:Pos}
theorem JR:PE X (.Dict [] [] pos) NF:=fun pins s σ H Q I h=>
 wpAny_Dict_empty ⟨.ref s.heap.objs.size,_,I.laid (a:=s.heap.objs.size) (o:= .dK []) (t':=s.toks) (fun _ _ q=>ig _ q) (hU _) (KO s.heap I.big),rfl,h _ (I.hok.fresh (hU _))⟩
end
end L2
namespace PX
open PySem PySem.Spec PyProof.Rows L2
inductive OK where
 |dct|set|fn(i:Nat)|exc(c:Nat)
 deriving DecidableEq
inductive D where
 |non|bl(b:Bool)|int(i:Int)|str(x:Str)|tup(l:List D)|lst(l:List D)|oth(k:OK)(ks vs:List D)
mutual
/-- the hash of ints and of tuples of such -/
noncomputable def D.hash:D->Int
 | .int i=>hashInt i
 | .tup l=>reduceHash (Builtin.Tuple.tupleHashOf (D.hashL l))
 |_=>0
noncomputable def D.hashL:List D->List Int
 |[]=>[]
 |d::l=>D.hash d::D.hashL l
end
noncomputable def ji:Key->D
 | .inl i=> .int i
 | .inr x=> .str x
def OthB(h:Option HO)(k:OK)(ks vs:List D)(us:List V):Prop:=
 match k with
 | .dct=>(∃kvs:List (Key×V),h=some (.dK kvs)/\ks=kvs.map (fun p=>ji p.1)/\us=kvs.map (·.2))\/
   (∃kvs:List (List Key×V),h=some (.dT kvs)/\ks=kvs.map (fun p=> .tup (p.1.map ji))/\us=kvs.map (·.2))
 | .set=>ks=[]/\ ∃zs:List (Int×V),h=some (.stt zs)/\zs.Perm ((D.hashL vs).zip us)
 |_=>False
theorem OthB.ex{h k ks vs us}(x:OthB h k ks vs us): ∃o,h=some o:=by
 cases k with
 |dct=>rcases x with⟨_,e,_⟩|⟨_,e,_⟩<;>exact⟨_,e⟩
 |set=>obtain⟨_,_,e,_⟩:=x;exact⟨_,e⟩
 |_=>exact x.elim
theorem OthB.keep{k ks vs us}(x:OthB h k ks vs us)(kp: ∀o,h=some o->h'=some o):OthB h' k ks vs us:=by
 obtain⟨o,e⟩:=x.ex;rw[kp o e,<-e];exact x
abbrev AP':=Addr->Prop
def KL(K:gL)(a:gn)(xs:List V):Prop:= ∃(o:Obj) (b6:jS) (n:Nat),K.lookup a=some o/\o.cls= .type "list"/\o.dict=none/\o.data= .seq b6 n/\b6.size<=sizeLine/\Vals xs b6.toList
def SqTO(K:gL)(H:Hp)(O:AP')(a:gn)(xs:List V):Prop:=H a=some (.tup xs)/\ ¬O a
def SqLO(K:gL)(H:Hp)(O:AP')(a:gn)(xs:List V):Prop:=(Rd H a (.lst xs)/\ ¬O a)\/KL K a xs
theorem SqTO.sq{K H O a xs}(h:SqTO K H O a xs):SqT K H a xs:= .inl (.inl h.1)
theorem SqLO.sq{K H O a xs}(h:SqLO K H O a xs):SqL K H a xs:=h.elim (fun z=> .inl z.1) .inr
theorem Rd.mono{a u}(h:Rd H a u)(k: ∀o,H a=some o->H' a=some o):Rd H' a u:=by
 rcases h with h|⟨o,h⟩
 ·exact .inl (k _ h)
 ·exact .inr ⟨o,k _ h⟩
theorem SqTO.mono{K H H'}{a xs}(h:SqTO K H O a xs)(k: ∀b o,H b=some o-> ¬O b->H' b=some o)(hO: ∀b,H b≠none->O' b->O b):SqTO K H' O' a xs:=
 ⟨k a _ h.1 h.2,fun z=>h.2 (hO a (by rw[h.1];simp) z)⟩
theorem SqLO.mono{K H H'}{a xs}(h:SqLO K H O a xs)(k: ∀b o,H b=some o-> ¬O b->H' b=some o)(hO: ∀b,H b≠none->O' b->O b):SqLO K H' O' a xs:=by
 rcases h with⟨r,n⟩|h
 ·refine .inl ⟨Rd.mono r fun o e=>k a o e n,fun z=>n (hO a ?_ z)⟩;rcases r with r|⟨_,r⟩<;>(rw[r];simp)
 ·exact .inr h
mutual
/-- v is the datum,in H;nothing of it stands at an address of O -/
def Rep(K:gL)(H:Hp)(O:AP'):D->V->Prop
 | .non,v=>v= .non
 | .bl b,v=>v= .bl b
 | .int i,v=>v= .int i
 | .str x,v=>v= .str x
 | .tup l,v=> ∃a xs,v= .ref a/\SqTO K H O a xs/\RepL K H O l xs
 | .lst l,v=> ∃a xs,v= .ref a/\SqLO K H O a xs/\RepL K H O l xs
 | .oth k ks vs,v=> ∃a us,v= .ref a/\(¬O a/\OthB (H a) k ks vs us)/\RepL K H O vs us
def RepL(K:gL)(H:Hp)(O:AP'):List D->List V->Prop
 |[],vs=>vs=[]
 |d::l,vs=> ∃v r,vs=v::r/\Rep K H O d v/\RepL K H O l r
end
mutual
theorem Rep.mono{K H H'}{O O':AP'}(k: ∀b o,H b=some o-> ¬O b->H' b=some o)(hO: ∀b,H b≠none->O' b->O b): ∀{d:D} {v:V},Rep K H O d v->Rep K H' O' d v
 | .non,_,h=>h
 | .bl _,_,h=>h
 | .int _,_,h=>h
 | .str _,_,h=>h
 | .tup l,_,h=>by
  rw[Rep] at h ⊢;obtain⟨a,xs,e,s,r⟩:=h;exact⟨a,xs,e,s.mono k hO,RepL.mono k hO r⟩
 | .lst l,_,h=>by
  rw[Rep] at h ⊢;obtain⟨a,xs,e,s,r⟩:=h;exact⟨a,xs,e,s.mono k hO,RepL.mono k hO r⟩
 | .oth kk ks vs,_,h=>by
  rw[Rep] at h ⊢;obtain⟨a,us,e,s,r⟩:=h;exact⟨a,us,e,⟨fun z=>s.1 (hO a (by obtain⟨o,q⟩:=s.2.ex;rw[q];simp) z),s.2.keep fun o q=>k a o q s.1⟩,RepL.mono k hO r⟩
theorem RepL.mono{K H H'}{O O':AP'}(k: ∀b o,H b=some o-> ¬O b->H' b=some o)(hO: ∀b,H b≠none->O' b->O b): ∀{l:List D} {vs:List V},RepL K H O l vs->RepL K H' O' l vs
 |[],_,h=>h
 |d::l,_,h=>by
  rw[RepL] at h ⊢;obtain⟨v,r,e,h1,h2⟩:=h;exact⟨v,r,e,Rep.mono k hO h1,RepL.mono k hO h2⟩
end
theorem Rep.mkInt{K H O i}:Rep K H O (.int i) (.int i):=by rw[Rep]
theorem Rep.mkBl{K H O i}:Rep K H O (.bl i) (.bl i):=by rw[Rep]
theorem Rep.mkNon{K H O}:Rep K H O .non .non:=by rw[Rep]
theorem Rep.mkStr{K H O i}:Rep K H O (.str i) (.str i):=by rw[Rep]
theorem Rep.int{K H O i v}(h:Rep K H O (.int i) v):v= .int i:=by rwa [Rep] at h
theorem Rep.bl{K H O i v}(h:Rep K H O (.bl i) v):v= .bl i:=by rwa [Rep] at h
theorem Rep.non{K H O v}(h:Rep K H O .non v):v= .non:=by rwa [Rep] at h
theorem Rep.str{K H O i v}(h:Rep K H O (.str i) v):v= .str i:=by rwa [Rep] at h
theorem Rep.tup{K H O l v}(h:Rep K H O (.tup l) v): ∃a xs,v= .ref a/\SqTO K H O a xs/\RepL K H O l xs:=by rwa [Rep] at h
theorem Rep.lst{K H O l v}(h:Rep K H O (.lst l) v): ∃a xs,v= .ref a/\SqLO K H O a xs/\RepL K H O l xs:=by rwa [Rep] at h
theorem Rep.oth{K H O k ks vs v}(h:Rep K H O (.oth k ks vs) v): ∃a us,v= .ref a/\(¬O a/\OthB (H a) k ks vs us)/\RepL K H O vs us:=by rwa [Rep] at h
theorem Rep.mkOth{K H O k ks vs a us}(n: ¬O a)(h:OthB (H a) k ks vs us)(r:RepL K H O vs us):Rep K H O (.oth k ks vs) (.ref a):=by rw[Rep];exact⟨a,us,rfl,⟨n,h⟩,r⟩
theorem Rep.mkTup{K H O l a xs}(h:SqTO K H O a xs)(r:RepL K H O l xs):Rep K H O (.tup l) (.ref a):=by rw[Rep];exact⟨a,xs,rfl,h,r⟩
theorem Rep.mkLst{K H O l a xs}(h:SqLO K H O a xs)(r:RepL K H O l xs):Rep K H O (.lst l) (.ref a):=by rw[Rep];exact⟨a,xs,rfl,h,r⟩
theorem RepL.length{K H O}: ∀{l:List D} {vs:List V},RepL K H O l vs->vs.length=l.length
 |[],vs,h=>by rw[RepL] at h;rw[h];rfl
 |d::l,vs,h=>by
  rw[RepL] at h;obtain⟨v,r,rfl,_,h2⟩:=h;simp[RepL.length h2]
theorem RepL.get{K H O}: ∀{l:List D} {vs:List V} {i:Nat} {d:D},RepL K H O l vs->l[i]?=some d-> ∃v,vs[i]?=some v/\Rep K H O d v
 |[],_,_,_,_,e=>by simp at e
 |d::l,vs,0,d',h,e=>by
  rw[RepL] at h;obtain⟨v,r,rfl,h1,_⟩:=h;simp at e;subst e;exact⟨v,rfl,h1⟩
 |d::l,vs,i+1,d',h,e=>by
  rw[RepL] at h;obtain⟨v,r,rfl,_,h2⟩:=h;obtain⟨w,h3,h4⟩:=RepL.get (i:=i) h2 (by simpa using e);exact⟨w,by simpa using h3,h4⟩
theorem RepL.append{K H O}: ∀{l m:List D} {vs ws:List V},RepL K H O l vs->RepL K H O m ws->RepL K H O (l++m) (vs++ws)
 |[],_,vs,_,h,h'=>by rw[RepL] at h;subst h;exact h'
 |d::l,_,vs,_,h,h'=>by
  rw[RepL] at h;obtain⟨v,r,rfl,h1,h2⟩:=h;show RepL K H O (d::(l++_)) _;rw[RepL];exact⟨v,_,rfl,h1,RepL.append h2 h'⟩
theorem RepL.one{K H O}{d:D}{v:V}(h:Rep K H O d v):RepL K H O [d] [v]:=by
 rw[RepL];exact⟨v,[],rfl,h,by rw[RepL]⟩
theorem RepL.nil{K H O}:RepL K H O [] []:=by rw[RepL]
theorem RepL.cons{K H O}{l vs}(h:Rep K H O d v)(h':RepL K H O l vs):RepL K H O (d::l) (v::vs):=by
 rw[RepL];exact⟨v,vs,rfl,h,h'⟩
theorem RepL.take{K H O}: ∀{l:List D} {vs:List V} (n:Nat),RepL K H O l vs->RepL K H O (l.take n) (vs.take n)
 |_,_,0,_=>by simp[RepL]
 |[],vs,n+1,h=>by rw[RepL] at h;subst h;simp[RepL]
 |d::l,vs,n+1,h=>by
  rw[RepL] at h;obtain⟨v,r,rfl,h1,h2⟩:=h;exact RepL.cons h1 (RepL.take n h2)
theorem RepL.drop{K H O}: ∀{l:List D} {vs:List V} (n:Nat),RepL K H O l vs->RepL K H O (l.drop n) (vs.drop n)
 |_,_,0,h=>h
 |[],vs,n+1,h=>by rw[RepL] at h;subst h;simp[RepL]
 |d::l,vs,n+1,h=>by
  rw[RepL] at h;obtain⟨v,r,rfl,h1,h2⟩:=h;exact RepL.drop n h2
theorem RepL.set{K H O}{d:D}{v:V}(hv:Rep K H O d v): ∀{l:List D} {vs:List V} (i:Nat),RepL K H O l vs->RepL K H O (l.set i d) (vs.set i v)
 |[],vs,i,h=>by rw[RepL] at h;subst h;simp[RepL]
 |e::l,vs,0,h=>by
  rw[RepL] at h;obtain⟨w,r,rfl,h1,h2⟩:=h;exact RepL.cons hv h2
 |e::l,vs,i+1,h=>by
  rw[RepL] at h;obtain⟨w,r,rfl,h1,h2⟩:=h;exact RepL.cons h1 (RepL.set hv i h2)
abbrev Sl:=Option (D×Bool)
abbrev Dn:=List Sl
def OwnA(σ:L2.St)(δ:Dn)(a:gn):Prop:= ∃(i:Nat) (d:D),δ[i]?=some (some (d,true))/\σ[i]?=some (some (V.ref a))
def OwnOk(K:gL)(H:Hp)(O:AP'):D->Addr->Prop
 | .lst l,a=> ∃xs,H a=some (.lst xs)/\RepL K H O l xs
 | .oth k ks vs,a=> ∃us,OthB (H a) k ks vs us/\RepL K H O vs us
 |_,_=>False
theorem OwnOk.mono{K H H'}(h:OwnOk K H O d a)(k: ∀b o,H b=some o-> ¬O b->H' b=some o)(hO: ∀b,H b≠none->O' b->O b)(ka: ∀o,H a=some o->H' a=some o):OwnOk K H' O' d a:=by
 cases d with
 |lst l=>obtain⟨xs,e,r⟩:=h;exact⟨xs,ka _ e,RepL.mono k hO r⟩
 |oth kk ks vs=>obtain⟨us,e,r⟩:=h;exact⟨us,e.keep ka,RepL.mono k hO r⟩
 |_=>exact h
theorem OwnOk.some{K H}(h:OwnOk K H O d a):H a≠none:=by
 cases d with
 |lst l=>obtain⟨xs,e,r⟩:=h;rw[e];simp
 |oth kk ks vs=>obtain⟨us,e,r⟩:=h;obtain⟨o,q⟩:=e.ex;rw[q];simp
 |_=>exact h.elim
theorem OwnOk.rep{K H}(h:OwnOk K H O d a)(na: ¬O' a)(hO: ∀b,H b≠none->O' b->O b):Rep K H O' d (.ref a):=by
 cases d with
 |lst l=>
  obtain⟨xs,e,r⟩:=h;rw[Rep];exact⟨a,xs,rfl,.inl ⟨.inl e,na⟩,RepL.mono (fun b o e _=>e) hO r⟩
 |oth kk ks vs=>
  obtain⟨us,e,r⟩:=h;exact Rep.mkOth na e (RepL.mono (fun b o e _=>e) hO r)
 |_=>exact h.elim
structure ER(K:gL)(H:Hp)(T:AP')(σ:L2.St)(δ:Dn):Prop where
 len:σ.length=δ.length
 val: ∀(i:Nat) (d:D),δ[i]?=some (some (d,false))-> ∃v,σ[i]?=some (some v)/\Rep K H (fun a=>OwnA σ δ a\/T a) d v
 own: ∀(i:Nat) (d:D),δ[i]?=some (some (d,true))-> ∃a,σ[i]?=some (some (V.ref a))/\OwnOk K H (fun a=>OwnA σ δ a\/T a) d a
 inj: ∀(i j:Nat) (d e:D) (a:gn),δ[i]?=some (some (d,true))->δ[j]?=some (some (e,true))->σ[i]?=some (some (V.ref a))->σ[j]?=some (some (V.ref a))->i=j
 nT: ∀a,OwnA σ δ a-> ¬T a
 dom: ∀a,T a->H a≠none
theorem ER.ownDom{K H T σ δ}(E:ER K H T σ δ)(h:OwnA σ δ a):H a≠none:=by
 obtain⟨i,d,h1,h2⟩:=h;obtain⟨b,h3,h4⟩:=E.own i d h1;rw[h2] at h3;cases h3;exact h4.some
theorem ER.mono{K H H' σ δ}(E:ER K H T σ δ)(k: ∀b o,H b=some o-> ¬T b->H' b=some o)(hT: ∀b,H b≠none->T' b->T b)(hd: ∀a,T' a->H' a≠none):ER K H' T' σ δ where
 len:=E.len
 val:=fun i d h=>by
  obtain⟨v,h1,h2⟩:=E.val i d h;exact⟨v,h1,Rep.mono (fun b o e n=>k b o e fun z=>n (.inr z)) (fun b hb z=>z.elim .inl fun z=> .inr (hT b hb z)) h2⟩
 own:=fun i d h=>by
  obtain⟨a,h1,h2⟩:=E.own i d h;exact⟨a,h1,h2.mono (fun b o e n=>k b o e fun z=>n (.inr z)) (fun b hb z=>z.elim .inl fun z=> .inr (hT b hb z)) fun o e=>k a o e (E.nT a ⟨i,d,h,h1⟩)⟩
 inj:=E.inj
 nT:=fun a h z=>E.nT a h (hT a (E.ownDom h) z)
 dom:=hd
theorem OwnA.set(h:OwnA σ (δ.set i (some (d,false))) a):OwnA σ δ a:=by
 obtain⟨j,e,h1,h2⟩:=h;rw[Ay] at h1;split at h1
 ·split at h1<;>simp at h1
 ·exact⟨j,e,h1,h2⟩
theorem ER.freeze{K H T σ δ}(E:ER K H T σ δ){i:Nat}{d:D}{b:Bool}(h:δ[i]?=some (some (d,b))):ER K H T σ (δ.set i (some (d,false)))/\ ∃v,σ[i]?=some (some v)/\Rep K H (fun a=>OwnA σ (δ.set i (some (d,false))) a\/T a) d v:=by
 have hi:i<δ.length:=(uI.mp h).1
 have me: ∃v,σ[i]?=some (some v)/\Rep K H (fun a=>OwnA σ (δ.set i (some (d,false))) a\/T a) d v:=by
  cases b with
  |false=>
   obtain⟨v,h1,h2⟩:=E.val i d h;exact⟨v,h1,Rep.mono (fun _ _ e _=>e) (fun b _ z=>z.elim (fun z=> .inl z.set) .inr) h2⟩
  |true=>
   obtain⟨a,h1,h2⟩:=E.own i d h;refine⟨.ref a,h1,h2.rep (fun z=>?_) fun b _ z=>z.elim (fun z=> .inl z.set) .inr⟩;rcases z with⟨j,e,h3,h4⟩|z
   ·rw[Ay] at h3;split at h3
    ·first
      |(split at h3<;>simp at h3)
      |simp at h3
    ·rename_i q9;exact q9 (E.inj i j d e a h h3 h1 h4)
   ·exact E.nT a ⟨i,d,h,h1⟩ z
 refine⟨⟨by rw[rm];exact E.len,fun j e hj=>?_,fun j e hj=>?_,fun j k e f a hj hk h1 h2=>?_,fun a z=>E.nT a z.set,E.dom⟩,me⟩
 ·by_cases r6:i=j
  ·subst r6;rw[pJ hi] at hj;cases hj;exact me
  ·rw[rB r6] at hj;obtain⟨v,h1,h2⟩:=E.val j e hj;exact⟨v,h1,Rep.mono (fun _ _ e _=>e) (fun b _ z=>z.elim (fun z=> .inl z.set) .inr) h2⟩
 ·by_cases r6:i=j
  ·subst r6;rw[pJ hi] at hj;cases hj
  ·rw[rB r6] at hj;obtain⟨a,h1,h2⟩:=E.own j e hj;exact⟨a,h1,h2.mono (fun _ _ e _=>e) (fun b _ z=>z.elim (fun z=> .inl z.set) .inr) fun _ e=>e⟩
 ·have g1:δ[j]?=some (some (e,true)):=by
   by_cases r6:i=j
   ·subst r6;rw[pJ hi] at hj;cases hj
   ·rwa [rB r6] at hj
  have g2:δ[k]?=some (some (f,true)):=by
   by_cases r6:i=k
   ·subst r6;rw[pJ hi] at hk;cases hk
   ·rwa [rB r6] at hk
  exact E.inj j k e f a g1 g2 h1 h2
def OwnI(σ:L2.St)(δ:Dn)(i:Nat)(a:gn):Prop:= ∃d:D,δ[i]?=some (some (d,true))/\σ[i]?=some (some (V.ref a))
structure Keep(σ:L2.St)(δ:Dn)(H:Hp)(δ':Dn)(H':Hp):Prop where
 kp: ∀a o,H a=some o-> ¬OwnA σ δ a->H' a=some o
 owi: ∀i a,OwnI σ δ' i a->OwnI σ δ i a
 dm: ∀a,H a≠none->H' a≠none
theorem Keep.ow{σ δ H δ' H'}(k:Keep σ δ H δ' H')(a:gn)(h:OwnA σ δ' a):OwnA σ δ a:=by
 obtain⟨i,d,h1,h2⟩:=h;obtain⟨e,h3,h4⟩:=k.owi i a ⟨d,h1,h2⟩;exact⟨i,e,h3,h4⟩
theorem Keep.refl{σ δ H}:Keep σ δ H δ H:=⟨fun _ _ e _=>e,fun _ _ z=>z,fun _ z=>z⟩
theorem Keep.trans{σ δ δ1 δ2 H H1 H2}(x:Keep σ δ H δ1 H1)(y:Keep σ δ1 H1 δ2 H2):Keep σ δ H δ2 H2:=
 ⟨fun a o e n=>y.kp a o (x.kp a o e n) fun z=>n (x.ow a z),fun i a z=>x.owi i a (y.owi i a z),fun a z=>y.dm a (x.dm a z)⟩
theorem Keep.ext{σ δ H H1}(k: ∀a o,H a=some o->H1 a=some o):Keep σ δ H δ H1:=⟨fun a o e _=>k a o e,fun _ _ z=>z,fun a z=>by
 cases h:H a with
 |none=>exact absurd h z
 |some o=>rw[k a o h];simp⟩
theorem OwnI.set(h:OwnI σ (δ.set i (some (d,false))) j a):OwnI σ δ j a:=by
 obtain⟨e,h1,h2⟩:=h;rw[Ay] at h1;split at h1
 ·split at h1<;>simp at h1
 ·exact⟨e,h1,h2⟩
theorem Keep.set{σ δ H i d}:Keep σ δ H (δ.set i (some (d,false))) H:=⟨fun _ _ e _=>e,fun _ _ z=>z.set,fun _ z=>z⟩
def Post(K:gL)(T:AP')(σ:L2.St)(δ:Dn)(H:Hp)(r:D×Bool)(δ':Dn)(v:V)(H':Hp):Prop:=
 Keep σ δ H δ' H'/\
 match r with
 |(d,false)=>ER K H' T σ δ'/\Rep K H' (fun a=>OwnA σ δ' a\/T a) d v
 |(d,true)=> ∃p,v= .ref p/\H p=none/\ER K H' (fun a=>T a\/a=p) σ δ'/\OwnOk K H' (fun a=>OwnA σ δ' a\/T a\/a=p) d p
abbrev F:=Dn->Option ((D×Bool)×Dn)
def tF(K:gL)(f:F):TE:=fun σ H Q=> ∃δ T r δ',ER K H T σ δ/\f δ=some (r,δ')/\ ∀v H',Post K T σ δ H r δ' v H'->Q v H'
def PX(X:Cx)(e:gC)(f:F):Prop:=PE X e (tF X.K f)
noncomputable def Tmp(T:AP')(r:D×Bool)(v:V):AP':=fun a=>T a\/(r.2=true/\v= .ref a)
section
variable {K:gL}{T:AP'}{σ:L2.St}{δ δ1 δ2:Dn}{H H1 H2:Hp}{x y:D×Bool}{v u:V}
theorem Post.er(E:ER K H T σ δ)(P:Post K T σ δ H x δ1 v H1):ER K H1 (Tmp T x v) σ δ1:=by
 obtain⟨d,b⟩:=x
 cases b with
 |false=>
  refine P.2.1.mono (fun _ _ e _=>e) (fun b _ z=>z.elim id fun z=>absurd z.1 (by simp)) (fun a z=>?_);rcases z with z|z
  ·exact P.2.1.dom a z
  ·exact absurd z.1 (by simp)
 |true=>
  obtain⟨p,rfl,hp,E1,o1⟩:=P.2;refine E1.mono (fun _ _ e _=>e) (fun b _ z=>z.elim .inl fun z=> .inr (by have:=z.2;cases this;rfl)) (fun a z=>?_);rcases z with z|z
  ·exact E1.dom a (.inl z)
  ·have:=z.2;cases this;exact E1.dom _ (.inr rfl)
theorem Post.rep(E:ER K H T σ δ)(P:Post K T σ δ H x δ1 v H1):ER K H1 T σ δ1/\Rep K H1 (fun a=>OwnA σ δ1 a\/T a) x.1 v:=by
 obtain⟨d,b⟩:=x
 cases b with
 |false=>exact P.2
 |true=>
  obtain⟨p,rfl,hp,E1,o1⟩:=P.2;refine⟨E1.mono (fun _ _ e _=>e) (fun b _ z=> .inl z) (fun a z=>E1.dom a (.inl z)),o1.rep (fun z=>?_) fun b _ z=>z.elim .inl fun z=> .inr (.inl z)⟩;rcases z with z|z
  ·exact E1.nT p z (.inr rfl)
  ·exact E.dom p z hp
theorem Post.val(k:Keep σ δ H δ2 H2)(E:ER K H2 T σ δ2)(r:Rep K H2 (fun a=>OwnA σ δ2 a\/T a) d w):Post K T σ δ H (d,false) δ2 w H2:=⟨k,E,r⟩
end
theorem gK{α β:Type}{a a':α}{b b':β}(h:some (a,b)=some (a',b')):a=a'/\b=b':=by cases h;exact⟨rfl,rfl⟩
noncomputable def fC(d:D):F:=fun δ=>some ((d,false),δ)
noncomputable def ir(i:Nat):F:=fun δ=>match δ[i]? with
 |some (some (d,_))=>some ((d,false),δ.set i (some (d,false)))
 |_=>none
section
variable {X:Cx}{a b c:gC}{pos:Pos}{fa fb fc:F}
theorem PX.imp(h:PE X e t)(k: ∀σ H Q,tF X.K f σ H Q->t σ H Q):PX X e f:=fun pins s σ H Q I hw=>h pins s σ H Q I (k σ H Q hw)
theorem N8{i j}:PX X (.Constant (.int i) j pos) (fC (.int i)):=PX.imp OB fun σ H Q h=>by
 obtain⟨δ,T,r,δ',E,e,k⟩:=h;cases e;exact k _ _ (Post.val .refl E (by first|exact Rep.mkInt|exact Rep.mkBl|exact Rep.mkNon|exact Rep.mkStr))
theorem Qp{i j}:PX X (.Constant (.bool i) j pos) (fC (.bl i)):=PX.imp Qw fun σ H Q h=>by
 obtain⟨δ,T,r,δ',E,e,k⟩:=h;cases e;exact k _ _ (Post.val .refl E (by first|exact Rep.mkInt|exact Rep.mkBl|exact Rep.mkNon|exact Rep.mkStr))
theorem N3{j}:PX X (.Constant .none j pos) (fC .non):=PX.imp Oy fun σ H Q h=>by
 obtain⟨δ,T,r,δ',E,e,k⟩:=h;cases e;exact k _ _ (Post.val .refl E (by first|exact Rep.mkInt|exact Rep.mkBl|exact Rep.mkNon|exact Rep.mkStr))
theorem NX{i j}:PX X (.Constant (.str i) j pos) (fC (.str i)):=PX.imp Ov fun σ H Q h=>by
 obtain⟨δ,T,r,δ',E,e,k⟩:=h;cases e;exact k _ _ (Post.val .refl E (by first|exact Rep.mkInt|exact Rep.mkBl|exact Rep.mkNon|exact Rep.mkStr))
theorem NV{i:Nat}{x:Str}(hN:X.N[i]?=some x)(hv:Vis X.env.scope x)(hd:(x==("__debug__":Str))=false)(x8:(x==("__classdict__":Str))=false):PX X (.Name x pos) (ir i):=PX.imp (Ez hN hv hd x8) fun σ H Q h=>by
 obtain⟨δ,T,r,δ',E,e,k⟩:=h;unfold ir at e
 cases hi:δ[i]? with
 |none=>rw[hi] at e;cases e
 |some o=>
  cases o with
  |none=>rw[hi] at e;cases e
  |some p=>
   obtain⟨d,b⟩:=p;rw[hi] at e;cases e;obtain⟨E1,v,h1,h2⟩:=E.freeze hi;exact⟨v,h1,k v H (Post.val .set E1 h2)⟩
end
inductive Opd where
 |val(r:D×Bool)|slot(i:Nat)
noncomputable def res(δ:Dn):Opd->Option D
 | .val r=>some r.1
 | .slot i=>match δ[i]? with
  |some (some (d,_))=>some d
  |_=>none
def iV(K:gL)(H:Hp)(O:AP')(d:D)(v:V):Prop:=Rep K H O d v\/ ∃a,v= .ref a/\OwnOk K H O d a
abbrev FO:=Dn->Option (Opd×Dn)
def PostO(K:gL)(T:AP')(σ:L2.St)(δ:Dn)(H:Hp)(o:Opd)(δ':Dn)(v:V)(H':Hp):Prop:=
 match o with
 | .val r=>Post K T σ δ H r δ' v H'
 | .slot i=>Keep σ δ H δ' H'/\ER K H' T σ δ'/\σ[i]?=some (some v)
noncomputable def yE(T:AP')(o:Opd)(v:V):AP':=match o with
 | .val r=>Tmp T r v
 | .slot _=>T
def tO(K:gL)(f:FO):TE:=fun σ H Q=> ∃δ T o δ',ER K H T σ δ/\f δ=some (o,δ')/\ ∀v H',PostO K T σ δ H o δ' v H'->Q v H'
def PO(X:Cx)(e:gC)(f:FO):Prop:=PE X e (tO X.K f)
noncomputable def gk(f:F):FO:=fun δ=>(f δ).bind fun p=>some (.val p.1,p.2)
noncomputable def gh(i:Nat):FO:=fun δ=>match δ[i]? with
 |some (some _)=>some (.slot i,δ)
 |_=>none
theorem PE.imp'(h:PE X e t)(k: ∀σ H Q,t' σ H Q->t σ H Q):PE X e t':=fun pins s σ H Q I hw=>h pins s σ H Q I (k σ H Q hw)
section
variable {X:Cx}{pos:Pos}
theorem PX.po(h:PX X e f):PO X e (gk f):=PE.imp' h fun σ H Q hw=>by
 obtain⟨δ,T,o,δ',E,e,k⟩:=hw;unfold gk at e
 cases h1:f δ with
 |none=>rw[h1] at e;cases e
 |some p=>
  obtain⟨r,δ1⟩:=p;rw[h1] at e;obtain⟨rfl,rfl⟩:=gK e;exact⟨δ,T,r,δ1,E,h1,fun v H' P=>k v H' P⟩
theorem Oo{i:Nat}{x:Str}(hN:X.N[i]?=some x)(hv:Vis X.env.scope x)(hd:(x==("__debug__":Str))=false)(x8:(x==("__classdict__":Str))=false):PO X (.Name x pos) (gh i):=PE.imp' (Ez hN hv hd x8) fun σ H Q h=>by
 obtain⟨δ,T,o,δ',E,e,k⟩:=h;unfold gh at e
 cases hi:δ[i]? with
 |none=>rw[hi] at e;cases e
 |some q=>
  cases q with
  |none=>rw[hi] at e;cases e
  |some p=>
   obtain⟨d,b⟩:=p;rw[hi] at e;obtain⟨rfl,rfl⟩:=gK e;obtain⟨E1,v,h1,h2⟩:=E.freeze hi;exact⟨v,h1,k v H ⟨.refl,E,h1⟩⟩
end
structure Ops(K:gL)(T:AP')(σ:L2.St)(δ:Dn)(H:Hp)(os:List Opd)(vs:List V)(δ':Dn)(H':Hp)(T':AP'):Prop where
 len:os.length=vs.length
 keep:Keep σ δ H δ' H'
 er:ER K H' T' σ δ'
 tt: ∀a,T a->T' a
 val: ∀(j:Nat) (d:D) (v:V),os[j]?=some (.val (d,false))->vs[j]?=some v->Rep K H' (fun a=>OwnA σ δ' a\/T a) d v
 tmp: ∀(j:Nat) (d:D) (v:V),os[j]?=some (.val (d,true))->vs[j]?=some v-> ∃p,v= .ref p/\T' p/\H p=none/\OwnOk K H' (fun a=>OwnA σ δ' a\/T a) d p
 slt: ∀(j i:Nat) (v:V),os[j]?=some (.slot i)->vs[j]?=some v->σ[i]?=some (some v)
section
variable {K:gL}{T T':AP'}{σ:L2.St}{δ δ' δ2:Dn}{H H' H2:Hp}{os:List Opd}{vs:List V}{o:Opd}{v:V}
theorem Ops.nil(E:ER K H T σ δ):Ops K T σ δ H [] [] δ H T:=⟨rfl,.refl,E,fun _ z=>z,fun j d v h=>by simp at h,fun j d v h=>by simp at h,fun j i v h=>by simp at h⟩
theorem PostO.keep(P:PostO K T σ δ H o δ' v H'):Keep σ δ H δ' H':=by
 cases o with
 |val r=>exact P.1
 |slot i=>exact P.1
theorem PostO.er(E:ER K H T σ δ)(P:PostO K T σ δ H o δ' v H'):ER K H' (yE T o v) σ δ':=by
 cases o with
 |val r=>exact Post.er E P
 |slot i=>exact P.2.1
end
def Gen(K:gL)(H:Hp)(O:AP')(z:D×Bool)(Q:VK):Prop:=
 match z with
 |(d,false)=> ∀w H',(∀a o,H a=some o->H' a=some o)->Rep K H' O d w->Q w H'
 |(d,true)=> ∀p H',H p=none->(∀a o,H a=some o->H' a=some o)->OwnOk K H' (fun a=>O a\/a=p) d p->Q (.ref p) H'
section
variable {K:gL}{T T':AP'}{σ:L2.St}{δ δ1 δ' δ2:Dn}{H H1 H' H2:Hp}{os:List Opd}{vs:List V}{o:Opd}{v:V}{z:D×Bool}{Q:VK}
theorem Ops.cons(E:ER K H T σ δ)(P:PostO K T σ δ H o δ1 v H1)(B:Ops K (yE T o v) σ δ1 H1 os vs δ2 H2 T'):Ops K T σ δ H (o::os) (v::vs) δ2 H2 T':=by
 have E1:=P.er E;have p1:=B.keep.kp;have p2:=B.keep.ow
 have eQ: ∀a,T a->yE T o v a:=fun a z=>by
  cases o with
  |val r=>exact .inl z
  |slot i=>exact z
 refine⟨by simp[B.len],P.keep.trans B.keep,B.er,fun a z=>B.tt a (eQ a z),fun j d w h1 h2=>?_,fun j d w h1 h2=>?_,fun j i w h1 h2=>?_⟩
 ·cases j with
  |zero=>
   simp at h1 h2;subst h1;subst h2;have P':Post K T σ δ H (d,false) δ1 v H1:=P;exact Rep.mono (fun b ob e n=>p1 b ob e fun z=>n (.inl z)) (fun b _ z=>z.elim (fun z=>Or.inl (p2 b z)) Or.inr) (P'.rep E).2
  |succ j=>exact Rep.mono (fun _ _ e _=>e) (fun b _ z=>z.elim Or.inl fun z=>Or.inr (eQ b z)) (B.val j d w (by simpa using h1) (by simpa using h2))
 ·cases j with
  |zero=>
   simp at h1 h2;subst h1;subst h2;have P':Post K T σ δ H (d,true) δ1 v H1:=P;obtain⟨p,rfl,hp,E3,ok⟩:=P'.2;have tp:yE T (.val (d,true)) (V.ref p) p:= .inr ⟨rfl,rfl⟩;refine⟨p,rfl,B.tt p tp,hp,ok.mono (fun b ob e n=>p1 b ob e fun z=>n (.inl z)) (fun b _ z=>z.elim (fun z=>Or.inl (p2 b z)) fun z=>Or.inr (Or.inl z)) fun ob e=>p1 p ob e fun z=>E1.nT p z tp⟩
  |succ j=>
   obtain⟨p,rfl,tp,hp,ok⟩:=B.tmp j d w (by simpa using h1) (by simpa using h2);refine⟨p,rfl,tp,?_,ok.mono (fun _ _ e _=>e) (fun b _ z=>z.elim Or.inl fun z=>Or.inr (eQ b z)) fun _ e=>e⟩
   cases hH:H p with
   |none=>rfl
   |some ob=>exact absurd hp (P.keep.dm p (by rw[hH];simp))
 ·cases j with
  |zero=>
   simp at h1 h2;subst h1;subst h2;exact P.2.2
  |succ j=>exact B.slt j i w (by simpa using h1) (by simpa using h2)
theorem Ops.view(B:Ops K T σ δ H os vs δ' H' T'){j:Nat}{d:D}(h1:os[j]?=some o)(h2:vs[j]?=some v)(hr:res δ' o=some d):iV K H' (fun a=>OwnA σ δ' a\/T a) d v:=by
 cases o with
 |val r=>
  obtain⟨e,b⟩:=r;have hd:e=d:=iE hr;subst hd
  cases b with
  |false=>exact .inl (B.val j e v h1 h2)
  |true=>
   obtain⟨p,rfl,_,_,ok⟩:=B.tmp j e v h1 h2;exact .inr ⟨p,rfl,ok⟩
 |slot i=>
  have hs:=B.slt j i v h1 h2;unfold res at hr;dsimp only at hr
  cases hi:δ'[i]? with
  |none=>rw[hi] at hr;cases hr
  |some q=>
   cases q with
   |none=>rw[hi] at hr;cases hr
   |some p=>
    obtain⟨e,b⟩:=p;rw[hi] at hr;have hd:e=d:=iE hr;subst hd
    cases b with
    |false=>
     obtain⟨w,h3,h4⟩:=B.er.val i e hi;rw[hs] at h3;cases h3;exact .inl (Rep.mono (fun _ _ e _=>e) (fun b _ z=>z.elim Or.inl fun z=>Or.inr (B.tt b z)) h4)
    |true=>
     obtain⟨a,h3,h4⟩:=B.er.own i e hi;rw[hs] at h3;cases h3;exact .inr ⟨a,rfl,h4.mono (fun _ _ e _=>e) (fun b _ z=>z.elim Or.inl fun z=>Or.inr (B.tt b z)) fun _ e=>e⟩
theorem Ops.done(B:Ops K T σ δ H os vs δ' H' T')(k: ∀v H2,Post K T σ δ H z δ' v H2->Q v H2):Gen K H' (fun a=>OwnA σ δ' a\/T a) z Q:=by
 obtain⟨d,b⟩:=z
 have dom: ∀{H2:Hp},(∀a o,H' a=some o->H2 a=some o)-> ∀a,T a->H2 a≠none:=fun {H2} hx a z=>by
  have:=B.er.dom a (B.tt a z)
  cases h:H' a with
  |none=>exact absurd h this
  |some o=>rw[hx a o h];simp
 cases b with
 |false=>
  intro w H2 hx r;exact k w H2 ⟨B.keep.trans (.ext hx),B.er.mono (fun b o e _=>hx b o e) (fun b _ z=>B.tt b z) (dom hx),r⟩
 |true=>
  intro p H2 hp hx ok
  have hp0:H p=none:=by
   cases hH:H p with
   |none=>rfl
   |some ob=>exact absurd hp (B.keep.dm p (by rw[hH];simp))
  refine k (.ref p) H2 ⟨B.keep.trans (.ext hx),p,rfl,hp0,B.er.mono (fun b o e _=>hx b o e) (fun b hb z=>z.elim (B.tt b) fun z=>absurd (z▸hp) hb) (fun a z=>?_),ok.mono (fun _ _ e _=>e) (fun b _ z=>?_) fun _ e=>e⟩
  ·rcases z with z|z
   ·exact dom hx a z
   ·subst z;exact ok.some
  ·rcases z with z|z|z
   ·exact Or.inl (Or.inl z)
   ·exact Or.inl (Or.inr z)
   ·exact Or.inr z
theorem Gen.int(g:Gen K H O (.int i,false) Q):Q (.int i) H:=g _ H (fun _ _ e=>e) Rep.mkInt
theorem Gen.bl(g:Gen K H O (.bl i,false) Q):Q (.bl i) H:=g _ H (fun _ _ e=>e) Rep.mkBl
theorem jY{H:Hp}{p:gn}{o:HO}(hp:H p=none): ∀a u,H a=some u->upd H p o a=some u:=fun a u e=>by rw[iq (by intro z;subst z;rw[e] at hp;cases hp)];exact e
theorem Gen.lst{O:AP'}{l:List D}{xs:List V}{p:gn}(g:Gen K H O (.lst l,true) Q)(hp:H p=none)(r:RepL K H O l xs):Q (.ref p) (upd H p (.lst xs)):=
 g p _ hp (jY hp) ⟨xs,ik,RepL.mono (fun b o e _=>jY hp b o e) (fun b hb z=>z.elim id fun z=>absurd (z▸hp) hb) r⟩
theorem Gen.tup(g:Gen K H O (.tup l,false) Q)(hp:H p=none)(np: ¬O p)(r:RepL K H O l xs):Q (.ref p) (upd H p (.tup xs)):=
 g _ _ (jY hp) (Rep.mkTup ⟨ik,np⟩ (RepL.mono (fun b o e _=>jY hp b o e) (fun b hb z=>z) r))
theorem Ops.np(B:Ops K T σ δ H os vs δ' H' T')(hp:H' p=none): ¬(OwnA σ δ' p\/T p):=fun z=>z.elim (fun z=>B.er.ownDom z hp) fun z=>B.er.dom p (B.tt p z) hp
end
noncomputable def kd(g:D->Option (D×Bool))(fa:FO):F:=fun δ=>(fa δ).bind fun p=>(res p.2 p.1).bind fun x=>(g x).bind fun z=>some (z,p.2)
noncomputable def gz(g:D->D->Option (D×Bool))(fa fb:FO):F:=fun δ=>(fa δ).bind fun p=>(fb p.2).bind fun q=>(res q.2 p.1).bind fun x=>(res q.2 q.1).bind fun y=>(g x y).bind fun z=>some (z,q.2)
noncomputable def je:List FO->Dn->Option (List Opd×Dn)
 |[],δ=>some ([],δ)
 |f::fs,δ=>(f δ).bind fun p=>(je fs p.2).bind fun q=>some (p.1::q.1,q.2)
noncomputable def sD(δ:Dn):List Opd->Option (List D)
 |[]=>some []
 |o::os=>(res δ o).bind fun d=>(sD δ os).bind fun l=>some (d::l)
noncomputable def gG(g:List D->Option (D×Bool))(fs:List FO):F:=fun δ=>(je fs δ).bind fun p=>(sD p.2 p.1).bind fun ds=>(g ds).bind fun z=>some (z,p.2)
def tA(K:gL)(fs:List FO):TA:=fun σ H Q=> ∃δ T os δ',ER K H T σ δ/\je fs δ=some (os,δ')/\ ∀vs H' T',Ops K T σ δ H os vs δ' H' T'->Q vs H'
section
variable {X:Cx}{e a b:gC}{es:jl}{fa fb:FO}{fs:List FO}{pos:Pos}
theorem gg{α β:Type}{x:Option α}{f:α->Option β}{b:β}(h:x.bind f=some b): ∃a,x=some a/\f a=some b:=by
 cases x with
 |none=>cases h
 |some a=>exact⟨a,rfl,h⟩
def Te(K:gL)(r:V->Hp->VK->Prop)(g:D->Option (D×Bool)):Prop:=
 ∀x z v H (O:AP') (Q:VK),(∀p,H p=none-> ¬O p)->iV K H O x v->g x=some z->Gen K H O z Q->r v H Q
def Pu(K:gL)(r:R2)(g:D->D->Option (D×Bool)):Prop:=
 ∀x y z v u H (O:AP') (Q:VK),(∀p,H p=none-> ¬O p)->iV K H O x v->iV K H O y u->g x y=some z->Gen K H O z Q->r v u H Q
def Tb(K:gL)(r:List V->Hp->VK->Prop)(g:List D->Option (D×Bool)):Prop:=
 ∀ds z vs H (O:AP') (Q:VK),(∀p,H p=none-> ¬O p)->ds.length=vs.length->(∀(j:Nat) d v,ds[j]?=some d->vs[j]?=some v->iV K H O d v)->g ds=some z->Gen K H O z Q->r vs H Q
theorem N1{r:V->Hp->VK->Prop}{g:D->Option (D×Bool)}(h:PE X e (tUn r (tO X.K fa)))(hr:Te X.K r g):PX X e (kd g fa):=PX.imp h fun σ H Q hw=>by
 obtain⟨δ,T,rr,δ',E,e,k⟩:=hw;obtain⟨⟨o,δ1⟩,h1,e⟩:=gg e;obtain⟨x,h2,e⟩:=gg e;obtain⟨z,h3,e⟩:=gg e;obtain⟨rfl,rfl⟩:=gK e;refine⟨δ,T,o,δ1,E,h1,fun v H1 P1=>?_⟩;have B:=Ops.cons E P1 (Ops.nil (P1.er E));exact hr x z v H1 _ Q (fun p hp=>B.np hp) (B.view (j:=0) rfl rfl h2) h3 (B.done k)
theorem N0{r:R2}{g:D->D->Option (D×Bool)}(h:PE X e (tOp r (tO X.K fa) (tO X.K fb)))(hr:Pu X.K r g):PX X e (gz g fa fb):=PX.imp h fun σ H Q hw=>by
 obtain⟨δ,T,rr,δ',E,e,k⟩:=hw;obtain⟨⟨o,δ1⟩,h1,e⟩:=gg e;obtain⟨⟨o2,δ2⟩,h2,e⟩:=gg e;obtain⟨x,h3,e⟩:=gg e;obtain⟨y,h4,e⟩:=gg e;obtain⟨z,h5,e⟩:=gg e;obtain⟨rfl,rfl⟩:=gK e;refine⟨δ,T,o,δ1,E,h1,fun v H1 P1=>⟨δ1,yE T o v,o2,δ2,P1.er E,h2,fun u H2 P2=>?_⟩⟩;have B:=Ops.cons E P1 (Ops.cons (P1.er E) P2 (Ops.nil (P2.er (P1.er E))));exact hr x y z v u H2 _ Q (fun p hp=>B.np hp) (B.view (j:=0) rfl rfl h3) (B.view (j:=1) rfl rfl h4) h5 (B.done k)
theorem A0:PA X [] (tA X.K []):=fun pos pins s σ H Q I h=>by
 obtain⟨δ,T,os,δ',E,e,k⟩:=h;obtain⟨rfl,rfl⟩:=gK e;exact oJ pos pins s σ H Q I (k [] H T (Ops.nil E))
theorem ua(ha:PO X e fa)(hr:PA X es (tA X.K fs))(hs:starEach (e::es) X.env=(false,eval e X.env)::starEach es X.env):PA X (e::es) (tA X.K (fa::fs)):=fun pos pins s σ H Q I h=>by
 obtain⟨δ,T,os,δ',E,e,k⟩:=h;unfold je at e;obtain⟨⟨o,δ1⟩,h1,e⟩:=gg e;obtain⟨⟨os2,δ2⟩,h2,e⟩:=gg e;obtain⟨rfl,rfl⟩:=gK e;exact kI ha hr hs pos pins s σ H Q I ⟨δ,T,o,δ1,E,h1,fun v H1 P1=>⟨δ1,yE T o v,os2,δ2,P1.er E,h2,fun vs H2 T2 B=>k _ H2 T2 (Ops.cons E P1 B)⟩⟩
theorem lU{δ:Dn}: ∀{os:List Opd} {ds:List D},sD δ os=some ds->ds.length=os.length/\ ∀(j:Nat) d,ds[j]?=some d-> ∃o,os[j]?=some o/\res δ o=some d
 |[],ds,h=>by cases h;exact⟨rfl,fun j d h=>by simp at h⟩
 |o::os,ds,h=>by
  unfold sD at h;obtain⟨d,h1,h⟩:=gg h;obtain⟨l,h2,h⟩:=gg h;cases h;obtain⟨h3,h4⟩:=lU h2;refine⟨by simp[h3],fun j e he=>?_⟩
  cases j with
  |zero=>simp at he;subst he;exact⟨o,rfl,h1⟩
  |succ j=>
   obtain⟨o',q1,q2⟩:=h4 j e (by simpa using he);exact⟨o',by simpa using q1,q2⟩
theorem LZ{r:List V->Hp->VK->Prop}{g:List D->Option (D×Bool)}(h:PE X e (tCB r (tA X.K fs)))(hr:Tb X.K r g):PX X e (gG g fs):=PX.imp h fun σ H Q hw=>by
 obtain⟨δ,T,rr,δ',E,e,k⟩:=hw;obtain⟨⟨os,δ1⟩,h1,e⟩:=gg e;obtain⟨ds,h2,e⟩:=gg e;obtain⟨z,h3,e⟩:=gg e;obtain⟨rfl,rfl⟩:=gK e;obtain⟨h4,h5⟩:=lU h2;refine⟨δ,T,os,δ1,E,h1,fun vs H1 T1 B=>?_⟩;refine hr ds z vs H1 _ Q (fun p hp=>B.np hp) (h4.trans B.len) (fun j d v hd hv=>?_) h3 (B.done k);obtain⟨o,ho,cx⟩:=h5 j d hd;exact B.view ho hv cx
end
open PySem.SeqAt
mutual
/-- ==of data -/
noncomputable def D.eqb:D->D->Bool
 | .non,.non=>true
 | .bl a,.bl b=>a==b
 | .bl a,.int b=>(if a then 1 else 0)==b
 | .int a,.bl b=>a==(if b then 1 else 0)
 | .int a,.int b=>a==b
 | .str a,.str b=>a==b
 | .tup l,.tup m=>D.eqbL l m
 | .lst l,.lst m=>D.eqbL l m
 | .oth _ _ _,.oth _ _ _=>true
 |_,_=>false
noncomputable def D.eqbL:List D->List D->Bool
 |[],[]=>true
 |a::l,b::m=>D.eqb a b&&D.eqbL l m
 |_,_=>false
end
mutual
noncomputable def D.dep:D->Nat
 | .tup l=>D.depL l+1
 | .lst l=>D.depL l+1
 | .oth _ _ _=>20000
 |_=>0
noncomputable def D.depL:List D->Nat
 |[]=>0
 |d::l=>max (D.dep d) (D.depL l)
end
mutual
theorem D.eqb_refl: ∀d:D,D.eqb d d=true
 | .non=>rfl
 | .bl a=>by simp[D.eqb]
 | .int a=>by simp[D.eqb]
 | .str a=>by simp[D.eqb]
 | .tup l=>by rw[D.eqb];exact D.eqbL_refl l
 | .lst l=>by rw[D.eqb];exact D.eqbL_refl l
 | .oth _ _ _=>by rw[D.eqb]
theorem D.eqbL_refl: ∀l:List D,D.eqbL l l=true
 |[]=>rfl
 |d::l=>by rw[D.eqbL,D.eqb_refl d,D.eqbL_refl l];rfl
end
theorem D.dep_mem{d:D}: ∀{l:List D} {j:Nat},l[j]?=some d->d.dep<=D.depL l
 |[],j,h=>by simp at h
 |e::l,0,h=>by simp at h;subst h;rw[D.depL];exact Nat.le_max_left _ _
 |e::l,j+1,h=>by rw[D.depL];exact kM (D.dep_mem (by simpa using h)) (Nat.le_max_right _ _)
noncomputable def qq(l m:List D)(j:Nat):Bool:=match l[j]?,m[j]? with
 |some d,some e=>D.eqb d e
 |_,_=>true
theorem lD: ∀l m:List D,((List.range (min l.length m.length)).all (qq l m)&&l.length==m.length)=D.eqbL l m
 |[],[]=>rfl
 |[],e::m=>by simp[D.eqbL]
 |d::l,[]=>by simp[D.eqbL]
 |d::l,e::m=>by
  rw[D.eqbL,<-lD l m];simp only[jX,Nat.succ_min_succ,List.range_succ_eq_map,List.all_cons,List.all_map,nR];have h0:qq (d::l) (e::m) 0=D.eqb d e:=rfl;have h1:(fun x=>qq (d::l) (e::m) (Nat.succ x))=qq l m:=by funext x;simp[qq]
  rw[h0];simp only[h1,Bool.and_assoc]
  congr 2
  simp
section
variable {X:Cx}{pins:hJ}{σ:L2.St}{H:Hp}{s:gr}
theorem ke(h:iV X.K H O (.tup l) v): ∃a xs,v= .ref a/\SqT X.K H a xs/\RepL X.K H O l xs:=by
 rcases h with h|⟨a,rfl,h⟩
 ·obtain⟨a,xs,e,q,r⟩:=h.tup;exact⟨a,xs,e,q.sq,r⟩
 ·exact h.elim
theorem ju(h:iV X.K H O (.lst l) v): ∃a xs,v= .ref a/\SqL X.K H a xs/\RepL X.K H O l xs:=by
 rcases h with h|⟨a,rfl,h⟩
 ·obtain⟨a,xs,e,q,r⟩:=h.lst;exact⟨a,xs,e,q.sq,r⟩
 ·obtain⟨xs,e,r⟩:=h;exact⟨a,xs,rfl,.inl (.inl e),r⟩
theorem RepL.views{O:AP'}{l:List D}{xs:List V}(r:RepL X.K H O l xs){j:Nat}{d:D}{v:V}(h1:l[j]?=some d)(h2:xs[j]?=some v):Rep X.K H O d v:=by
 obtain⟨w,h3,h4⟩:=r.get h1;rw[h2] at h3;cases h3;exact h4
theorem JX(I:Inv X pins σ H s)(h:OthB (H a) k ks vs us): ∃o,s.heap.get? a=some o/\(o.cls= .type "dict"\/o.cls= .type "set"):=by
 cases k with
 |dct=>
  rcases h with⟨kvs,e,_⟩|⟨kvs,e,_⟩
  ·obtain⟨_,_,vs,_,o,es,ep,h1,h2,_⟩:=(show ObjOk X.prog X.w H s.heap a (.dK kvs) from I.hok a _ e)
   exact⟨o,h1,.inl h2.1⟩
  ·obtain⟨_,_,xs,_,o,es,ep,h1,h2,_⟩:=(show ObjOk X.prog X.w H s.heap a (.dT kvs) from I.hok a _ e)
   exact⟨o,h1,.inl h2.1⟩
 |set=>
  obtain⟨_,zs,e,_⟩:=h;obtain⟨es,n,t,h1,_⟩:=(show ObjOk X.prog X.w H s.heap a (.stt zs) from I.hok a _ e)
  exact⟨_,h1,.inr rfl⟩
 |_=>exact h.elim
theorem BW(I:Inv X pins σ H s)(h1:SqT X.K H a xs)(h2:SqL X.K H a ys):False:=by
 obtain⟨b6,_,⟨o,e,c,_⟩,_⟩:=I.tuple h1;obtain⟨e9,_,⟨o2,n2,e2,c2,_⟩,_⟩:=I.list h2;rw[e] at e2;cases e2;rw[c] at c2;exact absurd c2 (by simp)
theorem Mq(I:Inv X pins σ H s)(h1:SqT X.K H a xs)(h2:OthB (H a) k ks vs us):False:=by
 obtain⟨b6,_,⟨o,e,c,_⟩,_⟩:=I.tuple h1;obtain⟨o2,e2,c2⟩:=JX I h2;rw[e] at e2;cases e2;rw[c] at c2;rcases c2 with c2|c2<;>exact absurd c2 (by simp)
theorem Mr(I:Inv X pins σ H s)(h1:SqL X.K H a xs)(h2:OthB (H a) k ks vs us):False:=by
 obtain⟨b6,_,⟨o,n,e,c,_⟩,_⟩:=I.list h1;obtain⟨o2,e2,c2⟩:=JX I h2;rw[e] at e2;cases e2;rw[c] at c2;rcases c2 with c2|c2<;>exact absurd c2 (by simp)
mutual
theorem Rep.inj(I:Inv X pins σ H s): ∀{d e:D} {v:V},d.dep<20000->Rep X.K H O d v->Rep X.K H O' e v->d=e
 | .non,e,v,hz,h,h'=>by
  have:=h.non;subst this
  cases e with
  |non=>rfl
  |bl b=>have:=h'.bl;cases this
  |int b=>have:=h'.int;cases this
  |str b=>have:=h'.str;cases this
  |tup m=>obtain⟨a,xs,z,_⟩:=h'.tup;cases z
  |lst m=>obtain⟨a,xs,z,_⟩:=h'.lst;cases z
  |oth m m1 m2=>obtain⟨a,xs,z,_⟩:=h'.oth;cases z
 | .bl b,e,v,hz,h,h'=>by
  have:=h.bl;subst this
  cases e with
  |non=>have:=h'.non;cases this
  |bl b=>have:=h'.bl;cases this;rfl
  |int b=>have:=h'.int;cases this
  |str b=>have:=h'.str;cases this
  |tup m=>obtain⟨a,xs,z,_⟩:=h'.tup;cases z
  |lst m=>obtain⟨a,xs,z,_⟩:=h'.lst;cases z
  |oth m m1 m2=>obtain⟨a,xs,z,_⟩:=h'.oth;cases z
 | .int b,e,v,hz,h,h'=>by
  have:=h.int;subst this
  cases e with
  |non=>have:=h'.non;cases this
  |bl b=>have:=h'.bl;cases this
  |int b=>have:=h'.int;cases this;rfl
  |str b=>have:=h'.str;cases this
  |tup m=>obtain⟨a,xs,z,_⟩:=h'.tup;cases z
  |lst m=>obtain⟨a,xs,z,_⟩:=h'.lst;cases z
  |oth m m1 m2=>obtain⟨a,xs,z,_⟩:=h'.oth;cases z
 | .str b,e,v,hz,h,h'=>by
  have:=h.str;subst this
  cases e with
  |non=>have:=h'.non;cases this
  |bl b=>have:=h'.bl;cases this
  |int b=>have:=h'.int;cases this
  |str b=>have:=h'.str;cases this;rfl
  |tup m=>obtain⟨a,xs,z,_⟩:=h'.tup;cases z
  |lst m=>obtain⟨a,xs,z,_⟩:=h'.lst;cases z
  |oth m m1 m2=>obtain⟨a,xs,z,_⟩:=h'.oth;cases z
 | .tup l,e,v,hz,h,h'=>by
  rw[D.dep] at hz;obtain⟨a,xs,rfl,q,r⟩:=h.tup
  cases e with
  |non=>have:=h'.non;cases this
  |bl b=>have:=h'.bl;cases this
  |int b=>have:=h'.int;cases this
  |str b=>have:=h'.str;cases this
  |tup m=>
   obtain⟨a2,eO,z,q2,r2⟩:=h'.tup;cases z;have:=I.tuple_inj q.sq q2.sq;subst this;rw[RepL.inj I (by omega) r r2]
  |lst m=>
   obtain⟨a2,eO,z,q2,r2⟩:=h'.lst;cases z;exact(BW I q.sq q2.sq).elim
  |oth m m1 m2=>
   obtain⟨a2,us2,z,q2,r2⟩:=h'.oth;cases z;exact(Mq I q.sq q2.2).elim
 | .lst l,e,v,hz,h,h'=>by
  rw[D.dep] at hz;obtain⟨a,xs,rfl,q,r⟩:=h.lst
  cases e with
  |non=>have:=h'.non;cases this
  |bl b=>have:=h'.bl;cases this
  |int b=>have:=h'.int;cases this
  |str b=>have:=h'.str;cases this
  |tup m=>
   obtain⟨a2,eO,z,q2,r2⟩:=h'.tup;cases z;exact(BW I q2.sq q.sq).elim
  |lst m=>
   obtain⟨a2,eO,z,q2,r2⟩:=h'.lst;cases z;have:=I.list_inj q.sq q2.sq;subst this;rw[RepL.inj I (by omega) r r2]
  |oth m m1 m2=>
   obtain⟨a2,us2,z,q2,r2⟩:=h'.oth;cases z;exact(Mr I q.sq q2.2).elim
 | .oth _ _ _,e,v,hz,h,h'=>by rw[D.dep] at hz;omega
theorem RepL.inj(I:Inv X pins σ H s){O O':AP'}: ∀{l m:List D} {vs:List V},D.depL l<20000->RepL X.K H O l vs->RepL X.K H O' m vs->l=m
 |[],m,vs,_,h,h'=>by
  rw[RepL] at h;subst h
  cases m with
  |nil=>rfl
  |cons e m=>rw[RepL] at h';obtain⟨_,_,z,_⟩:=h';cases z
 |d::l,m,vs,hz,h,h'=>by
  rw[D.depL] at hz;rw[RepL] at h;obtain⟨v,r,rfl,h1,h2⟩:=h
  cases m with
  |nil=>rw[RepL] at h';cases h'
  |cons e m=>
   rw[RepL] at h';obtain⟨v',r',z,h3,h4⟩:=h';cases z;rw[Rep.inj I (by omega) h1 h3,RepL.inj I (by omega) h2 h4]
end
theorem ur(h:iV X.K H O d v)(hd:d.dep=0)(nt: ∀l,d≠ .tup l)(nl: ∀l,d≠ .lst l):Rep X.K H O d v:=by
 rcases h with h|⟨a,rfl,h⟩
 ·exact h
 ·cases d with
  |lst l=>exact absurd rfl (nl l)
  |oth _ _ _=>rw[D.dep] at hd;omega
  |_=>exact h.elim
inductive Sh(X:Cx)(H:Hp)(s:gr)(O:AP'):D->V->Value->Prop
 |non:Sh X H s O .non .non .none
 |bl (b:Bool):Sh X H s O (.bl b) (.bl b) (.bool b)
 |int (i:Int) (t:Tok):Sh X H s O (.int i) (.int i) (.int i t)
 |str (x:Str) (t:Tok):Sh X H s O (.str x) (.str x) (.str x t)
 |tup {l:List D} {p:gn} {xs:List V} {b6:iG} (q:SqT X.K H p xs) (r:RepL X.K H O l xs) (v:Vals xs b6) (pl:IsTup s.heap p b6.toArray):Sh X H s O (.tup l) (.ref p) (.ref p)
 |lst {l:List D} {p:gn} {xs:List V} {b6:iG} (q:SqL X.K H p xs) (r:RepL X.K H O l xs) (v:Vals xs b6) (pl:s.heap.IsList p b6.toArray):Sh X H s O (.lst l) (.ref p) (.ref p)
theorem qy(I:Inv X pins σ H s)(h:iV X.K H O d v)(ra:RelV v a)(hn:d.dep<20000):Sh X H s O d v a:=by
 cases d with
 |oth m m1 m2=>rw[D.dep] at hn;omega
 |tup l=>obtain⟨p,xs,rfl,q,r⟩:=ke h;cases ra;obtain⟨b6,v1,pl,_⟩:=I.tuple q;exact .tup q r v1 pl
 |lst l=>obtain⟨p,xs,rfl,q,r⟩:=ju h;cases ra;obtain⟨b6,v1,pl,_⟩:=I.list q;exact .lst q r v1 pl.isList
 |non=>have:=(ur h rfl (by simp) (by simp)).non;subst this;cases ra;exact .non
 |bl c=>have:=(ur h rfl (by simp) (by simp)).bl;subst this;cases ra;exact .bl c
 |int c=>have:=(ur h rfl (by simp) (by simp)).int;subst this;obtain⟨t,rfl⟩:=ra;exact .int c t
 |str c=>have:=(ur h rfl (by simp) (by simp)).str;subst this;obtain⟨t,rfl⟩:=ra;exact .str c t
theorem zI(I:Inv X pins σ H s)(n:Nat)
  (ih: ∀(d e:D) (v u:V) (a b:gB) (O O':AP') (A:gM),iV X.K H O d v->iV X.K H O' e u->RelV v a->RelV u b->d.dep+1<=n->e.dep<20000->A.units+n<cLine+1->EqAt A s a b (D.eqb d e)):
  ∀(d e:D) (v u:V) (a b:gB) (O O':AP') (A:gM),iV X.K H O d v->iV X.K H O' e u->RelV v a->RelV u b->d.dep<=n->e.dep<20000->A.units+n<cLine->EqAt A s a b (D.eqb d e):=by
 intro d e v u a b O O' A hd he ra rb hn t7 hA;have hu:A.units<cLine:=by omega
 have u3:cLine=9900:=rfl
 have items: ∀(l m:List D) (xs ys:List V) (b6 e9:iG) (O1 O2:AP'),D.depL l+1<=n->D.depL m<20000->RepL X.K H O1 l xs->RepL X.K H O2 m ys->Vals xs b6->Vals ys e9->
   ∀j (h1:j<b6.toArray.size) (h2:j<e9.toArray.size),EqAt A.in1 s b6.toArray[j] e9.toArray[j] (qq l m j):=fun l m xs ys b6 e9 O1 O2 hl hm r1 r2 v1 v2 j h1 h2=>by
  have e1:=v1.length;have e2:=v2.length;have e3:=r1.length;have e4:=r2.length;simp only[hZ] at h1 h2;have hx:xs[j]?=some xs[j]:=iO (by omega);have hy:ys[j]?=some ys[j]:=iO (by omega);have aj:l[j]?=some l[j]:=iO (by omega);have aG:m[j]?=some m[j]:=iO (by omega);obtain⟨w,w1,w2⟩:=v1.get hx;obtain⟨w',w3,w4⟩:=v2.get hy
  have i1:b6.toArray[j]=w:=by
   have:b6[j]?=some b6[j]:=iO (by omega);rw[this] at w1;simpa using w1
  have i2:e9.toArray[j]=w':=by
   have:e9[j]?=some e9[j]:=iO (by omega);rw[this] at w3;simpa using w3
  rw[i1,i2];have hj:qq l m j=D.eqb l[j] m[j]:=by unfold qq;rw[aj,aG]
  rw[hj];have ay:=D.dep_mem aj;have hdep2:=D.dep_mem aG;exact ih _ _ _ _ _ _ O1 O2 A.in1 (.inl (r1.views aj hx)) (.inl (r2.views aG hy)) w2 w4 (by omega) (by omega) (by show A.units+1+n<cLine+1;omega)
 have h1:=qy I hd ra (by omega);have h2:=qy I he rb t7
 cases h1 with
 |non=>
  cases h2 with
  |non=>exact kz ra rb rfl rfl
  |bl c2=>exact kz ra rb rfl rfl
  |int c2 t2=>exact kz ra rb rfl rfl
  |str c2 t2=>exact kz ra rb rfl rfl
  |tup q2 r2 v2 i3=>exact EqAt.none_tuple i3 hu
  |lst q2 r2 v2 i3=>exact EqAt.none_list i3 hu
 |bl c1=>
  cases h2 with
  |non=>exact kz ra rb rfl rfl
  |bl c2=>exact kz ra rb rfl rfl
  |int c2 t2=>exact kz ra rb rfl rfl
  |str c2 t2=>exact kz ra rb rfl rfl
  |tup q2 r2 v2 i3=>exact EqAt.bool_tuple c1 i3 hu
  |lst q2 r2 v2 i3=>exact EqAt.bool_list c1 i3 hu
 |int c1 t1=>
  cases h2 with
  |non=>exact kz ra rb rfl rfl
  |bl c2=>exact kz ra rb rfl rfl
  |int c2 t2=>exact kz ra rb rfl rfl
  |str c2 t2=>exact kz ra rb rfl rfl
  |tup q2 r2 v2 i3=>exact EqAt.int_tuple c1 t1 i3 hu
  |lst q2 r2 v2 i3=>exact EqAt.int_list c1 t1 i3 hu
 |str c1 t1=>
  cases h2 with
  |non=>exact kz ra rb rfl rfl
  |bl c2=>exact kz ra rb rfl rfl
  |int c2 t2=>exact kz ra rb rfl rfl
  |str c2 t2=>exact kz ra rb rfl rfl
  |tup q2 r2 v2 i3=>exact EqAt.str_tuple c1 t1 i3 hu
  |lst q2 r2 v2 i3=>exact EqAt.str_list c1 t1 i3 hu
 | @tup l p xs b6 q r v1 pl=>
  cases h2 with
  |non=>exact EqAt.tuple_none pl hu
  |bl c2=>exact EqAt.tuple_bool c2 pl hu
  |int c2 t2=>exact EqAt.tuple_int c2 t2 pl hu
  |str c2 t2=>exact EqAt.tuple_str c2 t2 pl hu
  | @tup m p2 ys e9 q2 r2 v2 i3=>
   by_cases hp:p=p2
   ·subst hp;have:=I.tuple_inj q q2;subst this;rw[RepL.inj I (by rw[D.dep] at hn;omega) r r2,D.eqb_refl];exact EqAt.same _
   ·refine .of_refs hp ?_;have hl:D.depL l+1<=n:=by rw[D.dep] at hn;exact hn
    have hm:D.depL m<20000:=by rw[D.dep] at t7;omega
    have z:=RcAt.tuples pl i3 hu (items l m xs ys b6 e9 _ _ hl hm r r2 v1 v2);have e1:=v1.length;have e2:=v2.length;have e3:=r.length;have e4:=r2.length;simp only[hZ] at z;rw[show b6.length=l.length by omega,show e9.length=m.length by omega,lD] at z;rw[D.eqb];exact z
  |lst q2 r2 v2 i3=>exact EqAt.tuple_list pl i3 hu
 | @lst l p xs b6 q r v1 pl=>
  cases h2 with
  |non=>exact EqAt.list_none pl hu
  |bl c2=>exact EqAt.list_bool c2 pl hu
  |int c2 t2=>exact EqAt.list_int c2 t2 pl hu
  |str c2 t2=>exact EqAt.list_str c2 t2 pl hu
  |tup q2 r2 v2 i3=>exact EqAt.list_tuple pl i3 hu
  | @lst m p2 ys e9 q2 r2 v2 i3=>
   by_cases hp:p=p2
   ·subst hp;have:=I.list_inj q q2;subst this;rw[RepL.inj I (by rw[D.dep] at hn;omega) r r2,D.eqb_refl];exact EqAt.same _
   ·refine .of_refs hp ?_;have hl:D.depL l+1<=n:=by rw[D.dep] at hn;exact hn
    have hm:D.depL m<20000:=by rw[D.dep] at t7;omega
    have e1:=v1.length;have e2:=v2.length;have e3:=r.length;have e4:=r2.length;have al:=lD l m;by_cases hlen:l.length=m.length
    ·have z:=RcAt.lists pl i3 (by simp only[hZ];omega) hu (items l m xs ys b6 e9 _ _ hl hm r r2 v1 v2);simp only[hZ] at z;rw[show b6.length=min l.length m.length by omega] at z;rw[D.eqb,<-al,hlen];rw[hlen] at z;simpa using z
    ·have z:=RcAt.lists_lengths pl i3 (by simp only[hZ,bne_iff_ne,ne_eq];omega) hu;rw[D.eqb,<-al];rw[show(l.length==m.length)=false by simpa using hlen];simpa using z
theorem yi(I:Inv X pins σ H s): ∀(n:Nat) (d e:D) (v u:V) (a b:gB) (O O':AP') (A:gM),iV X.K H O d v->iV X.K H O' e u->RelV v a->RelV u b->d.dep<=n->e.dep<20000->A.units+n<cLine->EqAt A s a b (D.eqb d e):=by
 intro n
 induction n with
 |zero=>
  intro d e v u a b O O' A hd he ra rb hn t7 hA;exact zI I 0 (fun d e v u a b O O' A hd he ra rb hn t7 hA=>absurd hn (by omega)) d e v u a b O O' A hd he ra rb hn t7 hA
 |succ n ih=>
  intro d e v u a b O O' A hd he ra rb hn t7 hA;exact zI I (n+1) (fun d e v u a b O O' A hd he ra rb hn t7 hA=>ih d e v u a b O O' A hd he ra rb (by omega) t7 (by omega)) d e v u a b O O' A hd he ra rb hn t7 hA
end
section
variable {X:Cx}{pins:hJ}{σ:L2.St}{H:Hp}{s:gr}
theorem C0(I:Inv X pins σ H s){A:gM}{n:Nat}(hA:A.units+n<cLine): ∀(l m:List D) (xs ys:List V) (b6 e9:iG) (O1 O2:AP'),D.depL l+1<=n->D.depL m<20000->RepL X.K H O1 l xs->RepL X.K H O2 m ys->Vals xs b6->Vals ys e9->
   ∀j (h1:j<b6.toArray.size) (h2:j<e9.toArray.size),EqAt A.in1 s b6.toArray[j] e9.toArray[j] (qq l m j):=fun l m xs ys b6 e9 O1 O2 hl hm r1 r2 v1 v2 j h1 h2=>by
 have e1:=v1.length;have e2:=v2.length;have e3:=r1.length;have e4:=r2.length;simp only[hZ] at h1 h2;have hx:xs[j]?=some xs[j]:=iO (by omega);have hy:ys[j]?=some ys[j]:=iO (by omega);have aj:l[j]?=some l[j]:=iO (by omega);have aG:m[j]?=some m[j]:=iO (by omega);obtain⟨w,w1,w2⟩:=v1.get hx;obtain⟨w',w3,w4⟩:=v2.get hy
 have i1:b6.toArray[j]=w:=by
  have:b6[j]?=some b6[j]:=iO (by omega);rw[this] at w1;simpa using w1
 have i2:e9.toArray[j]=w':=by
  have:e9[j]?=some e9[j]:=iO (by omega);rw[this] at w3;simpa using w3
 rw[i1,i2];have hj:qq l m j=D.eqb l[j] m[j]:=by unfold qq;rw[aj,aG]
 rw[hj];have ay:=D.dep_mem aj;have hdep2:=D.dep_mem aG;exact yi I (n-1) _ _ _ _ _ _ O1 O2 A.in1 (.inl (r1.views aj hx)) (.inl (r2.views aG hy)) w2 w4 (by omega) (by omega) (by show A.units+1+(n-1)<cLine;omega)
theorem NR(I:Inv X pins σ H s)(hd:iV X.K H O d v)(he:iV X.K H O' e u)(ra:RelV v a)(rb:RelV u b)(hn:d.dep<=n)(t7:e.dep<20000)(hA:A.units+n<cLine):RcAt A s a b (D.eqb d e):=by
 have hu:A.units<cLine:=by omega
 have items:=C0 I hA;have u3:cLine=9900:=rfl;have h1:=qy I hd ra (by omega);have h2:=qy I he rb t7
 cases h1 with
 |non=>
  cases h2 with
  |non=>exact RcAt.none_none
  |bl c2=>exact RcAt.none_bool c2
  |int c2 t2=>exact RcAt.none_int c2 t2
  |str c2 t2=>exact RcAt.none_str c2 t2
  |tup q2 r2 v2 i3=>exact RcAt.none_tuple i3 hu
  |lst q2 r2 v2 i3=>exact RcAt.none_list i3 hu
 |bl c1=>
  cases h2 with
  |non=>exact RcAt.bool_none c1
  |bl c2=>exact RcAt.bool_bool c1 c2
  |int c2 t2=>exact RcAt.bool_int c1 c2 t2
  |str c2 t2=>exact RcAt.bool_str c1 c2 t2
  |tup q2 r2 v2 i3=>exact RcAt.bool_tuple c1 i3 hu
  |lst q2 r2 v2 i3=>exact RcAt.bool_list c1 i3 hu
 |int c1 t1=>
  cases h2 with
  |non=>exact RcAt.int_none c1 t1
  |bl c2=>exact RcAt.int_bool c1 t1 c2
  |int c2 t2=>exact RcAt.int_int c1 t1 c2 t2
  |str c2 t2=>exact RcAt.int_str c1 t1 c2 t2
  |tup q2 r2 v2 i3=>exact RcAt.int_tuple c1 t1 i3 hu
  |lst q2 r2 v2 i3=>exact RcAt.int_list c1 t1 i3 hu
 |str c1 t1=>
  cases h2 with
  |non=>exact RcAt.str_none c1 t1
  |bl c2=>exact RcAt.str_bool c1 t1 c2
  |int c2 t2=>exact RcAt.str_int c1 t1 c2 t2
  |str c2 t2=>exact RcAt.str_str c1 t1 c2 t2
  |tup q2 r2 v2 i3=>exact RcAt.str_tuple c1 t1 i3 hu
  |lst q2 r2 v2 i3=>exact RcAt.str_list c1 t1 i3 hu
 | @tup l p xs b6 q r v1 pl=>
  cases h2 with
  |non=>exact RcAt.tuple_none pl hu
  |bl c2=>exact RcAt.tuple_bool c2 pl hu
  |int c2 t2=>exact RcAt.tuple_int c2 t2 pl hu
  |str c2 t2=>exact RcAt.tuple_str c2 t2 pl hu
  | @tup m p2 ys e9 q2 r2 v2 i3=>
   have hl:D.depL l+1<=n:=by rw[D.dep] at hn;exact hn
   have hm:D.depL m<20000:=by rw[D.dep] at t7;omega
   have e1:=v1.length;have e2:=v2.length;have e3:=r.length;have e4:=r2.length;have z:=RcAt.tuples pl i3 hu (items l m xs ys b6 e9 _ _ hl hm r r2 v1 v2);simp only[hZ] at z;rw[show b6.length=l.length by omega,show e9.length=m.length by omega,lD] at z;rw[D.eqb];exact z
  |lst q2 r2 v2 i3=>exact RcAt.tuple_list pl i3 hu
 | @lst l p xs b6 q r v1 pl=>
  cases h2 with
  |non=>exact RcAt.list_none pl hu
  |bl c2=>exact RcAt.list_bool c2 pl hu
  |int c2 t2=>exact RcAt.list_int c2 t2 pl hu
  |str c2 t2=>exact RcAt.list_str c2 t2 pl hu
  |tup q2 r2 v2 i3=>exact RcAt.list_tuple pl i3 hu
  | @lst m p2 ys e9 q2 r2 v2 i3=>
   have hl:D.depL l+1<=n:=by rw[D.dep] at hn;exact hn
   have hm:D.depL m<20000:=by rw[D.dep] at t7;omega
   have e1:=v1.length;have e2:=v2.length;have e3:=r.length;have e4:=r2.length;have al:=lD l m;by_cases hlen:l.length=m.length
   ·have z:=RcAt.lists pl i3 (by simp only[hZ];omega) hu (items l m xs ys b6 e9 _ _ hl hm r r2 v1 v2);simp only[hZ] at z;rw[show b6.length=min l.length m.length by omega] at z;rw[D.eqb,<-al,hlen];rw[hlen] at z;simpa using z
   ·have z:=RcAt.lists_lengths pl i3 (by simp only[hZ,bne_iff_ne,ne_eq];omega) hu;rw[D.eqb,<-al];rw[show(l.length==m.length)=false by simpa using hlen];simpa using z
theorem Jn(I:Inv X pins σ H s)(hd:iV X.K H O d v)(he:iV X.K H O' e u)(ra:RelV v a)(rb:RelV u b)(hn:d.dep<=n)(t7:e.dep<20000)(hA:A.units+n<cLine):RcNeAt A s a b (!D.eqb d e):=by
 have hu:A.units<cLine:=by omega
 have items:=C0 I hA;have u3:cLine=9900:=rfl;have h1:=qy I hd ra (by omega);have h2:=qy I he rb t7
 cases h1 with
 |non=>
  cases h2 with
  |non=>exact RcNeAt.none_none
  |bl c2=>exact RcNeAt.none_bool c2
  |int c2 t2=>exact RcNeAt.none_int c2 t2
  |str c2 t2=>exact RcNeAt.none_str c2 t2
  |tup q2 r2 v2 i3=>exact RcNeAt.none_tuple i3 hu
  |lst q2 r2 v2 i3=>exact RcNeAt.none_list i3 hu
 |bl c1=>
  cases h2 with
  |non=>exact RcNeAt.bool_none c1
  |bl c2=>exact RcNeAt.bool_bool c1 c2
  |int c2 t2=>exact RcNeAt.bool_int c1 c2 t2
  |str c2 t2=>exact RcNeAt.bool_str c1 c2 t2
  |tup q2 r2 v2 i3=>exact RcNeAt.bool_tuple c1 i3 hu
  |lst q2 r2 v2 i3=>exact RcNeAt.bool_list c1 i3 hu
 |int c1 t1=>
  cases h2 with
  |non=>exact RcNeAt.int_none c1 t1
  |bl c2=>exact RcNeAt.int_bool c1 t1 c2
  |int c2 t2=>exact RcNeAt.int_int c1 t1 c2 t2
  |str c2 t2=>exact RcNeAt.int_str c1 t1 c2 t2
  |tup q2 r2 v2 i3=>exact RcNeAt.int_tuple c1 t1 i3 hu
  |lst q2 r2 v2 i3=>exact RcNeAt.int_list c1 t1 i3 hu
 |str c1 t1=>
  cases h2 with
  |non=>exact RcNeAt.str_none c1 t1
  |bl c2=>exact RcNeAt.str_bool c1 t1 c2
  |int c2 t2=>exact RcNeAt.str_int c1 t1 c2 t2
  |str c2 t2=>exact RcNeAt.str_str c1 t1 c2 t2
  |tup q2 r2 v2 i3=>exact RcNeAt.str_tuple c1 t1 i3 hu
  |lst q2 r2 v2 i3=>exact RcNeAt.str_list c1 t1 i3 hu
 | @tup l p xs b6 q r v1 pl=>
  cases h2 with
  |non=>exact RcNeAt.tuple_none pl hu
  |bl c2=>exact RcNeAt.tuple_bool c2 pl hu
  |int c2 t2=>exact RcNeAt.tuple_int c2 t2 pl hu
  |str c2 t2=>exact RcNeAt.tuple_str c2 t2 pl hu
  | @tup m p2 ys e9 q2 r2 v2 i3=>
   have hl:D.depL l+1<=n:=by rw[D.dep] at hn;exact hn
   have hm:D.depL m<20000:=by rw[D.dep] at t7;omega
   have e1:=v1.length;have e2:=v2.length;have e3:=r.length;have e4:=r2.length;have z:=RcNeAt.tuples pl i3 hu (items l m xs ys b6 e9 _ _ hl hm r r2 v1 v2);simp only[hZ] at z;rw[show b6.length=l.length by omega,show e9.length=m.length by omega,lD] at z;rw[D.eqb];exact z
  |lst q2 r2 v2 i3=>exact RcNeAt.tuple_list pl i3 hu
 | @lst l p xs b6 q r v1 pl=>
  cases h2 with
  |non=>exact RcNeAt.list_none pl hu
  |bl c2=>exact RcNeAt.list_bool c2 pl hu
  |int c2 t2=>exact RcNeAt.list_int c2 t2 pl hu
  |str c2 t2=>exact RcNeAt.list_str c2 t2 pl hu
  |tup q2 r2 v2 i3=>exact RcNeAt.list_tuple pl i3 hu
  | @lst m p2 ys e9 q2 r2 v2 i3=>
   have hl:D.depL l+1<=n:=by rw[D.dep] at hn;exact hn
   have hm:D.depL m<20000:=by rw[D.dep] at t7;omega
   have e1:=v1.length;have e2:=v2.length;have e3:=r.length;have e4:=r2.length;have al:=lD l m;by_cases hlen:l.length=m.length
   ·have z:=RcNeAt.lists pl i3 (by simp only[hZ];omega) hu (items l m xs ys b6 e9 _ _ hl hm r r2 v1 v2);simp only[hZ] at z;rw[show b6.length=min l.length m.length by omega] at z;rw[D.eqb,<-al,hlen];rw[hlen] at z;simpa using z
   ·have z:=RcNeAt.lists_lengths pl i3 (by simp only[hZ,bne_iff_ne,ne_eq];omega) hu;rw[D.eqb,<-al];rw[show(l.length==m.length)=false by simpa using hlen];simpa using z
theorem OL(hu:X.A.units+60<cLine):OpR X (compareOp .Eq) (fun x y H Q=> ∃O d e,iV X.K H O d x/\iV X.K H O e y/\(d.dep<=50/\e.dep<=50)/\Q (.bl (D.eqb d e)) H):=by
 intro pins s σ H x y v u Q I rx ry h;obtain⟨O,d,e,h1,h2,h3,q⟩:=h;exact NR (A:=X.A) I h1 h2 rx ry h3.1 (by omega) (by omega) _ _ _ _ ⟨.bl _,H,I,rfl,q⟩
theorem OH(hu:X.A.units+60<cLine):OpR X (compareOp .NotEq) (fun x y H Q=> ∃O d e,iV X.K H O d x/\iV X.K H O e y/\(d.dep<=50/\e.dep<=50)/\Q (.bl (!D.eqb d e)) H):=by
 intro pins s σ H x y v u Q I rx ry h;obtain⟨O,d,e,h1,h2,h3,q⟩:=h;exact Jn (A:=X.A) I h1 h2 rx ry h3.1 (by omega) (by omega) _ _ _ _ ⟨.bl _,H,I,rfl,q⟩
end
theorem hW{α:Type}{c:Prop}[Decidable c]{a b:α}(h:(if c then some a else none)=some b):c/\a=b:=by
 split at h
 ·rename_i hc;exact⟨hc,iE h⟩
 ·cases h
section
variable {X:Cx}{pins:hJ}{σ:L2.St}{H:Hp}{s:gr}
theorem Ku(I:Inv X pins σ H s){A:gM}{l:List D}{xs:List V}{b6:iG}{O O':AP'}{dx:D}{vx:V}{x:gB}(r:RepL X.K H O l xs)(v:Vals xs b6)(hx:iV X.K H O' dx vx)(rx:RelV vx x)(hn:D.depL l<=50)(hxn:dx.dep<=50)(hA:A.units+60<cLine):
  ∃e:Value->Bool,(∀y∈b6,EqAt A.in1 s y x (e y))/\b6.any e=l.any fun d=>D.eqb d dx:=by
 let e:Value->Bool:=fun y=>match(b6.zip l).find? (fun p=>p.1==y) with
  |some p=>D.eqb p.2 dx
  |none=>false
 have e1:=v.length;have e3:=r.length
 have key: ∀(j:Nat) (hj:j<b6.length) (hl:j<l.length),e b6[j]=D.eqb l[j] dx:=fun j hj hl=>by
  show(match(b6.zip l).find? (fun p=>p.1==b6[j]) with|some p=>D.eqb p.2 dx|none=>false)=_
  cases hf:(b6.zip l).find? (fun p=>p.1==b6[j]) with
  |none=>
   have:=List.find?_eq_none.mp hf (b6[j],l[j]) (by
    have:(b6.zip l)[j]?=some (b6[j],l[j]):=by simp[Dr,iO hj,iO hl]
    exact lQ this)
   simp at this
  |some p=>
   have hp:=List.find?_some hf;have hm:=List.mem_of_find?_eq_some hf;obtain⟨i,hi⟩:=tu hm;obtain⟨p1,p2⟩:=p;rw[Dr] at hi;have cA:p1=b6[j]:=pU hp;obtain⟨h1,h2⟩:=hi;have bu:i<xs.length:=by have:=(uI.mp h1).1;omega
   obtain⟨w,w1,w2⟩:=v.get (iO bu);have cZ:j<xs.length:=by omega
   obtain⟨w',w3,w4⟩:=v.get (iO cZ);rw[h1] at w1;cases w1;rw[iO hj] at w3;cases w3;subst cA;have hv:=w2.inj w4;have a1:=r.views h2 (iO bu);have a2:=r.views (iO hl) (iO cZ);rw[hv] at a1;have fP:=D.dep_mem h2;have:=Rep.inj I (by omega) a1 a2;exact rA (fun z=>D.eqb z dx) this
 refine⟨e,fun y hy=>?_,?_⟩
 ·obtain⟨j,hj⟩:=tu hy;have hj1:=(uI.mp hj).1;have cZ:=(uI.mp hj).2;have hl:j<l.length:=by omega
  have hx2:j<xs.length:=by omega
  obtain⟨w,w1,w2⟩:=v.get (iO hx2);rw[hj] at w1;cases w1;have hk:=key j hj1 hl;rw[cZ] at hk;rw[hk];have hd:=D.dep_mem (iO hl);exact yi I 50 _ _ _ _ _ _ O O' A.in1 (.inl (r.views (iO hl) (iO hx2))) hx w2 rx (by omega) (by omega) (by show A.units+1+50<cLine;omega)
 ·have:b6.map e=l.map fun d=>D.eqb d dx:=by
   apply DS
   ·simp;omega
   ·intro j h1 h2;simp only[iX] at h1 h2;simp only[List.getElem_map];exact key j h1 h2
  have h3:b6.any e=(b6.map e).any id:=by rw[uT];rfl
  have h4:(l.any fun d=>D.eqb d dx)=(l.map fun d=>D.eqb d dx).any id:=by rw[uT];rfl
  rw[h3,h4,this]
noncomputable def inD(x:D):D->Option Bool
 | .tup l=>if D.depL l<=50/\x.dep<=50 then some (l.any fun d=>D.eqb d x) else none
 | .lst l=>if D.depL l<=50/\x.dep<=50 then some (l.any fun d=>D.eqb d x) else none
 |_=>none
theorem Hc(hu:X.A.units+60<cLine):OpR X (compareOp .NotIn) (fun x y H Q=> ∃O d e b,iV X.K H O d x/\iV X.K H O e y/\inD d e=some b/\Q (.bl (!b)) H):=by
 intro pins s σ H x y v u Q I rx ry h;obtain⟨O,d,e,b,h1,h2,h3,q⟩:=h
 cases e with
 |tup l=>
  obtain⟨hn,rfl⟩:=hW h3
  ·skip
   obtain⟨a,xs,rfl,hq,r⟩:=ke h2;cases ry;obtain⟨b6,v1,pl,_⟩:=I.tuple hq;obtain⟨e,he,ha⟩:=Ku (A:=X.A) I r v1 h1 rx hn.1 hn.2 hu;refine notIn_tupleAt e pl (fun w hw=>he w (by simpa using hw)) ⟨.bl _,H,I,rfl,?_⟩;rw[show b6.toArray.any e=b6.any e by simp,ha];exact q
 |lst l=>
  obtain⟨hn,rfl⟩:=hW h3
  ·skip
   obtain⟨a,xs,rfl,hq,r⟩:=ju h2;cases ry;obtain⟨b6,v1,pl,_⟩:=I.list hq;obtain⟨e,he,ha⟩:=Ku (A:=X.A) I r v1 h1 rx hn.1 hn.2 hu;refine notIn_listAt e pl.isList (fun w hw=>he w (by simpa using hw)) ⟨.bl _,H,I,rfl,?_⟩;rw[show b6.toArray.any e=b6.any e by simp,ha];exact q
 |_=>cases h3
end
def rD1(K:gL)(g:D->Option (D×Bool)):V->Hp->VK->Prop:=fun x H Q=> ∃(O:AP') (d:D) (z:D×Bool),(∀p,H p=none-> ¬O p)/\iV K H O d x/\g d=some z/\Gen K H O z Q
def rD(K:gL)(g:D->D->Option (D×Bool)):R2:=fun x y H Q=> ∃(O:AP') (d e:D) (z:D×Bool),(∀p,H p=none-> ¬O p)/\iV K H O d x/\iV K H O e y/\g d e=some z/\Gen K H O z Q
def rDn(K:gL)(g:List D->Option (D×Bool)):List V->Hp->VK->Prop:=fun vs H Q=> ∃(O:AP') (ds:List D) (z:D×Bool),(∀p,H p=none-> ¬O p)/\ds.length=vs.length/\(∀(j:Nat) d v,ds[j]?=some d->vs[j]?=some v->iV K H O d v)/\g ds=some z/\Gen K H O z Q
section
variable {X:Cx}{e a b:gC}{fa fb:FO}{fs:List FO}{pos:Pos}
theorem px1(h:PE X e (tUn (rD1 X.K g) (tO X.K fa))):PX X e (kd g fa):=N1 h fun x z v H O Q np hx hg G=>⟨O,x,z,np,hx,hg,G⟩
theorem px2(h:PE X e (tOp (rD X.K g) (tO X.K fa) (tO X.K fb))):PX X e (gz g fa fb):=N0 h fun x y z v u H O Q np hx hy hg G=>⟨O,x,y,z,np,hx,hy,hg,G⟩
theorem pxn(h:PE X e (tCB (rDn X.K g) (tA X.K fs))):PX X e (gG g fs):=LZ h fun ds z vs H O Q np hl hv hg G=>⟨O,ds,z,np,hl,hv,hg,G⟩
theorem gS{K H}{O:AP'}{i:Int}{v:V}(h:iV K H O (.int i) v):v= .int i:=h.elim (fun h=>h.int) fun⟨_,_,h⟩=>h.elim
theorem AK{K H}(h:iV K H O (.bl i) v):v= .bl i:=h.elim (fun h=>h.bl) fun⟨_,_,h⟩=>h.elim
theorem tK{K H}(h:iV K H O (.str i) v):v= .str i:=h.elim (fun h=>h.str) fun⟨_,_,h⟩=>h.elim
theorem BL{K H}(h:iV K H O .non v):v= .non:=h.elim (fun h=>h.non) fun⟨_,_,h⟩=>h.elim
theorem Gen.str{K H}(g:Gen K H O (.str i,false) Q):Q (.str i) H:=g _ H (fun _ _ e=>e) Rep.mkStr
noncomputable def gI(f:Int->Int->Option D):D->D->Option (D×Bool)
 | .int i,.int j=>(f i j).map fun z=>(z,false)
 |_,_=>none
theorem wx{f:Int->Int->Option D}{d e:D}{z:D×Bool}(h:gI f d e=some z): ∃i j y,d= .int i/\e= .int j/\f i j=some y/\z=(y,false):=by
 cases d with
 |int i=>
  cases e with
  |int j=>
   cases hf:f i j with
   |none=>rw[gI,hf] at h;cases h
   |some y=>rw[gI,hf] at h;cases h;exact⟨i,j,y,rfl,rfl,hf,rfl⟩
  |_=>cases h
 |_=>cases h
theorem wu{f:vH}{C:Int->Int->Prop}[∀i j,Decidable (C i j)]{g:Int->Int->Int}(ho:OpR X f (rI C fun i j=> .int (g i j))):OpR X f (rD X.K (gI fun i j=>if C i j then some (.int (g i j)) else none)):=by
 intro pins s σ H x y v u Q I rx ry h;obtain⟨O,d,e,z,np,h1,h2,hg,G⟩:=h;obtain⟨i,j,w,rfl,rfl,hf,rfl⟩:=wx hg;obtain⟨hc,rfl⟩:=hW hf;exact ho pins s σ H x y v u Q I rx ry ⟨i,j,gS h1,gS h2,hc,G.int⟩
theorem JY{f:vH}{g:Int->Int->Int}(ho:OpR X f (rI0 fun i j=> .int (g i j))):OpR X f (rD X.K (gI fun i j=>some (.int (g i j)))):=by
 intro pins s σ H x y v u Q I rx ry h;obtain⟨O,d,e,z,np,h1,h2,hg,G⟩:=h;obtain⟨i,j,w,rfl,rfl,hf,rfl⟩:=wx hg;cases hf;exact ho pins s σ H x y v u Q I rx ry ⟨i,j,gS h1,gS h2,G.int⟩
instance(i j:Int):Decidable (CMul i j):=by unfold CMul;exact inferInstance
instance(i j:Int):Decidable (HG i j):=by unfold HG;exact inferInstance
instance(i j:Int):Decidable (wg i j):=by unfold wg;exact inferInstance
noncomputable def gSub:=gI fun i j=>some (.int (i-j))
noncomputable def pk:=gI fun i j=>if CMul i j then some (.int (i*j)) else none
noncomputable def KA:=gI fun i j=>if HG i j then some (.int (i / j)) else none
noncomputable def uq:=gI fun i j=>if 0<j then some (.int (i%j)) else none
noncomputable def CP:=gI fun i j=>if wg i j then some (.int (i^j.toNat)) else none
theorem ub:OpR X (binaryOp .Sub) (rD X.K gSub):=JY OF
theorem nC:OpR X (binaryOp .Mult) (rD X.K pk):=wu OI
theorem F5:OpR X (binaryOp .FloorDiv) (rD X.K KA):=wu Ms
theorem oK:OpR X (binaryOp .Mod) (rD X.K uq):=wu OJ
theorem A1:OpR X (binaryOp .Pow) (rD X.K CP):=wu OG
noncomputable def js:D->D->Option (D×Bool)
 | .int i,.int j=>some (.int (i+j),false)
 | .str i,.str j=>if i.length+j.length<=sizeLine then some (.str (i++j),false) else none
 | .tup l,.tup m=>if l.length+m.length<=sizeLine then some (.tup (l++m),false) else none
 | .lst l,.lst m=>if l.length+m.length<=sizeLine then some (.lst (l++m),true) else none
 |_,_=>none
theorem iN:OpR X (binaryOp .Add) (rD X.K js):=by
 intro pins s σ H x y v u Q I rx ry h;obtain⟨O,d,e,z,np,h1,h2,hg,G⟩:=h
 cases d with
 |int i=>
  cases e with
  |int j=>cases hg;exact OM pins s σ H x y v u Q I rx ry ⟨i,j,gS h1,gS h2,G.int⟩
  |_=>cases hg
 |str i=>
  cases e with
  |str j=>
   obtain⟨hc,rfl⟩:=hW hg;exact EB pins s σ H x y v u Q I rx ry ⟨i,j,tK h1,tK h2,hc,G.str⟩
  |_=>cases hg
 |tup l=>
  cases e with
  |tup m=>
   obtain⟨hc,rfl⟩:=hW hg;have k1:Rep X.K H O (.tup l) x:=h1.elim id fun⟨_,_,z⟩=>z.elim;have k2:Rep X.K H O (.tup m) y:=h2.elim id fun⟨_,_,z⟩=>z.elim;obtain⟨p1,xs,rfl,q1,r1⟩:=k1.tup;obtain⟨p2,ys,rfl,q2,r2⟩:=k2.tup;have l1:=r1.length;have l2:=r2.length;by_cases hx:xs=[]
   ·subst hx;have:l=[]:=by simpa using l1.symm
    subst this;cases rx;cases ry;obtain⟨b6,v1,eW,_⟩:=I.tuple q1.sq;obtain⟨e9,v2,i3,_⟩:=I.tuple q2.sq;have e1:b6=[]:=by have:=v1.length;simpa using this.symm
    subst e1;obtain⟨⟨cls,dd,data,sl⟩,ho,u3,n,hd⟩:=id eW;obtain⟨⟨cQ,u7,data2,u5⟩,t5,l3,n2,hd2⟩:=id i3;simp only at u3 hd l3 hd2;subst u3 hd l3 hd2
    refine AE ⟨_,ho,rfl⟩ ⟨_,t5,rfl⟩ D5 D4 D3 D2 (D1 _ _)
     (tuple_addW0 p1 p2 #[] e9.toArray n n2 dd u7 sl u5 (by simp)) ⟨ho,t5,⟨.ref p2,H,I,rfl,?_⟩⟩
    exact G _ H (fun _ _ e=>e) (by simpa using k2)
   ·refine Mt pins s σ H _ _ v u Q I rx ry ⟨p1,p2,xs,ys,rfl,rfl,q1.sq,q2.sq,hx,by omega,fun hy=>?_,fun hy p hp=>?_⟩
    ·subst hy;have:m=[]:=by simpa using l2.symm
     subst this;exact G _ H (fun _ _ e=>e) (by simpa using k1)
    ·exact G.tup hp (np p hp) (r1.append r2)
  |_=>cases hg
 |lst l=>
  cases e with
  |lst m=>
   obtain⟨hc,rfl⟩:=hW hg;obtain⟨p1,xs,rfl,q1,r1⟩:=ju h1;obtain⟨p2,ys,rfl,q2,r2⟩:=ju h2;have l1:=r1.length;have l2:=r2.length;cases rx;cases ry;obtain⟨b6,v1,eW,_⟩:=I.list q1;obtain⟨e9,v2,i3,_⟩:=I.list q2;have e1:=v1.length;have e2:=v2.length;obtain⟨⟨cls,dd,data,sl⟩,ho,u3,n,hd⟩:=id eW.isList;obtain⟨⟨cQ,u7,data2,u5⟩,t5,l3,n2,hd2⟩:=id i3.isList;simp only at u3 hd l3 hd2;subst u3 hd l3 hd2
   refine AE ⟨_,ho,rfl⟩ ⟨_,t5,rfl⟩ noFill_list_add seq_list_add PySem.F.slot_list_add PySem.F.entry_list_add (PySem.F.args_list_add_2 _ _)
    (list_addW p1 p2 b6.toArray e9.toArray n n2 dd u7 sl u5 (by simp only[hZ];omega)) ⟨ho,t5,?_⟩
   rw[show b6.toArray++e9.toArray=(b6++e9).toArray by simp];exact⟨.ref _,_,I.lnew (t':=s.toks) (v1.append v2) (by rw[lP];omega),rfl,G.lst I.fresh (r1.append r2)⟩
  |_=>cases hg
 |_=>cases hg
noncomputable def gEq(d e:D):Option (D×Bool):=if d.dep<=50/\e.dep<=50 then some (.bl (D.eqb d e),false) else none
noncomputable def gNe(d e:D):Option (D×Bool):=if d.dep<=50/\e.dep<=50 then some (.bl (!D.eqb d e),false) else none
noncomputable def vp(d e:D):Option (D×Bool):=(inD d e).map fun b=>(.bl (!b),false)
theorem mX(hu:X.A.units+60<cLine):OpR X (compareOp .Eq) (rD X.K gEq):=by
 intro pins s σ H x y v u Q I rx ry h;obtain⟨O,d,e,z,np,h1,h2,hg,G⟩:=h;obtain⟨hc,rfl⟩:=hW hg;exact OL hu pins s σ H x y v u Q I rx ry ⟨O,d,e,h1,h2,hc,G.bl⟩
theorem A2(hu:X.A.units+60<cLine):OpR X (compareOp .NotEq) (rD X.K gNe):=by
 intro pins s σ H x y v u Q I rx ry h;obtain⟨O,d,e,z,np,h1,h2,hg,G⟩:=h;obtain⟨hc,rfl⟩:=hW hg;exact OH hu pins s σ H x y v u Q I rx ry ⟨O,d,e,h1,h2,hc,G.bl⟩
theorem iK{α β:Type}{x:Option α}{f:α->β}{b:β}(h:x.map f=some b): ∃a,x=some a/\f a=b:=by
 cases x with
 |none=>cases h
 |some a=>exact⟨a,rfl,iE h⟩
theorem Hb(hu:X.A.units+60<cLine):OpR X (compareOp .NotIn) (rD X.K vp):=by
 intro pins s σ H x y v u Q I rx ry h;obtain⟨O,d,e,z,np,h1,h2,hg,G⟩:=h;obtain⟨b,hb,rfl⟩:=iK hg;exact Hc hu pins s σ H x y v u Q I rx ry ⟨O,d,e,b,h1,h2,hb,G.bl⟩
noncomputable def qW:D->Option (D×Bool)
 | .int i=>some (.int (-i),false)
 |_=>none
theorem Lz:UnR X (unaryOp .USub) (rD1 X.K qW):=by
 intro pins s σ H x v Q I rx h;obtain⟨O,d,z,np,h1,hg,G⟩:=h
 cases d with
 |int i=>cases hg;exact NB pins s σ H x v Q I rx ⟨i,gS h1,G.int⟩
 |_=>cases hg
noncomputable def gIx:D->D->Option (D×Bool)
 | .tup l,.int i=>(atI l i).map fun d=>(d,false)
 | .lst l,.int i=>(atI l i).map fun d=>(d,false)
 |_,_=>none
theorem GA{K H}{O:AP'}{l:List D}{xs:List V}{i:Int}{d:D}(r:RepL K H O l xs)(h:atI l i=some d): ∃v,atI xs i=some v/\Rep K H O d v:=by
 unfold atI at h ⊢;rw[r.length];obtain⟨j,h1,h2⟩:=gg h;rw[h1];exact r.get h2
theorem Nh:IxR X (rD X.K gIx):=by
 intro value slice pins s σ H x y v u Q I rx ry h hs;obtain⟨O,d,e,z,np,h1,h2,hg,G⟩:=h
 cases d with
 |tup l=>
  cases e with
  |int i=>
   obtain⟨w,hw,rfl⟩:=iK hg;obtain⟨p,xs,rfl,q,r⟩:=ke h1;obtain⟨vv,hv,hr⟩:=GA r hw;exact OY value slice pins s σ H _ _ v u Q I rx ry ⟨p,xs,i,vv,rfl,gS h2,q,hv,G _ H (fun _ _ e=>e) hr⟩ hs
  |_=>cases hg
 |lst l=>
  cases e with
  |int i=>
   obtain⟨w,hw,rfl⟩:=iK hg;obtain⟨p,xs,rfl,q,r⟩:=ju h1;obtain⟨vv,hv,hr⟩:=GA r hw;exact ME value slice pins s σ H _ _ v u Q I rx ry ⟨p,xs,i,vv,rfl,gS h2,q,hv,G _ H (fun _ _ e=>e) hr⟩ hs
  |_=>cases hg
 |_=>cases hg
theorem Oa(ho:OpR X (binaryOp op) (rD X.K g))(ha:PO X a fa)(hb:PO X b fb):PX X (.BinOp a op b pos) (gz g fa fb):=px2 (Qv ho ha hb)
theorem N9{op:CmpOp}{g:D->D->Option (D×Bool)}(ho:OpR X (compareOp op) (rD X.K g))(ha:PO X a fa)(hb:PO X b fb)(hm:behindInMarks op b=false):PX X (.Compare a [op] [b] pos) (gz g fa fb):=px2 (Mm ho ha hb hm)
theorem N4(ha:PO X a fa):PX X (.UnaryOp .USub a pos) (kd qW fa):=px1 (Qu Lz ha)
theorem Qn(ha:PO X a fa)(hb:PO X b fb)(hs:uG b):PX X (.Subscript a b pos) (gz gIx fa fb):=px2 (Nc Nh ha hb hs)
end
noncomputable def oF:List Opd->Option (List D)
 |[]=>some []
 | .val r::os=>(oF os).map (r.1:: ·)
 | .slot _::_=>none
noncomputable def iU(fs:List F):F:=fun δ=>(je (fs.map gk) δ).bind fun p=>(oF p.1).bind fun ds=>if ds.length<=sizeLine then some ((.tup ds,false),p.2) else none
noncomputable def ky(fs:List F):F:=fun δ=>(je (fs.map gk) δ).bind fun p=>(oF p.1).bind fun ds=>if ds.length<=sizeLine then some ((.lst ds,true),p.2) else none
section
variable {K:gL}{T T':AP'}{σ:L2.St}{δ δ':Dn}{H H':Hp}{os:List Opd}{vs:List V}
theorem Ops.rep(E:ER K H T σ δ)(B:Ops K T σ δ H os vs δ' H' T'){j:Nat}{r:D×Bool}{v:V}(h1:os[j]?=some (.val r))(h2:vs[j]?=some v):Rep K H' (fun a=>OwnA σ δ' a\/T a) r.1 v:=by
 obtain⟨d,b⟩:=r
 cases b with
 |false=>exact B.val j d v h1 h2
 |true=>
  obtain⟨p,rfl,tp,hp,ok⟩:=B.tmp j d v h1 h2;refine ok.rep (fun z=>?_) fun b _ z=>z;rcases z with z|z
  ·exact B.er.nT p z tp
  ·exact E.dom p z hp
theorem sv{O:AP'}: ∀{os:List Opd} {vs:List V} {ds:List D},oF os=some ds->os.length=vs.length->(∀(j:Nat) (r:D×Bool) (v:V),os[j]?=some (.val r)->vs[j]?=some v->Rep K H' O r.1 v)->RepL K H' O ds vs
 |[],vs,ds,h,hl,_=>by
  cases h;have:vs=[]:=by simpa using hl.symm
  subst this;exact RepL.nil
 | .slot i::os,vs,ds,h,_,_=>by cases h
 | .val r::os,vs,ds,h,hl,k=>by
  obtain⟨l,h1,rfl⟩:=iK h
  cases vs with
  |nil=>simp at hl
  |cons v vs=>exact RepL.cons (k 0 r v rfl rfl) (sv h1 (by simpa using hl) fun j r' v' a b=>k (j+1) r' v' (by simpa using a) (by simpa using b))
end
section
variable {X:Cx}{e a b:gC}{es:jl}{fa fb:FO}{fs:List F}{pos:Pos}
theorem NW{x1}(h:PA X es (tA X.K (fs.map gk))):PX X (.Tuple es x1 pos) (iU fs):=PX.imp (JO h) fun σ H Q hw=>by
 obtain⟨δ,T,rr,δ',E,e,k⟩:=hw;obtain⟨⟨os,δ1⟩,h1,e⟩:=gg e;obtain⟨ds,h2,e⟩:=gg e;obtain⟨hn,e⟩:=hW e;obtain⟨rfl,rfl⟩:=sg e;refine⟨δ,T,os,δ1,E,h1,fun vs H1 T1 B=>?_⟩;have r:=sv h2 B.len fun j r v a b=>B.rep E a b;exact⟨by rw[r.length];exact hn,fun p hp=>(B.done k).tup hp (B.np hp) r⟩
theorem N5(h:PA X es (tA X.K (fs.map gk))):PX X (.List es pos) (ky fs):=PX.imp (OA h) fun σ H Q hw=>by
 obtain⟨δ,T,rr,δ',E,e,k⟩:=hw;obtain⟨⟨os,δ1⟩,h1,e⟩:=gg e;obtain⟨ds,h2,e⟩:=gg e;obtain⟨hn,e⟩:=hW e;obtain⟨rfl,rfl⟩:=sg e;refine⟨δ,T,os,δ1,E,h1,fun vs H1 T1 B=>?_⟩;have r:=sv h2 B.len fun j r v a b=>B.rep E a b;exact⟨by rw[r.length];exact hn,fun p hp=>(B.done k).lst hp r⟩
theorem Mw{ds:List D}{vs:List V}{d:D}(hl:ds.length=vs.length)(hd:ds=[d]): ∃v,vs=[v]:=by
 subst hd
 cases vs with
 |nil=>simp at hl
 |cons v r=>
  cases r with
  |nil=>exact⟨v,rfl⟩
  |cons _ _=>simp at hl
noncomputable def g1(g:D->Option (D×Bool)):List D->Option (D×Bool)
 |[d]=>g d
 |_=>none
noncomputable def g2(g:D->D->Option (D×Bool)):List D->Option (D×Bool)
 |[d,e]=>g d e
 |_=>none
theorem nh{f:gB}{g:D->Option (D×Bool)}(h: ∀(pins:hJ) (s:gr) (σ:L2.St) (H:Hp) (x:V) (u:gB) (Q:VK) (O:AP') (d:D) (z:D×Bool),Inv X pins σ H s->RelV x u->(∀p,H p=none-> ¬O p)->iV X.K H O d x->g d=some z->Gen X.K H O z Q->
  wpAny (model X.prog X.w) X.A (call f [u]) (EP X pins σ Q) X.xe s):jf X f (rDn X.K (g1 g)):=by
 intro pins s σ H xs us Q I r hq;obtain⟨O,ds,z,np,hl,hv,hg,G⟩:=hq
 match ds,hg with
 |[d],hg=>
  obtain⟨v,rfl⟩:=Mw hl rfl;obtain⟨u,rfl,ru⟩:=tL r;exact h pins s σ H v u Q O d z I ru np (hv 0 d v rfl rfl) hg G
theorem KW{f:gB}{g:D->D->Option (D×Bool)}(h: ∀(pins:hJ) (s:gr) (σ:L2.St) (H:Hp) (x y:V) (us:iG) (Q:VK) (O:AP') (d e:D) (z:D×Bool),Inv X pins σ H s->Vals [x,y] us->(∀p,H p=none-> ¬O p)->iV X.K H O d x->iV X.K H O e y->g d e=some z->Gen X.K H O z Q->
  wpAny (model X.prog X.w) X.A (call f us) (EP X pins σ Q) X.xe s):jf X f (rDn X.K (g2 g)):=by
 intro pins s σ H xs us Q I r hq;obtain⟨O,ds,z,np,hl,hv,hg,G⟩:=hq
 match ds,hg,xs,hl with
 |[d,e],hg,[x,y],_=>exact h pins s σ H x y us Q O d e z I r np (hv 0 d x rfl rfl) (hv 1 e y rfl rfl) hg G
noncomputable def nk:D->Option (D×Bool)
 | .tup l=>some (.int l.length,false)
 | .lst l=>some (.int l.length,false)
 |_=>none
theorem jK:jf X (.builtin "len") (rDn X.K (g1 nk)):=nh fun pins s σ H x u Q O d z I ru np hd hg G=>by
 cases d with
 |tup l=>
  cases hg;obtain⟨p,xs,rfl,q,r⟩:=ke hd;refine uB pins s σ H [_] [u] Q I (.cons ru .nil) ⟨p,xs,rfl,.inr q,?_⟩;rw[r.length];exact G.int
 |lst l=>
  cases hg;obtain⟨p,xs,rfl,q,r⟩:=ju hd;refine uB pins s σ H [_] [u] Q I (.cons ru .nil) ⟨p,xs,rfl,.inl q,?_⟩;rw[r.length];exact G.int
 |_=>cases hg
noncomputable def sN:D->Option (D×Bool)
 | .int i=>some (.int (if i<0 then -i else i),false)
 |_=>none
theorem oz:jf X (.builtin "abs") (rDn X.K (g1 sN)):=nh fun pins s σ H x u Q O d z I ru np hd hg G=>by
 cases d with
 |int i=>cases hg;exact KY pins s σ H [x] [u] Q I (.cons ru .nil) ⟨i,by rw[gS hd],G.int⟩
 |_=>cases hg
noncomputable def Kz:D->Option (D×Bool)
 | .int i=>some (.int i,false)
 | .bl b=>some (.int (if b then 1 else 0),false)
 |_=>none
theorem zP:jf X (.type "int") (rDn X.K (g1 Kz)):=nh fun pins s σ H x u Q O d z I ru np hd hg G=>by
 cases d with
 |int i=>cases hg;exact zQ pins s σ H [x] [u] Q I (.cons ru .nil) (.inl ⟨i,by rw[gS hd],G.int⟩)
 |bl i=>
  cases hg;refine zQ pins s σ H [x] [u] Q I (.cons ru .nil) (.inr ⟨i,by rw[AK hd],?_⟩);have:=G.int;cases i<;>exact this
 |_=>cases hg
noncomputable def lC:D->Option (D×Bool)
 | .tup l=>some (.tup l,false)
 | .lst l=>some (.tup l,false)
 |_=>none
theorem lW:jf X (.type "tuple") (rDn X.K (g1 lC)):=nh fun pins s σ H x u Q O d z I ru np hd hg G=>by
 cases d with
 |tup l=>
  cases hg;have k1:Rep X.K H O (.tup l) x:=hd.elim id fun⟨_,_,z⟩=>z.elim;obtain⟨p,xs,rfl,q,r⟩:=k1.tup;exact rO pins s σ H [_] [u] Q I (.cons ru .nil) ⟨p,xs,rfl,.inr ⟨q.sq,G _ H (fun _ _ e=>e) k1⟩⟩
 |lst l=>
  cases hg;obtain⟨p,xs,rfl,q,r⟩:=ju hd;exact rO pins s σ H [_] [u] Q I (.cons ru .nil) ⟨p,xs,rfl,.inl ⟨q,fun t ht=>G.tup ht (np t ht) r⟩⟩
 |_=>cases hg
noncomputable def CS:D->Option (D×Bool)
 | .tup l=>some (.lst l,true)
 | .lst l=>some (.lst l,true)
 |_=>none
theorem yo:jf X (.type "list") (rDn X.K (g1 CS)):=nh fun pins s σ H x u Q O d z I ru np hd hg G=>by
 cases d with
 |tup l=>
  cases hg;obtain⟨p,xs,rfl,q,r⟩:=ke hd;exact uA pins s σ H [_] [u] Q I (.cons ru .nil) ⟨p,xs,rfl,.inr q,fun t ht=>G.lst ht r⟩
 |lst l=>
  cases hg;obtain⟨p,xs,rfl,q,r⟩:=ju hd;exact uA pins s σ H [_] [u] Q I (.cons ru .nil) ⟨p,xs,rfl,.inl q,fun t ht=>G.lst ht r⟩
 |_=>cases hg
end
abbrev FT:=Dn->Option (Bool×Dn)
def tT(K:gL)(f:FT):TT:=fun σ H Q=> ∃δ T b δ',ER K H T σ δ/\f δ=some (b,δ')/\ ∀H',Keep σ δ H δ' H'->ER K H' T σ δ'->Q b H'
def PTX(X:Cx)(e:gC)(f:FT):Prop:=PT X e (tT X.K f)
def PWX(X:Cx)(e:gC)(f:FT):Prop:=PW X e (tT X.K f)
noncomputable def asB:(D×Bool)×Dn->Option (Bool×Dn)
 |((.bl b,_),δ)=>some (b,δ)
 |_=>none
noncomputable def fT(f:F):FT:=fun δ=>(f δ).bind asB
theorem yA(h:asB p=some q): ∃o,p=((.bl q.1,o),q.2):=by
 obtain⟨⟨d,o⟩,δ⟩:=p
 cases d with
 |bl b=>cases h;exact⟨o,rfl⟩
 |_=>cases h
theorem M6{K:gL}{f:F}{σ:L2.St}{H:Hp}{Q:Bool->Hp->Prop}(h:tT K (fT f) σ H Q):tF K f σ H fun x H1=> ∃c,x= .bl c/\Q c H1:=by
 obtain⟨δ,T,b,δ',E,e,k⟩:=h;obtain⟨p,h1,h2⟩:=gg e;obtain⟨o,rfl⟩:=yA h2;refine⟨δ,T,_,_,E,h1,fun v H' P=>?_⟩;obtain⟨E1,r⟩:=P.rep E;exact⟨b,r.bl,k H' P.1 E1⟩
section
variable {X:Cx}{e a b c:gC}{es:jl}{fa fb:FO}{f g:F}{ft fu:FT}{pos:Pos}
theorem PT.imp'(h:PT X e t)(k: ∀σ H Q,t' σ H Q->t σ H Q):PT X e t':=fun pins s σ H Q I hw=>h pins s σ H Q I (k σ H Q hw)
theorem PW.imp'(h:PW X e t)(k: ∀σ H Q,t' σ H Q->t σ H Q):PW X e t':=fun wh pins s σ H Q I hw=>h wh pins s σ H Q I (k σ H Q hw)
theorem L5(h:PX X e f)(he: ∀whole,isTrue e X.env whole=(do let v <-whole;standAt e.pos;holding [v] (truthy v))):PTX X e (fT f):=PT.imp' (Og h he) fun σ H Q hw=>M6 hw
theorem Mv{r:R2}{g:D->D->Option (D×Bool)}(hr:Pu X.K r g){σ:L2.St}{H:Hp}{Q:VK}(hw:tF X.K (gz g fa fb) σ H Q):tOp r (tO X.K fa) (tO X.K fb) σ H Q:=by
 obtain⟨δ,T,rr,δ',E,e,k⟩:=hw;obtain⟨⟨o,δ1⟩,h1,e⟩:=gg e;obtain⟨⟨o2,δ2⟩,h2,e⟩:=gg e;obtain⟨x,h3,e⟩:=gg e;obtain⟨y,h4,e⟩:=gg e;obtain⟨z,h5,e⟩:=gg e;obtain⟨rfl,rfl⟩:=gK e;refine⟨δ,T,o,δ1,E,h1,fun v H1 P1=>⟨δ1,yE T o v,o2,δ2,P1.er E,h2,fun u H2 P2=>?_⟩⟩;have B:=Ops.cons E P1 (Ops.cons (P1.er E) P2 (Ops.nil (P2.er (P1.er E))));exact hr x y z v u H2 _ Q (fun p hp=>B.np hp) (B.view (j:=0) rfl rfl h3) (B.view (j:=1) rfl rfl h4) h5 (B.done k)
theorem Ql{K:gL}{g:D->D->Option (D×Bool)}:Pu K (rD K g) g:=fun x y z v u H O Q np hx hy hg G=>⟨O,x,y,z,np,hx,hy,hg,G⟩
theorem L7{op:CmpOp}{g:D->D->Option (D×Bool)}(ho:OpR X (compareOp op) (rD X.K g))(ha:PO X a fa)(hb:PO X b fb)(hm:behindInMarks op b=false):PTX X (.Compare a [op] [b] pos) (fT (gz g fa fb)):=
 PT.imp' (L8 ho ha hb hm) fun σ H Q hw=>Mv Ql (M6 hw)
noncomputable def Q8(f g:FT):FT:=fun δ=>(f δ).bind fun p=>if p.1=true then g p.2 else some (false,p.2)
noncomputable def wc(f g:FT):FT:=fun δ=>(f δ).bind fun p=>if p.1=true then some (true,p.2) else g p.2
noncomputable def qo(f:FT):FT:=fun δ=>(f δ).bind fun p=>some (!p.1,p.2)
theorem L3(ha:PTX X a ft):PWX X (.BoolOp .Or [a] pos) ft:=Oe ha
theorem Od(ha:PTX X a ft)(hb:PWX X (.BoolOp .Or (b::es) pos) fu):PWX X (.BoolOp .Or (a::b::es) pos) (wc ft fu):=PW.imp' (Qq ha hb) fun σ H Q hw=>by
 obtain⟨δ,T,c,δ',E,e,k⟩:=hw;obtain⟨⟨c1,δ1⟩,h1,e⟩:=gg e;refine⟨δ,T,c1,δ1,E,h1,fun H1 K1 E1=>?_⟩
 cases c1 with
 |true=>
  rw[gu rfl] at e;rw[gu rfl];obtain⟨rfl,rfl⟩:=gK e;exact k H1 K1 E1
 |false=>
  rw[gv jc] at e;rw[gv jc];exact⟨δ1,T,c,δ',E1,e,fun H2 K2 E2=>k H2 (K1.trans K2) E2⟩
theorem L6(ha:PTX X a ft):PTX X (.UnaryOp .Not a pos) (qo ft):=PT.imp' (Oh ha) fun σ H Q hw=>by
 obtain⟨δ,T,c,δ',E,e,k⟩:=hw;obtain⟨⟨c1,δ1⟩,h1,e⟩:=gg e;obtain⟨rfl,rfl⟩:=gK e;exact⟨δ,T,c1,δ1,E,h1,k⟩
noncomputable def qX(f g:F):F:=fun δ=>(f δ).bind fun p=>(asB p).bind fun q=>if q.1=true then g q.2 else some ((.bl false,false),q.2)
noncomputable def fOr(f g:F):F:=fun δ=>(f δ).bind fun p=>(asB p).bind fun q=>if q.1=true then some ((.bl true,false),q.2) else g q.2
noncomputable def KJ(f:F):F:=fun δ=>(f δ).bind fun p=>(asB p).bind fun q=>some ((.bl (!q.1),false),q.2)
theorem Post.pre{K:gL}{T:AP'}{σ:L2.St}{δ δ1 δ2:Dn}{H H1 H2:Hp}{r:D×Bool}{v:V}(k:Keep σ δ H δ1 H1)(P:Post K T σ δ1 H1 r δ2 v H2):Post K T σ δ H r δ2 v H2:=by
 refine⟨k.trans P.1,?_⟩;obtain⟨d,o⟩:=r
 cases o with
 |false=>exact P.2
 |true=>
  obtain⟨p,h1,h2,h3⟩:=P.2;refine⟨p,h1,?_,h3⟩
  cases hH:H p with
  |none=>rfl
  |some ob=>exact absurd h2 (k.dm p (by rw[hH];simp))
theorem Ob(ha:PX X a f)(hb:PX X (.BoolOp .And (b::es) pos) g):PX X (.BoolOp .And (a::b::es) pos) (qX f g):=PX.imp (OC ha hb) fun σ H Q hw=>by
 obtain⟨δ,T,r,δ',E,e,k⟩:=hw;obtain⟨p,h1,e⟩:=gg e;obtain⟨⟨c,δ1⟩,h2,e2⟩:=gg e;obtain⟨o,rfl⟩:=yA h2;refine⟨δ,T,_,_,E,h1,fun v H1 P=>?_⟩;obtain⟨E1,rv⟩:=P.rep E;refine⟨c,rv.bl,?_⟩
 cases c with
 |true=>
  rw[gu rfl] at e2;rw[gu rfl];exact⟨δ1,T,r,δ',E1,e2,fun w H2 P2=>k w H2 (P2.pre P.1)⟩
 |false=>
  rw[gv jc] at e2;rw[gv jc];obtain⟨rfl,rfl⟩:=gK e2;exact k _ H1 (Post.val P.1 E1 Rep.mkBl)
theorem L0{op}(ha:PX X a f):PX X (.BoolOp op [a] pos) f:=Ow ha
theorem N2(ha:PX X a f):PX X (.UnaryOp .Not a pos) (KJ f):=PX.imp (Ox ha) fun σ H Q hw=>by
 obtain⟨δ,T,r,δ',E,e,k⟩:=hw;obtain⟨p,h1,e⟩:=gg e;obtain⟨⟨c,δ1⟩,h2,e2⟩:=gg e;obtain⟨o,rfl⟩:=yA h2;obtain⟨rfl,rfl⟩:=gK e2;refine⟨δ,T,_,_,E,h1,fun v H1 P=>?_⟩;obtain⟨E1,rv⟩:=P.rep E;exact⟨c,rv.bl,k _ H1 (Post.val P.1 E1 Rep.mkBl)⟩
noncomputable def fIf(t:FT)(f g:F):F:=fun δ=>(t δ).bind fun p=>if p.1=true then f p.2 else g p.2
theorem Qo(hc:PTX X c ft)(ha:PX X a f)(hb:PX X b g):PX X (.IfExp c a b pos) (fIf ft f g):=PX.imp (JQ hc ha hb) fun σ H Q hw=>by
 obtain⟨δ,T,r,δ',E,e,k⟩:=hw;obtain⟨⟨c,δ1⟩,h1,e⟩:=gg e;refine⟨δ,T,c,δ1,E,h1,fun H1 K1 E1=>?_⟩
 cases c with
 |true=>rw[gu rfl] at e;rw[gu rfl];exact⟨δ1,T,r,δ',E1,e,fun w H2 P2=>k w H2 (P2.pre K1)⟩
 |false=>rw[gv jc] at e;rw[gv jc];exact⟨δ1,T,r,δ',E1,e,fun w H2 P2=>k w H2 (P2.pre K1)⟩
end
inductive Out where
 |nx(δ:Dn)|rt(r:D×Bool)(δ:Dn)|bk(δ:Dn)|ct(δ:Dn)
abbrev FS:=Dn->Option Out
structure SK(A:jb)(σ:L2.St)(δ:Dn)(H:Hp)(σ':L2.St)(δ':Dn)(H':Hp):Prop where
 kp: ∀a o,H a=some o-> ¬OwnA σ δ a->H' a=some o
 owi: ∀i a,OwnI σ' δ' i a->OwnI σ δ i a\/H a=none
 dm: ∀a,H a≠none->H' a≠none
 as: ∀i,¬A i->σ'[i]?=σ[i]?
structure FI(L:jb)(H0:Hp)(σ:L2.St)(δ:Dn)(H:Hp):Prop where
 ow: ∀i a,OwnI σ δ i a->L i\/H0 a=none
 dm: ∀a,H0 a≠none->H a≠none
def RV(K:gL)(T:AP')(H0:Hp)(r:D×Bool)(σ':L2.St)(δ':Dn)(v:V)(H':Hp):Prop:=
 match r with
 |(d,false)=>ER K H' T σ' δ'/\Rep K H' (fun a=>OwnA σ' δ' a\/T a) d v
 |(d,true)=> ∃p,v= .ref p/\H0 p=none/\ER K H' (fun a=>T a\/a=p) σ' δ'/\OwnOk K H' (fun a=>OwnA σ' δ' a\/T a\/a=p) d p
section
variable {A:jb}{σ σ1 σ2:L2.St}{δ δ1 δ2:Dn}{H H0 H1 H2:Hp}{L:jb}{K:gL}{T:AP'}
theorem SK.refl:SK A σ δ H σ δ H:=⟨fun _ _ e _=>e,fun _ _ z=> .inl z,fun _ z=>z,fun _ _=>rfl⟩
theorem SK.ow(k:SK A σ δ H σ1 δ1 H1)(a:gn)(h:OwnA σ1 δ1 a):OwnA σ δ a\/H a=none:=by
 obtain⟨i,d,h1,h2⟩:=h;rcases k.owi i a ⟨d,h1,h2⟩ with⟨e,h3,h4⟩|z
 ·exact .inl ⟨i,e,h3,h4⟩
 ·exact .inr z
theorem SK.trans(x:SK A σ δ H σ1 δ1 H1)(y:SK A σ1 δ1 H1 σ2 δ2 H2):SK A σ δ H σ2 δ2 H2 where
 kp:=fun a o e n=>y.kp a o (x.kp a o e n) fun z=>(x.ow a z).elim n fun z=>by rw[z] at e;cases e
 owi:=fun i a z=>(y.owi i a z).elim (x.owi i a) fun z=> .inr (by
  cases h:H a with
  |none=>rfl
  |some o=>exact absurd z (x.dm a (by rw[h];simp)))
 dm:=fun a z=>y.dm a (x.dm a z)
 as:=fun i h=>(y.as i h).trans (x.as i h)
theorem Keep.sk(k:Keep σ δ H δ1 H1):SK A σ δ H σ δ1 H1:=⟨k.kp,fun i a z=> .inl (k.owi i a z),k.dm,fun _ _=>rfl⟩
theorem FI.step(f:FI L H0 σ δ H)(k:SK A σ δ H σ1 δ1 H1):FI L H0 σ1 δ1 H1 where
 ow:=fun i a z=>(k.owi i a z).elim (f.ow i a) fun z=> .inr (by
  cases h:H0 a with
  |none=>rfl
  |some o=>exact absurd z (f.dm a (by rw[h];simp)))
 dm:=fun a z=>k.dm a (f.dm a z)
theorem FI.fresh(f:FI L H0 σ δ H)(hp:H p=none):H0 p=none:=by
 cases h:H0 p with
 |none=>rfl
 |some o=>exact absurd hp (f.dm p (by rw[h];simp))
end
def tS(K:gL)(A L:jb)(H0:Hp)(f:FS):TS:=fun D σ H=> ∃δ T out,ER K H T σ δ/\FI L H0 σ δ H/\f δ=some out/\
 match out with
 | .nx δ'=> ∀σ' H',SK A σ δ H σ' δ' H'->ER K H' T σ' δ'->D.nx σ' H'
 | .bk δ'=> ∀σ' H',SK A σ δ H σ' δ' H'->ER K H' T σ' δ'->D.bk σ' H'
 | .ct δ'=> ∀σ' H',SK A σ δ H σ' δ' H'->ER K H' T σ' δ'->D.ct σ' H'
 | .rt r δ'=> ∀v σ' H',SK A σ δ H σ' δ' H'->RV K T H0 r σ' δ' v H'->D.rt v H'
def PSX(X:Cx)(A L:jb)(H0:Hp)(st:Stmt)(f:FS):Prop:=PS X st (tS X.K A L H0 f)
def BC(X:Cx)(A L:jb)(H0:Hp)(st:List Stmt)(f:FS):Prop:=PSs X st (tS X.K A L H0 f)
noncomputable def gO:FS:=fun δ=>some (.nx δ)
noncomputable def gy(f g:FS):FS:=fun δ=>(f δ).bind fun o=>match o with
 | .nx δ1=>g δ1
 |o=>some o
noncomputable def lT(f:F):FS:=fun δ=>(f δ).bind fun p=>some (.nx p.2)
noncomputable def jQ(f:F):FS:=fun δ=>(f δ).bind fun p=>some (.rt p.1 p.2)
noncomputable def lJ(i:Nat):FS:=fun δ=>match δ[i]? with
 |some (some (d,true))=>some (.rt (d,true) (δ.set i none))
 |some (some (d,false))=>some (.rt (d,false) δ)
 |_=>none
noncomputable def sIf(t:FT)(f g:FS):FS:=fun δ=>(t δ).bind fun p=>if p.1=true then f p.2 else g p.2
noncomputable def ic(i:Nat)(f:F):FS:=fun δ=>(f δ).bind fun p=>if i<p.2.length then some (.nx (p.2.set i (some p.1))) else none
section
variable {X:Cx}{A L:jb}{H0:Hp}{st:Stmt}{ef:List Stmt}{f g:FS}{fe:F}{ft:FT}{e c:gC}{pos:Pos}
theorem PS.imp'(h:PS X st t)(k: ∀D σ H,t' D σ H->t D σ H):PS X st t':=fun pins s σ H D I hw=>h pins s σ H D I (k D σ H hw)
theorem PSs.imp'(h:PSs X ef t)(k: ∀D σ H,t' D σ H->t D σ H):PSs X ef t':=fun pins s σ H D I hw=>h pins s σ H D I (k D σ H hw)
theorem Jw:BC X A L H0 [] gO:=PSs.imp' Md fun D σ H hw=>by
 obtain⟨δ,T,out,E,fi,e,k⟩:=hw;cases e;exact k σ H .refl E
theorem G5(h1:PSX X A L H0 st f)(h2:BC X A L H0 ef g):BC X A L H0 (st::ef) (gy f g):=PSs.imp' (Jx h1 h2) fun D σ H hw=>by
 obtain⟨δ,T,out,E,fi,e,k⟩:=hw;obtain⟨o,h3,e⟩:=gg e;refine⟨δ,T,o,E,fi,h3,?_⟩
 cases o with
 |nx δ1=>
  intro σ1 H1 K1 E1;refine⟨δ1,T,out,E1,fi.step K1,e,?_⟩
  cases out with
  |nx δ2=>exact fun σ2 H2 K2 E2=>k σ2 H2 (K1.trans K2) E2
  |bk δ2=>exact fun σ2 H2 K2 E2=>k σ2 H2 (K1.trans K2) E2
  |ct δ2=>exact fun σ2 H2 K2 E2=>k σ2 H2 (K1.trans K2) E2
  |rt r δ2=>exact fun v σ2 H2 K2 R2=>k v σ2 H2 (K1.trans K2) R2
 |rt r δ1=>cases e;exact k
 |bk δ1=>cases e;exact k
 |ct δ1=>cases e;exact k
theorem Jt(h:PX X e fe)(hs:swapsWith e none pos.line X.env=pure false):PSX X A L H0 (.Expr e pos) (lT fe):=PS.imp' (Me h hs) fun D σ H hw=>by
 obtain⟨δ,T,out,E,fi,e,k⟩:=hw;obtain⟨p,h3,e⟩:=gg e;cases e;exact⟨δ,T,p.1,p.2,E,h3,fun v H1 P=>k σ H1 P.1.sk (P.rep E).1⟩
theorem Mb(h:PX X e fe):PSX X A L H0 (.Return (some e) pos) (jQ fe):=PS.imp' (Jz h) fun D σ H hw=>by
 obtain⟨δ,T,out,E,fi,e,k⟩:=hw;obtain⟨p,h3,e⟩:=gg e;cases e;refine⟨δ,T,p.1,p.2,E,h3,fun v H1 P=>k v σ H1 P.1.sk ?_⟩;obtain⟨⟨d,o⟩,δ1⟩:=p
 cases o with
 |false=>exact P.2
 |true=>
  obtain⟨q,h1,h2,h3⟩:=P.2;exact⟨q,h1,fi.fresh h2,h3⟩
theorem Oi(hc:PTX X c ft)(ha:BC X A L H0 a f)(hb:BC X A L H0 b g):PSX X A L H0 (.If c a b pos) (sIf ft f g):=PS.imp' (Qs hc ha hb) fun D σ H hw=>by
 obtain⟨δ,T,out,E,fi,e,k⟩:=hw;obtain⟨⟨c,δ1⟩,h1,e⟩:=gg e;refine⟨δ,T,c,δ1,E,h1,fun H1 K1 E1=>?_⟩;have dY:SK A σ δ H σ δ1 H1:=K1.sk
 have fin: ∀(h:FS),h δ1=some out->tS X.K A L H0 h D σ H1:=fun h he=>by
  refine⟨δ1,T,out,E1,fi.step dY,he,?_⟩
  cases out with
  |nx δ2=>exact fun σ2 H2 K2 E2=>k σ2 H2 (dY.trans K2) E2
  |bk δ2=>exact fun σ2 H2 K2 E2=>k σ2 H2 (dY.trans K2) E2
  |ct δ2=>exact fun σ2 H2 K2 E2=>k σ2 H2 (dY.trans K2) E2
  |rt r δ2=>exact fun v σ2 H2 K2 R2=>k v σ2 H2 (dY.trans K2) R2
 cases c with
 |true=>rw[gu rfl] at e;exact(show(if true=true then tS X.K A L H0 f D σ H1 else _) from by rw[gu rfl];exact fin f e)
 |false=>rw[gv jc] at e;exact(show(if false=true then _ else tS X.K A L H0 g D σ H1) from by rw[gv jc];exact fin g e)
end
theorem kc{α:Type}{l:List α}{i j:Nat}{x y:α}(h:(l.set i x)[j]?=some y):(i=j/\i<l.length/\y=x)\/(i≠j/\l[j]?=some y):=by
 rw[Ay] at h;split at h
 ·rename_i r6;split at h
  ·rename_i hl;exact .inl ⟨r6,hl,(iE h).symm⟩
  ·cases h
 ·rename_i r6;exact .inr ⟨r6,h⟩
section
variable {K:gL}{T:AP'}{σ:L2.St}{δ δ1:Dn}{H H1:Hp}{x:D×Bool}{v:V}{i:Nat}
theorem OwnI.store{j:Nat}{a:gn}(h:OwnI (σ.set i (some v)) (δ.set i (some x)) j a):(i≠j/\OwnI σ δ j a)\/(i=j/\x.2=true/\v= .ref a):=by
 obtain⟨d,h1,h2⟩:=h;rcases kc h1 with⟨e,_,q⟩|⟨ne,q⟩
 ·rcases kc h2 with⟨_,_,q2⟩|⟨ne2,_⟩
  ·right;cases q;exact⟨e,rfl,(iE q2).symm⟩
  ·exact absurd e ne2
 ·rcases kc h2 with⟨e2,_,_⟩|⟨_,q2⟩
  ·exact absurd e2 ne
  ·exact .inl ⟨ne,d,q,q2⟩
theorem OwnA.store(h:OwnA (σ.set i (some v)) (δ.set i (some x)) a):OwnA σ δ a\/(x.2=true/\v= .ref a):=by
 obtain⟨j,d,h1,h2⟩:=h;rcases OwnI.store ⟨d,h1,h2⟩ with⟨_,e,h3,h4⟩|⟨_,h3⟩
 ·exact .inl ⟨j,e,h3,h4⟩
 ·exact .inr h3
theorem ER.store(E1:ER K H1 (Tmp T x v) σ δ1)(hi:i<δ1.length)(hx:match x with|(d,false)=>Rep K H1 (fun a=>OwnA σ δ1 a\/T a) d v|(d,true)=> ∃p,v= .ref p/\ ¬T p/\OwnOk K H1 (fun a=>OwnA σ δ1 a\/T a\/a=p) d p):
  ER K H1 T (σ.set i (some v)) (δ1.set i (some x)):=by
 have hσ:i<σ.length:=by rw[E1.len];exact hi
 have sub: ∀b,H1 b≠none->(OwnA (σ.set i (some v)) (δ1.set i (some x)) b\/T b)->(OwnA σ δ1 b\/Tmp T x v b):=fun b _ z=>by
  rcases z with z|z
  ·rcases z.store with z|z
   ·exact .inl z
   ·exact .inr (.inr z)
  ·exact .inr (.inl z)
 refine⟨by rw[rm,rm];exact E1.len,fun j d hj=>?_,fun j d hj=>?_,fun j k d e a hj hk h1 h2=>?_,fun a z=>?_,fun a z=>E1.dom a (.inl z)⟩
 ·rcases kc hj with⟨rfl,_,q⟩|⟨ne,q⟩
  ·have q:=iE q;subst q
   exact⟨v,pJ hσ,Rep.mono (fun _ _ e _=>e) (fun b hb z=>by
    rcases z with z|z
    ·rcases z.store with z|z
     ·exact .inl z
     ·exact absurd z.1 (by simp)
    ·exact .inr z) hx⟩
  ·obtain⟨w,h1,h2⟩:=E1.val j d q;exact⟨w,by rw[rB ne];exact h1,Rep.mono (fun _ _ e _=>e) sub h2⟩
 ·rcases kc hj with⟨rfl,_,q⟩|⟨ne,q⟩
  ·have q:=iE q;subst q;obtain⟨p,rfl,np,ok⟩:=hx;refine⟨p,pJ hσ,ok.mono (fun _ _ e _=>e) (fun b hb z=>?_) fun _ e=>e⟩;rcases z with z|z
   ·rcases z.store with z|z
    ·exact .inl z
    ·have:=z.2;cases this;exact .inr (.inr rfl)
   ·exact .inr (.inl z)
  ·obtain⟨a,h1,h2⟩:=E1.own j d q;exact⟨a,by rw[rB ne];exact h1,h2.mono (fun _ _ e _=>e) sub fun _ e=>e⟩
 ·rcases OwnI.store ⟨d,hj,h1⟩ with⟨n1,d',g1,g2⟩|⟨e1,g1,g2⟩
  ·rcases OwnI.store ⟨e,hk,h2⟩ with⟨n2,e',g3,g4⟩|⟨e2,g3,g4⟩
   ·exact E1.inj j k d' e' a g1 g3 g2 g4
   ·exact absurd (Or.inr ⟨g3,g4⟩) (E1.nT a ⟨j,d',g1,g2⟩)
  ·rcases OwnI.store ⟨e,hk,h2⟩ with⟨n2,e',g3,g4⟩|⟨e2,g3,g4⟩
   ·exact absurd (Or.inr ⟨g1,g2⟩) (E1.nT a ⟨k,e',g3,g4⟩)
   ·exact e1.symm.trans e2
 ·rcases z.store with z|z
  ·exact fun t=>E1.nT a z (.inl t)
  ·obtain⟨d,b⟩:=x
   cases b with
   |false=>exact absurd z.1 (by simp)
   |true=>
    obtain⟨p,rfl,np,_⟩:=hx;have:=z.2;cases this;exact np
theorem SK.store(k:Keep σ δ H δ1 H1)(ha:A i)(hp:x.2=true-> ∀p,v= .ref p->H p=none):SK A σ δ H (σ.set i (some v)) (δ1.set i (some x)) H1 where
 kp:=k.kp
 owi:=fun j a z=>by
  rcases z.store with⟨_,z⟩|⟨_,z1,z2⟩
  ·exact .inl (k.owi j a z)
  ·exact .inr (hp z1 a z2)
 dm:=k.dm
 as:=fun j hj=>rB (fun(e:i=j)=>hj (by subst e;exact ha))
end
section
variable {X:Cx}{A L:jb}{H0:Hp}{fe:F}{e c:gC}{pos pos':Pos}
theorem xg{K:gL}{T:AP'}{σ:L2.St}{δ δ1:Dn}{H H1:Hp}{r:D×Bool}{v:V}{i:Nat}(E:ER K H T σ δ)(P:Post K T σ δ H r δ1 v H1)(hi:i<δ1.length)(ha:A i):
  SK A σ δ H (σ.set i (some v)) (δ1.set i (some r)) H1/\ER K H1 T (σ.set i (some v)) (δ1.set i (some r)):=by
 have hp:r.2=true-> ∀p,v= .ref p->H p=none:=fun h p hv=>by
  obtain⟨d,o⟩:=r
  cases o with
  |false=>cases h
  |true=>obtain⟨q,h1,h2,_⟩:=P.2;rw[hv] at h1;cases h1;exact h2
 refine⟨SK.store P.1 ha hp,ER.store (P.er E) hi ?_⟩;obtain⟨d,o⟩:=r
 cases o with
 |false=>exact P.2.2
 |true=>
  obtain⟨p,rfl,h2,h3,h4⟩:=P.2;exact⟨p,rfl,fun z=>E.dom p z h2,h4⟩
theorem Ma{i:Nat}{x:Str}(hN:X.N.Nodup)(hi:X.N[i]?=some x)(hx:Loc X.env.scope x)(he:PX X e fe)(hs:swapsWith e (some (.Name x pos')) pos.line X.env=pure false)(hf:X.fn x=true\/X.env.scope.names.lookup x=some .local)(ha:A i):
  PSX X A L H0 (.Assign [.Name x pos'] e pos) (ic i fe):=PS.imp' (Oj hN hi hx he hs hf) fun D σ H hw=>by
 obtain⟨δ,T,out,E,fi,e,k⟩:=hw;obtain⟨⟨r,δ1⟩,h3,e⟩:=gg e;obtain⟨hi,rfl⟩:=hW e;refine⟨δ,T,r,δ1,E,h3,fun v H1 P=>?_⟩;obtain⟨h1,h2⟩:=xg (A:=A) E P hi ha;exact k _ H1 h1 h2
theorem Es{i:Nat}{x:Str}(hN:X.N[i]?=some x)(hv:Vis X.env.scope x)(hd:(x==("__debug__":Str))=false)(x8:(x==("__classdict__":Str))=false)(hl: ¬L i):PSX X A L H0 (.Return (some (.Name x pos')) pos) (lJ i):=PS.imp' (Jz (Ez hN hv hd x8)) fun D σ H hw=>by
 obtain⟨δ,T,out,E,fi,e,k⟩:=hw;unfold lJ at e
 cases hi:δ[i]? with
 |none=>rw[hi] at e;cases e
 |some q=>
  cases q with
  |none=>rw[hi] at e;cases e
  |some p=>
   obtain⟨d,b⟩:=p;have hil:i<δ.length:=(uI.mp hi).1
   cases b with
   |false=>
    rw[hi] at e;cases e;obtain⟨v,h1,h2⟩:=E.val i d hi;exact⟨v,h1,k v σ H .refl ⟨E,h2⟩⟩
   |true=>
    rw[hi] at e;cases e;obtain⟨a,h1,h2⟩:=E.own i d hi
    have gone: ∀j b,OwnI σ (δ.set i none) j b->i≠j/\OwnI σ δ j b:=fun j b ⟨d',g1,g2⟩=>by
     rcases kc g1 with⟨_,_,q⟩|⟨ne,q⟩
     ·cases q
     ·exact⟨ne,d',q,g2⟩
    have goneA: ∀b,OwnA σ (δ.set i none) b->OwnA σ δ b/\b≠a:=fun b ⟨j,d',g1,g2⟩=>by
     obtain⟨ne,d2,g3,g4⟩:=gone j b ⟨d',g1,g2⟩;exact⟨⟨j,d2,g3,g4⟩,fun z=>ne (by subst z;exact E.inj i j d d2 _ hi g3 h1 g4)⟩
    have ha:OwnA σ δ a:=⟨i,d,hi,h1⟩
    have sub: ∀b,H b≠none->(OwnA σ (δ.set i none) b\/(T b\/b=a))->(OwnA σ δ b\/T b):=fun b _ z=>by
     rcases z with z|z|z
     ·exact .inl (goneA b z).1
     ·exact .inr z
     ·subst z;exact .inl ha
    refine⟨.ref a,h1,k (.ref a) σ H ⟨fun _ _ e _=>e,fun j b z=> .inl (gone j b z).2,fun _ z=>z,fun _ _=>rfl⟩ ⟨a,rfl,?_,?_,h2.mono (fun _ _ e _=>e) sub fun _ e=>e⟩⟩
    ·rcases fi.ow i a ⟨d,hi,h1⟩ with z|z
     ·exact absurd z hl
     ·exact z
    ·refine⟨by rw[rm];exact E.len,fun j d' hj=>?_,fun j d' hj=>?_,fun j k d' e' b hj hk g1 g2=>?_,fun b z t=>?_,fun b z=>?_⟩
     ·rcases kc hj with⟨_,_,q⟩|⟨ne,q⟩
      ·cases q
      ·obtain⟨w,w1,w2⟩:=E.val j d' q;exact⟨w,w1,Rep.mono (fun _ _ e _=>e) sub w2⟩
     ·rcases kc hj with⟨_,_,q⟩|⟨ne,q⟩
      ·cases q
      ·obtain⟨w,w1,w2⟩:=E.own j d' q;exact⟨w,w1,w2.mono (fun _ _ e _=>e) sub fun _ e=>e⟩
     ·obtain⟨_,d2,q1,q2⟩:=gone j b ⟨d',hj,g1⟩;obtain⟨_,d3,q3,q4⟩:=gone k b ⟨e',hk,g2⟩;exact E.inj j k d2 d3 b q1 q3 q2 q4
     ·obtain⟨z1,z2⟩:=goneA b z;rcases t with t|t
      ·exact E.nT b z1 t
      ·exact z2 t
     ·rcases z with z|z
      ·exact E.dom b z
      ·subst z;exact E.ownDom ha
end
abbrev Tg:=D->Dn->Option Dn
def tG(K:gL)(A:jb)(tg:Tg):TG:=fun v σ H Q=> ∃δ T d δ',ER K H T σ δ/\Rep K H (fun a=>OwnA σ δ a\/T a) d v/\tg d δ=some δ'/\ ∀σ',SK A σ δ H σ' δ' H->ER K H T σ' δ'->Q σ' H
def PGX(X:Cx)(A:jb)(e:gC)(tg:Tg):Prop:=PG X e (tG X.K A tg)
noncomputable def gq(i:Nat):Tg:=fun d δ=>if i<δ.length then some (δ.set i (some (d,false))) else none
noncomputable def FK:List Tg->List D->Dn->Option Dn
 |[],[],δ=>some δ
 |t::ts,d::ds,δ=>(t d δ).bind (FK ts ds)
 |_,_,_=>none
noncomputable def vI(ts:List Tg):Tg
 | .tup ds,δ=>FK ts ds δ
 |_,_=>none
def tGs(K:gL)(A:jb)(ts:List Tg):TGs:=fun vs σ H Q=> ∃δ T ds δ',ER K H T σ δ/\RepL K H (fun a=>OwnA σ δ a\/T a) ds vs/\FK ts ds δ=some δ'/\ ∀σ',SK A σ δ H σ' δ' H->ER K H T σ' δ'->Q σ' H
section
variable {X:Cx}{A:jb}{pos:Pos}{e:gC}{es:jl}{t:Tg}{ts:List Tg}
theorem PG.imp'{t t':TG}(h:PG X e t)(k: ∀v σ H Q,t' v σ H Q->t v σ H Q):PG X e t':=fun pins s σ H v u Q I r hw=>h pins s σ H v u Q I r (k v σ H Q hw)
theorem PGs.imp'{t t':TGs}(h:PGs X es t)(k: ∀v σ H Q,t' v σ H Q->t v σ H Q):PGs X es t':=fun pins s σ H v u Q I r hw=>h pins s σ H v u Q I r (k v σ H Q hw)
theorem JK{i:Nat}{x:Str}(hN:X.N.Nodup)(hi:X.N[i]?=some x)(hx:Loc X.env.scope x)(hf:X.fn x=true\/X.env.scope.names.lookup x=some .local)(ha:A i):PGX X A (.Name x pos) (gq i):=PG.imp' (F3 hN hi hx hf) fun v σ H Q hw=>by
 obtain⟨δ,T,d,δ',E,r,e,k⟩:=hw;obtain⟨hi,rfl⟩:=hW e;obtain⟨h1,h2⟩:=xg (A:=A) (r:=(d,false)) (v:=v) E (Post.val .refl E r) hi ha;exact k _ h1 h2
theorem JL:PGs X [] (tGs X.K A []):=PGs.imp' Mk fun v σ H Q hw=>by
 obtain⟨δ,T,ds,δ',E,r,e,k⟩:=hw
 cases ds with
 |nil=>
  cases e;rw[RepL] at r;exact⟨r,k σ .refl E⟩
 |cons _ _=>cases e
theorem zo(h1:PGX X A e t)(h2:PGs X es (tGs X.K A ts))(hs:(assignEach (e::es) X.env).map (·.2)=assign e X.env::(assignEach es X.env).map (·.2)):PGs X (e::es) (tGs X.K A (t::ts)):=PGs.imp' (JM h1 h2 hs) fun v σ H Q hw=>by
 obtain⟨δ,T,ds,δ',E,r,e,k⟩:=hw
 cases ds with
 |nil=>cases e
 |cons d ds=>
  rw[RepL] at r;obtain⟨v1,vr,rfl,r1,r2⟩:=r;obtain⟨δ1,h3,e⟩:=gg e;refine⟨v1,vr,rfl,δ,T,d,δ1,E,r1,h3,fun σ1 K1 E1=>⟨δ1,T,ds,δ',E1,?_,e,fun σ2 K2 E2=>k σ2 (K1.trans K2) E2⟩⟩;exact RepL.mono (fun _ _ e _=>e) (fun b hb z=>z.elim (fun z=>(K1.ow b z).elim Or.inl fun z=>absurd z hb) Or.inr) r2
theorem Mj{k:Nat}(hc:X.calm=true)(h:PGs X es (tGs X.K A ts)){n:Nat}(hn:(assignEach es X.env).length=n)(hl:ts.length=n)(p9:(assignEach es X.env).findIdx? (·.1)=none):PGX X A (.Tuple es k pos) (vI ts):=PG.imp' (Ou hc h hn p9) fun v σ H Q hw=>by
 obtain⟨δ,T,d,δ',E,r,e,k⟩:=hw
 cases d with
 |tup ds=>
  obtain⟨a,xs,rfl,q,rr⟩:=r.tup;refine⟨a,xs,rfl,q.sq,?_,δ,T,ds,δ',E,rr,e,k⟩
  have: ∀(ts:List Tg) (ds:List D) (δ:Dn),FK ts ds δ=some δ'->ds.length=ts.length:=by
   intro ts
   induction ts with
   |nil=>intro ds δ h;cases ds with|nil=>rfl|cons _ _=>cases h
   |cons t ts ih=>
    intro ds δ h
    cases ds with
    |nil=>cases h
    |cons d ds=>obtain⟨δ1,_,h⟩:=gg h;simp[ih ds δ1 h]
  rw[rr.length,this ts ds δ e,hl]
 |_=>cases e
end
abbrev SB:=Nat->Prop
def OwB(B:SB)(T:AP')(σ:L2.St)(δ:Dn):AP':=fun a=>(∃i,¬B i/\OwnI σ δ i a)\/T a
theorem OwB.own(h:OwB B T σ δ a):OwnA σ δ a\/T a:=h.imp (fun⟨i,_,d,h1,h2⟩=>⟨i,d,h1,h2⟩) id
structure ItOk(K:gL)(J:It)(ds:List D)(P O:AP')(H1:Hp):Prop where
 go: ∀(i:Nat) d Hi,ds[i]?=some d->(∀a o,H1 a=some o-> ¬P a->Hi a=some o)->J.go i Hi/\ ∀x H',J.yld i Hi x H'->(∀a o,Hi a=some o->H' a=some o)/\
  ∀O':AP',(∀b,H1 b≠none->O' b->O b)->(∀b,Hi b=none-> ¬O' b)->Rep K H' O' d x
 stop: ∀(i:Nat) Hi,ds.length<=i->(∀a o,H1 a=some o-> ¬P a->Hi a=some o)->J.stop i Hi
abbrev FIt:=Dn->Option (List D×Dn)
def tI(K:gL)(B:SB)(fi:FIt):TI:=fun σ H R=> ∃δ T ds δ',ER K H T σ δ/\fi δ=some (ds,δ')/\ ∀J H',Keep σ δ H δ' H'->ER K H' T σ δ'->ItOk K J ds (OwB B T σ δ') (fun a=>OwnA σ δ' a\/T a) H'->R J H'
def PIX(X:Cx)(B:SB)(tg iter:gC)(fi:FIt):Prop:=PI X tg iter (tI X.K B fi)
noncomputable def zi:D->Option (List D)
 | .tup l=>some l
 | .lst l=>some l
 |_=>none
noncomputable def EO(f:FO):FIt:=fun δ=>(f δ).bind fun p=>(res p.2 p.1).bind fun d=>(zi d).bind fun l=>some (l,p.2)
noncomputable def gW(f:F):FIt:=fun δ=>(f δ).bind fun p=>match p.1.1 with
 | .lst l=>some (l,p.2)
 | .tup l=>some (l,p.2)
 |_=>none
noncomputable def gY(lo:Int)(n:Nat):List D:=(List.range n).map fun(k:Nat)=> .int (lo+k)
noncomputable def ot(f:FO):FIt:=fun δ=>(je [f] δ).bind fun p=>match sD p.2 p.1 with
 |some [.int j]=>if -(2^62)<=j/\j<2^62 then some (gY 0 j.toNat,p.2) else none
 |_=>none
def SlB(B:SB)(f:FO):Prop:= ∀δ i δ',f δ=some (.slot i,δ')->B i
theorem LD:SlB B (gk f):=fun δ i δ' h=>by
 obtain⟨p,_,h⟩:=gg h;cases h
theorem FU(h:B i):SlB B (gh i):=fun δ j δ' e=>by
 unfold gh at e;split at e<;>cases e
 exact h
noncomputable def isL:D->Bool
 | .lst _=>true
 |_=>false
def SqA(b:Bool)(K:gL)(H:Hp)(P:AP')(a:gn)(xs:List V):Prop:=if b=true then SqLO K H P a xs else SqTO K H P a xs
theorem SqA.mono{K H H'}{P P':AP'}(q:SqA b K H P a xs)(k: ∀b o,H b=some o-> ¬P b->H' b=some o)(hP: ∀b,P' b->P b):SqA b K H' P' a xs:=by
 cases b with
 |true=>exact SqLO.mono q k fun b _=>hP b
 |false=>exact SqTO.mono (K:=K) q k fun b _=>hP b
theorem SqA.l{K H}(q:SqA true K H P a xs):SqL K H a xs:=SqLO.sq q
theorem SqA.t{K H}(q:SqA false K H P a xs):SqT K H a xs:=SqTO.sq (K:=K) q
theorem GW{K H}(h:zi d=some l)(r:Rep K H O d v): ∃a xs,v= .ref a/\SqA (isL d) K H O a xs/\RepL K H O l xs:=by
 cases d with
 |tup m=>cases h;obtain⟨a,xs,rfl,q,rr⟩:=r.tup;exact⟨a,xs,rfl,q,rr⟩
 |lst m=>cases h;obtain⟨a,xs,rfl,q,rr⟩:=r.lst;exact⟨a,xs,rfl,q,rr⟩
 |_=>cases h
theorem Ops.seq{K:gL}{T T':AP'}{σ:L2.St}{δ δ':Dn}{H H':Hp}{os:List Opd}{vs:List V}(E:ER K H T σ δ)(W:Ops K T σ δ H os vs δ' H' T'){j:Nat}(h1:os[j]?=some o)(h2:vs[j]?=some v)(hr:res δ' o=some d)(hs:zi d=some l)(hB: ∀i,o= .slot i->B i):
  ∃a xs,v= .ref a/\SqA (isL d) K H' (OwB B T σ δ') a xs/\RepL K H' (fun a=>OwnA σ δ' a\/T a) l xs:=by
 have fin:Rep K H' (fun a=>OwnA σ δ' a\/T a) d v-> ∃a xs,v= .ref a/\SqA (isL d) K H' (OwB B T σ δ') a xs/\RepL K H' (fun a=>OwnA σ δ' a\/T a) l xs:=fun r=>by
  obtain⟨a,xs,rfl,q,rr⟩:=GW hs r;exact⟨a,xs,rfl,q.mono (fun _ _ e _=>e) fun a z=>z.own,rr⟩
 cases o with
 |val r=>cases hr;exact fin (W.rep E h1 h2)
 |slot i=>
  have hk:=W.slt j i _ h1 h2
  have hd: ∃f,δ'[i]?=some (some (d,f)):=by
   unfold res at hr;dsimp only at hr;split at hr<;>cases hr
   exact⟨_,by assumption⟩
  obtain⟨f,hd⟩:=hd
  cases f with
  |false=>
   obtain⟨w,e1,e2⟩:=W.er.val i _ hd;rw[hk] at e1;cases e1;exact fin (Rep.mono (fun _ _ e _=>e) (fun b _ z=>z.imp id (W.tt b)) e2)
  |true=>
   obtain⟨a,e1,ok⟩:=W.er.own i _ hd;rw[hk] at e1;cases e1
   cases d with
   |lst m=>
    cases hs;obtain⟨xs,e,rr⟩:=ok;exact⟨a,xs,rfl,.inl ⟨.inl e,fun z=>z.elim (fun⟨k,nb,d',g1,g2⟩=>nb (W.er.inj i k _ _ a hd g1 hk g2▸hB i rfl)) fun z=>W.er.nT a ⟨i,_,hd,hk⟩ (W.tt a z)⟩,RepL.mono (fun _ _ e _=>e) (fun b _ z=>z.imp id (W.tt b)) rr⟩
   |tup m=>exact ok.elim
   |_=>cases hs
section
variable {X:Cx}{B:SB}{tg e:gC}{f:F}{fo:FO}{pos p:Pos}
theorem PI.imp'(h:PI X tg e t)(k: ∀σ H R,t' σ H R->t σ H R):PI X tg e t':=fun pins s σ H R I hw=>h pins s σ H R I (k σ H R hw)
theorem PI.or(h:PI X tg e t)(h':PI X tg e t'):PI X tg e (fun σ H R=>t σ H R\/t' σ H R):=fun pins s σ H R I hw=>hw.elim (h pins s σ H R I) (h' pins s σ H R I)
noncomputable def ItS(b:Bool)(K:gL)(a:gn):It:=if b=true then Itl K a else Itt K a
theorem Kt{K:gL}{P O:AP'}{H1:Hp}{a:gn}{xs:List V}{l:List D}(q:SqA b K H1 P a xs)(r:RepL K H1 O l xs)(hP: ∀a,P a->O a):ItOk K (ItS b K a) l P O H1:=by
 cases b<;>(
  refine⟨fun i d Hi hd hp=>?_,fun i Hi hi hp=>?_⟩
  ·have q2:=SqA.mono q hp fun _ z=>z
   first|replace q2:=q2.l|replace q2:=q2.t
   obtain⟨x,hx,rx⟩:=r.get hd;refine⟨⟨xs,x,q2,hx⟩,fun y H' hy=>?_⟩;obtain⟨rfl,hy⟩:=hy;have:=hy xs q2;rw[hx] at this;cases this;exact⟨fun _ _ e=>e,fun O' h1 h2=>Rep.mono (fun b o e n=>hp b o e fun z=>n (hP b z)) h1 rx⟩
  ·exact⟨xs,by first|exact(SqA.mono q hp fun _ z=>z).l|exact(SqA.mono q hp fun _ z=>z).t,by rw[r.length];exact hi⟩)
theorem xY{K:gL}{P O:AP'}{H1:Hp}(lo:Int)(n:Nat):ItOk K (Itr lo n) (gY lo n) P O H1:=by
 refine⟨fun i d Hi hd hp=>?_,fun i Hi hi hp=>?_⟩
 ·unfold gY at hd;rw[kF] at hd;obtain⟨k,h1,h2⟩:=iK hd;have hi:i<n:=by have:=(uI.mp h1).1;simpa using this
  have hk:k=i:=by rw[List.getElem?_range hi] at h1;exact(iE h1).symm
  subst hk;refine⟨hi,fun y H' hy=>?_⟩;obtain⟨rfl,rfl⟩:=hy;refine⟨fun _ _ e=>e,fun O' _ _=>?_⟩;rw[<-h2];exact Rep.mkInt
 ·unfold gY at hi;have:n<=i:=by simpa using hi
  exact this
theorem JF(h:PO X e fo)(hB:SlB B fo):PIX X B tg e (EO fo):=PI.imp' (PI.or (Mi (tg:=tg) h) (Ot h)) fun σ H R hw=>by
 obtain⟨δ,T,ds,δ',E,e,k⟩:=hw;obtain⟨⟨o,δ1⟩,h1,e⟩:=gg e;obtain⟨d,h2,e⟩:=gg e;obtain⟨l,h3,e⟩:=gg e;obtain⟨rfl,rfl⟩:=gK e
 have key: ∀v H1,PostO X.K T σ δ H o δ1 v H1-> ∃a xs,v= .ref a/\SqA (isL d) X.K H1 (OwB B T σ δ1) a xs/\R (ItS (isL d) X.K a) H1:=fun v H1 P=>by
  have W:=Ops.cons E P (Ops.nil (P.er E));obtain⟨a,xs,rfl,q,rr⟩:=W.seq E (j:=0) rfl rfl h2 h3 fun i hi=>hB _ _ _ (hi▸h1);exact⟨a,xs,rfl,q,k _ H1 W.keep (W.er.mono (fun _ _ e _=>e) (fun b _ z=>W.tt b z) (fun a z=>W.er.dom a (W.tt a z))) (Kt q rr fun a z=>z.own)⟩
 cases d with
 |lst m=>exact .inl ⟨δ,T,_,_,E,h1,fun v H1 P=>let⟨a,xs,e,q,r⟩:=key v H1 P;⟨a,e,⟨xs,q.l⟩,r⟩⟩
 |tup m=>exact .inr ⟨δ,T,_,_,E,h1,fun v H1 P=>let⟨a,xs,e,q,r⟩:=key v H1 P;⟨a,e,⟨xs,q.t⟩,r⟩⟩
 |_=>cases h3
theorem Mf(h:PX X e f):PIX X B tg e (gW f):=PI.imp' (JF (B:=B) (PX.po h) LD) fun σ H R hw=>by
 have:gW f=EO (gk f):=funext fun δ=>by
  unfold gW EO gk
  cases f δ with
  |none=>rfl
  |some p=>obtain⟨⟨d,o⟩,δ1⟩:=p;cases d<;>rfl
 rwa [this] at hw
end
noncomputable def qm(tg:Tg)(fb:FS):List D->FS
 |[],δ=>some (.nx δ)
 |d::ds,δ=>(tg d δ).bind fun δ1=>(fb δ1).bind fun o=>match o with
  | .nx δ2=>qm tg fb ds δ2
  | .ct δ2=>qm tg fb ds δ2
  | .bk δ2=>some (.nx δ2)
  | .rt r δ2=>some (.rt r δ2)
noncomputable def mV(fi:FIt)(tg:Tg)(fb:FS):FS:=fun δ=>(fi δ).bind fun p=>qm tg fb p.1 p.2
section
variable {X:Cx}{A L:jb}{H0:Hp}{tg iter:gC}{body:List Stmt}{fi:FIt}{t:Tg}{fb:FS}{pos:Pos}
theorem Mc(hp:PassesOwn (model X.prog X.w) X.A X.env X.xe)(hc:X.calm=true)(hi:PIX X (fun _=>False) tg iter fi)(hg:PGX X A tg t)(hb:BC X A L H0 body fb)(hs: ∀x,foldedSetIterable iter X.env x=pure x):
  PSX X A L H0 (.For tg iter body [] pos) (mV fi t fb):=PS.imp' (Ol hp hc hi hg hb hs) fun D σ H hw=>by
 obtain⟨δ,T,out,E,fY,e,k⟩:=hw;obtain⟨⟨ds,δ1⟩,h1,e⟩:=gg e;refine⟨δ,T,ds,δ1,E,h1,fun J H1 K1 E1 ok=>?_⟩;have S1:SK A σ δ H σ δ1 H1:=K1.sk;refine⟨fun i m σ' H'=>m=ds.length-i/\i<=ds.length/\ ∃δ',SK A σ δ1 H1 σ' δ' H'/\ER X.K H' T σ' δ'/\qm t fb (ds.drop i) δ'=some out,⟨ds.length,by simp,lr _,δ1,.refl,E1,by simpa using e⟩,?_⟩;rintro i m σ2 H2 ⟨rfl,hle,δ2,S2,E2,e2⟩;have aL: ∀a o,H1 a=some o-> ¬OwB (fun _=>False) T σ δ1 a->H2 a=some o:=fun a o ea n=>S2.kp a o ea fun⟨i,d,z⟩=>n (.inl ⟨i,id,d,z⟩);by_cases j7:i<ds.length
 ·refine .inr ?_;have hd:ds[i]?=some ds[i]:=iO j7;obtain⟨go,yl⟩:=ok.go i _ H2 hd aL;rw[sf j7] at e2;obtain⟨δ3,h3,e3⟩:=gg e2;obtain⟨o,h4,e4⟩:=gg e3;refine⟨go,fun σ' H'=> ∃δ',SK A σ δ1 H1 σ' δ' H'/\ER X.K H' T σ' δ'/\qm t fb (ds.drop (i+1)) δ'=some out,fun σ' H' ⟨δ',q1,q2,q3⟩=>⟨ds.length-(i+1),by omega,rfl,j7,δ',q1,q2,q3⟩,fun x H' hy=>?_⟩;obtain⟨ext,rep⟩:=yl x H' hy
  have dZ:ER X.K H' T σ2 δ2:=E2.mono (fun b ob eb _=>ext b ob eb) (fun _ _ z=>z) (fun a z=>by
   cases hh:H2 a with
   |none=>exact absurd hh (E2.dom a z)
   |some ob=>rw[ext a ob hh];simp)
  have gc:SK A σ δ1 H1 σ2 δ2 H':=S2.trans (Keep.ext ext).sk;have rx:=rep (fun a=>OwnA σ2 δ2 a\/T a) (fun b hb z=>z.elim (fun z=>(S2.ow b z).elim Or.inl fun z=>absurd z hb) Or.inr) (fun b hb z=>z.elim (fun z=>E2.ownDom z hb) fun z=>E2.dom b z hb);refine⟨δ2,T,ds[i],δ3,dZ,rx,h3,fun σ3 S3 E3=>?_⟩;have cR:=gc.trans S3;refine⟨δ3,T,o,E3,(fY.step S1).step cR,h4,?_⟩
  cases o with
  |nx δ4=>exact fun σ4 H4 S4 E4=>⟨δ4,cR.trans S4,E4,e4⟩
  |ct δ4=>exact fun σ4 H4 S4 E4=>⟨δ4,cR.trans S4,E4,e4⟩
  |bk δ4=>cases e4;exact fun σ4 H4 S4 E4=>k σ4 H4 (S1.trans (cR.trans S4)) E4
  |rt r δ4=>cases e4;exact fun v σ4 H4 S4 R4=>k v σ4 H4 (S1.trans (cR.trans S4)) R4
 ·refine .inl ⟨ok.stop i H2 (by omega) aL,?_⟩;rw[wI (by omega)] at e2;cases e2;exact k σ2 H2 (S1.trans S2) E2
end
noncomputable def nc(ft:FT)(fb:FS):Nat->FS
 |0,_=>none
 |n+1,δ=>(ft δ).bind fun p=>if p.1=true then(fb p.2).bind fun o=>(match o with
   | .nx δ2=>nc ft fb n δ2
   | .ct δ2=>nc ft fb n δ2
   | .bk δ2=>some (.nx δ2)
   | .rt r δ2=>some (.rt r δ2)) else some (.nx p.2)
noncomputable def ES(f g:FO):FIt:=fun δ=>(je [f,g] δ).bind fun p=>match sD p.2 p.1 with
 |some [.int i,.int j]=>if -(2^62)<=i/\i<2^62/\ -(2^62)<=j/\j<2^62 then some (gY i (j-i).toNat,p.2) else none
 |_=>none
section
variable {X:Cx}{A L:jb}{H0:Hp}{B:SB}{tg e c a b:gC}{body:List Stmt}{ft:FT}{fb:FS}{fa fo:FO}{pos p:Pos}
theorem G3{n:Nat}(hp:PassesOwn (model X.prog X.w) X.A X.env X.xe)(hc:PTX X c ft)(hb:BC X A L H0 body fb):PSX X A L H0 (.While c body [] pos) (nc ft fb n):=PS.imp' (Jy hp hc hb) fun D σ H hw=>by
 obtain⟨δ,T,out,E,fY,e,k⟩:=hw;refine⟨fun m σ' H'=> ∃δ',SK A σ δ H σ' δ' H'/\ER X.K H' T σ' δ'/\nc ft fb m δ'=some out,⟨n,δ,.refl,E,e⟩,?_⟩;rintro m σ2 H2 ⟨δ2,S2,E2,e2⟩
 cases m with
 |zero=>cases e2
 |succ m=>
  obtain⟨⟨c1,δ3⟩,h3,e3⟩:=gg e2;refine⟨δ2,T,c1,δ3,E2,h3,fun H3 K3 E3=>?_⟩;have S3:SK A σ δ H σ2 δ3 H3:=S2.trans K3.sk
  cases c1 with
  |false=>
   rw[gv jc] at e3;cases e3;exact QU (k σ2 H3 S3 E3)
  |true=>
   rw[gu rfl] at e3;obtain⟨o,h4,e4⟩:=gg e3;refine QR ⟨fun σ' H'=> ∃δ',SK A σ δ H σ' δ' H'/\ER X.K H' T σ' δ'/\nc ft fb m δ'=some out,fun σ' H' q=>⟨m,tq _,q⟩,δ3,T,o,E3,fY.step S3,h4,?_⟩
   cases o with
   |nx δ4=>exact fun σ4 H4 S4 E4=>⟨δ4,S3.trans S4,E4,e4⟩
   |ct δ4=>exact fun σ4 H4 S4 E4=>⟨δ4,S3.trans S4,E4,e4⟩
   |bk δ4=>cases e4;exact fun σ4 H4 S4 E4=>k σ4 H4 (S3.trans S4) E4
   |rt r δ4=>cases e4;exact fun v σ4 H4 S4 R4=>k v σ4 H4 (S3.trans S4) R4
theorem qz{K:gL}{T T':AP'}{σ:L2.St}{δ δ':Dn}{H H':Hp}{os:List Opd}{vs:List V}{ds:List D}(B:Ops K T σ δ H os vs δ' H' T')(h:sD δ' os=some ds){j:Nat}{i:Int}(hd:ds[j]?=some (.int i)):vs[j]?=some (.int i):=by
 obtain⟨h1,h2⟩:=lU h;obtain⟨o,h3,h4⟩:=h2 j _ hd;have hj:j<vs.length:=by have:=(uI.mp h3).1;have:=B.len;omega
 have hv:vs[j]?=some vs[j]:=iO hj;have:=gS (B.view h3 hv h4);rw[hv,this]
theorem Ey(hg:Gl X "range")(hm:X.mg "range"=none)(ha:PA X [a] (tA X.K [fa]))(hs:starEach [a] X.env=[(false,eval a X.env)]):PIX X B tg (.Call (.Name "range" p) [a] [] pos) (ot fa):=PI.imp' (Ha hg hm ha hs) fun σ H R hw=>by
 obtain⟨δ,T,ds,δ',E,e,k⟩:=hw;obtain⟨⟨os,δ1⟩,h1,e⟩:=gg e;refine⟨δ,T,os,δ1,E,h1,fun vs H1 T1 B=>?_⟩;dsimp only at e;split at e
 ·rename_i j hj;obtain⟨⟨c1,c2⟩,e⟩:=hW e;obtain⟨rfl,rfl⟩:=sg e;have hv:=qz B hj (j:=0) rfl;obtain⟨hl,_⟩:=lU hj
  have:vs=[.int j]:=by
   have hlen:=B.len
   cases vs with
   |nil=>simp at hv
   |cons v r=>
    cases r with
    |nil=>simp at hv;rw[hv]
    |cons _ _=>simp at hl hlen;omega
  exact⟨j,this,c1,c2,k _ H1 B.keep (B.er.mono (fun _ _ e _=>e) (fun b _ z=>B.tt b z) (fun a z=>B.er.dom a (B.tt a z))) (xY 0 j.toNat)⟩
 ·cases e
theorem Ex(hg:Gl X "range")(hm:X.mg "range"=none)(ha:PA X [a,b] (tA X.K [fa,fo]))(hs:starEach [a,b] X.env=[(false,eval a X.env),(false,eval b X.env)])(o8:starEach [b] X.env=[(false,eval b X.env)]):PIX X B tg (.Call (.Name "range" p) [a,b] [] pos) (ES fa fo):=PI.imp' (G9 hg hm ha hs o8) fun σ H R hw=>by
 obtain⟨δ,T,ds,δ',E,e,k⟩:=hw;obtain⟨⟨os,δ1⟩,h1,e⟩:=gg e;refine⟨δ,T,os,δ1,E,h1,fun vs H1 T1 B=>?_⟩;dsimp only at e;split at e
 ·rename_i i j hj;obtain⟨c1,e⟩:=hW e;obtain⟨rfl,rfl⟩:=sg e;have hv:=qz B hj (j:=0) rfl;have eE:=qz B hj (j:=1) rfl;obtain⟨hl,_⟩:=lU hj
  have:vs=[.int i,.int j]:=by
   have hlen:=B.len
   match vs,hv,eE with
   |[x,y],hv,eE=>simp at hv eE;rw[hv,eE]
   |x::y::z::r,_,_=>simp at hl hlen;omega
  exact⟨i,j,this,c1,k _ H1 B.keep (B.er.mono (fun _ _ e _=>e) (fun b _ z=>B.tt b z) (fun a z=>B.er.dom a (B.tt a z))) (xY i (j-i).toNat)⟩
 ·cases e
end
abbrev EvF:=List (D×Bool)->Option ((D×Bool)×Dn)
def spF(K:gL)(ev:EvF):Sp:=fun vs H Q _=> ∃T args r outs,ER K H T (vs.map some) (args.map some)/\ev args=some (r,outs)/\ ∀v H',Post K T (vs.map some) (args.map some) H r outs v H'->Q v H'
noncomputable def ip(args:List (D×Bool))(δ:Dn):Dn:=args.zipIdx.map fun p=>if p.1.2=true then(δ[p.2]?).join else some p.1
noncomputable def evF(n np:Nat)(asg:iA)(f:FS):EvF:=fun args=>
 if args.length=np/\np<=n/\(args.zipIdx.all fun p=>!(p.1.2&&asg.contains p.2))=true then
  match f (args.map some++List.replicate (n-np) none) with
  |some (.rt r δ)=>some (r,ip args δ)
  |some (.nx δ)=>some ((.non,false),ip args δ)
  |_=>none
 else none
theorem JW(args:List (D×Bool))(δ:Dn)(i:Nat):(ip args δ)[i]?=args[i]?.map fun x=>if x.2=true then(δ[i]?).join else some x:=by
 unfold ip;rw[kF,Io]
 cases args[i]? with
 |none=>rfl
 |some x=>simp
theorem qJ(h:x.join=some p):x=some (some p):=by
 cases x with
 |none=>cases h
 |some y=>exact rA some h
section
variable {K:gL}{T:AP'}{A:jb}{vs:List V}{args:List (D×Bool)}{H H':Hp}{m:Nat}{σ':L2.St}{δ':Dn}{r:D×Bool}{v:V}
theorem BD{α:Type}{xs:List α}{m i:Nat}{y:α}:(xs.map some++List.replicate m none)[i]?=some (some y)↔xs[i]?=some y:=by
 by_cases h:i<xs.length
 ·rw[wO (by simpa using h),kF];cases xs[i]?<;>simp
 ·rw[uZ (by simpa using h)];constructor
  ·intro e;rw[List.getElem?_replicate] at e;split at e<;>cases e
  ·intro e;exact absurd (uI.mp e).1 h
theorem qL{α:Type}{xs:List α}{i:Nat}{y:α}:(xs.map some)[i]?=some (some y)↔xs[i]?=some y:=by
 rw[kF];cases xs[i]?<;>simp
theorem HH{i:Nat}{a:gn}:OwnI (vs.map some++List.replicate m none) (args.map some++List.replicate m none) i a↔OwnI (vs.map some) (args.map some) i a:=by
 unfold OwnI;simp only[BD,qL]
theorem Cq:OwnA σ δ a↔ ∃i,OwnI σ δ i a:=Iff.rfl
theorem JV:OwnA (vs.map some++List.replicate m none) (args.map some++List.replicate m none) a↔OwnA (vs.map some) (args.map some) a:=by
 rw[Cq,Cq];exact exists_congr fun i=>HH
theorem ER.pad(E:ER K H T (vs.map some) (args.map some)):ER K H T (vs.map some++List.replicate m none) (args.map some++List.replicate m none):=by
 have len:vs.length=args.length:=by simpa using E.len
 refine⟨by simp[len],fun i d h=>?_,fun i d h=>?_,fun i j d e a h1 h2 h3 h4=>?_,fun a z=>E.nT a (JV.mp z),E.dom⟩
 ·obtain⟨w,w1,w2⟩:=E.val i d (qL.mpr (BD.mp h));exact⟨w,BD.mpr (qL.mp w1),Rep.mono (fun _ _ e _=>e) (fun b _ z=>z.imp JV.mp id) w2⟩
 ·obtain⟨w,w1,w2⟩:=E.own i d (qL.mpr (BD.mp h));exact⟨w,BD.mpr (qL.mp w1),w2.mono (fun _ _ e _=>e) (fun b _ z=>z.imp JV.mp id) fun _ e=>e⟩
 ·exact E.inj i j d e a (qL.mpr (BD.mp h1)) (qL.mpr (BD.mp h2)) (qL.mpr (BD.mp h3)) (qL.mpr (BD.mp h4))
theorem F4{T':AP'}(E:ER K H T (vs.map some) (args.map some))(S:SK A (vs.map some++List.replicate m none) (args.map some++List.replicate m none) H σ' δ' H')(hA: ∀(i:Nat) d,args[i]?=some (d,true)-> ¬A i)
  (E':ER K H' T' σ' δ')(hT: ∀b,H b≠none->T' b->T b):ER K H' T' (vs.map some) (ip args δ')/\(∀b,OwnA (vs.map some) (ip args δ') b->OwnA σ' δ' b)/\Keep (vs.map some) (args.map some) H (ip args δ') H':=by
 have len:vs.length=args.length:=by simpa using E.len
 have here: ∀(i:Nat) d w,args[i]?=some (d,true)->vs[i]?=some w->σ'[i]?=some (some w):=fun i d w h1 h2=>by
  rw[S.as i (hA i d h1)];exact BD.mpr h2
 have outI: ∀(i:Nat) d b,(ip args δ')[i]?=some (some (d,b))->(∃e,args[i]?=some (e,true)/\δ'[i]?=some (some (d,b)))\/(b=false/\args[i]?=some (d,false)):=fun i d b h=>by
  rw[JW] at h;obtain⟨⟨e,c⟩,h1,h2⟩:=iK h
  cases c with
  |true=>
   left;exact⟨e,h1,qJ (by simpa using h2)⟩
  |false=>
   right;have:some (e,false)=some (d,b):=by simpa using h2
   cases this;exact⟨rfl,h1⟩
 have aM: ∀i a,OwnI (vs.map some) (ip args δ') i a->OwnI σ' δ' i a/\OwnI (vs.map some) (args.map some) i a:=fun i a ⟨d,h1,h2⟩=>by
  rcases outI i d true h1 with⟨e,h3,h4⟩|⟨z,_⟩
  ·exact⟨⟨d,h4,here i e _ h3 (qL.mp h2)⟩,⟨e,qL.mpr h3,h2⟩⟩
  ·cases z
 have ar: ∀b,OwnA (vs.map some) (ip args δ') b->OwnA σ' δ' b:=fun b ⟨i,d,h1,h2⟩=>by
  obtain⟨⟨e,q1,q2⟩,_⟩:=aM i b ⟨d,h1,h2⟩;exact⟨i,e,q1,q2⟩
 have owA2: ∀b,OwnA (vs.map some) (ip args δ') b->OwnA (vs.map some) (args.map some) b:=fun b ⟨i,d,h1,h2⟩=>by
  obtain⟨_,⟨e,q1,q2⟩⟩:=aM i b ⟨d,h1,h2⟩;exact⟨i,e,q1,q2⟩
 have kp: ∀a o,H a=some o-> ¬OwnA (vs.map some) (args.map some) a->H' a=some o:=fun a o e n=>S.kp a o e fun z=>n (JV.mp z);refine⟨⟨?_,fun i d h=>?_,fun i d h=>?_,fun i j d e a h1 h2 h3 h4=>?_,fun a z=>E'.nT a (ar a z),E'.dom⟩,ar,⟨kp,fun i a z=>(aM i a z).2,S.dm⟩⟩
 ·simp[ip,len]
 ·have hi:i<vs.length:=by
   have:=(uI.mp h).1;simp[ip] at this;omega
  have hv:vs[i]?=some vs[i]:=iO hi;rcases outI i d false h with⟨e,h3,h4⟩|⟨_,h3⟩
  ·obtain⟨w,w1,w2⟩:=E'.val i d h4;rw[here i e _ h3 hv] at w1;cases w1;exact⟨_,qL.mpr hv,Rep.mono (fun _ _ e _=>e) (fun b _ z=>z.imp (ar b) id) w2⟩
  ·obtain⟨w,w1,w2⟩:=E.val i d (qL.mpr h3);exact⟨w,w1,Rep.mono (fun b o e n=>kp b o e fun z=>n (.inl z)) (fun b hb z=>z.imp (owA2 b) (hT b hb)) w2⟩
 ·have hi:i<vs.length:=by
   have:=(uI.mp h).1;simp[ip] at this;omega
  have hv:vs[i]?=some vs[i]:=iO hi;rcases outI i d true h with⟨e,h3,h4⟩|⟨z,_⟩
  ·obtain⟨w,w1,w2⟩:=E'.own i d h4;rw[here i e _ h3 hv] at w1;have w1':vs[i]=V.ref w:=by simpa using w1
   exact⟨w,by rw[<-w1'];exact qL.mpr hv,w2.mono (fun _ _ e _=>e) (fun b _ z=>z.imp (ar b) id) fun _ e=>e⟩
  ·cases z
 ·obtain⟨_,⟨d1,q1,q2⟩⟩:=aM i a ⟨d,h1,h3⟩;obtain⟨_,⟨d2,q3,q4⟩⟩:=aM j a ⟨e,h2,h4⟩;exact E.inj i j d1 d2 a q1 q3 q2 q4
theorem vE(E:ER K H T (vs.map some) (args.map some))(S:SK A (vs.map some++List.replicate m none) (args.map some++List.replicate m none) H σ' δ' H')(hA: ∀(i:Nat) d,args[i]?=some (d,true)-> ¬A i)
  (R:RV K T H r σ' δ' v H'):Post K T (vs.map some) (args.map some) H r (ip args δ') v H':=by
 obtain⟨d,b⟩:=r
 cases b with
 |false=>
  obtain⟨E',rv⟩:=R;obtain⟨E2,ow,kp⟩:=F4 E S hA E' (fun _ _ z=>z);exact⟨kp,E2,Rep.mono (fun _ _ e _=>e) (fun b _ z=>z.imp (ow b) id) rv⟩
 |true=>
  obtain⟨p,rfl,hp,E',ok⟩:=R;obtain⟨E2,ow,kp⟩:=F4 E S hA E' (fun b hb z=>z.elim id fun z=>by subst z;exact absurd hp hb);exact⟨kp,p,rfl,hp,E2,ok.mono (fun _ _ e _=>e) (fun b _ z=>z.imp (ow b) id) fun _ e=>e⟩
end
section
variable {P:gP}{w:gH}{K:gL}{mg:kO}{base:gQ}
theorem Pa{x qual:Str}{st:Stmt}{f:gn}{fd:mP}{N ps:iw}{k:Nat}{asg:iA}{fs:FS}(F:Fun K x qual st f fd)(S:FnScope N ps (gE st))
  (x9: ∀(i4:gB) (A:gM) (outer:List Env) (s:gr) (H:Hp) (E:XK) (L:jb),(∀i,L i->i<ps.length)->Room k (A.deeper (envOfC qual (gE st) s.heap.objs.size f i4))->
   BC (C4 CX0 P w K mg base N qual (gE st) f i4 A outer s H E).nox (fun i=>i∈asg) L H (mN st) fs):FnOk P w K mg base CX0 (k+1) f fd ps (spF K (evF N.length ps.length asg fs)):=by
 refine F.ok S (fun vs H Q E h=>?_) (fun i4 A outer s H vs Q E hr h=>?_)
 ·obtain⟨T,args,r,outs,E0,e,_⟩:=h;unfold evF at e;split at e
  ·rename_i hc;have:=E0.len;simp at this;rw[this];exact hc.1
  ·cases e
 ·obtain⟨T,args,r,outs,E0,e,kq⟩:=h;unfold evF at e;split at e
  ·rename_i hc;obtain⟨h1,h2,h3⟩:=hc;have hlen:vs.length=args.length:=by simpa using E0.len
   refine⟨_,x9 i4 A outer s H E (fun i=> ∃d,args[i]?=some (d,true)) (fun i ⟨d,hd⟩=>by have:=(uI.mp hd).1;omega) hr,?_⟩;have p9:L2.pq N vs=vs.map some++List.replicate (N.length-ps.length) none:=by unfold L2.pq;rw[hlen,h1]
   have hA: ∀(i:Nat) d,args[i]?=some (d,true)-> ¬(i∈asg):=fun i d hd hm=>by
    have hz:(args.zipIdx)[i]?=some ((d,true),i):=by rw[Io,hd];simp
    have:=nL.mp h3 _ (lQ hz);simp at this;exact this hm
   rw[p9]
   have fi:FI (fun i=> ∃d,args[i]?=some (d,true)) H (vs.map some++List.replicate (N.length-ps.length) none) (args.map some++List.replicate (N.length-ps.length) none) H:=⟨fun i a z=>by
    obtain⟨d,q1,_⟩:=HH.mp z;exact .inl ⟨d,qL.mp q1⟩,fun _ z=>z⟩
   cases hf:fs (args.map some++List.replicate (N.length-ps.length) none) with
   |none=>rw[hf] at e;cases e
   |some out=>
    rw[hf] at e;refine⟨_,T,out,E0.pad,fi,hf,?_⟩
    cases out with
    |rt r1 δ1=>
     obtain⟨rfl,rfl⟩:=gK e;exact fun v σ' H' S1 R1=>kq v H' (vE E0 S1 hA R1)
    |nx δ1=>
     obtain⟨rfl,rfl⟩:=gK e;exact fun σ' H' S1 E1=>kq .non H' (vE (r:=(.non,false)) E0 S1 hA ⟨E1,Rep.mkNon⟩)
    |bk δ1=>cases e
    |ct δ1=>cases e
  ·cases e
end
noncomputable def yB(δ:Dn):Opd->Option (D×Bool)
 | .val r=>some (r.1,false)
 | .slot i=>(δ[i]?).join
noncomputable def jo(δ:Dn):List Opd->Option (List (D×Bool))
 |[]=>some []
 |o::os=>(yB δ o).bind fun a=>(jo δ os).bind fun l=>some (a::l)
noncomputable def gR:List Opd->List (D×Bool)->List Nat
 | .slot i::os,(_,true)::as=>i::gR os as
 |_::os,_::as=>gR os as
 |_,_=>[]
noncomputable def wb:List Opd->List (D×Bool)->Dn->Dn->Dn
 | .slot i::os,(_,true)::as,o::outs,δ=>wb os as outs (δ.set i o)
 |_::os,_::as,_::outs,δ=>wb os as outs δ
 |_,_,_,δ=>δ
noncomputable def gA(ev:EvF)(fs:List FO):F:=fun δ=>(je fs δ).bind fun p=>(jo p.2 p.1).bind fun args=>if(gR p.1 args).Nodup then(ev args).bind fun q=>some (q.1,wb p.1 args q.2 p.2) else none
theorem nj{δ:Dn}: ∀{os:List Opd} {as:List (D×Bool)},jo δ os=some as->as.length=os.length/\ ∀(j:Nat) a,as[j]?=some a-> ∃o,os[j]?=some o/\yB δ o=some a
 |[],as,h=>by cases h;exact⟨rfl,fun j d h=>by simp at h⟩
 |o::os,as,h=>by
  unfold jo at h;obtain⟨d,h1,h⟩:=gg h;obtain⟨l,h2,h⟩:=gg h;cases h;obtain⟨h3,h4⟩:=nj h2;refine⟨by simp[h3],fun j e he=>?_⟩
  cases j with
  |zero=>simp at he;subst he;exact⟨o,rfl,h1⟩
  |succ j=>
   obtain⟨o',q1,q2⟩:=h4 j e (by simpa using he);exact⟨o',by simpa using q1,q2⟩
theorem qI: ∀{os:List Opd} {as:List (D×Bool)} {j i:Nat} {d:D},os[j]?=some (.slot i)->as[j]?=some (d,true)->i∈gR os as
 |[],_,_,_,_,h,_=>by simp at h
 |_::_,[],_,_,_,_,h=>by simp at h
 |o::os,(e,b)::as,0,i,d,h1,h2=>by
  simp at h1 h2;obtain⟨rfl,rfl⟩:=h2;subst h1;simp[gR]
 |o::os,(e,b)::as,j+1,i,d,h1,h2=>by
  have ih:=qI (os:=os) (as:=as) (j:=j) (i:=i) (d:=d) (by simpa using h1) (by simpa using h2)
  cases o with
  |val r=>simpa[gR] using ih
  |slot k=>
   cases b with
   |true=>simp[gR,ih]
   |false=>simpa[gR] using ih
theorem zt: ∀{os:List Opd} {as:List (D×Bool)} {i:Nat},i∈gR os as-> ∃(j:Nat) (d:D),os[j]?=some (.slot i)/\as[j]?=some (d,true)
 |[],_,_,h=>by simp[gR] at h
 |o::_,[],_,h=>by cases o<;>simp[gR] at h
 |o::os,(e,b)::as,i,h=>by
  have cf:i∈gR os as-> ∃(j:Nat) (d:D),(o::os)[j]?=some (.slot i)/\((e,b)::as)[j]?=some (d,true):=fun h=>by
   obtain⟨j,d,h1,h2⟩:=zt h;exact⟨j+1,d,by simpa using h1,by simpa using h2⟩
  cases o with
  |val r=>exact cf (by simpa[gR] using h)
  |slot k=>
   cases b with
   |true=>
    simp[gR] at h;rcases h with rfl|h
    ·exact⟨0,e,rfl,rfl⟩
    ·exact cf h
   |false=>exact cf (by simpa[gR] using h)
theorem zu: ∀{os:List Opd} {as:List (D×Bool)} {j k i:Nat} {d e:D},(gR os as).Nodup->os[j]?=some (.slot i)->as[j]?=some (d,true)->os[k]?=some (.slot i)->as[k]?=some (e,true)->j=k
 |[],_,_,_,_,_,_,_,h,_,_,_=>by simp at h
 |_::_,[],_,_,_,_,_,_,_,h,_,_=>by simp at h
 |o::os,(e0,b)::as,j,k,i,d,e,nd,h1,h2,h3,h4=>by
  cases j with
  |zero=>
   cases k with
   |zero=>rfl
   |succ k=>
    simp at h1 h2;obtain⟨rfl,rfl⟩:=h2;subst h1;have:=qI (os:=os) (as:=as) (j:=k) (by simpa using h3) (by simpa using h4);simp[gR] at nd;exact absurd this nd.1
  |succ j=>
   cases k with
   |zero=>
    simp at h3 h4;obtain⟨rfl,rfl⟩:=h4;subst h3;have:=qI (os:=os) (as:=as) (j:=j) (by simpa using h1) (by simpa using h2);simp[gR] at nd;exact absurd this nd.1
   |succ k=>
    have dB:(gR os as).Nodup:=by
     cases o with
     |val r=>simpa[gR] using nd
     |slot m=>
      cases b with
      |true=>simp[gR] at nd;exact nd.2
      |false=>simpa[gR] using nd
    have:=zu (os:=os) (as:=as) (j:=j) (k:=k) dB (by simpa using h1) (by simpa using h2) (by simpa using h3) (by simpa using h4);omega
theorem wZ: ∀{os:List Opd} {as:List (D×Bool)} {outs δ:Dn} {i:Nat},i∉gR os as->(wb os as outs δ)[i]?=δ[i]?
 |[],_,_,_,_,_=>by simp[wb]
 |o::_,[],_,_,_,_=>by cases o<;>simp[wb]
 |o::os,(e,b)::as,[],_,_,_=>by cases o<;>cases b<;>simp[wb]
 |o::os,(e,b)::as,x::outs,δ,i,h=>by
  cases o with
  |val r=>simp only[wb];exact wZ (by simpa[gR] using h)
  |slot k=>
   cases b with
   |true=>
    simp[gR] at h;rw[wb,wZ h.2,rB (oX h.1)]
   |false=>simp only[wb];exact wZ (by simpa[gR] using h)
theorem xa: ∀{os:List Opd} {as:List (D×Bool)} {outs δ:Dn},(wb os as outs δ).length=δ.length
 |[],_,_,_=>by simp[wb]
 |o::_,[],_,_=>by cases o<;>simp[wb]
 |o::os,(e,b)::as,[],_=>by cases o<;>cases b<;>simp[wb]
 |o::os,(e,b)::as,x::outs,δ=>by
  cases o with
  |val r=>simp only[wb];exact xa
  |slot k=>
   cases b with
   |true=>simp only[wb];rw[xa,rm]
   |false=>simp only[wb];exact xa
theorem FF: ∀{os:List Opd} {as:List (D×Bool)} {outs δ:Dn} {i j:Nat} {d:D} {x:Sl},(gR os as).Nodup->os[j]?=some (.slot i)->as[j]?=some (d,true)->outs[j]?=some x->i<δ.length->(wb os as outs δ)[i]?=some x
 |[],_,_,_,_,_,_,_,_,h,_,_,_=>by simp at h
 |o::_,[],_,_,_,_,_,_,_,_,h,_,_=>by simp at h
 |o::os,(e,b)::as,[],_,_,_,_,_,_,_,_,h,_=>by simp at h
 |o::os,(e,b)::as,y::outs,δ,i,0,d,x,nd,h1,h2,h3,hi=>by
  simp at h1 h2 h3;obtain⟨rfl,rfl⟩:=h2;subst h1;subst h3;simp[gR] at nd;rw[wb,wZ nd.1,pJ hi]
 |o::os,(e,b)::as,y::outs,δ,i,j+1,d,x,nd,h1,h2,h3,hi=>by
  have dB:(gR os as).Nodup:=by
   cases o with
   |val r=>simpa[gR] using nd
   |slot m=>
    cases b with
    |true=>simp[gR] at nd;exact nd.2
    |false=>simpa[gR] using nd
  cases o with
  |val r=>simp only[wb];exact FF dB (by simpa using h1) (by simpa using h2) (by simpa using h3) hi
  |slot k=>
   cases b with
   |true=>simp only[wb];exact FF dB (by simpa using h1) (by simpa using h2) (by simpa using h3) (by rw[rm];exact hi)
   |false=>simp only[wb];exact FF dB (by simpa using h1) (by simpa using h2) (by simpa using h3) hi
section
variable {K:gL}{T T1:AP'}{σ:L2.St}{δ δ1:Dn}{H H1 H':Hp}{os:List Opd}{vs:List V}{args:List (D×Bool)}{outs:Dn}{r:D×Bool}{v:V}
noncomputable def Tc(T:AP')(σ:L2.St)(δ1:Dn)(vs:List V)(args:List (D×Bool)):AP':=fun a=>T a\/(OwnA σ δ1 a/\ ¬OwnA (vs.map some) (args.map some) a)
theorem ug(B:Ops K T σ δ H os vs δ1 H1 T1)(ha:jo δ1 os=some args){j:Nat}{d:D}(h:args[j]?=some (d,true)): ∃(i:Nat) (a:gn),os[j]?=some (.slot i)/\δ1[i]?=some (some (d,true))/\vs[j]?=some (.ref a)/\σ[i]?=some (some (.ref a)):=by
 obtain⟨hl,hg⟩:=nj ha;obtain⟨o,h1,h2⟩:=hg j _ h
 cases o with
 |val r=>cases h2
 |slot i=>
  have h3:δ1[i]?=some (some (d,true)):=qJ h2;have hj:j<vs.length:=by have:=(uI.mp h1).1;have:=B.len;omega
  have hv:vs[j]?=some vs[j]:=iO hj;have h4:=B.slt j i _ h1 hv;obtain⟨a,h5,_⟩:=B.er.own i d h3;rw[h4] at h5;have:vs[j]=V.ref a:=by simpa using h5
  exact⟨i,a,h1,h3,by rw[hv,this],by rw[h4,this]⟩
theorem CF(B:Ops K T σ δ H os vs δ1 H1 T1)(ha:jo δ1 os=some args){j:Nat}{a:gn}(h:OwnI (vs.map some) (args.map some) j a): ∃(i:Nat) (d:D),os[j]?=some (.slot i)/\args[j]?=some (d,true)/\OwnI σ δ1 i a:=by
 obtain⟨d,h1,h2⟩:=h;have h1':=qL.mp h1;obtain⟨i,b,q1,q2,q3,q4⟩:=ug B ha h1';have:=qL.mp h2;rw[q3] at this;cases this;exact⟨i,d,q1,h1',d,q2,q4⟩
theorem Gf(B:Ops K T σ δ H os vs δ1 H1 T1)(ha:jo δ1 os=some args)(h:OwnA (vs.map some) (args.map some) a):OwnA σ δ1 a:=by
 obtain⟨j,d,h1,h2⟩:=h;obtain⟨i,_,_,_,e,q1,q2⟩:=CF B ha ⟨d,h1,h2⟩;exact⟨i,e,q1,q2⟩
theorem Gv(E:ER K H T σ δ)(B:Ops K T σ δ H os vs δ1 H1 T1)(ha:jo δ1 os=some args)(nd:(gR os args).Nodup):ER K H1 (Tc T σ δ1 vs args) (vs.map some) (args.map some):=by
 obtain⟨hl,hg⟩:=nj ha
 have sub: ∀b,(OwnA (vs.map some) (args.map some) b\/Tc T σ δ1 vs args b)->OwnA σ δ1 b\/T b:=fun b z=>by
  rcases z with z|z|z
  ·exact .inl (Gf B ha z)
  ·exact .inr z
  ·exact .inl z.1
 refine⟨by simp[hl,B.len],fun j d h=>?_,fun j d h=>?_,fun j k d e a h1 h2 h3 h4=>?_,fun a z t=>?_,fun a z=>?_⟩
 ·have h:=qL.mp h;obtain⟨o,h1,h2⟩:=hg j _ h;have hj:j<vs.length:=by have:=(uI.mp h1).1;have:=B.len;omega
  have hv:vs[j]?=some vs[j]:=iO hj;refine⟨_,qL.mpr hv,?_⟩
  cases o with
  |val q=>
   have:q.1=d:=by cases h2;rfl
   subst this;exact Rep.mono (fun _ _ e _=>e) (fun b _ z=>sub b z) (B.rep E h1 hv)
  |slot i=>
   have h3:δ1[i]?=some (some (d,false)):=qJ h2;have h4:=B.slt j i _ h1 hv;obtain⟨w,w1,w2⟩:=B.er.val i d h3;rw[h4] at w1;have:vs[j]=w:=by simpa using w1
   rw[this];exact Rep.mono (fun _ _ e _=>e) (fun b _ z=>(sub b z).imp id (B.tt b)) w2
 ·obtain⟨i,a,q1,q2,q3,q4⟩:=ug B ha (qL.mp h);obtain⟨b,h5,h6⟩:=B.er.own i d q2;rw[q4] at h5;cases h5;exact⟨a,qL.mpr q3,h6.mono (fun _ _ e _=>e) (fun b _ z=>(sub b z).imp id (B.tt b)) fun _ e=>e⟩
 ·obtain⟨i,d1,q1,q2,e1,q3,q4⟩:=CF B ha ⟨d,h1,h3⟩;obtain⟨i2,d2,g1,g2,e2,g3,g4⟩:=CF B ha ⟨e,h2,h4⟩;have:=B.er.inj i i2 e1 e2 a q3 g3 q4 g4;subst this;exact zu nd q1 q2 g1 g2
 ·rcases t with t|t
  ·exact B.er.nT a (Gf B ha z) (B.tt a t)
  ·exact t.2 z
 ·rcases z with z|z
  ·exact B.er.dom a (B.tt a z)
  ·exact B.er.ownDom z.1
theorem Gw{T' Td:AP'}(E:ER K H T σ δ)(B:Ops K T σ δ H os vs δ1 H1 T1)(ha:jo δ1 os=some args)(nd:(gR os args).Nodup)(kC:Keep (vs.map some) (args.map some) H1 outs H')
  (E':ER K H' Td (vs.map some) outs)(t1: ∀b,Tc T σ δ1 vs args b->Td b)(t2: ∀b,T' b->Td b)(t3: ∀b,H1 b≠none->T' b->T b):
  ER K H' T' σ (wb os args outs δ1)/\(∀b,OwnA σ (wb os args outs δ1) b->OwnA (vs.map some) outs b\/Tc T σ δ1 vs args b)/\Keep σ δ1 H1 (wb os args outs δ1) H':=by
 obtain⟨hl,hg⟩:=nj ha;have ol:outs.length=args.length:=by have:=E'.len;have:=B.len;simp at*;omega
 have aK: ∀(i:Nat) (x:Sl),(wb os args outs δ1)[i]?=some x->(i∉gR os args/\δ1[i]?=some x)\/ ∃(j:Nat) (d:D),os[j]?=some (.slot i)/\args[j]?=some (d,true)/\outs[j]?=some x:=fun i x h=>by
  by_cases hm:i∈gR os args
  ·right;obtain⟨j,d,h1,h2⟩:=zt hm;have hj:j<outs.length:=by have:=(uI.mp h2).1;omega
   have ho:outs[j]?=some outs[j]:=iO hj;have hi:i<δ1.length:=by have:=(uI.mp h).1;rwa [xa] at this
   have:=FF (δ:=δ1) nd h1 h2 ho hi;rw[h] at this;cases this;exact⟨j,d,h1,h2,ho⟩
  ·left;rw[wZ hm] at h;exact⟨hm,h⟩
 have notL: ∀{i:Nat} {a:gn},i∉gR os args->OwnI σ δ1 i a-> ¬OwnA (vs.map some) (args.map some) a:=fun {i a} hm ⟨e,q1,q2⟩ ⟨j,d,h1,h2⟩=>by
  obtain⟨i2,d2,g1,g2,e2,g3,g4⟩:=CF B ha ⟨d,h1,h2⟩;have:=B.er.inj i i2 e e2 a q1 g3 q2 g4;subst this;exact hm (qI g1 g2)
 have aM: ∀i a,OwnI σ (wb os args outs δ1) i a->OwnI σ δ1 i a/\(OwnA (vs.map some) outs a\/Tc T σ δ1 vs args a):=fun i a ⟨d,h1,h2⟩=>by
  rcases aK i _ h1 with⟨hm,h3⟩|⟨j,e,g1,g2,g3⟩
  ·exact⟨⟨d,h3,h2⟩,.inr (.inr ⟨⟨i,d,h3,h2⟩,notL hm ⟨d,h3,h2⟩⟩)⟩
  ·obtain⟨i2,b,q1,q2,q3,q4⟩:=ug B ha g2;rw[g1] at q1;cases q1;rw[h2] at q4;cases q4;exact⟨⟨e,q2,h2⟩,.inl ⟨j,d,g3,qL.mpr q3⟩⟩
 have ar: ∀b,OwnA σ (wb os args outs δ1) b->OwnA (vs.map some) outs b\/Tc T σ δ1 vs args b:=fun b ⟨i,d,h1,h2⟩=>(aM i b ⟨d,h1,h2⟩).2
 have eh: ∀b,OwnA σ (wb os args outs δ1) b->OwnA σ δ1 b:=fun b ⟨i,d,h1,h2⟩=>by
  obtain⟨⟨e,q1,q2⟩,_⟩:=aM i b ⟨d,h1,h2⟩;exact⟨i,e,q1,q2⟩
 have kp: ∀a o,H1 a=some o-> ¬OwnA σ δ1 a->H' a=some o:=fun a o e n=>kC.kp a o e fun z=>n (Gf B ha z)
 have subO: ∀b,(OwnA σ (wb os args outs δ1) b\/T' b)->OwnA (vs.map some) outs b\/Td b:=fun b z=>by
  rcases z with z|z
  ·exact(ar b z).imp id (t1 b)
  ·exact .inr (t2 b z)
 refine⟨⟨by rw[xa];exact B.er.len,fun i d h=>?_,fun i d h=>?_,fun i k d e a h1 h2 h3 h4=>?_,fun a z t=>?_,fun a z=>E'.dom a (t2 a z)⟩,ar,⟨kp,fun i a z=>(aM i a z).1,kC.dm⟩⟩
 ·rcases aK i _ h with⟨hm,h3⟩|⟨j,e,g1,g2,g3⟩
  ·obtain⟨w,w1,w2⟩:=B.er.val i d h3;exact⟨w,w1,Rep.mono (fun b o e n=>kp b o e fun z=>n (.inl z)) (fun b hb z=>z.imp (eh b) fun z=>B.tt b (t3 b hb z)) w2⟩
  ·obtain⟨i2,b,q1,q2,q3,q4⟩:=ug B ha g2;rw[g1] at q1;cases q1;obtain⟨w,w1,w2⟩:=E'.val j d g3;have:=qL.mp w1;rw[q3] at this;cases this;exact⟨_,q4,Rep.mono (fun _ _ e _=>e) (fun b _ z=>subO b z) w2⟩
 ·rcases aK i _ h with⟨hm,h3⟩|⟨j,e,g1,g2,g3⟩
  ·obtain⟨a,w1,w2⟩:=B.er.own i d h3;exact⟨a,w1,w2.mono (fun b o e n=>kp b o e fun z=>n (.inl z)) (fun b hb z=>z.imp (eh b) fun z=>B.tt b (t3 b hb z)) fun o e=>kC.kp a o e (notL hm ⟨d,h3,w1⟩)⟩
  ·obtain⟨i2,b,q1,q2,q3,q4⟩:=ug B ha g2;rw[g1] at q1;cases q1;obtain⟨a,w1,w2⟩:=E'.own j d g3;have:=qL.mp w1;rw[q3] at this;cases this;exact⟨_,q4,w2.mono (fun _ _ e _=>e) (fun b _ z=>subO b z) fun _ e=>e⟩
 ·obtain⟨⟨e1,q1,q2⟩,_⟩:=aM i a ⟨d,h1,h3⟩;obtain⟨⟨e2,q3,q4⟩,_⟩:=aM k a ⟨e,h2,h4⟩;exact B.er.inj i k e1 e2 a q1 q3 q2 q4
 ·exact B.er.nT a (eh a z) (B.tt a (t3 a (B.er.ownDom (eh a z)) t))
theorem De(E:ER K H T σ δ)(B:Ops K T σ δ H os vs δ1 H1 T1)(ha:jo δ1 os=some args)(nd:(gR os args).Nodup)(P:Post K (Tc T σ δ1 vs args) (vs.map some) (args.map some) H1 r outs v H'):
  Post K T σ δ H r (wb os args outs δ1) v H':=by
 obtain⟨d,b⟩:=r
 cases b with
 |false=>
  obtain⟨kC,E',rv⟩:=P;obtain⟨E2,ow,k2⟩:=Gw (T':=T) E B ha nd kC E' (fun _ z=>z) (fun _ z=> .inl z) (fun _ _ z=>z);refine⟨B.keep.trans k2,E2,Rep.mono (fun _ _ e _=>e) (fun b _ z=>?_) rv⟩;rcases z with z|z
  ·exact ow b z
  ·exact .inr (.inl z)
 |true=>
  obtain⟨kC,p,rfl,hp,E',ok⟩:=P;obtain⟨E2,ow,k2⟩:=Gw (T':=fun a=>T a\/a=p) E B ha nd kC E' (fun _ z=> .inl z) (fun b z=>z.elim (fun z=> .inl (.inl z)) .inr) (fun b hb z=>z.elim id fun z=>by subst z;exact absurd hp hb);refine⟨B.keep.trans k2,p,rfl,?_,E2,ok.mono (fun _ _ e _=>e) (fun b _ z=>?_) fun _ e=>e⟩
  ·cases hH:H p with
   |none=>rfl
   |some ob=>exact absurd hp (B.keep.dm p (by rw[hH];simp))
  ·rcases z with z|z|z
   ·exact(ow b z).imp id .inl
   ·exact .inr (.inl (.inl z))
   ·exact .inr (.inr z)
end
section
variable {X:Cx}{e:gC}{es:jl}{fs:List FO}{pos p:Pos}{k:Nat}{f:gn}{fd:mP}{ps:iw}{ev:EvF}{x:Str}
theorem LN(F:FnOk X.prog X.w X.K X.mg X.base CX0 k f fd ps (spF X.K ev))(hr:Room k X.A)(hg:Gl X x)(hm:X.mg x=some (.ref f))(hk:PySem.W.keepIn X.K (.ref f)=true)(hb:Binds X.K fd ps [])
  (ha:PA X (e::es) (tA X.K fs))(l5:(x==("__debug__":Str))=false)(he:starEach (e::es) X.env=(false,eval e X.env)::starEach es X.env)(j9:(backTo pos (starEach es X.env)).any (·.1)=false):
  PX X (.Call (.Name x p) (e::es) [] pos) (gA ev fs):=PX.imp (Mn F hr hg hm hk hb (.nil) Qy ha l5 he j9) fun σ H Q hw=>by
 obtain⟨δ,T,rr,δ',E,e,k⟩:=hw;obtain⟨⟨os,δ1⟩,h1,e⟩:=gg e;obtain⟨args,h2,e⟩:=gg e;dsimp only at e;split at e
 ·rename_i nd;obtain⟨⟨r,outs⟩,h3,e⟩:=gg e;obtain⟨rfl,rfl⟩:=gK e;refine⟨δ,T,os,δ1,E,h1,fun vs H1 T1 B=>?_⟩;show spF X.K ev (vs++[]) H1 Q E0;rw[tH];exact⟨Tc T σ δ1 vs args,args,r,outs,Gv E B h2 nd,h3,fun v H' P=>k v H' (De E B h2 nd P)⟩
 ·cases e
end
structure SKd(A:jb)(d:gn)(σ:L2.St)(δ:Dn)(H:Hp)(σ':L2.St)(δ':Dn)(H':Hp):Prop where
 kp: ∀a o,H a=some o-> ¬OwnA σ δ a->a≠d->H' a=some o
 owi: ∀i a,OwnI σ' δ' i a->OwnI σ δ i a\/H a=none
 dm: ∀a,H a≠none->H' a≠none
 as: ∀i,¬A i->σ'[i]?=σ[i]?
section
variable {A:jb}{d:gn}{σ σ1 σ2:L2.St}{δ δ1 δ2:Dn}{H H1 H2:Hp}
theorem SK.skd(k:SK A σ δ H σ1 δ1 H1):SKd A d σ δ H σ1 δ1 H1:=⟨fun a o e n _=>k.kp a o e n,k.owi,k.dm,k.as⟩
theorem SKd.ow(k:SKd A d σ δ H σ1 δ1 H1)(a:gn)(h:OwnA σ1 δ1 a):OwnA σ δ a\/H a=none:=by
 obtain⟨i,e,h1,h2⟩:=h;rcases k.owi i a ⟨e,h1,h2⟩ with⟨e,h3,h4⟩|z
 ·exact .inl ⟨i,e,h3,h4⟩
 ·exact .inr z
theorem SKd.trans(x:SKd A d σ δ H σ1 δ1 H1)(y:SKd A d σ1 δ1 H1 σ2 δ2 H2):SKd A d σ δ H σ2 δ2 H2 where
 kp:=fun a o e n nd=>y.kp a o (x.kp a o e n nd) (fun z=>(x.ow a z).elim n fun z=>by rw[z] at e;cases e) nd
 owi:=fun i a z=>(y.owi i a z).elim (x.owi i a) fun z=> .inr (by
  cases h:H a with
  |none=>rfl
  |some o=>exact absurd z (x.dm a (by rw[h];simp)))
 dm:=fun a z=>y.dm a (x.dm a z)
 as:=fun i h=>(y.as i h).trans (x.as i h)
end
structure BS(K:gL)(d:gn)(T:AP')(σ:L2.St)(δ:Dn)(acc:List D)(H:Hp):Prop where
 er:ER K H T σ δ
 td:T d
 at': ∃ys,H d=some (.lst ys)/\RepL K H (fun a=>OwnA σ δ a\/T a) acc ys
abbrev FB:=List D->Dn->Option (List D×Dn)
def tBx(K:gL)(A:jb)(d:gn)(f:FB):TB:=fun σ H N=> ∃δ T acc i6 δ',BS K d T σ δ acc H/\f acc δ=some (i6,δ')/\ ∀σ' H',SKd A d σ δ H σ' δ' H'->BS K d T σ' δ' i6 H'->N σ' H'
noncomputable def gZ(f:F):FB:=fun acc δ=>(f δ).bind fun p=>if acc.length<sizeLine then some (acc++[p.1.1],p.2) else none
noncomputable def jM(tg:Tg)(ti:FT)(fb:FB):List D->FB
 |[],acc,δ=>some (acc,δ)
 |x::xs,acc,δ=>(tg x δ).bind fun δ1=>(ti δ1).bind fun p=>(if p.1=true then fb acc p.2 else some (acc,p.2)).bind fun q=>jM tg ti fb xs q.1 q.2
noncomputable def Fp(fi:FIt)(tg:Tg)(ti:FT)(fb:FB):FB:=fun acc δ=>(fi δ).bind fun p=>jM tg ti fb p.1 acc p.2
section
variable {K:gL}{A:jb}{d:gn}{T:AP'}{σ σ1:L2.St}{δ δ1:Dn}{acc:List D}{H H1:Hp}
theorem BS.step(b:BS K d T σ δ acc H)(k:SK A σ δ H σ1 δ1 H1)(E1:ER K H1 T σ1 δ1):BS K d T σ1 δ1 acc H1:=by
 obtain⟨ys,h1,h2⟩:=b.at';refine⟨E1,b.td,ys,k.kp d _ h1 fun z=>b.er.nT d z b.td,RepL.mono (fun b o e n=>k.kp b o e fun z=>n (.inl z)) (fun c hc z=>?_) h2⟩;rcases z with z|z
 ·exact(k.ow c z).elim Or.inl fun z=>absurd z hc
 ·exact .inr z
theorem Gd(hg: ∀v σ H Q,tG K A tg v σ H Q->g v σ H Q)(hi: ∀σ H Q,tT K ft σ H Q->ti σ H Q)(hb: ∀σ H N,tBx K A d fb σ H N->tb σ H N)
  (b:BS K d T σ δ acc H)(P O:AP')(ok:ItOk K J ds P O H1)(s1: ∀a o,H1 a=some o-> ¬P a->H a=some o)(s0: ∀a,H1 a≠none->OwnA σ δ a\/a=d->P a)(s2: ∀a,H1 a≠none->(OwnA σ δ a\/T a)->O a)(s3: ∀a,H1 a≠none->H a≠none)(e:jM tg ft fb ds acc δ=some (i6,δ'))
  (k: ∀σ' H',SKd A d σ δ H σ' δ' H'->BS K d T σ' δ' i6 H'->N σ' H'):FP J g ti tb σ H N:=by
 refine⟨fun i m σ2 H2=>m=ds.length-i/\i<=ds.length/\ ∃δ2 bf,SKd A d σ δ H σ2 δ2 H2/\BS K d T σ2 δ2 bf H2/\jM tg ft fb (ds.drop i) bf δ2=some (i6,δ'),⟨ds.length,by simp,lr _,δ,acc,SK.refl.skd,b,by simpa using e⟩,?_⟩;rintro i m σ2 H2 ⟨rfl,hle,δ2,bf,S2,B2,e2⟩
 have hO: ∀a,H1 a≠none->(OwnA σ2 δ2 a\/T a)->O a:=fun a ha z=>by
  rcases z with z|z
  ·exact(S2.ow a z).elim (fun z=>s2 a ha (.inl z)) fun z=>absurd z (s3 a ha)
  ·exact s2 a ha (.inr z)
 have aL: ∀a o,H1 a=some o-> ¬P a->H2 a=some o:=fun a o ea n=>S2.kp a o (s1 a o ea n) (fun z=>n (s0 a (by rw[ea];simp) (.inl z))) fun z=>n (s0 a (by rw[ea];simp) (.inr z));by_cases j7:i<ds.length
 ·refine .inr ?_;have hd:ds[i]?=some ds[i]:=iO j7;obtain⟨go,yl⟩:=ok.go i _ H2 hd aL;rw[sf j7] at e2;obtain⟨δ3,h3,e3⟩:=gg e2;obtain⟨⟨c,δ4⟩,h4,e4⟩:=gg e3;obtain⟨⟨acc5,δ5⟩,h5,e5⟩:=gg e4;refine⟨go,fun x H' hy=>?_⟩;obtain⟨ext,rep⟩:=yl x H' hy
  have dZ:ER K H' T σ2 δ2:=B2.er.mono (fun b ob eb _=>ext b ob eb) (fun _ _ z=>z) (fun a z=>by
   cases hh:H2 a with
   |none=>exact absurd hh (B2.er.dom a z)
   |some ob=>rw[ext a ob hh];simp)
  have SX:SK A σ2 δ2 H2 σ2 δ2 H':=(Keep.ext ext).sk;have B2':=B2.step SX dZ;have gc:SKd A d σ δ H σ2 δ2 H':=S2.trans SX.skd;have rx:=rep (fun a=>OwnA σ2 δ2 a\/T a) hO (fun b hb z=>z.elim (fun z=>B2.er.ownDom z hb) fun z=>B2.er.dom b z hb);refine hg _ _ _ _ ⟨δ2,T,ds[i],δ3,dZ,rx,h3,fun σ3 S3 E3=>?_⟩;have B3:=B2'.step S3 E3;have cR:=gc.trans S3.skd;refine hi _ _ _ ⟨δ3,T,c,δ4,E3,h4,fun H4 K4 E4=>?_⟩;have S4:SK A σ3 δ3 H' σ3 δ4 H4:=K4.sk;have B4:=B3.step S4 E4;have S4':=cR.trans S4.skd
  cases c with
  |false=>
   rw[gv jc] at h5;obtain⟨rfl,rfl⟩:=gK h5;exact QU ⟨ds.length-(i+1),by omega,rfl,j7,δ4,bf,S4',B4,e5⟩
  |true=>
   rw[gu rfl] at h5;exact QR (hb _ _ _ ⟨δ4,T,bf,acc5,δ5,B4,h5,fun σ5 H5 S5 B5=>⟨ds.length-(i+1),by omega,rfl,j7,δ5,acc5,S4'.trans S5,B5,e5⟩⟩)
 ·refine .inl ⟨ok.stop i H2 (by omega) aL,?_⟩;rw[wI (by omega)] at e2;obtain⟨rfl,rfl⟩:=gK e2;exact k σ2 H2 S2 B2
end
section
variable {X:Cx}{A:jb}{d:gn}{elt:gC}{f:F}
theorem PB.imp'{code:Sem Unit}{t t':TB}(h:PB X code t)(k: ∀σ H N,t' σ H N->t σ H N):PB X code t':=fun pins s σ H N I hw=>h pins s σ H N I (k σ H N hw)
theorem JU{gens:pv}{sc:jD}{p:Pos}{depth:Nat}(hn:gens[depth+1]?=none)(he:PX X elt f):PB X (iL (.ListComp elt gens sc p) depth (.ref d) X.env) (tBx X.K A d (gZ f)):=PB.imp' (Mp hn he) fun σ H N hw=>by
 obtain⟨δ,T,acc,i6,δ',B,e,k⟩:=hw;obtain⟨⟨r,δ1⟩,h1,e⟩:=gg e;obtain⟨hz,e⟩:=hW e;obtain⟨rfl,rfl⟩:=sg e;refine⟨δ,T,r,δ1,B.er,h1,fun v H1 P=>?_⟩;obtain⟨E1,rv⟩:=P.rep B.er;have S1:SK A σ δ H σ δ1 H1:=P.1.sk;have B1:=B.step S1 E1;obtain⟨ys,hy,ry⟩:=B1.at';refine⟨ys,hy,by rw[ry.length];exact hz,k σ _ ?_ ?_⟩
 ·have:SKd A d σ δ1 H1 σ δ1 (upd H1 d (.lst (ys++[v]))):=⟨fun a o e n nd=>by rw[iq nd];exact e,fun i a z=> .inl z,fun a z=>by
   by_cases ha:a=d
   ·subst ha;rw[ik];simp
   ·rw[iq ha];exact z,fun _ _=>rfl⟩
  exact S1.skd.trans this
 ·have hk: ∀b o,H1 b=some o-> ¬T b->upd H1 d (.lst (ys++[v])) b=some o:=fun b o e n=>by rw[iq (by intro z;subst z;exact n B.td)];exact e
  have hd: ∀a,T a->upd H1 d (.lst (ys++[v])) a≠none:=fun a z=>by
   by_cases ha:a=d
   ·subst ha;rw[ik];simp
   ·rw[iq ha];exact E1.dom a z
  refine⟨E1.mono hk (fun _ _ z=>z) hd,B.td,ys++[v],ik,?_⟩;exact RepL.mono (fun b o e n=>hk b o e fun z=>n (.inr z)) (fun _ _ z=>z) (ry.append (RepL.one rv))
theorem Mo{e:gC}{depth:Nat}{c:nN}{fi:FIt}{tg:Tg}{ft:FT}{fb:FB}(cu:X.xe=fun _ _=>False)(hc:X.calm=true)
  (hl:(∃elt gens sc p,e= .ListComp elt gens sc p)\/(∃elt gens sc p,e= .SetComp elt gens sc p))(hg:(clausesOf e)[depth+1]?=some c)(ha:c.is_async=0)(n8: ∀g',(clausesOf e)[depth+1+1]?=some g'->g'.is_async=0)
  (hs: ∀x,foldedSetIterable c.iter X.env x=pure x)(pi:PIX X (fun _=>False) c.target c.iter fi)(pg:PGX X A c.target tg)(bD:PIf X c.ifs (tT X.K ft))(pb:PB X (iL e (depth+1) (.ref d) X.env) (tBx X.K A d fb)):
  PB X (iL e depth (.ref d) X.env) (tBx X.K A d (Fp fi tg ft fb)):=PB.imp' (OD cu hc hl hg ha n8 hs pi pg bD pb) fun σ H N hw=>by
 obtain⟨δ,T,acc,i6,δ',B,e,k⟩:=hw;obtain⟨⟨ds,δ1⟩,h1,e⟩:=gg e;refine⟨δ,T,ds,δ1,B.er,h1,fun J H1 K1 E1 ok=>?_⟩;have S1:SK A σ δ H σ δ1 H1:=K1.sk;exact Gd (fun _ _ _ _ h=>h) (fun _ _ _ h=>h) (fun _ _ _ h=>h) (B.step S1 E1) _ _ ok (fun a o e _=>e) (fun a _ z=>z.elim (fun⟨i,x,z⟩=> .inl ⟨i,id,x,z⟩) fun z=> .inr (z▸B.td)) (fun a _ z=>z) (fun a z=>z) e fun σ' H' S' B'=>k σ' H' (S1.skd.trans S') B'
end
noncomputable def gX(caps:iA)(k:Nat)(fi:FIt)(tg:Tg)(ti:FT)(fb:FB):F:=fun δ=>(fi δ).bind fun p=>(jo p.2 (caps.map .slot)).bind fun args=>
 if(gR (caps.map .slot) args).Nodup then(jM tg ti fb p.1 [] (args.map some++List.replicate k none)).bind fun q=>some ((.lst q.1,true),wb (caps.map .slot) args (ip args q.2) p.2) else none
noncomputable def G7(caps:iA)(k:Nat)(σ:L2.St):L2.St:=(caps.map fun j=>(σ[j]?).join)++List.replicate k none
theorem C9{K:gL}{caps:iA}{k:Nat}{fi:FIt}{tg:Tg}{ti:FT}{fb:FB}{σ:L2.St}{H:Hp}{Q:VK}(h:tF K (gX caps k fi tg ti fb) σ H Q):
  IZ (tI K (fun i=>i∉caps) fi) (tG K (fun i=>caps.length<=i) tg) (tT K ti) (fun d=>tBx K (fun i=>caps.length<=i) d fb) (G7 caps k) σ H Q:=by
 obtain⟨δ,T,rr,δr,E,e,kq⟩:=h;obtain⟨⟨ds,δ1⟩,h1,e⟩:=gg e;obtain⟨args,ha,e⟩:=gg e;dsimp only at e ha;split at e
 case isFalse=>cases e
 rename_i nd;obtain⟨⟨acc,δ'⟩,h2,e⟩:=gg e;obtain⟨rfl,rfl⟩:=gK e;refine⟨δ,T,ds,δ1,E,h1,fun J H1 K1 E1 ok d hd=>?_⟩;obtain⟨hl,hg⟩:=nj ha;have fB:args.length=caps.length:=by simpa using hl
 let vs:List V:=caps.map fun j=>((σ[j]?).join).getD .non
 have there: ∀(i j:Nat),caps[i]?=some j-> ∃v,σ[j]?=some (some v):=fun i j hj=>by
  have hi:i<args.length:=by have:=(uI.mp hj).1;omega
  obtain⟨o,q1,q2⟩:=hg i _ (iO hi);rw[kF,hj] at q1;cases q1;have q3:=qJ q2;generalize args[i]=y at q3;obtain⟨x,b⟩:=y
  cases b with
  |false=>obtain⟨v,h,_⟩:=E1.val j x q3;exact⟨v,h⟩
  |true=>obtain⟨a,h,_⟩:=E1.own j x q3;exact⟨_,h⟩
 have hvs: ∀(i j:Nat),caps[i]?=some j-> ∃v,vs[i]?=some v/\σ[j]?=some (some v):=fun i j hj=>by
  obtain⟨v,hv⟩:=there i j hj;refine⟨v,?_,hv⟩;show(caps.map fun j=>((σ[j]?).join).getD .non)[i]?=some v;rw[kF,hj];simp[hv]
 have av:G7 caps k σ=vs.map some++List.replicate k none:=by
  unfold G7
  congr 1
  apply wH;intro i;show _=((caps.map fun j=>((σ[j]?).join).getD .non).map some)[i]?;rw[kF,kF,kF]
  cases hj:caps[i]? with
  |none=>rfl
  |some j=>obtain⟨v,hv⟩:=there i j hj;simp[hv]
 have B0:Ops K T σ δ1 H1 (caps.map Opd.slot) vs δ1 H1 T:=by
  refine⟨by simp[vs],.refl,E1,fun _ z=>z,fun j x v hj=>?_,fun j x v hj=>?_,fun j i v hj hv=>?_⟩
  ·rw[kF] at hj;obtain⟨_,_,z⟩:=iK hj;cases z
  ·rw[kF] at hj;obtain⟨_,_,z⟩:=iK hj;cases z
  ·rw[kF] at hj;obtain⟨c,hc,z⟩:=iK hj;cases z;obtain⟨v',q1,q2⟩:=hvs j i hc;rw[hv] at q1;cases q1;exact q2
 have Ec:=Gv E1 B0 ha nd
 have hA: ∀(i:Nat) x,args[i]?=some (x,true)-> ¬(caps.length<=i):=fun i x hx=>by
  have:=(uI.mp hx).1;omega
 rw[av];have hx:=jY (o:= .lst []) hd
 have nz: ∀a,H1 a≠none->upd H1 d (.lst []) a≠none:=fun a z=>by
  cases hh:H1 a with
  |none=>exact absurd hh z
  |some o=>rw[hx a o hh];simp
 have b0:BS K d (fun a=>Tc T σ δ1 vs args a\/a=d) (vs.map some++List.replicate k none) (args.map some++List.replicate k none) [] (upd H1 d (.lst [])):=by
  refine⟨(Ec.pad).mono (fun b o eb _=>hx b o eb) (fun b hb z=>z.elim id fun z=>by subst z;exact absurd hd hb) (fun a z=>?_),.inr rfl,[],ik,RepL.nil⟩;rcases z with z|z
  ·exact nz a (Ec.dom a z)
  ·subst z;rw[ik];simp
 refine Gd (fun _ _ _ _ h=>h) (fun _ _ _ h=>h) (fun _ _ _ h=>h) b0 _ _ ok (fun a o ea _=>hx a o ea) (fun a fR z=>?_) (fun a fR z=>?_) nz h2 fun σ' H2 S2 B2=>?_
 ·rcases z with z|z
  ·obtain⟨j,x,g1,g2⟩:=JV.mp z;obtain⟨i,_,q1,_,q3⟩:=CF B0 ha ⟨x,g1,g2⟩;refine .inl ⟨i,fun n=>n ?_,q3⟩;rw[kF] at q1;obtain⟨c,hc,e⟩:=iK q1;cases e;exact lQ hc
  ·subst z;exact absurd hd fR
 ·rcases z with z|z|z
  ·exact .inl (Gf B0 ha (JV.mp z))
  ·rcases z with z|z
   ·exact .inr z
   ·exact .inl z.1
  ·subst z;exact absurd hd fR
 ·have SS:SK (fun i=>caps.length<=i) (vs.map some++List.replicate k none) (args.map some++List.replicate k none) H1 σ' δ' H2:=
   ⟨fun a o ea n=>S2.kp a o (hx a o ea) n (by intro z;subst z;rw[ea] at hd;cases hd),fun i a z=>(S2.owi i a z).imp id fun z=>by
    cases hh:H1 a with
    |none=>rfl
    |some o=>exact absurd z (nz a (by rw[hh];simp)),fun a z=>S2.dm a (nz a z),S2.as⟩
  obtain⟨ys,hy,ry⟩:=B2.at';have P:=vE (r:=(.lst acc,true)) (v:= .ref d) Ec SS hA ⟨d,rfl,hd,B2.er,ys,hy,RepL.mono (fun _ _ e _=>e) (fun b _ z=>z) ry⟩;exact kq (.ref d) H2 ((De E1 B0 ha nd P).pre K1)
section
variable {X:Cx}{elt:gC}{c:nN}{gJ:pv}{scope:jD}{pos h9 py:Pos}{N':iw}{caps:iA}{k:Nat}{fi:FIt}{tg:Tg}{ti:FT}{fb:FB}{A L:jb}{H0:Hp}
structure CompOk(X:Cx)(N':iw)(scope:jD)(caps:iA)(k:Nat):Prop where
 cell: ∀y∈scope.names,y.2≠ .cell
 kind:scope.kind= .function
 names: ∀y∈scope.names,y.2= .local->scope.names.lookup y.1=some .local
 free: ∀y∈scope.names,y.2= .free->X.env.scope.names.lookup y.1=some .cell\/X.env.scope.names.lookup y.1=some .free
 len:caps.length+k=N'.length
 caps: ∀(i j:Nat) (x:Str),caps[i]?=some j->N'[i]?=some x->X.N[j]?=some x/\scope.names.lookup x=some .free
theorem CompOk.sco(C:CompOk X N' scope caps k):CompScope X N' scope (G7 caps k):=by
 refine⟨C.cell,C.kind,C.names,C.free,fun σ=>by simp[G7,C.len],fun σ i v x h1 h2=>?_⟩;unfold G7 at h1;by_cases hi:i<caps.length
 ·rw[wO (by simpa using hi),kF,iO hi] at h1;obtain⟨q1,q2⟩:=C.caps i caps[i] x (iO hi) h2;refine⟨q2,caps[i],q1,?_⟩;have h3:(σ[caps[i]]?).join=some v:=by simpa using h1
  cases hs:σ[caps[i]]? with
  |none=>rw[hs] at h3;cases h3
  |some y=>rw[hs] at h3;exact rA some h3
 ·rw[uZ (by simpa using hi),List.getElem?_replicate] at h1;split at h1<;>cases h1
theorem LY(C:CompOk X N' scope caps k)(hc:X.calm=true)(ha:c.is_async=0)(n8: ∀g',gJ[0]?=some g'->g'.is_async=0)
  (hs: ∀x,foldedSetIterable c.iter X.env x=pure x)(pi:PIX X (fun i=>i∉caps) c.target c.iter fi)
  (aA: ∀(cl:pz) (C:gn) (s3:gr) (H3:Hp) (fp:jE) (pins:hJ),let X':=X.comp N' scope cl C s3 H3 fp pins
   PGX X' (fun i=>caps.length<=i) c.target tg/\PIf X' c.ifs (tT X.K ti)/\ ∀d,PB X' (iL (.ListComp elt (c::gJ) scope pos) 0 (.ref d) X'.env) (tBx X.K (fun i=>caps.length<=i) d fb)):
  PX X (.ListComp elt (c::gJ) scope pos) (gX caps k fi tg ti fb):=PX.imp (JP (g:=tG X.K (fun i=>caps.length<=i) tg) (ti:=tT X.K ti) (tb:=fun d=>tBx X.K (fun i=>caps.length<=i) d fb) C.sco hc ha n8 hs pi aA) fun σ H Q h=>C9 h
theorem Jv{y:Str}{i:Nat}(dG:swapsWith (.ListComp elt (c::gJ) scope pos) (some (.Name y py)) h9.line X.env=pure true)
  (C:CompOk X N' scope caps k)(hc:X.calm=true)(ha:c.is_async=0)(n8: ∀g',gJ[0]?=some g'->g'.is_async=0)
  (hs: ∀x,foldedSetIterable c.iter X.env x=pure x)(pi:PIX X (fun i=>i∉caps) c.target c.iter fi)(eU:PG X (.Name y py) (CQ i))(hA:A i)
  (aA: ∀(cl:pz) (C:gn) (s3:gr) (H3:Hp) (fp:jE) (pins:hJ),let X':=X.comp N' scope cl C s3 H3 fp pins
   PGX X' (fun i=>caps.length<=i) c.target tg/\PIf X' c.ifs (tT X.K ti)/\ ∀d,PB X' (iL (.ListComp elt (c::gJ) scope pos) 0 (.ref d) X'.env) (tBx X.K (fun i=>caps.length<=i) d fb)):
  PSX X A L H0 (.Assign [.Name y py] (.ListComp elt (c::gJ) scope pos) h9) (ic i (gX caps k fi tg ti fb)):=PS.imp' (JA (g:=tG X.K (fun i=>caps.length<=i) tg) (ti:=tT X.K ti) (tb:=fun d=>tBx X.K (fun i=>caps.length<=i) d fb) dG C.sco hc ha n8 hs pi eU aA) fun D σ H hw=>by
 obtain⟨δ,T,out,E,fi,e,k⟩:=hw;obtain⟨⟨r,δ1⟩,h3,e⟩:=gg e;obtain⟨hi,rfl⟩:=hW e;refine C9 ⟨δ,T,r,δ1,E,h3,fun v H1 P=>?_⟩;obtain⟨h1,h2⟩:=xg (A:=A) E P hi hA;exact k _ H1 h1 h2
end
section
variable {K:gL}{T:AP'}{σ:L2.St}{δ:Dn}{H:Hp}{i:Nat}{l l':List D}{a:gn}{bZ:List V}
theorem OwnI.write{j:Nat}{b:gn}(hd:δ[i]?=some (some (.lst l,true)))(h:OwnI σ (δ.set i (some (.lst l',true))) j b):OwnI σ δ j b:=by
 obtain⟨e,h1,h2⟩:=h;rcases kc h1 with⟨rfl,_,_⟩|⟨_,q⟩
 ·exact⟨_,hd,h2⟩
 ·exact⟨e,q,h2⟩
theorem ER.write(E:ER K H T σ δ)(hd:δ[i]?=some (some (.lst l,true)))(hs:σ[i]?=some (some (.ref a)))(r:RepL K H (fun b=>OwnA σ δ b\/T b) l' bZ):
  ER K (upd H a (.lst bZ)) T σ (δ.set i (some (.lst l',true)))/\Keep σ δ H (δ.set i (some (.lst l',true))) (upd H a (.lst bZ)):=by
 have hi:i<δ.length:=(uI.mp hd).1;have oa:OwnA σ δ a:=⟨i,_,hd,hs⟩
 have ar: ∀b,OwnA σ (δ.set i (some (.lst l',true))) b->OwnA σ δ b:=fun b ⟨j,e,h1,h2⟩=>by
  obtain⟨e',q1,q2⟩:=OwnI.write hd ⟨e,h1,h2⟩;exact⟨j,e',q1,q2⟩
 have kp: ∀b o,H b=some o-> ¬(OwnA σ δ b\/T b)->upd H a (.lst bZ) b=some o:=fun b o e n=>by rw[iq (by intro z;subst z;exact n (.inl oa))];exact e
 have dm: ∀b,H b≠none->upd H a (.lst bZ) b≠none:=fun b z=>by
  by_cases hb:b=a
  ·subst hb;rw[ik];simp
  ·rw[iq hb];exact z
 have sub: ∀b,H b≠none->(OwnA σ (δ.set i (some (.lst l',true))) b\/T b)->OwnA σ δ b\/T b:=fun b _ z=>z.imp (ar b) id;refine⟨⟨by rw[rm];exact E.len,fun j e hj=>?_,fun j e hj=>?_,fun j k e f b hj hk h1 h2=>?_,fun b z=>E.nT b (ar b z),fun b z=>dm b (E.dom b z)⟩,⟨fun b o e n=>by rw[iq (by intro z;subst z;exact n oa)];exact e,fun j b z=>OwnI.write hd z,dm⟩⟩
 ·rcases kc hj with⟨_,_,q⟩|⟨_,q⟩
  ·cases q
  ·obtain⟨w,w1,w2⟩:=E.val j e q;exact⟨w,w1,Rep.mono kp sub w2⟩
 ·rcases kc hj with⟨rfl,_,q⟩|⟨ne,q⟩
  ·cases q;exact⟨a,hs,bZ,ik,RepL.mono kp sub r⟩
  ·obtain⟨b,w1,w2⟩:=E.own j e q;refine⟨b,w1,w2.mono kp sub fun o eo=>?_⟩;rw[iq]
   ·exact eo
   ·intro z;subst z;exact ne (E.inj i j _ _ _ hd q hs w1)
 ·obtain⟨e1,q1,q2⟩:=OwnI.write hd ⟨e,hj,h1⟩;obtain⟨e2,q3,q4⟩:=OwnI.write hd ⟨f,hk,h2⟩;exact E.inj j k e1 e2 b q1 q3 q2 q4
end
noncomputable def jC(i:Nat)(f:F):F:=fun δ=>match δ[i]? with
 |some (some (.lst _,true))=>(f δ).bind fun p=>match p.2[i]? with
  |some (some (.lst l,true))=>if l.length<sizeLine then some ((.non,false),p.2.set i (some (.lst (l++[p.1.1]),true))) else none
  |_=>none
 |_=>none
noncomputable def sO(i:Nat)(f:FO):F:=fun δ=>match δ[i]? with
 |some (some (.lst _,true))=>(f δ).bind fun p=>match res p.2 p.1,p.2[i]? with
  |some (.int k),some (some (.lst l,true))=>if -(2^63)<=k/\k<2^63 then(ixN l.length k).bind fun j=>(l[j]?).bind fun d=>some ((d,false),p.2.set i (some (.lst (l.eraseIdx j),true))) else none
  |_,_=>none
 |_=>none
noncomputable def vg(i:Nat)(f:F)(g:FO):FS:=fun δ=>(f δ).bind fun p=>match p.2[i]? with
 |some (some _)=>(g p.2).bind fun q=>match res q.2 q.1,q.2[i]? with
  |some (.int k),some (some (.lst l,true))=>(ixN l.length k).bind fun j=>some (.nx (q.2.set i (some (.lst (l.set j p.1.1),true))))
  |_,_=>none
 |_=>none
section
variable {X:Cx}{e ix:gC}{f:F}{fo:FO}{pos b9 apos j5:Pos}{i:Nat}{x:Str}{A L:jb}{H0:Hp}
theorem RepL.erase{K H}{O:AP'}: ∀{l:List D} {vs:List V} (j:Nat),RepL K H O l vs->RepL K H O (l.eraseIdx j) (vs.eraseIdx j)
 |[],vs,j,h=>by rw[RepL] at h;subst h;simp[RepL]
 |d::l,vs,0,h=>by
  rw[RepL] at h;obtain⟨v,r,rfl,h1,h2⟩:=h;exact h2
 |d::l,vs,j+1,h=>by
  rw[RepL] at h;obtain⟨v,r,rfl,h1,h2⟩:=h;exact RepL.cons h1 (RepL.erase j h2)
theorem G2(hv:PO X (.Name x b9) (gh i))(he:PX X e f)(k4:attributeBase (.Name x b9) "append" X.env (eval (.Name x b9) X.env)=eval (.Name x b9) X.env)
  (m9:((backTo j5 (starEach [e] X.env)).all (fun x=>!x.1)&&(backToKw j5 (keywordEach [] X.env)).all (fun x=>x.1.isSome)&&decide ([e].length+([]:List Keyword).length+(if([]:List Keyword).isEmpty then 0 else 1)<30))=true)
  (k0:(apos.endLine==j5.line)=true)(hs:starEach [e] X.env=(false,eval e X.env)::starEach [] X.env)(j4:(backTo j5 (starEach [] X.env)).any (·.1)=false):
  PX X (.Call (.Attribute (.Name x b9) "append" apos) [e] [] j5) (jC i f):=
 PX.imp (JT DR PySem.F.slot_list_append PySem.F.type_list_append Hk hv (kI he oJ hs) k4 m9 k0 hs j4) fun σ H Q hw=>by
 obtain⟨δ,T,rr,δ',E,e,k⟩:=hw;unfold jC at e;split at e
 ·rename_i l0 h0;obtain⟨⟨r,δ1⟩,h1,e⟩:=gg e;dsimp only at e;split at e
  ·rename_i l h2;obtain⟨hz,e⟩:=hW e;obtain⟨rfl,rfl⟩:=sg e;refine⟨δ,T,.slot i,δ,E,by unfold gh;rw[h0],fun v H1 P=>?_⟩;obtain⟨K1,E1,hσ⟩:=P;obtain⟨a,g1,dr,g2,g3⟩:=E1.own i _ h0;rw[hσ] at g1;cases g1;refine⟨.inl ⟨rfl,dr,SqL.of g2⟩,δ,T,r,δ1,E1,h1,fun y H2 P2=>?_⟩;obtain⟨E2,ry⟩:=P2.rep E1;obtain⟨a',q1,xs,q2,q3⟩:=E2.own i _ h2;rw[hσ] at q1;cases q1;refine⟨_,xs,y,rfl,rfl,q2,by rw[q3.length];exact hz,?_⟩;obtain⟨E3,K3⟩:=E2.write h2 hσ (q3.append (RepL.one ry));exact k _ _ (Post.val ((K1.trans P2.1).trans K3) E3 Rep.mkNon)
  ·cases e
 ·cases e
theorem Jr(hv:PO X (.Name x b9) (gh i))(he:PO X e fo)(k4:attributeBase (.Name x b9) "pop" X.env (eval (.Name x b9) X.env)=eval (.Name x b9) X.env)
  (m9:((backTo j5 (starEach [e] X.env)).all (fun x=>!x.1)&&(backToKw j5 (keywordEach [] X.env)).all (fun x=>x.1.isSome)&&decide ([e].length+([]:List Keyword).length+(if([]:List Keyword).isEmpty then 0 else 1)<30))=true)
  (k0:(apos.endLine==j5.line)=true)(hs:starEach [e] X.env=(false,eval e X.env)::starEach [] X.env)(j4:(backTo j5 (starEach [] X.env)).any (·.1)=false):
  PX X (.Call (.Attribute (.Name x b9) "pop" apos) [e] [] j5) (sO i fo):=
 PX.imp (JT DR PySem.F.slot_list_pop PySem.F.type_list_pop Kb hv (kI he oJ hs) k4 m9 k0 hs j4) fun σ H Q hw=>by
 obtain⟨δ,T,rr,δ',E,e,k⟩:=hw;unfold sO at e;split at e
 ·rename_i l0 h0;obtain⟨⟨o,δ1⟩,h1,e⟩:=gg e;dsimp only at e;split at e
  ·rename_i kk l hk h2;split at e
   case isFalse=>cases e
   rename_i hb;obtain⟨j,hj,e⟩:=gg e;obtain⟨d,hd,e⟩:=gg e;obtain⟨rfl,rfl⟩:=gK e;refine⟨δ,T,.slot i,δ,E,by unfold gh;rw[h0],fun v H1 P=>?_⟩;obtain⟨K1,E1,hσ⟩:=P;obtain⟨a,g1,dr,g2,g3⟩:=E1.own i _ h0;rw[hσ] at g1;cases g1;refine⟨.inl ⟨rfl,dr,SqL.of g2⟩,δ,T,o,δ1,E1,h1,fun y H2 P2=>?_⟩;have B:=Ops.cons E1 P2 (Ops.nil (P2.er E1));have vy:=gS (B.view (j:=0) rfl rfl hk);have E2:ER X.K H2 T σ δ1:=B.er.mono (fun _ _ e _=>e) (fun b _ z=>B.tt b z) (fun a z=>B.er.dom a (B.tt a z));obtain⟨a',q1,xs,q2,q3⟩:=E2.own i _ h2;rw[hσ] at q1;cases q1;obtain⟨w,w1,w2⟩:=q3.get hd;have hl:=q3.length;have fI:ixN xs.length kk=some j:=by rw[hl];exact hj
   obtain⟨s1,s2,s3,s4⟩:=Be fI;obtain⟨E3,K3⟩:=E2.write h2 hσ (RepL.erase j q3);refine⟨_,xs,kk,j,w,rfl,by rw[vy],q2,hb.1,hb.2,s1,w1,?_⟩;exact k _ _ (Post.val ((K1.trans B.keep).trans K3) E3 (Rep.mono (fun b o e n=>K3.kp b o e fun z=>n (.inl z)) (fun b _ z=>z.imp (K3.ow b) id) w2))
  ·cases e
 ·cases e
theorem G4{h9:Pos}(hv:PO X (.Name x b9) (gh i))(he:PX X e f)(hi:PO X ix fo)
  (ha: ∀v,assign (.Subscript (.Name x b9) ix h9) X.env v=(do
   let ov <-holding [v] (eval (.Name x b9) X.env)
   let iv <-holding [v,ov] (eval ix X.env)
   standAt h9
   holding [v,ov,iv] (setItem ov iv v)
   release [v,ov,iv] []))
  (hs:swapsWithSole [.Subscript (.Name x b9) ix h9] e pos.line X.env=pure false)(hw:swappedStores [.Subscript (.Name x b9) ix h9] e X.env=pure none)
  (h1:(assignEach [.Subscript (.Name x b9) ix h9] X.env).map (·.2)=[assign (.Subscript (.Name x b9) ix h9) X.env]):
  PSX X A L H0 (.Assign [.Subscript (.Name x b9) ix h9] e pos) (vg i f fo):=PS.imp' (Et he (JN hv hi Jd ha) hs hw h1) fun D σ H hw=>by
 obtain⟨δ,T,out,E,fi,e,k⟩:=hw;obtain⟨⟨r,δ1⟩,h1,e⟩:=gg e;dsimp only at e;split at e
 case h_2=>cases e
 rename_i y0 h0;obtain⟨⟨o,δ2⟩,h2,e⟩:=gg e;dsimp only at e;split at e
 ·rename_i kk l hk h3;obtain⟨j,hj,e⟩:=gg e;cases e;refine⟨δ,T,r,δ1,E,h1,fun v H1 P1=>⟨δ1,Tmp T r v,.slot i,δ1,P1.er E,by unfold gh;rw[h0],fun v2 H2 P2=>⟨δ1,Tmp T r v,o,δ2,P2.er (P1.er E),h2,fun v3 H3 P3=>?_⟩⟩⟩;have gd:PostO X.K T σ δ H (.val r) δ1 v H1:=P1;have B:=Ops.cons E gd (Ops.cons (P1.er E) P2 (Ops.cons (P2.er (P1.er E)) P3 (Ops.nil (P3.er (P2.er (P1.er E))))));have E3:ER X.K H3 T σ δ2:=B.er.mono (fun _ _ e _=>e) (fun b _ z=>B.tt b z) (fun a z=>B.er.dom a (B.tt a z));have hσ:σ[i]?=some (some v2):=P2.2.2;obtain⟨a,q1,xs,q2,q3⟩:=E3.own i _ h3;rw[hσ] at q1;cases q1;have vk:=gS (B.view (j:=2) rfl rfl hk);have rv:=B.rep E (j:=0) (r:=r) rfl rfl;refine⟨a,xs,kk,j,rfl,vk,q2,by rw[q3.length];exact hj,?_⟩;obtain⟨E4,K4⟩:=E3.write h3 hσ (RepL.set rv j q3);exact k _ _ (B.keep.trans K4).sk E4
 ·cases e
end
noncomputable def LG(tg:Tg)(f:F):FS:=fun δ=>(f δ).bind fun p=>(tg p.1.1 p.2).bind fun δ1=>some (.nx δ1)
section
variable {X:Cx}{A L:jb}{H0:Hp}{a b tg e:gC}{fs:List F}{f:F}{t:Tg}{pos px py pt pt2:Pos}{x y:Str}{i j:Nat}{kt k2}
theorem L9(he:PX X e f)(hg:PGX X A tg t)(hs:swapsWithSole [tg] e pos.line X.env=pure false)(hw:swappedStores [tg] e X.env=pure none)(h1:(assignEach [tg] X.env).map (·.2)=[assign tg X.env]):
  PSX X A L H0 (.Assign [tg] e pos) (LG t f):=PS.imp' (Et he hg hs hw h1) fun D σ H hw=>by
 obtain⟨δ,T,out,E,fi,e,k⟩:=hw;obtain⟨⟨r,δ1⟩,h1,e⟩:=gg e;obtain⟨δ2,h2,e⟩:=gg e;cases e;refine⟨δ,T,r,δ1,E,h1,fun v H1 P=>?_⟩;obtain⟨E1,rv⟩:=P.rep E;exact⟨δ1,T,r.1,δ2,E1,rv,h2,fun σ' S' E'=>k σ' H1 (P.1.sk.trans S') E'⟩
theorem L1{id:String}{p:Pos}{es:jl}{fo:List FO}{g:List D->Option (D×Bool)}{z:Str}(hc:jf X (.builtin id) (rDn X.K g))(hg:Gl X z)(hm:X.mg z=none)(hv:bootBuiltins z=some (.builtin id))(ha:PA X (e::es) (tA X.K fo))(hn:z≠"__name__")(l5:(z==("__debug__":Str))=false)
  (he:starEach (e::es) X.env=(false,eval e X.env)::starEach es X.env)(j9:(backTo pos (starEach es X.env)).any (·.1)=false):PX X (.Call (.Name z p) (e::es) [] pos) (gG g fo):=pxn (xw hc hg hm hv ha hn l5 he j9)
theorem LO{id:String}{p:Pos}{es:jl}{fo:List FO}{g:List D->Option (D×Bool)}{z:Str}(hc:jf X (.type id) (rDn X.K g))(hg:Gl X z)(hm:X.mg z=none)(hv:bootBuiltins z=some (.type id))(ha:PA X (e::es) (tA X.K fo))(hn:z≠"__name__")(l5:(z==("__debug__":Str))=false)
  (he:starEach (e::es) X.env=(false,eval e X.env)::starEach es X.env)(j9:(backTo pos (starEach es X.env)).any (·.1)=false):PX X (.Call (.Name z p) (e::es) [] pos) (gG g fo):=pxn (oi hc hg hm hv ha hn l5 he j9)
end
noncomputable def Bn(N:iw)(sc scope:jD)(N':iw)(caps:iA)(k:Nat):Bool:=
 (scope.names.all fun y=>y.2 != .cell)&&decide (scope.kind= .function)&&(scope.names.all fun y=>y.2 != .local||scope.names.lookup y.1==some .local)&&
 (scope.names.all fun y=>y.2 != .free||(sc.names.lookup y.1==some .cell||sc.names.lookup y.1==some .free))&&decide (caps.length+k=N'.length)&&
 ((caps.zip N').all fun p=>N[p.1]?==some p.2&&scope.names.lookup p.2==some .free)
theorem KU(hN:X.N=N)(hs:X.env.scope=sc)(h:Bn N sc scope N' caps k=true):CompOk X N' scope caps k:=by
 subst hN;subst hs;unfold Bn at h;simp only[kQ,nL,se] at h;obtain⟨⟨⟨⟨⟨h1,h2⟩,h3⟩,h4⟩,h5⟩,h6⟩:=h;refine⟨fun y hy e=>?_,h2,fun y hy e=>?_,fun y hy e=>?_,h5,fun i j x hi hx=>?_⟩
 ·have:=h1 y hy;rw[e] at this;simp at this
 ·have:=h3 y hy;rw[e] at this;simpa using this
 ·have:=h4 y hy;rw[e] at this;simpa using this
 ·have hm:(j,x)∈caps.zip N':=by
   have:(caps.zip N')[i]?=some (j,x):=by rw[Dr];exact⟨hi,hx⟩
   exact lQ this
  have:=h6 _ hm;simpa using this
noncomputable def hC:FT:=fun δ=>some (true,δ)
theorem JH{X:Cx}:PIf X [] (tT X.K hC):=fun pins s σ H Q I h=>by
 obtain⟨δ,T,b,δ',E,e,k⟩:=h;cases e;exact Mh pins s σ H Q I (k H .refl E)
inductive Ty where
 |int|bool|str|tuple|list|dict
noncomputable def Ty.n:Ty->String
 | .int=>"int"| .bool=>"bool"| .str=>"str"| .tuple=>"tuple"| .list=>"list"| .dict=>"dict"
noncomputable def isT:D->Ty->Bool
 | .bl _,.bool=>true
 | .bl _,.int=>true
 | .int _,.int=>true
 | .str _,.str=>true
 | .tup _,.tuple=>true
 | .lst _,.list=>true
 | .oth .dct _ _,.dict=>true
 |_,_=>false
noncomputable def tyD:D->String
 | .non=>"NoneType"| .bl _=>"bool"| .int _=>"int"| .str _=>"str"| .tup _=>"tuple"| .lst _=>"list"| .oth .dct _ _=>"dict"| .oth .set _ _=>"set"| .oth _ _ _=>"NoneType"
section
variable {X:Cx}{pins:hJ}{σ:L2.St}{H:Hp}{s:gr}
theorem Bc(K:gL)(d:D)(t:Ty):PySem.W.kitOne K (.type (tyD d)) (.type t.n)=some (isT d t):=by
 cases d with
 |oth k _ _=>cases k<;>cases t<;>with_unfolding_all rfl
 |_=>cases t<;>with_unfolding_all rfl
theorem EA(I:Inv X pins σ H s)(h:OthB (H a) k ks vs us):s.TypeIs (.ref a) (tyD (.oth k ks vs)):=by
 cases k with
 |dct=>
  rcases h with⟨kvs,e,_⟩|⟨kvs,e,_⟩
  ·obtain⟨_,_,vs,_,o,es,ep,h1,h2,_⟩:=(show ObjOk X.prog X.w H s.heap a (.dK kvs) from I.hok a _ e)
   exact⟨o,h1,h2.1⟩
  ·obtain⟨_,_,xs,_,o,es,ep,h1,h2,_⟩:=(show ObjOk X.prog X.w H s.heap a (.dT kvs) from I.hok a _ e)
   exact⟨o,h1,h2.1⟩
 |set=>
  obtain⟨_,zs,e,_⟩:=h;obtain⟨es,n,t,h1,_⟩:=(show ObjOk X.prog X.w H s.heap a (.stt zs) from I.hok a _ e)
  exact⟨_,h1,rfl⟩
 |_=>exact h.elim
theorem pX{K H}(h:iV K H O (.oth k ks vs) v): ∃a us,v= .ref a/\OthB (H a) k ks vs us/\RepL K H O vs us:=by
 rcases h with h|⟨a,rfl,h⟩
 ·obtain⟨a,us,e,q,r⟩:=h.oth;exact⟨a,us,e,q.2,r⟩
 ·obtain⟨us,e,r⟩:=h;exact⟨a,us,rfl,e,r⟩
end
theorem ko(K:gL)(d:D): ∀ts:List Ty,PySem.W.kitAny K (.type (tyD d)) (ts.map fun t=>Value.type t.n)=some (ts.any (isT d))
 |[]=>rfl
 |t::ts=>by
  rw[iQ,PySem.W.kitAny,Bc,uU]
  cases isT d t with
  |true=>rfl
  |false=>simpa using ko K d ts
section
variable {X:Cx}{pins:hJ}{σ:L2.St}{H:Hp}{s:gr}
theorem S0(I:Inv X pins σ H s)(hd:iV X.K H O d x)(rx:RelV x u)(h: ∀tk,Q (.bool (isT d t)) {s with toks:=tk}):
  wpAny (model X.prog X.w) A (call (.builtin "isinstance") [u,.type t.n]) Q E s:=by
 cases d with
 |non=>have:=BL hd;subst this;cases rx;exact pR PySem.W.kitx_none I.kIn True.intro (Bc X.K .non t) (fun z=>nomatch z) h
 |bl b=>have:=AK hd;subst this;cases rx;exact pR PySem.W.kitx_bool I.kIn True.intro (Bc X.K (.bl b) t) (fun z=>nomatch z) h
 |int b=>have:=gS hd;subst this;obtain⟨tk,rfl⟩:=rx;exact pR PySem.W.kitx_int I.kIn True.intro (Bc X.K (.int b) t) (fun z=>nomatch z) h
 |str b=>have:=tK hd;subst this;obtain⟨tk,rfl⟩:=rx;exact pR PySem.W.kitx_str I.kIn True.intro (Bc X.K (.str b) t) (fun z=>nomatch z) h
 |tup l=>
  obtain⟨a,xs,rfl,q,_⟩:=ke hd;cases rx;obtain⟨b6,_,⟨o,h1,h2,_⟩,_⟩:=I.tuple q;exact pR PySem.W.kitx_tuple I.kIn ⟨o,h1,h2⟩ (Bc X.K (.tup l) t) (fun z=>nomatch z) h
 |lst l=>
  obtain⟨a,xs,rfl,q,_⟩:=ju hd;cases rx;obtain⟨b6,_,⟨o,n,h1,h2,_⟩,_⟩:=I.list q;exact pR PySem.W.kitx_list I.kIn ⟨o,h1,h2⟩ (Bc X.K (.lst l) t) (fun z=>nomatch z) h
 |oth k ks vs=>
  obtain⟨a,us,rfl,q,_⟩:=pX hd;cases rx;have ht:=EA I q
  cases k with
  |dct=>exact pR PySem.W.kitx_dict I.kIn ht (Bc X.K (.oth .dct ks vs) t) (fun z=>nomatch z) h
  |set=>exact pR PySem.W.kitx_set I.kIn ht (Bc X.K (.oth .set ks vs) t) (fun z=>nomatch z) h
  |_=>exact q.elim
theorem SY{A:gM}{E:hG}{Q:hG}(I:Inv X pins σ H s){O:AP'}{d:D}{x:V}{u:gB}{ts:List Ty}{p:gn}{dd:Option Addr}{n:Nat}{sl:sY}(hd:iV X.K H O d x)(rx:RelV x u)
  (bS:s.heap.get? p=some ⟨.type "tuple",dd,.seq (ts.map fun t=>Value.type t.n).toArray n,sl⟩)(h: ∀tk,Q (.bool (ts.any (isT d))) {s with toks:=tk}):wpAny (model X.prog X.w) A (call (.builtin "isinstance") [u,.ref p]) Q E s:=by
 cases d with
 |non=>have:=BL hd;subst this;cases rx;exact pQ PySem.W.kitx_none I.kIn True.intro bS (ko X.K .non ts) (fun z=>nomatch z) h
 |bl b=>have:=AK hd;subst this;cases rx;exact pQ PySem.W.kitx_bool I.kIn True.intro bS (ko X.K (.bl b) ts) (fun z=>nomatch z) h
 |int b=>have:=gS hd;subst this;obtain⟨tk,rfl⟩:=rx;exact pQ PySem.W.kitx_int I.kIn True.intro bS (ko X.K (.int b) ts) (fun z=>nomatch z) h
 |str b=>have:=tK hd;subst this;obtain⟨tk,rfl⟩:=rx;exact pQ PySem.W.kitx_str I.kIn True.intro bS (ko X.K (.str b) ts) (fun z=>nomatch z) h
 |tup l=>
  obtain⟨a,xs,rfl,q,_⟩:=ke hd;cases rx;obtain⟨b6,_,⟨o,h1,h2,_⟩,_⟩:=I.tuple q;exact pQ PySem.W.kitx_tuple I.kIn ⟨o,h1,h2⟩ bS (ko X.K (.tup l) ts) (fun z=>nomatch z) h
 |lst l=>
  obtain⟨a,xs,rfl,q,_⟩:=ju hd;cases rx;obtain⟨b6,_,⟨o,n,h1,h2,_⟩,_⟩:=I.list q;exact pQ PySem.W.kitx_list I.kIn ⟨o,h1,h2⟩ bS (ko X.K (.lst l) ts) (fun z=>nomatch z) h
 |oth k ks vs=>
  obtain⟨a,us,rfl,q,_⟩:=pX hd;cases rx;have ht:=EA I q
  cases k with
  |dct=>exact pQ PySem.W.kitx_dict I.kIn ht bS (ko X.K (.oth .dct ks vs) ts) (fun z=>nomatch z) h
  |set=>exact pQ PySem.W.kitx_set I.kIn ht bS (ko X.K (.oth .set ks vs) ts) (fun z=>nomatch z) h
  |_=>exact q.elim
end
noncomputable def ou(ts:List Ty)(d:D):Option (D×Bool):=some (.bl (ts.any (isT d)),false)
section
variable {X:Cx}{e:gC}{fa:FO}{pos p p2:Pos}{z:Str}
theorem N7{t:Ty}(ha:PO X e fa)(hg:Gl X "isinstance")(hm:X.mg "isinstance"=none)(cI:Gl X z)(fv:X.mg z=none)(hz:bootBuiltins z=some (.type t.n))(hn:z≠"__name__")(l5:(z==("__debug__":Str))=false)(hv:bootBuiltins "isinstance"=some (.builtin "isinstance"))
  (s1:starEach [e,.Name z p2] X.env=(false,eval e X.env)::starEach [.Name z p2] X.env)(s2:starEach [.Name z p2] X.env=(false,eval (.Name z p2) X.env)::starEach [] X.env)(j9:(backTo pos (starEach [.Name z p2] X.env)).any (·.1)=false):
  PX X (.Call (.Name "isinstance" p) [e,.Name z p2] [] pos) (kd (ou [t]) fa):=by
 have hc:jf X (.builtin "isinstance") (fun xs H Q=> ∃(O:AP') (d:D) (x:V),xs=[x,.ty t.n]/\iV X.K H O d x/\Q (.bl (isT d t)) H):=by
  intro pins s σ H xs us Q I r h;obtain⟨O,d,x,rfl,hd,q⟩:=h;obtain⟨u,w',rfl,ru,w5⟩:=xc r;cases w5;exact S0 I hd ru fun tk=>⟨.bl _,H,I.tok _,rfl,q⟩
 refine PX.imp (xw hc hg hm hv (kI ha (kI (AZ (v:= .ty t.n) cI fv hz rfl hn l5) oJ s2) s1) (by decide) (by decide) s1 j9) fun σ H Q hw=>?_;obtain⟨δ,T,rr,δ',E,e,k⟩:=hw;obtain⟨⟨o,δ1⟩,h1,e⟩:=gg e;obtain⟨x,h2,e⟩:=gg e;obtain⟨zz,h3,e⟩:=gg e;cases h3;obtain⟨rfl,rfl⟩:=gK e;refine⟨δ,T,o,δ1,E,h1,fun v H1 P1=>?_⟩;have B:=Ops.cons E P1 (Ops.nil (P1.er E));refine⟨_,x,v,rfl,B.view (j:=0) rfl rfl h2,?_⟩;have:=(B.done k).bl;simpa using this
theorem LU{t t':Ty}{z z':Str}{p3 p4:Pos}{kk}(ha:PO X e fa)(hg:Gl X "isinstance")(hm:X.mg "isinstance"=none)(cI:Gl X z)(fv:X.mg z=none)(hz:bootBuiltins z=some (.type t.n))(hn:z≠"__name__")(l5:(z==("__debug__":Str))=false)
  (cH:Gl X z')(hmz':X.mg z'=none)(eD:bootBuiltins z'=some (.type t'.n))(dJ:z'≠"__name__")(cK:(z'==("__debug__":Str))=false)(hv:bootBuiltins "isinstance"=some (.builtin "isinstance"))
  (s1:starEach [e,.Tuple [.Name z p2,.Name z' p3] kk p4] X.env=(false,eval e X.env)::starEach [.Tuple [.Name z p2,.Name z' p3] kk p4] X.env)(s2:starEach [.Tuple [.Name z p2,.Name z' p3] kk p4] X.env=(false,eval (.Tuple [.Name z p2,.Name z' p3] kk p4) X.env)::starEach [] X.env)
  (s3:starEach [.Name z p2,.Name z' p3] X.env=(false,eval (.Name z p2) X.env)::starEach [.Name z' p3] X.env)(s4:starEach [.Name z' p3] X.env=(false,eval (.Name z' p3) X.env)::starEach [] X.env)
  (j9:(backTo pos (starEach [.Tuple [.Name z p2,.Name z' p3] kk p4] X.env)).any (·.1)=false):
  PX X (.Call (.Name "isinstance" p) [e,.Tuple [.Name z p2,.Name z' p3] kk p4] [] pos) (kd (ou [t,t']) fa):=by
 have hc:jf X (.builtin "isinstance") (fun xs H Q=> ∃(O:AP') (d:D) (x:V) (q:gn),xs=[x,.ref q]/\H q=some (.tup [.ty t.n,.ty t'.n])/\iV X.K H O d x/\Q (.bl ([t,t'].any (isT d))) H):=by
  intro pins s σ H xs us Q I r h;obtain⟨O,d,x,q,rfl,hq,hd,k⟩:=h;obtain⟨u,w',rfl,ru,w5⟩:=xc r;cases w5;obtain⟨_,b6,v1,o,h1,h2,n,h3⟩:=I.hok q _ hq;obtain⟨u1,u2,rfl,r1,r2⟩:=xc v1;cases r1;cases r2;obtain⟨cls,dd,dt,sl⟩:=o;simp only at h2 h3;subst h2;subst h3;exact SY (ts:=[t,t']) I hd ru h1 fun tk=>⟨.bl _,H,I.tok _,rfl,k⟩
 refine PX.imp (xw hc hg hm hv (kI ha (kI (JO (kI (AZ (v:= .ty t.n) cI fv hz rfl hn l5) (kI (AZ (v:= .ty t'.n) cH hmz' eD rfl dJ cK) oJ s4) s3)) oJ s2) s1) (by decide) (by decide) s1 j9) fun σ H Q hw=>?_;obtain⟨δ,T,rr,δ',E,e,k⟩:=hw;obtain⟨⟨o,δ1⟩,h1,e⟩:=gg e;obtain⟨x,h2,e⟩:=gg e;obtain⟨zz,h3,e⟩:=gg e;cases h3;obtain⟨rfl,rfl⟩:=gK e;refine⟨δ,T,o,δ1,E,h1,fun v H1 P1=>⟨by show 2<=sizeLine;decide,fun q hq=>?_⟩⟩;have B:=Ops.cons E P1 (Ops.nil (P1.er E));have hx:=jY (o:= .tup [.ty t.n,.ty t'.n]) hq;have vw:=B.view (j:=0) rfl rfl h2;refine⟨fun a=>OwnA σ δ1 a\/T a,x,v,q,rfl,ik,?_,?_⟩
 ·rcases vw with vw|⟨a,rfl,vw⟩
  ·exact .inl (Rep.mono (fun b o e _=>hx b o e) (fun _ _ z=>z) vw)
  ·exact .inr ⟨a,rfl,vw.mono (fun b o e _=>hx b o e) (fun _ _ z=>z) fun o e=>hx a o e⟩
 ·exact(B.done k) _ _ hx Rep.mkBl
end
noncomputable def qQ:List D->Option (List Bool)
 |[]=>some []
 | .bl b::l=>(qQ l).map (b:: ·)
 |_::_=>none
noncomputable def vq:D->Option (D×Bool)
 | .lst l=>(qQ l).map fun bs=>(.bl (bs.all id),false)
 |_=>none
noncomputable def EY:D->Option (D×Bool)
 | .lst l=>(qQ l).map fun bs=>(.bl (bs.any id),false)
 |_=>none
theorem qt{K H}{O:AP'}: ∀{l:List D} {bs:List Bool} {xs:List V} {b6:iG},qQ l=some bs->RepL K H O l xs->Vals xs b6->LSm.BoolsAre b6 bs
 |[],bs,xs,b6,h,r,v=>by
  cases h;rw[RepL] at r;subst r;cases v;exact .nil
 | .bl b::l,bs,xs,b6,h,r,v=>by
  obtain⟨bs',h1,rfl⟩:=iK h;rw[RepL] at r;obtain⟨x,xr,rfl,r1,r2⟩:=r;have:=r1.bl;subst this
  cases v with
  |cons a c=>cases a;exact .cons b (qt h1 r2 c)
 | .non::l,_,_,_,h,_,_=>by cases h
 | .int _::l,_,_,_,h,_,_=>by cases h
 | .str _::l,_,_,_,h,_,_=>by cases h
 | .tup _::l,_,_,_,h,_,_=>by cases h
 | .lst _::l,_,_,_,h,_,_=>by cases h
 | .oth _ _ _::l,_,_,_,h,_,_=>by cases h
section
variable {X:Cx}
theorem uk{h h':gQ}{o:Obj}(hk: ∀b x,b∉[h.objs.size]->(h.push o).get? b=some x->h'.get? b=some x)(b:gn)(x:Obj)(e:h.get? b=some x):h'.get? b=some x:=
 hk b x (fun z=>by have:=pK.mp z;subst this;exact absurd (hV e) (nV _)) (ig _ e)
theorem oy(hc:X.calm=true):jf X (.builtin "all") (rDn X.K (g1 vq)):=nh fun pins s σ H x u Q O d z I ru np hd hg G=>by
 cases d with
 |lst l=>
  obtain⟨bs,hb,rfl⟩:=iK hg;obtain⟨p,xs,rfl,q,r⟩:=ju hd;cases ru;obtain⟨b6,v,pl,_⟩:=I.list q;have are:=qt hb r v;have hh:X.A.in1.handled=none:=I.ok.hd hc;have eV:p<s.heap.objs.size:=by obtain⟨_,e,_⟩:=pl.isList;exact hV e
  refine call_all_walk (wQ pl.isList ⟨s.heap.objs.size,[s.heap.objs.size,p],[s.heap.objs.size],b6.toArray.size,_,_,fun i=>(bs[i]?).getD true,rfl,Walks.list hh _ p (iz eV) b6.toArray,
   ⟨⟨_,jr _ rfl,rfl,rfl⟩,pl.isList.push _⟩,fun i w s' Q' E' hP hQ=>?_,fun h' tk hk=>?_⟩)
  ·obtain⟨b,e,rfl⟩:=are.get i w (by simpa using hP);dsimp only at hQ;rw[e] at hQ;exact su hQ
  ·rw[hZ,are.length,LSm.range_all];exact⟨.bl _,H,I.kept (uk hk),rfl,G.bl⟩
 |_=>cases hg
theorem zR(hc:X.calm=true):jf X (.builtin "any") (rDn X.K (g1 EY)):=nh fun pins s σ H x u Q O d z I ru np hd hg G=>by
 cases d with
 |lst l=>
  obtain⟨bs,hb,rfl⟩:=iK hg;obtain⟨p,xs,rfl,q,r⟩:=ju hd;cases ru;obtain⟨b6,v,pl,_⟩:=I.list q;have are:=qt hb r v;have hh:X.A.in1.handled=none:=I.ok.hd hc;have eV:p<s.heap.objs.size:=by obtain⟨_,e,_⟩:=pl.isList;exact hV e
  refine call_any_walk (wQ pl.isList ⟨s.heap.objs.size,[s.heap.objs.size,p],[s.heap.objs.size],b6.toArray.size,_,_,fun i=>(bs[i]?).getD false,rfl,Walks.list hh _ p (iz eV) b6.toArray,
   ⟨⟨_,jr _ rfl,rfl,rfl⟩,pl.isList.push _⟩,fun i w s' Q' E' hP hQ=>?_,fun h' tk hk=>?_⟩)
  ·obtain⟨b,e,rfl⟩:=are.get i w (by simpa using hP);dsimp only at hQ;rw[e] at hQ;exact su hQ
  ·rw[hZ,are.length,LSm.range_any];exact⟨.bl _,H,I.kept (uk hk),rfl,G.bl⟩
 |_=>cases hg
noncomputable def Ky:=gI fun i j=>some (.int (if j>i then j else i))
noncomputable def Kx:=gI fun i j=>some (.int (if j<i then j else i))
theorem Fi(hc:X.calm=true):jf X (.builtin "max") (rDn X.K (g2 Ky)):=KW fun pins s σ H x y us Q O d e z I r np h1 h2 hg G=>by
 obtain⟨i,j,w,rfl,rfl,hf,rfl⟩:=wx hg;cases hf;exact HA hc pins s σ H [x,y] us Q I r ⟨i,j,by rw[gS h1,gS h2],G.int⟩
theorem Fh(hc:X.calm=true):jf X (.builtin "min") (rDn X.K (g2 Kx)):=KW fun pins s σ H x y us Q O d e z I r np h1 h2 hg G=>by
 obtain⟨i,j,w,rfl,rfl,hf,rfl⟩:=wx hg;cases hf;exact Hz hc pins s σ H [x,y] us Q I r ⟨i,j,by rw[gS h1,gS h2],G.int⟩
theorem xo{lo:Int}{n:Nat}{acc:jS}(h:ItemsOf (fun i v=> ∃t,v= .int (lo+(i:Int)*1) t) acc n):Vals ((List.range n).map fun(k:Nat)=>V.int (lo+k)) acc.toList:=by
 have key: ∀(l:iG) (m:Nat),(∀(j:Nat) v,l[j]?=some v-> ∃t,v= .int (lo+((m+j:Nat):Int)) t)->Vals ((List.range' m l.length).map fun(k:Nat)=>V.int (lo+k)) l:=by
  intro l
  induction l with
  |nil=>intro m _;exact .nil
  |cons v l ih=>
   intro m hv;obtain⟨t,e⟩:=hv 0 v rfl;refine .cons ⟨t,by simpa using e⟩ (ih (m+1) fun j w hw=>?_);obtain⟨t',e'⟩:=hv (j+1) w (by simpa using hw);exact⟨t',by rw[e'];congr 2;first|done|omega⟩
 have:=key acc.toList 0 fun j v hv=>by
  obtain⟨t,e⟩:=h.2 j v (by simpa using hv);exact⟨t,by rw[e];congr 1⟩
 rw[iY,h.1,<-List.range_eq_range'] at this;exact this
theorem Eo{K H}(lo:Int)(n:Nat):RepL K H O (gY lo n) ((List.range n).map fun(k:Nat)=>V.int (lo+k)):=by
 unfold gY
 induction(List.range n) with
 |nil=>exact RepL.nil
 |cons k l ih=>exact RepL.cons Rep.mkInt ih
end
def RgOk(lo hi:Int):Prop:= -(2^62)<=lo/\lo<2^62/\ -(2^62)<=hi/\hi<2^62/\(hi-lo).toNat<=2^24
instance(lo hi:Int):Decidable (RgOk lo hi):=by unfold RgOk;infer_instance
noncomputable def rgV(lo hi:Int):List V:=(List.range (hi-lo).toNat).map fun(k:Nat)=>V.int (lo+k)
theorem RgOk.small{lo hi:Int}(h:RgOk lo hi):Builtin.Range.small lo hi 1=true:=small_one h.1 h.2.1 h.2.2.1 h.2.2.2.1
theorem FW(lo hi:Int):Builtin.Range.rangeSize lo hi 1=((hi-lo).toNat:Nat):=by rw[rangeSize_one];split<;>omega
section
variable {prog:gP}{w:gH}{A:gM}{E:hG}{s:gr}
theorem Fg{Q:List Value->Shared->Prop}{r:gn}{lo hi:Int}{t u v:Tok}(hh:A.handled=none)(hr:IsRange s.heap r lo hi 1 t u v)(ok:RgOk lo hi)
  (hQ: ∀(h':gQ) tk (acc:jS),(∀b o,s.heap.get? b=some o->h'.get? b=some o)->ItemsOf (fun i v=> ∃t,v= .int (lo+(i:Int)*1) t) acc (hi-lo).toNat->Q acc.toList {s with heap:=h',toks:=tk}):
  wpAny (model prog w) A (collect (.ref r)) Q E s:=by
 unfold collect;refine gi (Ax (pE F.entry_proto_collect ?_));rw[rk F.plain_proto_collect _];refine gi (m:=newList []) (kE ?_);refine gw ⟨pP F.plain_list_iadd _,pE F.entry_list_iadd ?_⟩;rw[rk F.plain_list_iadd _];have e0:=jr s.heap (o:=({cls:= .type "list",data:= .seq ([]:List Value).toArray}:Obj)) rfl
 let R:Result->Shared->Prop:=fun r s'=> ∃(h':gQ) (tk:Nat) (acc:jS) (c':Nat),r= .ok (.ret (.ref s.heap.objs.size))/\s'={s with heap:=h',toks:=tk}/\(∀b o,s.heap.get? b=some o->h'.get? b=some o)/\
  h'.get? s.heap.objs.size=some {cls:= .type "list",dict:=none,data:= .seq acc c',slots:= #[]}/\ItemsOf (fun i v=> ∃t,v= .int (lo+(i:Int)*1) t) acc (hi-lo).toNat
 have fin: ∀{r s'},R r s'-> ∃v,r= .ok (.ret v)/\wpAny (model prog w) A (match v with
   |Value.ref a=>do
    match(<-load a).data with
     |Data.seq xs _=>pure xs.toList
     |_=>unsupported "internal:collect"
   |_=>unsupported "internal:collect") Q E s':=fun {r s'} hR=>by
  obtain⟨h',tk,acc,c',rfl,rfl,hk,ba,n9⟩:=hR;exact⟨_,rfl,gi (m:=load s.heap.objs.size) (va ba (gw (hQ h' tk acc hk n9)))⟩
 refine oW (wpAny_extend_range (A:=A) (R:=R) (s:={s with heap:=s.heap.push {cls:= .type "list",data:= .seq ([]:List Value).toArray}}) hh (ig _ hr) ok.small (FW lo hi) ok.2.2.2.2 _ _ 0 e0 fun h' tk i6 c' hk ba n9=>
  ⟨h',tk,i6,c',rfl,rfl,fun b o e=>hk b o (iz (hV e)) (ig _ e),ba,n9⟩) (fun f s' h=>?_) (fun e s' h=>?_)
 ·cases f with
  |done f=>
   obtain⟨v,hv,h2⟩:=fin h;cases hv;exact h2
  |again c'=>exact⟨h.1,pV h.2 fun r bP hr=>by obtain⟨v,rfl,h2⟩:=fin hr;exact h2⟩
 ·obtain⟨v,hv,_⟩:=fin h;cases hv
theorem AM{Q₁:hG}{r:gn}{lo hi:Int}{t u v:Tok}(hh:A.handled=none)(hr:IsRange s.heap r lo hi 1 t u v)(ok:RgOk lo hi)
  (h: ∀(h':gQ) tk (acc:jS),(∀b o,s.heap.get? b=some o->h'.get? b=some o)->ItemsOf (fun i v=> ∃t,v= .int (lo+(i:Int)*1) t) acc (hi-lo).toNat->Q₁ (.ref h'.objs.size) {s with heap:=h'.push {cls:= .type "tuple",data:= .seq acc},toks:=tk}):
  codeAny (model prog w) A (.call (.builtin "tuple.__new__") ⟨[.type "tuple",.ref r],[]⟩) (wants Q₁ E) s:=by
 refine wJ ?_;refine gi (m:=checkBuiltinCall "tuple.__new__" _) (oV (F.newCall_tuple_1 _) (gw ⟨pP F.plain_tuple_new _,pE F.entry_tuple_new ?_⟩));rw[rk F.plain_tuple_new _];have au:=sub_tuple_self;have hinit:=init_tuple_lookup;have hmh:=madeHere_tuple;have t8:s.TypeIs (.ref r) "range":=⟨_,hr,rfl⟩
 have hh1:A.in1.handled=none:=hh
 wp_walk using rq t8,Fg hh1 hr ok
 intro h' tk acc hk n9;have hz:acc.size<=sizeLine:=by rw[n9.1,iu];have:=ok.2.2.2.2;omega
 refine gi (m:=Builtin.Tuple.tupleExact acc.toList.toArray) ?_;unfold Builtin.Tuple.tupleExact;refine kE ?_ (by show acc.toList.toArray.size<=sizeLine;simpa using hz);refine gw ?_;have e:acc.toList.toArray=acc:=by simp
 rw[e];exact h h' tk acc hk n9
theorem yT{Q:hG}{r:gn}{lo hi:Int}{t u v:Tok}(hh:A.handled=none)(hr:IsRange s.heap r lo hi 1 t u v)(ok:RgOk lo hi)
  (h: ∀(h':gQ) tk (acc:jS),(∀b o,s.heap.get? b=some o->h'.get? b=some o)->ItemsOf (fun i v=> ∃t,v= .int (lo+(i:Int)*1) t) acc (hi-lo).toNat->Q (.ref h'.objs.size) {s with heap:=h'.push {cls:= .type "tuple",data:= .seq acc},toks:=tk}):
  wpAny (model prog w) A (call (.type "tuple") [.ref r]) Q E s:=by
 refine callType_codes (Q₁:=fun obj s₁=>s₁.TypeIs obj "tuple"/\Q obj s₁) Lu (F.typeCall_tuple_1 _) F.entry_object_init
  (AM hh hr ok fun h' tk acc hm n9=>⟨⟨_,jr _ rfl,rfl⟩,h h' tk acc hm n9⟩) fun obj s₁ h₁=>?_
 exact⟨h₁.1,F.args_object_init_2 obj _,object_init_meets Lu.init.lookup Lu.made (by decide) prog w A.in1 _ s₁ ⟨h₁.1,rfl,h₁.2⟩⟩
end
section
variable {X:Cx}
theorem zO:jf X (.type "range") (fun xs H Q=> ∃i j,xs=[.int i,.int j]/\ ∀r,H r=none->Q (.ref r) (upd H r (.rng i j))):=by
 intro pins s σ H xs us Q I r h;obtain⟨i,j,rfl,h⟩:=h;obtain⟨u,u',rfl,⟨t,rfl⟩,⟨t',rfl⟩⟩:=xc r;exact call_range_2 ⟨.ref _,_,I.laid (o:= .rng i j) (fun b o e=>ig _ e) (hU _) ⟨_,_,_,jr _ rfl⟩,rfl,h _ I.fresh⟩
theorem yU(hc:X.calm=true):jf X (.type "list") (fun xs H Q=> ∃r lo hi,xs=[.ref r]/\H r=some (.rng lo hi)/\RgOk lo hi/\ ∀l,H l=none->Q (.ref l) (upd H l (.lst (rgV lo hi)))):=by
 intro pins s σ H xs us Q I eT h;obtain⟨r,lo,hi,rfl,hr,ok,h⟩:=h;obtain⟨u,rfl,ru⟩:=tL eT;cases ru;obtain⟨t,u,v,er⟩:=I.hok r _ hr;refine call_list_range (A:=X.A) (I.ok.hd hc) er ok.small (FW lo hi) ok.2.2.2.2 fun h' tk acc c kp e items=>?_;have rv:=xo items;refine⟨.ref _,_,I.laid kp (hU _) (show ObjOk X.prog X.w _ _ _ (.lst (rgV lo hi)) from⟨?_,acc.toList,c,rv,by simpa using e⟩),rfl,h _ I.fresh⟩;have:=ok.2.2.2.2;simp only[rgV,iX,List.length_range,iu];omega
theorem yn(hc:X.calm=true):jf X (.type "tuple") (fun xs H Q=> ∃r lo hi,xs=[.ref r]/\H r=some (.rng lo hi)/\RgOk lo hi/\ ∀l,H l=none->Q (.ref l) (upd H l (.tup (rgV lo hi)))):=by
 intro pins s σ H xs us Q I eT h;obtain⟨r,lo,hi,rfl,hr,ok,h⟩:=h;obtain⟨u,rfl,ru⟩:=tL eT;cases ru;obtain⟨t,u,v,er⟩:=I.hok r _ hr;refine yT (A:=X.A) (I.ok.hd hc) er ok fun h' tk acc kp items=>?_;have rv:=xo items;have I1:Inv X pins σ H {s with heap:=h',toks:=tk}:=I.kept kp;refine⟨.ref _,_,I1.laid (fun b o e=>ig _ e) (hU _) (show ObjOk X.prog X.w _ _ _ (.tup (rgV lo hi)) from⟨?_,acc.toList,rv,by have:=wN h' acc;simpa using this⟩),rfl,h _ I1.fresh⟩;have:=ok.2.2.2.2;simp only[rgV,iX,List.length_range,iu];omega
noncomputable def gRg(mk:List D->D)(o:Bool):List D->Option (D×Bool)
 |[.int j]=>if RgOk 0 j then some (mk (gY 0 j.toNat),o) else none
 |[.int i,.int j]=>if RgOk i j then some (mk (gY i (j-i).toNat),o) else none
 |_=>none
theorem FX{K H}(lo hi:Int):RepL K H O (gY lo (hi-lo).toNat) (rgV lo hi):=Eo lo _
variable {a b:gC}{fa fb:FO}{p p2 pos bC:Pos}
theorem BP(h:upd H r o l=none):H l=none:=by
 by_cases e:l=r
 ·subst e;rw[ik] at h;cases h
 ·rwa [iq e] at h
theorem zW{K:gL}{T T':AP'}{σ:L2.St}{δ δ':Dn}{H H':Hp}{os:List Opd}{vs:List V}{ds:List D}(B:Ops K T σ δ H os vs δ' H' T')(h:sD δ' os=some ds){is:gU}(hd:ds=is.map .int):vs=is.map .int:=by
 obtain⟨h1,h2⟩:=lU h;apply wH;intro j;by_cases hj:j<is.length
 ·rw[qz B h (j:=j) (i:=is[j]) (by rw[hd];simp[hj])];simp[hj]
 ·have l1:=B.len;subst hd;simp at h1;rw[Aw (by omega),Aw (by simp;omega)]
theorem NY{T:String}{z:Str}{mk:List D->D}{o:Bool}(hT:(T="list"/\mk= .lst/\o=true)\/(T="tuple"/\mk= .tup/\o=false))(hc:X.calm=true)(hg:Gl X z)(hm:X.mg z=none)(hv:bootBuiltins z=some (.type T))(hn:z≠"__name__")(l5:(z==("__debug__":Str))=false)
  (dc:Gl X "range")(bJ:X.mg "range"=none)(ha:PA X [a,b] (tA X.K [fa,fb]))
  (s1:starEach [.Call (.Name "range" p2) [a,b] [] bC] X.env=(false,eval (.Call (.Name "range" p2) [a,b] [] bC) X.env)::starEach [] X.env)(s2:starEach [a,b] X.env=(false,eval a X.env)::starEach [b] X.env)
  (j9:(backTo pos (starEach [] X.env)).any (·.1)=false)(bI:(backTo bC (starEach [b] X.env)).any (·.1)=false):
  PX X (.Call (.Name z p) [.Call (.Name "range" p2) [a,b] [] bC] [] pos) (gG (gRg mk o) [fa,fb]):=by
 have len2: ∀{δ δ1:Dn} {os:List Opd},je [fa,fb] δ=some (os,δ1)->os.length=2:=fun {δ δ1 os} h1=>by
  unfold je at h1;obtain⟨p,q1,h1⟩:=gg h1;obtain⟨q,q2,h1⟩:=gg h1;unfold je at q2;obtain⟨p3,q3,q2⟩:=gg q2;obtain⟨q4,q5,q2⟩:=gg q2;unfold je at q5;cases q5;obtain⟨rfl,rfl⟩:=gK h1;cases q2;rfl
 rcases hT with⟨rfl,rfl,rfl⟩|⟨rfl,rfl,rfl⟩
 ·refine PX.imp (oi (yU hc) hg hm hv (kI (oi zO dc bJ AH ha (by decide) (by decide) s2 bI) oJ s1) hn l5 s1 j9) fun σ H Q hw=>?_;obtain⟨δ,T,rr,δ',E,e,k⟩:=hw;obtain⟨⟨os,δ1⟩,h1,e⟩:=gg e;obtain⟨ds,h2,e⟩:=gg e;obtain⟨zz,h3,e⟩:=gg e;obtain⟨rfl,rfl⟩:=gK e;refine⟨δ,T,os,δ1,E,h1,fun vs H1 T1 B=>?_⟩;unfold gRg at h3;split at h3
  ·obtain⟨hl,_⟩:=lU h2;have:=len2 h1;simp at hl;omega
  ·rename_i i j;obtain⟨ok,rfl⟩:=hW h3;refine⟨i,j,zW B h2 (is:=[i,j]) rfl,fun r hr=>⟨r,i,j,rfl,ik,ok,fun l hl=>?_⟩⟩;have hx: ∀a u,H1 a=some u->upd (upd H1 r (.rng i j)) l (.lst (rgV i j)) a=some u:=fun a u e=>jY hl a u (jY hr a u e);exact(B.done k) l _ (BP hl) hx ⟨rgV i j,ik,FX i j⟩
  ·cases h3
 ·refine PX.imp (oi (yn hc) hg hm hv (kI (oi zO dc bJ AH ha (by decide) (by decide) s2 bI) oJ s1) hn l5 s1 j9) fun σ H Q hw=>?_;obtain⟨δ,T,rr,δ',E,e,k⟩:=hw;obtain⟨⟨os,δ1⟩,h1,e⟩:=gg e;obtain⟨ds,h2,e⟩:=gg e;obtain⟨zz,h3,e⟩:=gg e;obtain⟨rfl,rfl⟩:=gK e;refine⟨δ,T,os,δ1,E,h1,fun vs H1 T1 B=>?_⟩;unfold gRg at h3;split at h3
  ·obtain⟨hl,_⟩:=lU h2;have:=len2 h1;simp at hl;omega
  ·rename_i i j;obtain⟨ok,rfl⟩:=hW h3;refine⟨i,j,zW B h2 (is:=[i,j]) rfl,fun r hr=>⟨r,i,j,rfl,ik,ok,fun l hl=>?_⟩⟩;have hx: ∀a u,H1 a=some u->upd (upd H1 r (.rng i j)) l (.tup (rgV i j)) a=some u:=fun a u e=>jY hl a u (jY hr a u e);exact(B.done k) _ _ hx (Rep.mkTup ⟨ik,B.np (BP hl)⟩ (FX i j))
  ·cases h3
end
def Src(h:gQ)(it l:gn)(i:Nat)(xs:jS):Prop:=(h.IsListIter it l i/\h.IsList l xs)\/(h.IsTupleIter it l i/\h.IsTuple l xs)
section
variable {prog:gP}{w:gH}{A:gM}{E:hG}{s:gr}{it l:gn}{i:Nat}{xs:jS}
theorem Src.ne(x:Src h it l i xs):l≠it:=by
 intro e;subst e;rcases x with⟨⟨o,h1,h2,h3⟩,o',g1,g2,n,g3⟩|⟨⟨o,h1,h2,h3⟩,o',g1,g2,n,g3⟩<;>(rw[h1] at g1;cases g1;rw[h3] at g3;cases g3)
theorem Src.lt(x:Src h it l i xs):it<h.objs.size/\l<h.objs.size:=by
 rcases x with⟨⟨o,h1,_⟩,o',g1,_⟩|⟨⟨o,h1,_⟩,o',g1,_⟩<;>exact⟨hV h1,hV g1⟩
theorem Src.keep(x:Src h it l i xs)(k1: ∀o,h.get? it=some o->h'.get? it=some o)(k2: ∀o,h.get? l=some o->h'.get? l=some o):Src h' it l i xs:=by
 rcases x with⟨⟨o,h1,r⟩,o',g1,r'⟩|⟨⟨o,h1,r⟩,o',g1,r'⟩
 ·exact .inl ⟨⟨o,k1 _ h1,r⟩,o',k2 _ g1,r'⟩
 ·exact .inr ⟨⟨o,k1 _ h1,r⟩,o',k2 _ g1,r'⟩
theorem xf{x:gB}{Q:hG}(hit:s.heap.IsTupleIter it l i)(hl:s.heap.IsTuple l xs)(hx:xs[i]?=some x)
  (hQ: ∀h',h'.IsTupleIter it l (i+1)->Heap.SameBut it s.heap h'->Q x {s with heap:=h'}):wpAny (model prog w) A (Builtin.SmallTypes.nextOf (.ref it)) Q E s:=by
 obtain⟨o,ho,hc,hd⟩:=id hit;obtain⟨ol,cW,_,nl,aj⟩:=hl;unfold Builtin.SmallTypes.nextOf;refine gi (pG (name:=Str.ofString "__next__") hit.typeIs Av (mq Av hit.typeIs Im ?_ (Il _)));refine gi (m:=field (.ref it) 0) (lu ho hd (x:= .ref l) rfl ?_);show wpAny _ _ (if(Value.ref l==Value.none)=true then _ else _) _ _ s;rw[gv (by show ¬(Value.ref l==Value.none)=true;exact jc)];refine gi (m:=field (.ref it) 1) (lu ho hd (x:= .int i 0) rfl ?_);refine gi (m:=seqItems? (.ref l)) (pD cW aj ?_);simp only[pH,hx];refine gi (sd ho hd (by simp) (gw ⟨x,rfl,gw (hQ _ ⟨_,rp _ ho (Au (rh hd _)),(As ..).trans hc,?_⟩ (tj ..))⟩));rw[rh hd];simp[rawInt]
theorem yH{Q:hG}(hh:A.handled=none)(hit:s.heap.IsTupleIter it l i)(hl:s.heap.IsTuple l xs)(hx:xs[i]?=none)
  (hE: ∀h' e,Heap.ExtBut it s.heap h'->(∃o,h'.get? e=some o/\o.cls= .type "StopIteration")->E (.ref e) {s with heap:=h'}):wpAny (model prog w) A (Builtin.SmallTypes.nextOf (.ref it)) Q E s:=by
 obtain⟨o,ho,hc,hd⟩:=id hit;obtain⟨ol,cW,_,nl,aj⟩:=hl;unfold Builtin.SmallTypes.nextOf;refine gi (pG (name:=Str.ofString "__next__") hit.typeIs Av (mq Av hit.typeIs Im ?_ (Il _)));refine gi (m:=field (.ref it) 0) (lu ho hd (x:= .ref l) rfl ?_);show wpAny _ _ (if(Value.ref l==Value.none)=true then _ else _) _ _ s;rw[gv (by show ¬(Value.ref l==Value.none)=true;exact jc)];refine gi (m:=field (.ref it) 1) (lu ho hd (x:= .int i 0) rfl ?_);refine gi (m:=seqItems? (.ref l)) (pD cW aj ?_);simp only[pH,hx];refine gi (tx (gi (sd ho hd (by simp) ?_)));refine gi (m:=newExc (.type "StopIteration") []) ?_;simp only[newExc,newTuple];refine gi (kE (gi (m:=firstArgMember _ _) (oV (a:=Value.none) (by first|rfl|(simp only[firstArgMember];rfl)) ?_)) (by size_fits));refine kE ?_ (by size_fits);simp only[raiseNew];refine gi (DQ ?_)
 first|rw[show A.in1.handled=none from hh]|rw[hh]
 exact gi (gw (DP (hE _ _ (((tj ..).extBut.push _).push _) ⟨_,jr _ rfl,rfl⟩)))
theorem Src.item{x:gB}{Q:hG}(st:Src s.heap it l i xs)(hx:xs[i]?=some x)(hQ: ∀h',Src h' it l (i+1) xs->Heap.SameBut it s.heap h'->Q x {s with heap:=h'}):
  wpAny (model prog w) A (Builtin.SmallTypes.nextOf (.ref it)) Q E s:=by
 have ne:=st.ne;rcases st with⟨a,b⟩|⟨a,b⟩
 ·exact wpAny_nextOf_list_item a b hx fun h' a' sb=>hQ h' (.inl ⟨a',b.extBut sb.extBut ne⟩) sb
 ·exact xf a b hx fun h' a' sb=>hQ h' (.inr ⟨a',b.extBut sb.extBut ne⟩) sb
theorem Src.stop{Q:hG}(hh:A.handled=none)(st:Src s.heap it l i xs)(hx:xs[i]?=none)
  (hE: ∀h' e,Heap.ExtBut it s.heap h'->(∃o,h'.get? e=some o/\o.cls= .type "StopIteration")->E (.ref e) {s with heap:=h'}):wpAny (model prog w) A (Builtin.SmallTypes.nextOf (.ref it)) Q E s:=by
 rcases st with⟨a,b⟩|⟨a,b⟩
 ·exact wpAny_nextOf_list_end hh a b hx hE
 ·exact yH hh a b hx hE
theorem Src.new(hl:s.heap.IsList l xs\/s.heap.IsTuple l xs)(hQ: ∀h',Src h' s.heap.objs.size l 0 xs->h'.objs.size=s.heap.objs.size+1->(∀b o,s.heap.get? b=some o->h'.get? b=some o)->Q (.ref s.heap.objs.size) {s with heap:=h'}):
  wpAny (model prog w) A (pyIter (.ref l)) Q E s:=by
 rcases hl with hl|hl
 ·exact wQ hl (hQ _ (.inl ⟨⟨_,jr _ rfl,rfl,rfl⟩,hl.push _⟩) (tw ..) fun b o e=>ig _ e)
 ·exact wpAny_pyIter_tuple hl (hQ _ (.inr ⟨⟨_,jr _ rfl,rfl,rfl⟩,hl.push _⟩) (tw ..) fun b o e=>ig _ e)
end
section
variable {prog:gP}{w:gH}{A:gM}{E:hG}{s:gr}{e it l:gn}{i:Nat}{c:Int}{xs:jS}
end
section
variable {X:Cx}{pins:hJ}{σ:L2.St}{H:Hp}{s:gr}{h':gQ}
theorem GL{t':Nat}{ch:jE}{a:gn}{o:HO}(I:Inv X pins σ H s)(hf: ∀b∈ch,qv X pins H b)(k: ∀b u,b∉ch->s.heap.get? b=some u->h'.get? b=some u)(ha:s.heap.objs.size<=a)(new:ObjOk X.prog X.w (upd H a o) h' a o):
  Inv X pins σ (upd H a o) {s with heap:=h',toks:=t'}:=by
 have hn:=I.hok.fresh ha;have aP: ∀b u,H b=some u->b∉ch:=fun b u e z=>by have:=(hf b z).1;rw[this] at e;cases e
 have up: ∀b u,H b=some u->upd H a o b=some u:=fun b u e=>by rw[iq (lA e hn)];exact e
 have fr: ∀b u,s.heap.get? b=some u->H b=none->upd H a o b=none:=fun b u e n=>by
  rw[iq (fun z=>by subst z;exact absurd (hV e) (Nat.not_lt.mpr ha))];exact n
 refine I.step (g':=s.gens) (d':=s.drawn) (ch:=ch) (fun b hb=>?_) (fun b u _ _ hc e _=>k b u hc e) (fun b u _ _ hc e _=>⟨u.slots,k b u hc e⟩) (fun b u _ e n=>fr b u e n)
  (fun b u hc e=>⟨u,k b u hc e⟩) (fun b xs e=>up b _ e) (fun b _ _ e=>up b _ e) (fun b ps e=>⟨#[],by rw[up b _ e];simp⟩) (fun m hm=>?_) (fun b u e=>?_) I.bare
 ·obtain⟨_,f1,f2,f3,f4,f5⟩:=hf b hb;exact⟨f3,f1,f4,f5⟩
 ·obtain⟨u,es,ep,ho,r⟩:=hm;exact⟨u,es,ep,k _ u (fun z=>(hf _ z).2.1 rfl) ho,r⟩
 ·by_cases hb:b=a
  ·subst hb;rw[ik] at e;cases e;exact new
  ·rw[iq hb] at e;refine(I.hok b u e).stay (fun c v hc q=>k c v ?_ q) (fun c q=>up c _ q) fun c xs q=>up c _ q;rcases hc with z|z
   ·rw[z];exact aP b u e
   ·exact aP c _ z
theorem GN{t':Nat}{ch:jE}(I:Inv X pins σ H s)(hf: ∀b∈ch,qv X pins H b)(k: ∀b u,b∉ch->s.heap.get? b=some u->h'.get? b=some u):Inv X pins σ H {s with heap:=h',toks:=t'}:=by
 have aP: ∀b u,H b=some u->b∉ch:=fun b u e z=>by have:=(hf b z).1;rw[this] at e;cases e
 refine I.step (g':=s.gens) (d':=s.drawn) (ch:=ch) (fun b hb=>?_) (fun b u _ _ hc e _=>k b u hc e) (fun b u _ _ hc e _=>⟨u.slots,k b u hc e⟩) (fun b u _ e n=>n)
  (fun b u hc e=>⟨u,k b u hc e⟩) (fun b xs e=>e) (fun b _ _ e=>e) (fun b ps e=>⟨#[],by rw[e];simp⟩) (fun m hm=>?_) (fun b u e=>?_) I.bare
 ·obtain⟨_,f1,f2,f3,f4,f5⟩:=hf b hb;exact⟨f3,f1,f4,f5⟩
 ·obtain⟨u,es,ep,ho,r⟩:=hm;exact⟨u,es,ep,k _ u (fun z=>(hf _ z).2.1 rfl) ho,r⟩
 ·refine(I.hok b u e).stay (fun c v hc q=>k c v ?_ q) (fun c q=>q) fun c xs q=>q;rcases hc with z|z
  ·rw[z];exact aP b u e
  ·exact aP c _ z
end
def SqX(b:Bool)(K:gL)(H:Hp)(l:gn)(xs:List V):Prop:=if b=true then SqL K H l xs else SqT K H l xs
def ItX(b:Bool)(h:gQ)(it l:gn)(i:Nat):Prop:=if b=true then h.IsListIter it l i else h.IsTupleIter it l i
theorem ItX.keep(x:ItX b h it l i)(k: ∀o,h.get? it=some o->h'.get? it=some o):ItX b h' it l i:=by
 cases b
 ·exact PySem.Heap.IsTupleIter.at (show h.IsTupleIter it l i from x) k
 ·exact PySem.Heap.IsListIter.at (show h.IsListIter it l i from x) k
theorem ItX.obj(x:ItX b h it l i): ∃o,h.get? it=some o/\ ∀v,o.data≠ .cell v:=by
 cases b<;>(obtain⟨o,e,c,d⟩:=x;exact⟨o,e,fun v z=>by rw[d] at z;cases z⟩)
section
variable {X:Cx}{pins:hJ}{σ:L2.St}{H:Hp}{s:gr}
theorem wm(I:Inv X pins σ H s)(q:SqX b X.K H l xs)(t:ItX b s.heap it l i): ∃b6,Vals xs b6/\Src s.heap it l i b6.toArray:=by
 cases b with
 |true=>obtain⟨b6,v,p,_⟩:=I.list q;exact⟨b6,v,.inl ⟨t,p.isList⟩⟩
 |false=>obtain⟨b6,v,p,_⟩:=I.tuple q;exact⟨b6,v,.inr ⟨t,p⟩⟩
theorem FQ(I:Inv X pins σ H s)(q:SqX b X.K H l xs)(q':SqX b X.K H l ys):xs=ys:=by
 cases b with
 |true=>exact I.list_inj q q'
 |false=>exact I.tuple_inj q q'
theorem Kq(t:ItX b h it l i)(hs:Src h it l i xs)(aC:Src h' it l i' xs)(kl: ∀o,h.get? l=some o->h'.get? l=some o):ItX b h' it l i':=by
 cases b with
 |true=>
  rcases aC with⟨a,_⟩|⟨a,c⟩
  ·exact a
  ·rcases hs with⟨_,o,h1,h2,_⟩|⟨⟨o,h1,h2,_⟩,_⟩
   ·obtain⟨o',g1,g2,_⟩:=c;rw[kl _ h1] at g1;cases g1;rw[h2] at g2;injection g2 with g2;exact absurd g2 (by decide)
   ·obtain⟨o',g1,g2,_⟩:=t;rw[h1] at g1;cases g1;rw[h2] at g2;injection g2 with g2;exact absurd g2 (by decide)
 |false=>
  rcases aC with⟨a,c⟩|⟨a,_⟩
  ·rcases hs with⟨⟨o,h1,h2,_⟩,_⟩|⟨_,o,h1,h2,_⟩
   ·obtain⟨o',g1,g2,_⟩:=t;rw[h1] at g1;cases g1;rw[h2] at g2;injection g2 with g2;exact absurd g2 (by decide)
   ·obtain⟨o',g1,g2,_⟩:=c;rw[kl _ h1] at g1;cases g1;rw[h2] at g2;injection g2 with g2;exact absurd g2 (by decide)
  ·exact a
end
theorem Eg{K H}(q:SqA b K H P a xs):SqX b K H a xs:=by
 cases b with
 |true=>exact q.l
 |false=>exact q.t
open AutoSeq1 (wpAny_loadPart')
section
variable {prog:gP}{w:gH}{A:gM}{E:hG}{s:gr}
end
section
variable {X:Cx}{pins:hJ}{σ:L2.St}{H:Hp}{s:gr}{elts:jl}{k1:Nat}{aq:Pos}
theorem Jb(I:Inv X pins σ H s)(q:SqX b X.K H l xs): ∃b6,Vals xs b6/\(s.heap.IsList l b6.toArray\/s.heap.IsTuple l b6.toArray):=by
 cases b with
 |true=>obtain⟨b6,v,p,_⟩:=I.list q;exact⟨b6,v,.inl p.isList⟩
 |false=>obtain⟨b6,v,p,_⟩:=I.tuple q;exact⟨b6,v,.inr p⟩
end
section
variable {prog:gP}{w:gH}{A:gM}{E:hG}{s:gr}{z TI TO i1 i2 l1 l2:gn}{k:Nat}{xs ys:jS}{x y a b:gB}
theorem ID{Q:hG}(D:ZipApart z TI TO i1 i2 l1 l2)(hz:IsZip s.heap z TI TO .none)(t8:IsPair s.heap TI (.ref i1) (.ref i2))(v7:IsPair s.heap TO a b)(h1:Src s.heap i1 l1 k xs)(h2:Src s.heap i2 l2 k ys)(hx:xs[k]?=some x)(hy:ys[k]?=some y)
  (hQ: ∀h',IsZip h' z TI TO (rawInt s.heap.objs.size)->IsPair h' TO x y->Src h' i1 l1 (k+1) xs->Src h' i2 l2 (k+1) ys->IsPair h' s.heap.objs.size x y->(∀c o,c≠z->c≠TO->c≠i1->c≠i2->s.heap.get? c=some o->h'.get? c=some o)->Q (.ref s.heap.objs.size) {s with heap:=h'}):
  wpAny (model prog w) A (Builtin.«zip.__next__» ⟨[.ref z],[]⟩) (fun fin s'=> ∃v,fin= .done (.ret v)/\Q v s') E s:=by
 refine gi (m:=field (.ref z) 2) (lu hz rfl (x:= .bool false) rfl (gi (m:=field (.ref z) 3) (lu hz rfl (x:= .ref TI) rfl (gi (pD t8 rfl (gi (m:=Builtin.SmallTypes.ownedTupleIsFree (.ref z)) ?_))))));unfold Builtin.SmallTypes.ownedTupleIsFree;refine gi (lu hz rfl (x:= .none) rfl (gw ?_));simp only[ie];refine gi (tx (gi (lu hz rfl (x:= .ref TO) rfl (gi (uS hz (by simp) fun h₁ bR ae=>?_)))));replace bR:IsZip h₁ z TI TO .ellipsis:=bR;refine gi ?_;simp only[List.zipIdx_cons,List.zipIdx_nil,wK,List.forIn_nil];have c1:Src h₁ i1 l1 k xs:=h1.keep (fun o e=>ae.extBut _ o D.i1z e) (fun o e=>ae.extBut _ o D.l1z e);refine gi (gi (wG (gi (m:=Builtin.SmallTypes.nextOf (.ref i1)) (c1.item (s:={s with heap:=h₁}) hx fun h₂ c1₂ aa=>gw ?_))));have aZ:IsPair h₂ TO a b:=aa.extBut _ _ D.TOi1 (ae.extBut _ _ D.TOz v7);refine gi (pD (s:={s with heap:=h₂}) aZ rfl (gi (DO (s:={s with heap:=h₂}) aZ fun h₃ bN y9=>gi (DN (gw ?_)))));replace bN:IsPair h₃ TO x b:=bN;have c2:Src h₃ i2 l2 k ys:=h2.keep (fun o e=>y9.extBut _ o D.TOi2.symm (aa.extBut _ o D.i12.symm (ae.extBut _ o D.i2z e))) (fun o e=>y9.extBut _ o D.l2TO (aa.extBut _ o D.l2i1 (ae.extBut _ o D.l2z e)));refine gi (gi (wG (gi (m:=Builtin.SmallTypes.nextOf (.ref i2)) (c2.item (s:={s with heap:=h₃}) hy fun h₄ c2₄ bB=>gw ?_))));have hTO₄:IsPair h₄ TO x b:=bB.extBut _ _ D.TOi2 bN;refine gi (pD (s:={s with heap:=h₄}) hTO₄ rfl (gi (DO (s:={s with heap:=h₄}) hTO₄ fun h₅ bM bj=>gi (DN (gw (gw ?_))))));replace bM:IsPair h₅ TO x y:=bM;refine gi (pD (s:={s with heap:=h₅}) bM rfl (gi (wpAny_newTuple (s:={s with heap:=h₅}) ?_)));have hsz:h₅.objs.size=s.heap.objs.size:=by rw[bj.1,bB.1,y9.1,aa.1,ae.1]
 have hz₅:IsZip h₅ z TI TO .ellipsis:=bj.extBut _ _ D.TOz.symm (bB.extBut _ _ D.i2z.symm (y9.extBut _ _ D.TOz.symm (aa.extBut _ _ D.i1z.symm bR)));have hk₅: ∀c o,c≠z->c≠TO->c≠i1->c≠i2->s.heap.get? c=some o->h₅.get? c=some o:=fun c o d1 d2 d3 d4 e=>bj.extBut _ _ d2 (bB.extBut _ _ d4 (y9.extBut _ _ d2 (aa.extBut _ _ d3 (ae.extBut _ _ d1 e))));have c1₅:Src h₅ i1 l1 (k+1) xs:=c1₂.keep (fun o e=>bj.extBut _ o D.TOi1.symm (bB.extBut _ o D.i12 (y9.extBut _ o D.TOi1.symm e))) (fun o e=>bj.extBut _ o D.l1TO (bB.extBut _ o D.l1i2 (y9.extBut _ o D.l1TO e)));have c2₅:Src h₅ i2 l2 (k+1) ys:=c2₄.keep (fun o e=>bj.extBut _ o D.TOi2.symm e) (fun o e=>bj.extBut _ o D.l2TO e);have hzlt:z<h₅.objs.size:=hV hz₅;refine gi (m:=Builtin.SmallTypes.ownedTupleHandOut (.ref z) (.ref h₅.objs.size)) ?_;unfold Builtin.SmallTypes.ownedTupleHandOut;have hz₆:IsZip (h₅.push {cls:= .type "tuple",data:= .seq #[x,y]}) z TI TO .ellipsis:=ig _ hz₅;refine gi (uS (s:={s with heap:=h₅.push {cls:= .type "tuple",data:= .seq #[x,y]}}) hz₆ (by simp) fun h₇ fj sb₇=>?_);replace fj:IsZip h₇ z TI TO (rawInt h₅.objs.size):=fj;refine uS (s:={s with heap:=h₇}) fj (by simp) fun h₈ eC sb₈=>?_;replace eC:IsZip h₈ z TI TO (rawInt h₅.objs.size):=eC;have up: ∀c o,c≠z->h₅.get? c=some o->h₈.get? c=some o:=fun c o d1 e=>sb₈.extBut _ _ d1 (sb₇.extBut _ _ d1 (ig _ e));have hT₈:IsPair h₈ h₅.objs.size x y:=sb₈.extBut _ _ (pI hzlt) (sb₇.extBut _ _ (pI hzlt) (jr _ rfl));rw[hsz] at eC hT₈;refine gw ⟨_,rfl,?_⟩;show Q (.ref h₅.objs.size) _;rw[hsz];exact hQ h₈ eC (up _ _ D.TOz bM) (c1₅.keep (fun o e=>up _ o D.i1z e) fun o e=>up _ o D.l1z e) (c2₅.keep (fun o e=>up _ o D.i2z e) fun o e=>up _ o D.l2z e) hT₈ fun c o d1 d2 d3 d4 e=>up c o d1 (hk₅ c o d1 d2 d3 d4 e)
theorem IC{Q:Fin->Shared->Prop}(hh:A.handled=none)(D:ZipApart z TI TO i1 i2 l1 l2)(hz:IsZip s.heap z TI TO .none)(t8:IsPair s.heap TI (.ref i1) (.ref i2))(v7:IsPair s.heap TO a b)(h1:Src s.heap i1 l1 k xs)(h2:Src s.heap i2 l2 k ys)(t6:xs[k]?=none\/ys[k]?=none)
  (hE: ∀h' e,(∀c o,c≠z->c≠TO->c≠i1->c≠i2->s.heap.get? c=some o->h'.get? c=some o)->(∃o,h'.get? e=some o/\o.cls= .type "StopIteration")->E (.ref e) {s with heap:=h'}):wpAny (model prog w) A (Builtin.«zip.__next__» ⟨[.ref z],[]⟩) Q E s:=by
 have notzip: ∀{h:gQ} {e:gn} {oe:Obj} {f0:gB},IsZip h z TI TO f0->h.get? e=some oe->oe.cls= .type "StopIteration"->e≠z:=fun hzz cC bL q=>by
  subst q;have hzz':_=_:=hzz;rw[cC] at hzz';cases hzz';injection bL with bL;exact absurd bL (by decide)
 refine gi (m:=field (.ref z) 2) (lu hz rfl (x:= .bool false) rfl (gi (m:=field (.ref z) 3) (lu hz rfl (x:= .ref TI) rfl (gi (pD t8 rfl (gi (m:=Builtin.SmallTypes.ownedTupleIsFree (.ref z)) ?_))))));unfold Builtin.SmallTypes.ownedTupleIsFree;refine gi (lu hz rfl (x:= .none) rfl (gw ?_));simp only[ie];refine gi (tx (gi (lu hz rfl (x:= .ref TO) rfl (gi (uS hz (by simp) fun h₁ bR ae=>?_)))));replace bR:IsZip h₁ z TI TO .ellipsis:=bR;refine gi ?_;simp only[List.zipIdx_cons,List.zipIdx_nil,wK,List.forIn_nil];have c1:Src h₁ i1 l1 k xs:=h1.keep (fun o e=>ae.extBut _ o D.i1z e) (fun o e=>ae.extBut _ o D.l1z e)
 cases hx:xs[k]? with
 |none=>
  refine gi (gi (wG (gi (m:=Builtin.SmallTypes.nextOf (.ref i1)) (c1.stop (s:={s with heap:=h₁}) hh hx fun h₂ e aa ⟨oe,cC,bL⟩=>?_))));have hz₂:IsZip h₂ z TI TO .ellipsis:=aa _ _ D.i1z.symm bR;exact uS (s:={s with heap:=h₂}) hz₂ (by simp) fun h₃ _ y9=>hE h₃ e (fun c o d1 _ d3 _ q=>y9.extBut _ _ d1 (aa _ _ d3 (ae.extBut _ _ d1 q))) ⟨oe,y9.extBut _ _ (notzip hz₂ cC bL) cC,bL⟩
 |some x=>
  have hy:ys[k]?=none:=by rcases t6 with h|h;rw[hx] at h;cases h;exact h
  refine gi (gi (wG (gi (m:=Builtin.SmallTypes.nextOf (.ref i1)) (c1.item (s:={s with heap:=h₁}) hx fun h₂ c1₂ aa=>gw ?_))));have aZ:IsPair h₂ TO a b:=aa.extBut _ _ D.TOi1 (ae.extBut _ _ D.TOz v7);refine gi (pD (s:={s with heap:=h₂}) aZ rfl (gi (DO (s:={s with heap:=h₂}) aZ fun h₃ bN y9=>gi (DN (gw ?_)))));have c2:Src h₃ i2 l2 k ys:=h2.keep (fun o e=>y9.extBut _ o D.TOi2.symm (aa.extBut _ o D.i12.symm (ae.extBut _ o D.i2z e))) (fun o e=>y9.extBut _ o D.l2TO (aa.extBut _ o D.l2i1 (ae.extBut _ o D.l2z e)));refine gi (gi (wG (gi (m:=Builtin.SmallTypes.nextOf (.ref i2)) (c2.stop (s:={s with heap:=h₃}) hh hy fun h₄ e bB ⟨oe,cC,bL⟩=>?_))));have hz₄:IsZip h₄ z TI TO .ellipsis:=bB _ _ D.i2z.symm (y9.extBut _ _ D.TOz.symm (aa.extBut _ _ D.i1z.symm bR));exact uS (s:={s with heap:=h₄}) hz₄ (by simp) fun h₅ _ bj=>hE h₅ e (fun c o d1 d2 d3 d4 q=>bj.extBut _ _ d1 (bB _ _ d4 (y9.extBut _ _ d2 (aa.extBut _ _ d3 (ae.extBut _ _ d1 q))))) ⟨oe,bj.extBut _ _ (notzip hz₄ cC bL) cC,bL⟩
theorem Er{Q:Fy}(D:ZipApart z TI TO i1 i2 l1 l2)(hz:IsZip s.heap z TI TO .none)(t8:IsPair s.heap TI (.ref i1) (.ref i2))(v7:IsPair s.heap TO a b)(h1:Src s.heap i1 l1 k xs)(h2:Src s.heap i2 l2 k ys)(hx:xs[k]?=some x)(hy:ys[k]?=some y)
  (hQ: ∀h',IsZip h' z TI TO (rawInt s.heap.objs.size)->IsPair h' TO x y->Src h' i1 l1 (k+1) xs->Src h' i2 l2 (k+1) ys->IsPair h' s.heap.objs.size x y->(∀c o,c≠z->c≠TO->c≠i1->c≠i2->s.heap.get? c=some o->h'.get? c=some o)->Q (some (.ref s.heap.objs.size)) {s with heap:=h'}):
  wpAny (model prog w) A (pyNext (.ref z)) Q E s:=by
 have hT:s.TypeIs (.ref z) "zip":=⟨_,hz,rfl⟩
 unfold pyNext
 exact gi (rZ (pG (name:=Str.ofString "__next__") hT Ar (mq Ar hT F.entry_zip_next
  (ID D hz t8 v7 h1 h2 hx hy fun h' a1 a2 a3 a4 a5 a6=>gw (hQ h' a1 a2 a3 a4 a5 a6)) (F.args_zip_next_1 _))))
theorem xp{Q:Fy}(hh:A.handled=none)(D:ZipApart z TI TO i1 i2 l1 l2)(hz:IsZip s.heap z TI TO .none)(t8:IsPair s.heap TI (.ref i1) (.ref i2))(v7:IsPair s.heap TO a b)(h1:Src s.heap i1 l1 k xs)(h2:Src s.heap i2 l2 k ys)(t6:xs[k]?=none\/ys[k]?=none)
  (hQ: ∀h',(∀c o,c≠z->c≠TO->c≠i1->c≠i2->s.heap.get? c=some o->h'.get? c=some o)->Q none {s with heap:=h'}):wpAny (model prog w) A (pyNext (.ref z)) Q E s:=by
 have hT:s.TypeIs (.ref z) "zip":=⟨_,hz,rfl⟩
 unfold pyNext
 exact gi (rZ (pG (name:=Str.ofString "__next__") hT Ar (mq Ar hT F.entry_zip_next
  (IC hh D hz t8 v7 h1 h2 t6 fun h' e hk ⟨o,ho,hc⟩=>gi (uR (T:="StopIteration") (b:=true) ⟨o,ho,hc⟩ DM (gw (hQ _ hk)))) (F.args_zip_next_1 _))))
end
theorem Lv(l1 l2:gn)(xs ys:jS):Meets (Builtin.«zip.__new__» ⟨[.type "zip",.ref l1,.ref l2],[]⟩) (fun _ R s=>(s.heap.IsList l1 xs\/s.heap.IsTuple l1 xs)/\(s.heap.IsList l2 ys\/s.heap.IsTuple l2 ys)/\
  ∀h1 h2,Src h1 s.heap.objs.size l1 0 xs->h1.objs.size=s.heap.objs.size+1->(∀b o,s.heap.get? b=some o->h1.get? b=some o)->Src h2 h1.objs.size l2 0 ys->h2.objs.size=h1.objs.size+1->(∀b o,h1.get? b=some o->h2.get? b=some o)->
   R (.ok (.ret (.ref ((h2.push {cls:= .type "tuple",data:= .seq #[.ref s.heap.objs.size,.ref h1.objs.size]}).push {cls:= .type "tuple",data:= .seq #[.none,.none]}).objs.size)))
    {s with heap:=((h2.push {cls:= .type "tuple",data:= .seq #[.ref s.heap.objs.size,.ref h1.objs.size]}).push {cls:= .type "tuple",data:= .seq #[.none,.none]}).push {cls:= .type "zip",data:= .fields #[.none,.bool false,.bool false,.ref h2.objs.size,.ref (h2.push {cls:= .type "tuple",data:= .seq #[.ref s.heap.objs.size,.ref h1.objs.size]}).objs.size]}}):=
 .of_wp fun prog w A R s h=>by
  obtain⟨hp,g,d,tk,os⟩:=s;obtain⟨bp,aD,h⟩:=h;have au:=sub_zip
  wp_walk using Src.new bp
  intro h1 a1 a2 a3
  have hl2':h1.IsList l2 ys\/h1.IsTuple l2 ys:=by
   rcases aD with⟨o,e,r⟩|⟨o,e,r⟩
   ·exact .inl ⟨o,a3 _ _ e,r⟩
   ·exact .inr ⟨o,a3 _ _ e,r⟩
  wp_walk using Src.new (s:=⟨h1,g,d,tk,os⟩) hl2'
  intro h2 b1 b2 b3
  wp_walk
  exact⟨_,rfl,h h1 h2 a1 a2 a3 b1 b2 b3⟩
noncomputable def ItZ(b1 b2:Bool)(K:gL)(l1 l2:gn):It:=⟨fun i H=> ∃xs ys x y,SqX b1 K H l1 xs/\SqX b2 K H l2 ys/\xs[i]?=some x/\ys[i]?=some y,
 fun i H x H'=> ∃(T:gn) (u v:V),x= .ref T/\H T=none/\H'=upd H T (.tup [u,v])/\ ∀xs ys,SqX b1 K H l1 xs->SqX b2 K H l2 ys->xs[i]?=some u/\ys[i]?=some v,
 fun i H=> ∃xs ys,SqX b1 K H l1 xs/\SqX b2 K H l2 ys/\(xs.length<=i\/ys.length<=i)⟩
structure ZA(z TI TO i1 i2:gn):Prop where
 a1:TI≠z
 a2:TO≠z
 a3:i1≠z
 a4:i2≠z
 a5:TI≠TO
 a6:TI≠i1
 a7:TI≠i2
 a8:TO≠i1
 a9:TO≠i2
 a10:i1≠i2
theorem tM{b:Bool}{K:gL}{H:Hp}{l:gn}{xs:List V}{X:Cx}{pins:hJ}{σ:L2.St}{s:gr}(I:Inv X pins σ H s)(hK:X.K=K)(q:SqX b K H l xs){fp:jE}(hf: ∀a∈fp,qv X pins H a):l∉fp:=by
 subst hK;intro hm;have hn:=(hf l hm).1
 have base: ∀o,X.K.lookup l=some o->False:=fun o e=>by
  have e1:=I.mod.kin l o e;rcases(hf l hm).2.2.2.1 with z|z
  ·exact I.ok.noex l o e1 z
  ·have:=(I.ok.bs l o e1).1;exact absurd (hV this) (Nat.not_lt.mpr z)
 cases b with
 |true=>
  rcases q with(q|⟨o,q⟩)|⟨o,b6,n,e,_⟩
  ·rw[hn] at q;cases q
  ·rw[hn] at q;cases q
  ·exact base o e
 |false=>
  rcases q with(q|⟨o,q⟩)|⟨o,b6,n,e,_⟩
  ·rw[hn] at q;cases q
  ·rw[hn] at q;cases q
  ·exact base o e
theorem IL{P:gP}{w:gH}{K:gL}{elts:jl}{k1}{pos:Pos}(b1 b2:Bool)(z TI TO i1 i2 l1 l2:gn)(D:ZA z TI TO i1 i2):
  Turn P w K (.Tuple elts k1 pos) (ItZ b1 b2 K l1 l2) [z,TI,TO,i1,i2] z (fun i h=>IsZip h z TI TO .none/\IsPair h TI (.ref i1) (.ref i2)/\(∃a b,IsPair h TO a b)/\ItX b1 h i1 l1 i/\ItX b2 h i2 l2 i) where
 mem:=by simp
 obj:=fun i h st a ha=>by
  obtain⟨hz,t8,⟨u,v,v7⟩,s1,s2⟩:=st;simp only[jg,jF,kL] at ha;rcases ha with rfl|rfl|rfl|rfl|rfl
  ·exact⟨_,hz,fun v e=>by have e':Data.fields _=Data.cell v:=e;cases e'⟩
  ·exact⟨_,t8,fun v e=>by have e':Data.seq _ _=Data.cell v:=e;cases e'⟩
  ·exact⟨_,v7,fun v e=>by have e':Data.seq _ _=Data.cell v:=e;cases e'⟩
  ·exact s1.obj
  ·exact s2.obj
 keep:=fun i h h' st k=>by
  obtain⟨hz,t8,⟨u,v,v7⟩,s1,s2⟩:=st;exact⟨k z (by simp) _ hz,k TI (by simp) _ t8,⟨u,v,k TO (by simp) _ v7⟩,s1.keep fun o q=>k i1 (by simp) o q,s2.keep fun o q=>k i2 (by simp) o q⟩
 item:=by
  intro X hP hw hK hc i pins s σ H E I hf st hg;obtain⟨hz,t8,⟨a0,b0,v7⟩,s1,s2⟩:=st;obtain⟨xs,ys,x,y,bH,bG,hx,hy⟩:=hg;have n1:=tM I hK bH hf;have n2:=tM I hK bG hf;simp only[jg,jF,kL,nQ] at n1 n2;subst hP hw hK;obtain⟨cp,eS,aJ⟩:=wm I bH s1;obtain⟨e9,eR,aI⟩:=wm I bG s2;obtain⟨u,hu,ru⟩:=eS.get hx;obtain⟨v,hv,rv⟩:=eR.get hy;have AP:ZipApart z TI TO i1 i2 l1 l2:=⟨D.a1,D.a2,D.a3,D.a4,D.a5,D.a6,D.a7,D.a8,D.a9,D.a10,n1.1,n1.2.2.1,n1.2.2.2.1,n1.2.2.2.2,n2.1,n2.2.2.1,n2.2.2.2.1,n2.2.2.2.2⟩
  refine Er AP hz t8 v7 aJ aI (x:=u) (y:=v) (by simpa using hu) (by simpa using hv) fun h' z' t1 c1 c2 hT kp=>⟨.ref s.heap.objs.size,rfl,?_⟩
  refine wpAny_letOwnedTupleGo_zip (s:={s with heap:=h'}) z' fun dh z'' sb=>?_;replace sb:Heap.SameBut z h' dh:=sb
  have eY: ∀a o,a∉[z,TI,TO,i1,i2]->s.heap.get? a=some o->dh.get? a=some o:=fun a o na q=>by
   simp only[jg,jF,kL,nQ] at na;exact sb.extBut a o na.1 (kp a o na.1 na.2.2.1 na.2.2.2.1 na.2.2.2.2 q)
  have lt: ∀{c o},s.heap.get? c=some o->s.heap.objs.size≠c:=fun e=>pI (hV e);have hT'':IsPair dh s.heap.objs.size u v:=sb.extBut _ _ (lt hz) hT
  have I1:Inv X pins σ (upd H s.heap.objs.size (.tup [x,y])) {s with heap:=dh}:=
   GL (t':=s.toks) I hf eY (hU _) (show ObjOk X.prog X.w _ _ _ (.tup [x,y]) from⟨by show 2<=sizeLine;decide,[u,v],.cons ru (.cons rv .nil),_,hT'',rfl,0,rfl⟩)
  have t1'':ItX b1 dh i1 l1 (i+1):=Kq s1 aJ (c1.keep (fun o q=>sb.extBut _ o D.a3 q) fun o q=>sb.extBut _ o n1.1 q) fun o q=>eY l1 o (by simp only[jg,jF,kL,nQ];exact n1) q;have t2'':ItX b2 dh i2 l2 (i+1):=Kq s2 aI (c2.keep (fun o q=>sb.extBut _ o D.a4 q) fun o q=>sb.extBut _ o n2.1 q) fun o q=>eY l2 o (by simp only[jg,jF,kL,nQ];exact n2) q;refine⟨.ref s.heap.objs.size,_,I1,rfl,⟨_,x,y,rfl,I.fresh,rfl,fun bZ ys' q1 q2=>by rw[FQ I q1 bH,FQ I q2 bG];exact⟨hx,hy⟩⟩,⟨z'',sb.extBut _ _ D.a1 (kp _ _ D.a1 D.a5 D.a6 D.a7 t8),⟨u,v,sb.extBut _ _ D.a2 t1⟩,t1'',t2''⟩,fun a ha=>?_⟩;have n0:=(hf a ha).1;rw[iq]
  ·exact n0
  ·intro e;simp only[jg,jF,kL] at ha;rcases ha with rfl|rfl|rfl|rfl|rfl
   ·exact lt hz e.symm
   ·exact lt t8 e.symm
   ·exact lt v7 e.symm
   ·exact absurd e (iz aJ.lt.1)
   ·exact absurd e (iz aI.lt.1)
 done:=by
  intro X hP hw hK hc i pins s σ H E I hf st hg;obtain⟨hz,t8,⟨a0,b0,v7⟩,s1,s2⟩:=st;obtain⟨xs,ys,bH,bG,t6⟩:=hg;have n1:=tM I hK bH hf;have n2:=tM I hK bG hf;simp only[jg,jF,kL,nQ] at n1 n2;subst hP hw hK;obtain⟨cp,eS,aJ⟩:=wm I bH s1;obtain⟨e9,eR,aI⟩:=wm I bG s2;have e1:=eS.length;have e2:=eR.length;have AP:ZipApart z TI TO i1 i2 l1 l2:=⟨D.a1,D.a2,D.a3,D.a4,D.a5,D.a6,D.a7,D.a8,D.a9,D.a10,n1.1,n1.2.2.1,n1.2.2.2.1,n1.2.2.2.2,n2.1,n2.2.2.1,n2.2.2.2.1,n2.2.2.2.2⟩
  refine xp (I.ok.hd hc) AP hz t8 v7 aJ aI (t6.imp (fun h=>by simp;omega) fun h=>by simp;omega) fun h' kp=>⟨rfl,GN (t':=s.toks) I hf fun a o na q=>?_⟩
  simp only[jg,jF,kL,nQ] at na;exact kp a o na.1 na.2.2.1 na.2.2.2.1 na.2.2.2.2 q
 self:=fun _ _ _ _ _ st h=>wpAny_pyIter_zip st.1 h
theorem Ks{K:gL}{P O:AP'}{H1:Hp}{a1 a2:gn}{xs ys:List V}{ds es:List D}{b1 b2:Bool}(q1:SqA b1 K H1 P a1 xs)(r1:RepL K H1 O ds xs)(q2:SqA b2 K H1 P a2 ys)(r2:RepL K H1 O es ys)(hP: ∀a,P a->O a):
  ItOk K (ItZ b1 b2 K a1 a2) ((ds.zip es).map fun p=> .tup [p.1,p.2]) P O H1:=by
 have sq: ∀{b:Bool} {a:gn} {xs:List V},SqA b K H1 P a xs-> ∀Hi,(∀a o,H1 a=some o-> ¬P a->Hi a=some o)->SqX b K Hi a xs:=fun q Hi hp=>Eg (q.mono hp fun _ z=>z);refine⟨fun i d Hi hd hp=>?_,fun i Hi hi hp=>⟨xs,ys,sq q1 Hi hp,sq q2 Hi hp,by rw[r1.length,r2.length];simp at hi;omega⟩⟩;rw[kF] at hd;obtain⟨⟨d1,d2⟩,h1,h2⟩:=iK hd;obtain⟨h3,h4⟩:=Dr.mp h1;obtain⟨x,hx,rx⟩:=r1.get h3;obtain⟨y,hy,ry⟩:=r2.get h4;refine⟨⟨xs,ys,x,y,sq q1 Hi hp,sq q2 Hi hp,hx,hy⟩,fun v H' hy'=>?_⟩;obtain⟨T,u,w,rfl,hT,rfl,hz⟩:=hy';obtain⟨g1,g2⟩:=hz xs ys (sq q1 Hi hp) (sq q2 Hi hp);rw[hx] at g1;cases g1;rw[hy] at g2;cases g2;have ext:=jY (o:= .tup [x,y]) hT;refine⟨ext,fun O' h1 dS=>?_⟩;subst h2;exact Rep.mkTup ⟨ik,dS T hT⟩ (RepL.cons (Rep.mono (fun b o e n=>ext b o (hp b o e fun z=>n (hP b z))) (fun b hb z=>h1 b hb z) rx) (RepL.cons (Rep.mono (fun b o e n=>ext b o (hp b o e fun z=>n (hP b z))) (fun b hb z=>h1 b hb z) ry) RepL.nil))
section
variable {X:Cx}{elts:jl}{k1:Nat}{aq:Pos}
theorem Po:bootBuiltins "zip"=some (.type "zip"):=by decide+kernel
def S6(K:gL)(ta:TA):TI:=fun σ H R=>ta σ H fun vs H1=> ∃b1 b2 l1 l2 xs ys,vs=[.ref l1,.ref l2]/\SqX b1 K H1 l1 xs/\SqX b2 K H1 l2 ys/\R (ItZ b1 b2 K l1 l2) H1
theorem Gi(I:Inv X pins σ H s)(hq:SqX b X.K H l xs)(src:Src s.heap it l i b6):ItX b s.heap it l i:=by
 cases b with
 |true=>
  rcases src with⟨a,_⟩|⟨_,o,h1,h2,_⟩
  ·exact a
  ·obtain⟨_,_,p,_⟩:=I.list hq;obtain⟨o',g1,g2,_⟩:=p.isList;rw[h1] at g1;cases g1;rw[h2] at g2;injection g2 with g2;exact absurd g2 (by decide)
 |false=>
  rcases src with⟨_,o,h1,h2,_⟩|⟨a,_⟩
  ·obtain⟨_,_,p,_⟩:=I.tuple hq;obtain⟨o',g1,g2,_⟩:=p;rw[h1] at g1;cases g1;rw[h2] at g2;injection g2 with g2;exact absurd g2 (by decide)
  ·exact a
theorem Oq{a b:gC}{ta:TA}{p pos:Pos}(hg:Gl X "zip")(hm:X.mg "zip"=none)(ha:PA X [a,b] ta)(hs:starEach [a,b] X.env=(false,eval a X.env)::starEach [b] X.env)(j9:(backTo pos (starEach [b] X.env)).any (·.1)=false):
  PI X (.Tuple elts k1 aq) (.Call (.Name "zip" p) [a,b] [] pos) (S6 X.K ta):=by
 intro pins s0 σ H0 R I0 h;refine AF (vm I0 hg hm Po (AG (thn (ha pos pins s0 σ H0 _ I0 h) fun us s ⟨vs,H,I,r1,b1,b2,l1,l2,xs,ys,hv,bH,bG,q⟩=>?_) hs j9));subst hv;obtain⟨u,v,rfl,ru,rv⟩:=xc r1;cases ru;cases rv;obtain⟨cp,_,bp⟩:=Jb I bH;obtain⟨e9,_,aD⟩:=Jb I bG;refine callType_new F.called_zip (by decide) (F.typeCall_zip_2 _ _) (F.newCall_zip_2 _ _) (fun obj=>F.args_object_init_3 obj _ _) F.entry_zip_new (Lv l1 l2 cp.toArray e9.toArray) ⟨bp,aD,fun h1 h2 c1 z1 k1 c2 z2 k2=>?_⟩;generalize ho3:({cls:= .type "tuple",data:= .seq #[.ref s.heap.objs.size,.ref h1.objs.size]}:Obj)=o3;generalize ho4:({cls:= .type "tuple",data:= .seq #[.none,.none]}:Obj)=o4;have z3:(h2.push o3).objs.size=h2.objs.size+1:=tw ..;have z4:((h2.push o3).push o4).objs.size=h2.objs.size+2:=by rw[tw,z3]
 generalize ho5:({cls:= .type "zip",data:= .fields #[.none,.bool false,.bool false,.ref h2.objs.size,.ref (h2.push o3).objs.size]}:Obj)=o5;have g5:(((h2.push o3).push o4).push o5).get? ((h2.push o3).push o4).objs.size=some o5:=jr _ (by rw[<-ho5];rfl);have g4:(((h2.push o3).push o4).push o5).get? (h2.push o3).objs.size=some o4:=ig _ (jr _ (by rw[<-ho4];rfl));have g3:(((h2.push o3).push o4).push o5).get? h2.objs.size=some o3:=ig _ (ig _ (jr _ (by rw[<-ho3];rfl)));have kp: ∀c o,h2.get? c=some o->(((h2.push o3).push o4).push o5).get? c=some o:=fun c o e=>ig _ (ig _ (ig _ e));have cq:IsZip (((h2.push o3).push o4).push o5) ((h2.push o3).push o4).objs.size h2.objs.size (h2.push o3).objs.size .none:=by show _=_;rw[g5,<-ho5]
 have t8:IsPair (((h2.push o3).push o4).push o5) h2.objs.size (.ref s.heap.objs.size) (.ref h1.objs.size):=by show _=_;rw[g3,<-ho3]
 have v7:IsPair (((h2.push o3).push o4).push o5) (h2.push o3).objs.size .none .none:=by show _=_;rw[g4,<-ho4]
 have I1:Inv X pins σ H {s with heap:=((h2.push o3).push o4).push o5}:=I.kept (t':=s.toks) fun c o e=>kp c o (k2 c o (k1 c o e));have d1:=c1.keep (h':=((h2.push o3).push o4).push o5) (fun o e=>kp _ o (k2 _ o e)) (fun o e=>kp _ o (k2 _ o e));have d2:=c2.keep (h':=((h2.push o3).push o4).push o5) (fun o e=>kp _ o e) (fun o e=>kp _ o e);refine⟨⟨_,cq,rfl⟩,wpAny_pyIter_zip (s:={s with heap:=((h2.push o3).push o4).push o5}) cq ?_⟩;refine⟨((h2.push o3).push o4).objs.size,[((h2.push o3).push o4).objs.size,h2.objs.size,(h2.push o3).objs.size,s.heap.objs.size,h1.objs.size],_,_,H,rfl,I1,IL b1 b2 _ _ _ _ _ l1 l2 ⟨?_,?_,?_,?_,?_,?_,?_,?_,?_,?_⟩,⟨cq,t8,⟨_,_,v7⟩,Gi I1 bH d1,Gi I1 bG d2⟩,fun a ha=>?_,q⟩
 ·rw[z4];exact iz (Nat.lt_add_of_pos_right (by decide))
 ·rw[z4,z3];exact iz (tq _)
 ·rw[z4,z2,z1];exact iz (by
   have:s.heap.objs.size<s.heap.objs.size+1+1+2:=by omega
   exact this)
 ·rw[z4,z2];exact iz (by
   have:h1.objs.size<h1.objs.size+1+2:=by omega
   exact this)
 ·rw[z3];exact iz (tq _)
 ·rw[z2,z1];exact pI (by
   have:s.heap.objs.size<s.heap.objs.size+1+1:=by omega
   exact this)
 ·rw[z2];exact pI (tq _)
 ·rw[z3,z2,z1];exact pI (by
   have:s.heap.objs.size<s.heap.objs.size+1+1+1:=by omega
   exact this)
 ·rw[z3,z2];exact pI (by
   have:h1.objs.size<h1.objs.size+1+1:=by omega
   exact this)
 ·rw[z1];exact iz (tq _)
 ·have le:s.heap.objs.size<=a:=by
   simp only[jg,jF,kL] at ha;rcases ha with rfl|rfl|rfl|rfl|rfl
   ·rw[z4,z2,z1];have:s.heap.objs.size<=s.heap.objs.size+1+1+2:=by omega
    exact this
   ·rw[z2,z1];have:s.heap.objs.size<=s.heap.objs.size+1+1:=by omega
    exact this
   ·rw[z3,z2,z1];have:s.heap.objs.size<=s.heap.objs.size+1+1+1:=by omega
    exact this
   ·exact hU _
   ·rw[z1];exact uX _
  exact I.fpOk le (I.hok.fresh le)
noncomputable def vn(f g:FO):FIt:=fun δ=>(f δ).bind fun p=>(g p.2).bind fun q=>(res q.2 p.1).bind fun x=>(res q.2 q.1).bind fun y=>(zi x).bind fun l=>(zi y).bind fun m=>some ((l.zip m).map fun p=> .tup [p.1,p.2],q.2)
theorem JE{B:SB}{a b:gC}{f g:FO}{p pos:Pos}(hg:Gl X "zip")(hm:X.mg "zip"=none)(ha:PO X a f)(hb:PO X b g)(B1:SlB B f)(B2:SlB B g)(hs:starEach [a,b] X.env=(false,eval a X.env)::starEach [b] X.env)(o8:starEach [b] X.env=(false,eval b X.env)::starEach [] X.env)(j9:(backTo pos (starEach [b] X.env)).any (·.1)=false):
  PIX X B (.Tuple elts k1 aq) (.Call (.Name "zip" p) [a,b] [] pos) (vn f g):=PI.imp' (Oq hg hm (ua ha (ua hb A0 o8) hs) hs j9) fun σ H R hw=>by
 obtain⟨δ,T,ds,δ',E,e,k⟩:=hw;obtain⟨⟨o1,δ1⟩,h1,e⟩:=gg e;obtain⟨⟨o2,δ2⟩,h2,e⟩:=gg e;obtain⟨x,h3,e⟩:=gg e;obtain⟨y,h4,e⟩:=gg e;obtain⟨l,h5,e⟩:=gg e;obtain⟨m,h6,e⟩:=gg e;obtain⟨rfl,rfl⟩:=gK e;dsimp only at h2;refine⟨δ,T,[o1,o2],δ2,E,?_,fun vs H1 T1 W=>?_⟩
 ·simp only[je,h1,h2,Option.bind]
 ·have hl:=W.len
  match vs,hl with
  |[v,u],_=>
   obtain⟨a1,xs,rfl,q1,rr1⟩:=W.seq E (j:=0) rfl rfl h3 h5 fun i hi=>B1 _ _ _ (hi▸h1);obtain⟨a2,ys,rfl,q2,rr2⟩:=W.seq E (j:=1) rfl rfl h4 h6 fun i hi=>B2 _ _ _ (hi▸h2);exact⟨_,_,a1,a2,xs,ys,rfl,Eg q1,Eg q2,k _ H1 W.keep (W.er.mono (fun _ _ e _=>e) (fun b _ z=>W.tt b z) (fun a z=>W.er.dom a (W.tt a z))) (Ks q1 rr1 q2 rr2 fun a z=>z.own)⟩
end
end PX
namespace TS
open PySem PyProof.Rows
section
variable(M:Model)(A:gM)(E:hG)(G:Shared->Prop){σ:Type}
def wpI{α:Type}(m:StateT σ Sem α)(Q:α->σ->Prop)(st:σ):Prop:= ∀s,G s->wpAny M A (m.run st) (fun r s'=>G s'/\Q r.1 r.2) E s
variable {M A E G}
theorem gp{α:Type}{a:α}{Q:α->σ->Prop}{st:σ}(h:Q a st):wpI M A E G (pure a:StateT σ Sem α) Q st:=fun s g=>by rw[StateT.run_pure];exact gw ⟨g,h⟩
theorem gm{α β:Type}{m:StateT σ Sem α}{f:α->StateT σ Sem β}{Q:β->σ->Prop}{st:σ}(h:wpI M A E G m (fun a b8=>wpI M A E G (f a) Q b8) st):wpI M A E G (m>>=f) Q st:=fun s g=>by
 rw[StateT.run_bind];exact gi (oW (h s g) (fun r s' h'=>h'.2 s' h'.1) fun _ _ e=>e)
theorem iF{α:Type}{m:StateT σ Sem α}{Q Q':α->σ->Prop}{st:σ}(h:wpI M A E G m Q st)(hq: ∀a b8,Q a b8->Q' a b8):wpI M A E G m Q' st:=fun s g=>oW (h s g) (fun r _ h'=>⟨h'.1,hq _ _ h'.2⟩) fun _ _ e=>e
theorem kG{Q:σ->σ->Prop}{st:σ}(h:Q st st):wpI M A E G (get:StateT σ Sem σ) Q st:=fun s g=>by rw[StateT.run_get];exact gw ⟨g,h⟩
theorem Lw{Q:PUnit->σ->Prop}{st b8:σ}(h:Q ⟨⟩ b8):wpI M A E G (set b8:StateT σ Sem PUnit) Q st:=fun s g=>by rw[StateT.run_set];exact gw ⟨g,h⟩
theorem jA{f:σ->σ}{Q:PUnit->σ->Prop}{st:σ}(h:Q ⟨⟩ (f st)):wpI M A E G (modify f:StateT σ Sem PUnit) Q st:=fun s g=>by rw[StateT.run_modify];exact gw ⟨g,h⟩
theorem BH{α:Type}{m:Sem α}{Q:α->σ->Prop}{st:σ}(h: ∀s,G s->wpAny M A m (fun a s'=>G s'/\Q a st) E s):wpI M A E G (liftM m:StateT σ Sem α) Q st:=fun s g=>by
 show wpAny M A ((StateT.lift m:StateT σ Sem α).run st) _ E s;rw[StateT.run_lift];exact gi (oW (h s g) (fun a s' h'=>gw h') fun _ _ e=>e)
theorem nX{x:String}{Q:Unit->σ->Prop}{st:σ}(h:Q () st):wpI M A E G (liftM (rule x):StateT σ Sem Unit) Q st:=BH fun s g=>tx ⟨g,h⟩
theorem BG{β:Type}(f:Nat->β->StateT σ Sem (ForInStep β))(I:List Nat->β->σ->Prop)(Q:β->σ->Prop)
  (ah: ∀x gJ b st,I (x::gJ) b st->wpI M A E G (f x b) (fun r b8=>match r with| .done b'=>Q b' b8| .yield b'=>I gJ b' b8) st)(t6: ∀b st,I [] b st->Q b st):
  ∀(l:iA) (b:β) (st:σ),I l b st->wpI M A E G (forIn l b f) Q st
 |[],b,st,h=>by rw[List.forIn_nil];exact gp (t6 _ _ h)
 |x::gJ,b,st,h=>by
  rw[wK];refine gm (iF (ah x gJ b st h) fun r b8 h'=>?_)
  cases r with
  |done b'=>exact gp h'
  |yield b'=>exact BG f I Q ah t6 gJ b' b8 h'
theorem iJ{β:Type}{a b:Nat}{f:Nat->β->StateT σ Sem (ForInStep β)}(I:Nat->β->σ->Prop){Q:β->σ->Prop}
  (ah: ∀i c st,a<=i->i<b->I i c st->wpI M A E G (f i c) (fun r b8=>match r with| .done c'=>Q c' b8| .yield c'=>I (i+1) c' b8) st)
  (t6: ∀c st,I (max a b) c st->Q c st){c:β}{st:σ}(h:I a c st):wpI M A E G (forIn [a:b] c f) Q st:=by
 rw[Std.Legacy.Range.forIn_eq_forIn_range'];have hsz:([a:b]:Std.Legacy.Range).size=b-a:=by simp[Std.Legacy.Range.size]
 show wpI M A E G (forIn (List.range' a ([a:b]:Std.Legacy.Range).size 1) c f) Q st;rw[hsz];refine BG f (fun l c st=> ∃i,a<=i/\i<=max a b/\l=List.range' i (max a b-i) 1/\I i c st) Q ?_ ?_ _ c st ⟨a,hU _,by omega,by congr 1;omega,h⟩
 ·rintro x gJ c st ⟨i,hai,hib,hl,hI⟩
  cases hn:max a b-i with
  |zero=>rw[hn] at hl;simp at hl
  |succ n=>
   rw[hn,DL] at hl;obtain⟨rfl,rfl⟩:=pO hl;refine iF (ah x c st hai (by omega) hI) fun r b8 h'=>?_
   cases r with
   |done c'=>exact h'
   |yield c'=>exact⟨x+1,by omega,by omega,by congr 1;omega,h'⟩
 ·rintro c st ⟨i,hai,hib,hl,hI⟩
  have:max a b-i=0:=by
   cases hn:max a b-i with
   |zero=>rfl
   |succ n=>rw[hn,DL] at hl;cases hl
  have:i=max a b:=by omega
  subst this;exact t6 _ _ hI
end
structure Wk(lt:kN):Prop where
 irr: ∀i,lt i i=false
 tr: ∀i j k,lt i j=true->lt j k=true->lt i k=true
 nt: ∀i j k,lt i k=true->lt i j=true\/lt j k=true
def SL(lt:kN)(i j:Nat):Prop:=lt i j=true\/(lt j i=false/\i<j)
section
variable {lt:kN}(W:Wk lt)
include W
theorem Wk.asym(h:lt i j=true):lt j i=false:=by
 cases h2:lt j i with
 |false=>rfl
 |true=>have:=W.tr _ _ _ h h2;rw[W.irr] at this;cases this
theorem Wk.le_tr(h1:lt j i=false)(h2:lt k j=false):lt k i=false:=by
 cases h:lt k i with
 |false=>rfl
 |true=>
   rcases W.nt _ j _ h with q|q
   ·rw[h2] at q;cases q
   ·rw[h1] at q;cases q
theorem Wk.lt_le(h1:lt i j=true)(h2:lt k j=false):lt i k=true:=by
 rcases W.nt _ k _ h1 with q|q
 ·exact q
 ·rw[h2] at q;cases q
theorem Wk.le_lt(h1:lt j i=false)(h2:lt j k=true):lt i k=true:=by
 rcases W.nt _ i _ h2 with q|q
 ·rw[h1] at q;cases q
 ·exact q
theorem SL.trans(h1:SL lt i j)(h2:SL lt j k):SL lt i k:=by
 rcases h1 with h1|⟨h1,e1⟩<;>rcases h2 with h2|⟨h2,e2⟩
 ·exact .inl (W.tr _ _ _ h1 h2)
 ·exact .inl (W.lt_le h1 h2)
 ·exact .inl (W.le_lt h1 h2)
 ·exact .inr ⟨W.le_tr h1 h2,by omega⟩
theorem SL.le(h:SL lt i j):lt j i=false:=h.elim W.asym fun h=>h.1
theorem SL.asym(h1:SL lt i j)(h2:SL lt j i):False:=by
 have a:=SL.le W h1;have b:=SL.le W h2;rcases h1 with h1|⟨_,e1⟩
 ·rw[b] at h1;cases h1
 ·rcases h2 with h2|⟨_,e2⟩
  ·rw[a] at h2;cases h2
  ·omega
end
noncomputable def P(p:jz)(k:Nat):Nat:=p.getD k 0
theorem Lm{p q:jz}{i j:Nat}(h:p[i]?=q[j]?):P p i=P q j:=by
 simp only[P,pN,h]
theorem vU{p:jz}{i:Nat}(h:i<p.size):p[i]?=some (P p i):=by simp[P,h]
def Up(lt:kN)(p:jz)(a b:Nat):Prop:= ∀i j,a<=i->i<j->j<b->SL lt (P p i) (P p j)
def Dn(lt:kN)(p:jz)(a b:Nat):Prop:= ∀i j,a<=i->i<j->j<b->SL lt (P p j) (P p i)
def Reg(p:jz)(a b:Nat):Prop:= ∀k,a<=k->k<b->a<=P p k/\P p k<b
section
variable {prog:gP}{w:gH}{A:gM}{E:hG}{G:Shared->Prop}{it:mQ}{lt:kN}{κ:SortKind}{N:Nat}
structure Rp(it:mQ)(κ:SortKind)(N:Nat)(st:iH)(p:jz):Prop where
 arr:arrOf st=p.map it
 kind:kindOf st=κ
 ok:failedOf st=none
 size:p.size=N
 perm:p.Perm (Array.range N)
def Ask(prog:gP)(w:gH)(A:gM)(E:hG)(G:Shared->Prop)(it:mQ)(κ:SortKind)(N:Nat)(lt:kN):Prop:=
 ∀i j,i<N->j<N-> ∀s,G s-> ∀E',wpAny (model prog w) A (keyLt' κ (it i).1 (it j).1) (fun b s'=>G s'/\b=lt i j) E' s
theorem Rp.bound{st:iH}{p:jz}(R:Rp it κ N st p){i:Nat}(h:i<N):P p i<N:=by
 have hm:P p i∈p.toList:=by
  have:=vU (p:=p) (i:=i) (by rw[R.size];exact h);exact Pz.mpr (Array.mem_of_getElem? this)
 have:=(M0.mp R.perm).mem_iff.mp hm;simpa using this
theorem wX(H:Ask prog w A E G it κ N lt){st:iH}(hk:kindOf st=κ){i j:Nat}(hi:i<N)(hj:j<N){Q:Option Bool->SortSt->Prop}(h:Q (some (lt i j)) st):wpI (model prog w) A E G (lt' (it i) (it j)) Q st:=by
 rw[lt'_eq];refine gm (kG ?_);rw[hk];refine gm (BH fun s g=>rZ (oW (H i j hi hj s g fun _ _=>False) (fun b s' hb=>?_) fun e s' he=>he.elim));obtain⟨g',rfl⟩:=hb;exact⟨g',gp h⟩
theorem wY{xs:mR}{q:jz}(hx:xs=q.map it){i:Nat}(hi:i<q.size){st:iH}{Q:Keyed->SortSt->Prop}(h:Q (it (P q i)) st):wpI (model prog w) A E G (elem' xs i) Q st:=by
 rw[elem'_eq,hx];have:(q.map it)[i]?=some (it (P q i)):=by rw[Array.getElem?_map,vU hi];rfl
 rw[this];exact gp h
theorem pW(H:Ask prog w A E G it κ N lt){st:iH}{p:jz}(R:Rp it κ N st p){i j:Nat}(hi:i<N)(hj:j<N){Q:Option Bool->SortSt->Prop}(h:Q (some (lt (P p i) (P p j))) st):wpI (model prog w) A E G (ltAt' i j) Q st:=by
 rw[ltAt'_eq];refine gm (kG ?_);refine gm (wY R.arr (by rw[R.size];exact hi) (gm (wY R.arr (by rw[R.size];exact hj) ?_)));exact wX H R.kind (R.bound hi) (R.bound hj) h
theorem EF(p:jz)(i j d:Nat):mirror (p.map it) i j d=(mirror p i j d).map it:=Ik it _ _ _ _
theorem Fj(p:jz)(i d:Nat):bubble (p.map it) i d=(bubble p i d).map it:=Ik it _ _ _ _
theorem Rp.mirror{st:iH}{p:jz}(R:Rp it κ N st p)(i j d:Nat):Rp it κ N (setArr st (PyProof.Rows.mirror (arrOf st) i j d)) (PyProof.Rows.mirror p i j d):=
 ⟨by show PyProof.Rows.mirror (arrOf st) i j d=_;rw[R.arr,EF],R.kind,R.ok,by rw[mirror_size,R.size],(mirror_perm _ _ _ _).trans R.perm⟩
theorem Rp.bubble{st:iH}{p:jz}(R:Rp it κ N st p)(i d:Nat):Rp it κ N (setArr st (PyProof.Rows.bubble (arrOf st) i d)) (PyProof.Rows.bubble p i d):=
 ⟨by show PyProof.Rows.bubble (arrOf st) i d=_;rw[R.arr,Fj],R.kind,R.ok,by rw[bubble_size,R.size],(bubble_perm _ _ _).trans R.perm⟩
theorem wj{st:iH}{i j:Nat}{Q:Unit->SortSt->Prop}(h:Q () (setArr st (mirror (arrOf st) i j ((j-i) / 2)))):wpI (model prog w) A E G (reverseSlice' i j) Q st:=by
 rw[reverseSlice'_eq];exact jA h
theorem IG{st:iH}{i j:Nat}{Q:Unit->SortSt->Prop}(h:Q () (setArr st (bubble (arrOf st) i (i-j)))):wpI (model prog w) A E G (moveDown' i j) Q st:=by
 rw[moveDown'_eq];exact jA h
theorem jq(hj:j<=p.size)(k:Nat):P (mirror p i j ((j-i) / 2)) k=if i<=k/\k<j then P p (i+j-1-k) else P p k:=by
 have e:=getElem?_mirror_all (i:=i) hj k;split at e
 ·rename_i h;rw[gu h];exact Lm e
 ·rename_i h;rw[gv h];exact Lm e
theorem Ln(hs:src<p.size)(hd:d<=src)(k:Nat):P (bubble p src d) k=if k=src-d then P p src else if src-d<k/\k<=src then P p (k-1) else P p k:=by
 have e:=getElem?_bubble hs d hd k;split at e
 ·rename_i h;rw[gu h];exact Lm e
 ·rename_i h;rw[gv h];split at e
  ·rename_i h2;rw[gu h2];exact Lm e
  ·rename_i h2;rw[gv h2];exact Lm e
theorem Up.mirror(h:Up lt p a b)(hb:b<=p.size):Dn lt (PyProof.Rows.mirror p a b ((b-a) / 2)) a b:=fun i j h1 h2 h3=>by
 rw[jq hb,jq hb,gu ⟨by lia,h3⟩,gu ⟨h1,by lia⟩];exact h _ _ (by lia) (by lia) (by lia)
theorem Dn.mirror(h:Dn lt p a b)(hb:b<=p.size):Up lt (PyProof.Rows.mirror p a b ((b-a) / 2)) a b:=fun i j h1 h2 h3=>by
 rw[jq hb,jq hb,gu ⟨h1,by lia⟩,gu ⟨by lia,h3⟩];exact h _ _ (by lia) (by lia) (by lia)
theorem Reg.mirror(h:Reg p a b)(hj:j<=p.size)(h1:a<=i)(h2:j<=b):Reg (PyProof.Rows.mirror p i j ((j-i) / 2)) a b:=fun k h3 h4=>by
 rw[jq hj];split
 ·exact h _ (by lia) (by lia)
 ·exact h _ h3 h4
theorem FE(W:Wk lt)(H:Ask prog w A E G it κ N lt){lo h8 a:Nat}(hN:lo+h8=N)(h1:1<=a)(ha:a<=h8){st:iH}{p:jz}(R:Rp it κ N st p)(rg:Reg p lo (lo+a))(fx: ∀k,lo+a<=k->k<N->P p k=k)(up:Up lt p lo (lo+a)){Q:Option (Option Nat)×Nat->SortSt->Prop}
  (h: ∀m,a<=m->m<=h8->Reg p lo (lo+m)->Up lt p lo (lo+m)->(m=h8\/lt (P p (lo+m)) (P p (lo+m-1))=true)->Q (none,m) st):
  wpI (model prog w) A E G (forIn [a:h8] ((none,a):Option (Option Nat)×Nat) fun _ r=>do
   let x <-ltAt' (lo+r.2) (lo+r.2-1)
   match x with
   |some k5=>if k5=true then pure (ForInStep.done (none,r.2)) else pure (ForInStep.yield (none,r.2+1))
   |_=>pure (ForInStep.done (some none,r.2))) Q st:=by
 refine iJ (I:=fun x c b8=>b8=st/\c=(none,x)/\Reg p lo (lo+x)/\Up lt p lo (lo+x)) ?step ?fin ⟨rfl,rfl,rg,up⟩
 case fin=>
  rintro c b8 ⟨rfl,rfl,r1,u1⟩;rw[show max a h8=h8 by lia] at r1 u1 ⊢;exact h h8 ha (hU _) r1 u1 (.inl rfl)
 case step=>
  rintro x c b8 fQ hxn ⟨rfl,rfl,r1,u1⟩;refine gm (pW H R (by lia) (by lia) ?_);dsimp only
  cases hl:lt (P p (lo+x)) (P p (lo+x-1)) with
  |true=>simp only[ie];exact gp (h x fQ (by lia) r1 u1 (.inr hl))
  |false=>
   simp only[iC,iP];have hx:P p (lo+x)=lo+x:=fx _ (by lia) (by lia);have aV:=r1 (lo+x-1) (by lia) (by lia);have sl:SL lt (P p (lo+x-1)) (P p (lo+x)):= .inr ⟨hl,by lia⟩;refine gp ⟨rfl,rfl,fun k k1 k2=>?_,fun i j i1 ij j2=>?_⟩
   ·rcases Aq k (lo+x) with q|q
    ·have:=r1 k k1 q;lia
    ·have:k=lo+x:=by lia
     subst this;lia
   ·rcases Aq j (lo+x) with q|q
    ·exact u1 i j i1 ij q
    ·have:j=lo+x:=by lia
     subst this;rcases Aq i (lo+x-1) with q2|q2
     ·exact SL.trans W (u1 i _ i1 q2 (by lia)) sl
     ·have:i=lo+x-1:=by lia
      subst this;exact sl
structure Fall(lt:kN)(p:jz)(lo x q N:Nat):Prop where
 le:q+1<=x
 fx: ∀k,lo+x<=k->k<N->P p k=k
 rg:Reg p lo (lo+x)
 dn:Dn lt p lo (lo+x-(q+1))
 st: ∀i j,lo<=i->i<lo+x-(q+1)->lo+x-(q+1)<=j->j<lo+x->lt (P p j) (P p i)=true
 eq: ∀i j,lo+x-(q+1)<=i->i<j->j<lo+x->lt (P p i) (P p j)=false/\lt (P p j) (P p i)=false/\P p i<P p j
theorem Fall.turn{p:jz}{lo x q:Nat}(F:Fall lt p lo x q N)(hz:lo+x<=p.size):Dn lt (PyProof.Rows.mirror p (lo+x-(q+1)) (lo+x) ((lo+x-(lo+x-(q+1))) / 2)) lo (lo+x):=fun i j i1 ij j2=>by
 have hle:=F.le;rw[jq hz,jq hz];by_cases hj:lo+x-(q+1)<=j
 ·rw[gu ⟨hj,j2⟩];by_cases hi:lo+x-(q+1)<=i
  ·rw[gu ⟨hi,by lia⟩];obtain⟨e1,e2,e3⟩:=F.eq (lo+x-(q+1)+(lo+x)-1-j) (lo+x-(q+1)+(lo+x)-1-i) (by lia) (by lia) (by lia);exact .inr ⟨e2,e3⟩
  ·rw[gv (fun z=>hi z.1)];exact .inl (F.st _ _ i1 (by lia) (by lia) (by lia))
 ·rw[gv (fun z=>hj z.1),gv (fun z=>by lia)];exact F.dn i j i1 ij (by lia)
theorem Fall.flat{p:jz}{lo x:Nat}(F:Fall lt p lo x 0 N):Dn lt p lo (lo+x):=fun i j i1 ij j2=>by
 have hle:=F.le;by_cases hj:lo+x-1<=j
 ·exact .inl (F.st i j i1 (by lia) (by lia) (by lia))
 ·exact F.dn i j i1 ij (by lia)
def Ran(it:mQ)(lt:kN)(κ:SortKind)(N lo h8:Nat)(p0:jz)(bh:iH)(Q:za):Prop:=
 ∀n st p,Rp it κ N st p->pendingOf st=pendingOf bh->1<=n->n<=h8->(∀k,k<lo->P p k=P p0 k)->(∀k,lo+n<=k->k<N->P p k=k)->Reg p lo (lo+n)->Up lt p lo (lo+n)->Q (some n) st
theorem II(W:Wk lt)(H:Ask prog w A E G it κ N lt){lo h8 n:Nat}(hN:lo+h8=N)(hn:n<=h8){st:iH}{p:jz}(R:Rp it κ N st p)(F:Fall lt p lo n 0 N){Q:Option (Option Nat)×Nat×Nat->SortSt->Prop}
  (h: ∀x q b8 p',Rp it κ N b8 p'->pendingOf b8=pendingOf st->n<=x->x<=h8->(∀k,k<lo->P p' k=P p k)->Fall lt p' lo x q N->Q (none,x,q) b8):
  wpI (model prog w) A E G (forIn [n:h8] ((none,n,0):Option (Option Nat)×Nat×Nat) fun _ r=>do
   let x <-ltAt' (lo+r.2.1) (lo+r.2.1-1)
   match x with
   |some k5=>
    if k5=true then
     if r.2.2>0 then do
      reverseSlice' (lo+r.2.1-(r.2.2+1)) (lo+r.2.1)
      pure (ForInStep.yield (none,r.2.1+1,0))
     else pure (ForInStep.yield (none,r.2.1+1,0))
    else do
     let x <-ltAt' (lo+r.2.1-1) (lo+r.2.1)
     match x with
     |some af=>if af=true then pure (ForInStep.done (none,r.2.1,r.2.2)) else pure (ForInStep.yield (none,r.2.1+1,r.2.2+1))
     |_=>pure (ForInStep.done (some none,r.2.1,r.2.2))
   |_=>pure (ForInStep.done (some none,r.2.1,r.2.2))) Q st:=by
 refine iJ (I:=fun x c b8=> ∃q p',c=(none,x,q)/\Rp it κ N b8 p'/\pendingOf b8=pendingOf st/\(∀k,k<lo->P p' k=P p k)/\Fall lt p' lo x q N) ?step ?fin ⟨0,p,rfl,R,rfl,fun _ _=>rfl,F⟩
 case fin=>
  rintro c b8 ⟨q,p',rfl,R',e',f',F'⟩;rw[show max n h8=h8 by lia] at F' ⊢;exact h h8 q b8 p' R' e' hn (hU _) f' F'
 case step=>
  rintro x c b8 fQ hxn ⟨q,p',rfl,R',e',f',F'⟩;have hle:=F'.le;have hx:P p' (lo+x)=lo+x:=F'.fx _ (by lia) (by lia);dsimp only;refine gm (pW H R' (by lia) (by lia) ?_);dsimp only
  have next:lt (P p' (lo+x)) (P p' (lo+x-1))=true-> ∀i,lo<=i->i<lo+x->lt (P p' (lo+x)) (P p' i)=true:=fun hl i i1 i2=>by
   by_cases hi:lo+x-(q+1)<=i
   ·by_cases bu:i=lo+x-1
    ·subst bu;exact hl
    ·exact W.lt_le hl (F'.eq i (lo+x-1) hi (by lia) (by lia)).1
   ·exact W.tr _ _ _ hl (F'.st i (lo+x-1) i1 (by lia) (by lia) (by lia))
  have grow: ∀p2:Array Nat,(∀k,¬(lo<=k/\k<lo+x)->P p2 k=P p' k)->(∀i,lo<=i->i<lo+x-> ∃j,lo<=j/\j<lo+x/\P p2 i=P p' j)->Dn lt p2 lo (lo+x)->lt (P p' (lo+x)) (P p' (lo+x-1))=true->Fall lt p2 lo (x+1) 0 N:=fun p2 h1 h2 h3 hl=>by
   refine⟨by lia,fun k k1 k2=>by rw[h1 k (by lia)];exact F'.fx k (by lia) k2,fun k k1 k2=>?_,?_,fun i j i1 i2 j1 j2=>?_,fun i j i1 i2 j2=>by lia⟩
   ·by_cases hk:k<lo+x
    ·obtain⟨j,j1,j2,e⟩:=h2 k k1 hk;have:=F'.rg j j1 j2
     lia
    ·have:k=lo+x:=by lia
     subst this;rw[h1 _ (by lia),hx];lia
   ·rw[show lo+(x+1)-(0+1)=lo+x by lia];exact h3
   ·have:j=lo+x:=by lia
    subst this;rw[h1 (lo+x) (by lia)];obtain⟨j,j1,j2,e⟩:=h2 i i1 (by lia);rw[e];exact next hl j j1 j2
  cases hl:lt (P p' (lo+x)) (P p' (lo+x-1)) with
  |true=>
   simp only[ie];have hz:lo+x<=p'.size:=by rw[R'.size];lia
   by_cases hq:q>0
   ·rw[gu hq];refine gm (wj (gp ⟨0,_,rfl,R'.mirror _ _ _,e',fun k hk=>?_,grow _ (fun k hk=>?_) (fun i i1 i2=>?_) (F'.turn hz) hl⟩))
    ·rw[jq hz,gv (by lia)];exact f' k hk
    ·rw[jq hz,gv (by lia)]
    ·rw[jq hz];split
     ·exact⟨_,by lia,by lia,rfl⟩
     ·exact⟨i,i1,i2,rfl⟩
   ·rw[gv hq];have:q=0:=by lia
    subst this;exact gp ⟨0,p',rfl,R',e',f',grow p' (fun _ _=>rfl) (fun i i1 i2=>⟨i,i1,i2,rfl⟩) F'.flat hl⟩
  |false=>
   simp only[iC,iP];refine gm (pW H R' (by lia) (by lia) ?_);dsimp only
   cases aD:lt (P p' (lo+x-1)) (P p' (lo+x)) with
   |true=>simp only[ie];exact gp (h x q b8 p' R' e' fQ (by lia) f' F')
   |false=>
    simp only[iC,iP];have aV:=F'.rg (lo+x-1) (by lia) (by lia)
    have same: ∀i,lo+x-(q+1)<=i->i<lo+x->lt (P p' i) (P p' (lo+x))=false/\lt (P p' (lo+x)) (P p' i)=false:=fun i i1 i2=>by
     by_cases hi:i=lo+x-1
     ·subst hi;exact⟨aD,hl⟩
     ·obtain⟨e1,e2,_⟩:=F'.eq i (lo+x-1) i1 (by lia) (by lia);exact⟨W.le_tr aD e1,W.le_tr e2 hl⟩
    refine gp ⟨q+1,p',rfl,R',e',f',by lia,fun k k1 k2=>F'.fx k (by lia) k2,fun k k1 k2=>?_,?_,fun i j i1 i2 j1 j2=>?_,fun i j i1 ij j2=>?_⟩
    ·by_cases hk:k<lo+x
     ·have:=F'.rg k k1 hk;lia
     ·have:k=lo+x:=by lia
      subst this;lia
    ·rw[show lo+(x+1)-(q+1+1)=lo+x-(q+1) by lia];exact F'.dn
    ·by_cases hj:j<lo+x
     ·exact F'.st i j i1 (by lia) (by lia) hj
     ·have:j=lo+x:=by lia
      subst this;have:=F'.st i (lo+x-1) i1 (by lia) (by lia) (by lia);exact W.le_lt aD this
    ·by_cases hj:j<lo+x
     ·exact F'.eq i j (by lia) ij hj
     ·have:j=lo+x:=by lia
      subst this;obtain⟨e1,e2⟩:=same i (by lia) (by lia);have:=F'.rg i (by lia) (by lia);exact⟨e1,e2,by lia⟩
noncomputable def Fq(lo a h8:Nat):StateT SortSt Sem (Option (Option Nat)×Nat):=forIn [a:h8] ((none,a):Option (Option Nat)×Nat) fun _ r=>do
   let x <-ltAt' (lo+r.2) (lo+r.2-1)
   match x with
   |some k5=>if k5=true then pure (ForInStep.done (none,r.2)) else pure (ForInStep.yield (none,r.2+1))
   |_=>pure (ForInStep.done (some none,r.2))
noncomputable def KP(lo n h8:Nat):StateT SortSt Sem (Option (Option Nat)×Nat×Nat):=forIn [n:h8] ((none,n,0):Option (Option Nat)×Nat×Nat) fun _ r=>do
   let x <-ltAt' (lo+r.2.1) (lo+r.2.1-1)
   match x with
   |some k5=>
    if k5=true then
     if r.2.2>0 then do
      reverseSlice' (lo+r.2.1-(r.2.2+1)) (lo+r.2.1)
      pure (ForInStep.yield (none,r.2.1+1,0))
     else pure (ForInStep.yield (none,r.2.1+1,0))
    else do
     let x <-ltAt' (lo+r.2.1-1) (lo+r.2.1)
     match x with
     |some af=>if af=true then pure (ForInStep.done (none,r.2.1,r.2.2)) else pure (ForInStep.yield (none,r.2.1+1,r.2.2+1))
     |_=>pure (ForInStep.done (some none,r.2.1,r.2.2))
   |_=>pure (ForInStep.done (some none,r.2.1,r.2.2))
noncomputable def C1(lo n h8:Nat):StateT SortSt Sem (Option Nat):=do
 reverseSlice' lo (lo+n)
 let r <-Fq lo n h8
 match r.1 with
 |some r=>pure r
 |none=>pure (some r.2)
noncomputable def zG(lo n h8:Nat):StateT SortSt Sem (Option Nat):=do
 liftM (rule "list.sort.descending-run")
 let r <-KP lo (n+1) h8
 match r.1 with
 |some r=>pure r
 |none=>
  if r.2.2>0 then do
   reverseSlice' (lo+r.2.1-(r.2.2+1)) (lo+r.2.1)
   C1 lo r.2.1 h8
  else C1 lo r.2.1 h8
theorem C6(lo h8:Nat):countRun' lo h8=(do
  let r <-Fq lo 1 h8
  match r.1 with
  |some r=>pure r
  |none=>
   if(r.2==h8)=true then pure (some r.2)
   else if r.2>1 then do
    let x <-ltAt' lo (lo+r.2-1)
    match x with
    |some cc=>if cc=true then pure (some r.2) else do
      reverseSlice' lo (lo+r.2)
      zG lo r.2 h8
    |_=>pure none
   else zG lo r.2 h8):=by
 rw[countRun'_eq];dsimp only;unfold Fq
 congr 1
 funext r;obtain⟨r,n⟩:=r
 cases r with
 |some r=>rfl
 |none=>
  dsimp only;by_cases h1:(n==h8)=true
  ·rw[gu h1,gu h1]
  ·rw[gv h1,gv h1];by_cases h2:n>1
   ·rw[gu h2,gu h2]
    congr 1
    funext x
    cases x with
    |none=>rfl
    |some cc=>
     dsimp only
     cases cc with
     |true=>rfl
     |false=>
      simp only[iC,iP]
      congr 1
      funext _;unfold zG KP
      congr 1
      funext _
      congr 1
      funext r2;obtain⟨r2,n2,q2⟩:=r2
      cases r2 with
      |some r=>rfl
      |none=>
       dsimp only;by_cases h3:q2>0
       ·rw[gu h3,gu h3]
        congr 1
        funext _;unfold C1 Fq
        congr 1
        funext _
        congr 1
        funext r3;obtain⟨r3,n3⟩:=r3;cases r3<;>rfl
       ·rw[gv h3,gv h3];unfold C1 Fq
        congr 1
        funext _
        congr 1
        funext r3;obtain⟨r3,n3⟩:=r3;cases r3<;>rfl
   ·rw[gv h2,gv h2];unfold zG KP
    congr 1
    funext _
    congr 1
    funext r2;obtain⟨r2,n2,q2⟩:=r2
    cases r2 with
    |some r=>rfl
    |none=>
     dsimp only;by_cases h3:q2>0
     ·rw[gu h3,gu h3]
      congr 1
      funext _;unfold C1 Fq
      congr 1
      funext _
      congr 1
      funext r3;obtain⟨r3,n3⟩:=r3;cases r3<;>rfl
     ·rw[gv h3,gv h3];unfold C1 Fq
      congr 1
      funext _
      congr 1
      funext r3;obtain⟨r3,n3⟩:=r3;cases r3<;>rfl
theorem FD(W:Wk lt)(H:Ask prog w A E G it κ N lt){lo h8 n:Nat}(hN:lo+h8=N)(h1:1<=n)(hn:n<=h8){st bh:iH}{p p0:jz}(R:Rp it κ N st p)(e0:pendingOf st=pendingOf bh)(f0: ∀k,k<lo->P p k=P p0 k)(fx: ∀k,lo+n<=k->k<N->P p k=k)(rg:Reg p lo (lo+n))(dn:Dn lt p lo (lo+n))
  {Q:za}(h:Ran it lt κ N lo h8 p0 bh Q):wpI (model prog w) A E G (C1 lo n h8) Q st:=by
 unfold C1;have hz:lo+n<=p.size:=by rw[R.size];lia
 have out: ∀k,¬(lo<=k/\k<lo+n)->P (PyProof.Rows.mirror p lo (lo+n) ((lo+n-lo) / 2)) k=P p k:=fun k hk=>by rw[jq hz,gv hk]
 refine gm (wj ?_);have R1:=R.mirror lo (lo+n) ((lo+n-lo) / 2);refine gm (FE W H hN h1 hn R1 (rg.mirror hz (hU _) (hU _)) (fun k k1 k2=>by rw[out k (by lia)];exact fx k k1 k2) (dn.mirror hz) fun m m1 m2 dy cb _=>?_);exact gp (h m _ _ R1 e0 (by lia) m2 (fun k hk=>by rw[out k (by lia)];exact f0 k hk) (fun k k1 k2=>by rw[out k (by lia)];exact fx k (by lia) k2) dy cb)
theorem BJ(W:Wk lt)(H:Ask prog w A E G it κ N lt){lo h8 n:Nat}(hN:lo+h8=N)(hn:n+1<=h8){st bh:iH}{p p0:jz}(R:Rp it κ N st p)(e0:pendingOf st=pendingOf bh)(f0: ∀k,k<lo->P p k=P p0 k)(F:Fall lt p lo (n+1) 0 N)
  {Q:za}(h:Ran it lt κ N lo h8 p0 bh Q):wpI (model prog w) A E G (zG lo n h8) Q st:=by
 unfold zG;refine gm (nX (gm (II W H hN hn R F fun x q b8 p' R' e' x1 x2 f' F'=>?_)));dsimp only;have hle:=F'.le;have hz:lo+x<=p'.size:=by rw[R'.size];lia
 by_cases hq:q>0
 ·rw[gu hq];refine gm (wj (FD W H hN (by lia) x2 (R'.mirror _ _ _) (e'.trans e0) (fun k hk=>?_) (fun k k1 k2=>?_) (F'.rg.mirror hz (by lia) (hU _)) (F'.turn hz) h))
  ·rw[jq hz,gv (by lia)];exact(f' k hk).trans (f0 k hk)
  ·rw[jq hz,gv (by lia)];exact F'.fx k k1 k2
 ·rw[gv hq];have:q=0:=by lia
  subst this;exact FD W H hN (by lia) x2 R' (e'.trans e0) (fun k hk=>(f' k hk).trans (f0 k hk)) F'.fx F'.rg F'.flat h
theorem GK(W:Wk lt)(H:Ask prog w A E G it κ N lt){lo h8:Nat}(hN:lo+h8=N)(h1:1<=h8){st:iH}{p:jz}(R:Rp it κ N st p)(fx: ∀k,lo<=k->k<N->P p k=k){Q:za}(h:Ran it lt κ N lo h8 p st Q):
  wpI (model prog w) A E G (countRun' lo h8) Q st:=by
 rw[C6];refine gm (FE W H hN (hU _) h1 R (fun k k1 k2=>by rw[fx k k1 (by lia)];lia) (fun k k1 k2=>fx k (by lia) k2) (fun i j i1 ij j2=>by lia) fun n n1 n2 rg up hl=>?_);dsimp only;by_cases he:(n==h8)=true
 ·rw[gu he];exact gp (h n st p R rfl n1 n2 (fun _ _=>rfl) (fun k k1 k2=>fx k (by lia) k2) rg up)
 ·rw[gv he];have q9:n≠h8:=fun z=>he (by simp[z]);have hl:lt (P p (lo+n)) (P p (lo+n-1))=true:=hl.resolve_left q9;have hx:P p (lo+n)=lo+n:=fx _ (by lia) (by lia);by_cases hg:n>1
  ·rw[gu hg];refine gm (pW H R (by lia) (by lia) ?_);dsimp only
   cases hr:lt (P p lo) (P p (lo+n-1)) with
   |true=>simp only[ie];exact gp (h n st p R rfl n1 n2 (fun _ _=>rfl) (fun k k1 k2=>fx k (by lia) k2) rg up)
   |false=>
    simp only[iC,iP];have hz:lo+n<=p.size:=by rw[R.size];lia
    have out: ∀k,¬(lo<=k/\k<lo+n)->P (PyProof.Rows.mirror p lo (lo+n) ((lo+n-lo) / 2)) k=P p k:=fun k hk=>by rw[jq hz,gv hk]
    have small: ∀i,lo<=i->i<lo+n->lt (P p (lo+n)) (P p i)=true:=fun i i1 i2=>by
     have hi:lt (P p i) (P p (lo+n-1))=false:=by
      by_cases hi:i=lo
      ·subst hi;exact hr
      ·exact W.le_tr hr (SL.le W (up lo i (hU _) (by lia) i2)) |> fun z=>by
        cases hc:lt (P p i) (P p (lo+n-1)) with
        |false=>rfl
        |true=>
         have:=W.le_lt (SL.le W (up lo i (hU _) (by lia) i2)) hc;rw[hr] at this;cases this
     exact W.lt_le hl hi
    refine gm (wj (BJ W H hN (by lia) (R.mirror _ _ _) rfl (fun k hk=>out k (by lia)) ⟨by lia,fun k k1 k2=>by rw[out k (by lia)];exact fx k (by lia) k2,fun k k1 k2=>?_,?_,fun i j i1 i2 j1 j2=>?_,fun i j i1 ij j2=>by lia⟩ h))
    ·by_cases hk:k<lo+n
     ·have:=rg.mirror (i:=lo) (j:=lo+n) hz (hU _) (hU _) k k1 hk;lia
     ·have:k=lo+n:=by lia
      subst this;rw[out _ (by lia),hx];lia
    ·rw[show lo+(n+1)-(0+1)=lo+n by lia];exact up.mirror hz
    ·have:j=lo+n:=by lia
     subst this;rw[out (lo+n) (by lia),jq hz,gu ⟨i1,by lia⟩];exact small _ (by lia) (by lia)
  ·rw[gv hg];have:n=1:=by lia
   subst this;refine BJ W H hN (by lia) R rfl (fun _ _=>rfl) ⟨by lia,fun k k1 k2=>fx k (by lia) k2,fun k k1 k2=>by rw[fx k k1 (by lia)];lia,fun i j i1 ij j2=>by lia,fun i j i1 i2 j1 j2=>?_,fun i j i1 ij j2=>by lia⟩ h;have e1:j=lo+1:=by lia
   have e2:i=lo:=by lia
   subst e1;subst e2;exact hl
theorem Lx(W:Wk lt)(H:Ask prog w A E G it κ N lt){lo n ok:Nat}(h1:1<=ok)(hok:ok<=n)(hn:lo+n<=N){st:iH}{p:jz}(R:Rp it κ N st p)(fx: ∀k,lo+ok<=k->k<N->P p k=k)(rg:Reg p lo (lo+ok))(up:Up lt p lo (lo+ok)){Q:Bool->SortSt->Prop}
  (h: ∀b8 p',Rp it κ N b8 p'->pendingOf b8=pendingOf st->(∀k,k<lo->P p' k=P p k)->(∀k,lo+n<=k->k<N->P p' k=k)->Reg p' lo (lo+n)->Up lt p' lo (lo+n)->Q true b8):wpI (model prog w) A E G (binarySort' lo n ok) Q st:=by
 rw[binarySort'_eq];dsimp only;rw[show max ok 1=ok by lia]
 refine gm (iF (iJ (I:=fun k c b8=>c=(none,())/\ ∃p',Rp it κ N b8 p'/\pendingOf b8=pendingOf st/\(∀i,i<lo->P p' i=P p i)/\(∀i,lo+k<=i->i<N->P p' i=i)/\Reg p' lo (lo+k)/\Up lt p' lo (lo+k))
  (Q:=fun c b8=>c=(none,())/\ ∃p',Rp it κ N b8 p'/\pendingOf b8=pendingOf st/\(∀i,i<lo->P p' i=P p i)/\(∀i,lo+n<=i->i<N->P p' i=i)/\Reg p' lo (lo+n)/\Up lt p' lo (lo+n)) ?step ?fin ⟨rfl,p,R,rfl,fun _ _=>rfl,fx,rg,up⟩) ?post)
 case post=>
  rintro c b8 ⟨rfl,p',a1,a2,a3,a4,a5,a6⟩;exact gp (h b8 p' a1 a2 a3 a4 a5 a6)
 case fin=>
  rintro c b8 hc;rw[show max ok n=n by lia] at hc;exact hc
 case step=>
  rintro k c b8 aE fH ⟨rfl,p',R',e',f',fx',dy,cb⟩;have hkey:P p' (lo+k)=lo+k:=fx' _ (by lia) (by lia)
  refine gm (iF (iJ (I:=fun i c i9=>i9=b8/\ ∃l r,c=(none,l,r)/\l<=r/\r<=k/\r-l<=k-i/\(∀i,i<l->lt (P p' (lo+k)) (P p' (lo+i))=false)/\(∀i,r<=i->i<k->lt (P p' (lo+k)) (P p' (lo+i))=true))
   (Q:=fun c i9=>i9=b8/\ ∃l r,c=(none,l,r)/\l<=k/\(∀i,i<l->lt (P p' (lo+k)) (P p' (lo+i))=false)/\(∀i,l<=i->i<k->lt (P p' (lo+k)) (P p' (lo+i))=true)) ?s2 ?f2 ⟨rfl,0,k,rfl,by lia,by lia,by lia,fun i hi=>by lia,fun i i1 i2=>by lia⟩) ?p2)
  case f2=>
   rintro c i9 ⟨rfl,l,r,rfl,a1,a2,a3,a4,a5⟩;have:l=r:=by lia
   subst this;exact⟨rfl,l,l,rfl,a2,a4,a5⟩
  case s2=>
   rintro i c i9 _ hi ⟨rfl,l,r,rfl,a1,a2,a3,a4,a5⟩;dsimp only;by_cases hlr:l>=r
   ·rw[gu hlr];have:l=r:=by lia
    subst this;exact gp ⟨rfl,l,l,rfl,a2,a4,a5⟩
   ·rw[gv hlr];refine gm (pW H R' (by lia) (by lia) ?_);dsimp only
    cases hl:lt (P p' (lo+k)) (P p' (lo+(l+r) / 2)) with
    |true=>
     simp only[ie];refine gp ⟨rfl,l,(l+r) / 2,rfl,by lia,by lia,by lia,a4,fun i i1 i2=>?_⟩;by_cases hi:i=(l+r) / 2
     ·subst hi;exact hl
     ·exact W.lt_le hl (SL.le W (cb (lo+(l+r) / 2) (lo+i) (by lia) (by lia) (by lia)))
    |false=>
     simp only[iC,iP];refine gp ⟨rfl,(l+r) / 2+1,r,rfl,by lia,a2,by lia,fun i i1=>?_,a5⟩;by_cases hi:i=(l+r) / 2
     ·subst hi;exact hl
     ·exact W.le_tr (SL.le W (cb (lo+i) (lo+(l+r) / 2) (by lia) (by lia) (by lia))) hl
  case p2=>
   rintro c i9 ⟨rfl,l,r,rfl,hl,a4,a5⟩;dsimp only;have hz:lo+k<p'.size:=by rw[R'.size];lia
   have hd:lo+k-(lo+l)<=lo+k:=by lia
   have ib: ∀i,P (PyProof.Rows.bubble p' (lo+k) (lo+k-(lo+l))) i=if i=lo+l then P p' (lo+k) else if lo+l<i/\i<=lo+k then P p' (i-1) else P p' i:=fun i=>by
    rw[Ln hz hd,show lo+k-(lo+k-(lo+l))=lo+l by lia]
   refine gm (IG (gp ⟨rfl,_,R'.bubble _ _,e',fun i hi=>?_,fun i i1 i2=>?_,fun i i1 i2=>?_,fun i j i1 ij j2=>?_⟩))
   ·rw[ib,gv (by lia),gv (by lia)];exact f' i hi
   ·rw[ib,gv (by lia),gv (by lia)];exact fx' i (by lia) i2
   ·rw[ib];split
    ·rw[hkey];lia
    ·split
     ·have:=dy (i-1) (by lia) (by lia);lia
     ·have:=dy i i1 (by lia);lia
   ·
    have above: ∀m,l<=m->m<k->SL lt (P p' (lo+k)) (P p' (lo+m)):=fun m m1 m2=> .inl (a5 m m1 m2);have below: ∀m,m<l->SL lt (P p' (lo+m)) (P p' (lo+k)):=fun m m1=> .inr ⟨a4 m m1,by have:=dy (lo+m) (by lia) (by lia);lia⟩;rw[ib,ib];by_cases hi:i=lo+l
    ·subst hi;rw[gu rfl,gv (by lia),gu (by lia)];have:=above (j-1-lo) (by lia) (by lia)
     rwa [show lo+(j-1-lo)=j-1 by lia] at this
    ·rw[gv hi];by_cases hj:j=lo+l
     ·subst hj;rw[gu rfl,gv (by lia)];have:=below (i-lo) (by lia)
      rwa [show lo+(i-lo)=i by lia] at this
     ·rw[gv hj];by_cases ci:lo+l<i/\i<=lo+k
      ·rw[gu ci,gu (by lia)];exact cb _ _ (by lia) (by lia) (by lia)
      ·rw[gv ci];by_cases cj:lo+l<j/\j<=lo+k
       ·rw[gu cj];exact cb _ _ i1 (by lia) (by lia)
       ·rw[gv cj];exact cb _ _ i1 ij (by lia)
end
noncomputable def kr:Bool->Keyed->Array Keyed->Nat->Nat->Nat->StateT SortSt Sem (Option Nat):=sortPriv%PySem.Builtin.gallop
noncomputable def xN:Array Keyed->Array Keyed->StateT SortSt Sem (Array Keyed):=sortPriv%PySem.Builtin.mergeLo
noncomputable def xP:Array Keyed->Array Keyed->StateT SortSt Sem (Array Keyed):=sortPriv%PySem.Builtin.mergeHi
noncomputable def tP:Nat->StateT SortSt Sem Unit:=sortPriv%PySem.Builtin.setMinGallop
noncomputable def bey(left:Bool)(key:Keyed)(arr:mR)(base i:Nat):StateT SortSt Sem (Option Bool):=do
 let y <-elem' arr (base+i)
 if left=true then lt' y key else do
  let r <-lt' key y
  pure (Option.map (fun x=>!x) r)
theorem Hu(left:Bool)(key:Keyed)(arr:mR)(base n hint:Nat):kr left key arr base n hint=(do
 let mut lastofs:=0
 let mut ofs:=1
 let mut lo:=0
 let mut hi:=0
 let some right <-bey left key arr base hint|return none
 if right then
  let p7:=n-hint
  for _ in [0:n] do
   if ofs>=p7 then break
   let some more <-bey left key arr base (hint+ofs)|return none
   if !more then break
   lastofs:=ofs
   ofs:=2*ofs+1
  lo:=hint+lastofs+1
  hi:=hint+min ofs p7
 else
  let p7:=hint+1
  for _ in [0:n] do
   if ofs>=p7 then break
   let some found <-bey left key arr base (hint-ofs)|return none
   if found then break
   lastofs:=ofs
   ofs:=2*ofs+1
  lo:=hint+1-min ofs p7
  hi:=hint-lastofs
 for _ in [0:n] do
  if lo>=hi then break
  let m:=lo+(hi-lo) / 2
  let some more <-bey left key arr base m|return none
  if more then lo:=m+1 else hi:=m
 return some hi):=rfl
section
variable {prog:gP}{w:gH}{A:gM}{E:hG}{G:Shared->Prop}{it:mQ}{lt:kN}{κ:SortKind}{N:Nat}
noncomputable def Bq(lt:kN)(left:Bool)(x:Nat)(q:jz)(base i:Nat):Bool:=if left=true then lt (P q (base+i)) x else !lt x (P q (base+i))
theorem wk(H:Ask prog w A E G it κ N lt){left:Bool}{x:Nat}{q:jz}{base i:Nat}(hx:x<N)(hq: ∀k,k<q.size->P q k<N)(hi:base+i<q.size){st:iH}(hk:kindOf st=κ){Q:Option Bool->SortSt->Prop}(h:Q (some (Bq lt left x q base i)) st):
  wpI (model prog w) A E G (bey left (it x) (q.map it) base i) Q st:=by
 unfold bey;refine gm (wY rfl hi ?_);unfold Bq at h
 cases left with
 |true=>simp only[ie] at h ⊢;exact wX H hk (hq _ hi) hx h
 |false=>simp only[iC,iP] at h ⊢;exact gm (wX H hk hx (hq _ hi) (gp h))
theorem BI(H:Ask prog w A E G it κ N lt){left:Bool}{x:Nat}{q:jz}{base n:Nat}(hx:x<N)(hq: ∀k,k<q.size->P q k<N)(hn:base+n<=q.size){st:iH}(hk:kindOf st=κ)(mono: ∀i j,i<=j->j<n->Bq lt left x q base j=true->Bq lt left x q base i=true)
  {lo hi:Nat}(h1:lo<=hi)(h2:hi<=n)(h3: ∀i,i<lo->Bq lt left x q base i=true)(h4: ∀i,hi<=i->i<n->Bq lt left x q base i=false){Q:Option (Option Nat)×Nat×Nat->SortSt->Prop}
  (h: ∀r,r<=n->(∀i,i<r->Bq lt left x q base i=true)->(∀i,r<=i->i<n->Bq lt left x q base i=false)->Q (none,r,r) st):
  wpI (model prog w) A E G (forIn [:n] ((none,lo,hi):Option (Option Nat)×Nat×Nat) fun _ r=>
    if r.2.1>=r.2.2 then pure (ForInStep.done (none,r.2.1,r.2.2))
    else do
     let y <-bey left (it x) (q.map it) base (r.2.1+(r.2.2-r.2.1) / 2)
     match y with
     |some more=>if more=true then pure (ForInStep.yield (none,r.2.1+(r.2.2-r.2.1) / 2+1,r.2.2)) else pure (ForInStep.yield (none,r.2.1,r.2.1+(r.2.2-r.2.1) / 2))
     |_=>pure (ForInStep.done (some none,r.2.1,r.2.2))) Q st:=by
 refine(iF (iJ (I:=fun i c i9=>i9=st/\ ∃lo hi,c=(none,lo,hi)/\lo<=hi/\hi<=n/\hi-lo<=n-i/\(∀i,i<lo->Bq lt left x q base i=true)/\(∀i,hi<=i->i<n->Bq lt left x q base i=false))
  (Q:=fun c i9=>i9=st/\ ∃r,c=(none,r,r)/\r<=n/\(∀i,i<r->Bq lt left x q base i=true)/\(∀i,r<=i->i<n->Bq lt left x q base i=false)) ?step ?fin ⟨rfl,lo,hi,rfl,h1,h2,by omega,h3,h4⟩) ?post)
 case post=>
  rintro c i9 ⟨rfl,r,rfl,a1,a2,a3⟩;exact h r a1 a2 a3
 case fin=>
  rintro c i9 ⟨rfl,lo,hi,rfl,a1,a2,a3,a4,a5⟩;have:lo=hi:=by omega
  subst this;exact⟨rfl,lo,rfl,a2,a4,a5⟩
 case step=>
  rintro i c i9 _ da ⟨rfl,lo,hi,rfl,a1,a2,a3,a4,a5⟩;dsimp only;by_cases hlh:lo>=hi
  ·rw[gu hlh];have:lo=hi:=by omega
   subst this;exact gp ⟨rfl,lo,rfl,a2,a4,a5⟩
  ·rw[gv hlh];refine gm (wk (i:=lo+(hi-lo) / 2) H hx hq (by omega) hk ?_);dsimp only
   cases hb:Bq lt left x q base (lo+(hi-lo) / 2) with
   |true=>
    simp only[ie];exact gp ⟨rfl,_,hi,rfl,by omega,a2,by omega,fun i bu=>mono i (lo+(hi-lo) / 2) (by omega) (by omega) hb,a5⟩
   |false=>
    simp only[iC,iP];refine gp ⟨rfl,lo,_,rfl,by omega,by omega,by omega,a4,fun i i1 i2=>?_⟩
    cases hc:Bq lt left x q base i with
    |false=>rfl
    |true=>have:=mono _ _ i1 i2 hc;rw[hb] at this;cases this
theorem Eb(H:Ask prog w A E G it κ N lt){left:Bool}{x:Nat}{q:jz}{base n hint:Nat}(hx:x<N)(hq: ∀k,k<q.size->P q k<N)(hn:base+n<=q.size)(hh:hint<n){st:iH}(hk:kindOf st=κ)(mono: ∀i j,i<=j->j<n->Bq lt left x q base j=true->Bq lt left x q base i=true)
  {Q:za}(h: ∀r,r<=n->(∀i,i<r->Bq lt left x q base i=true)->(∀i,r<=i->i<n->Bq lt left x q base i=false)->Q (some r) st):
  wpI (model prog w) A E G (kr left (it x) (q.map it) base n hint) Q st:=by
 have anti: ∀i j,i<=j->j<n->Bq lt left x q base i=false->Bq lt left x q base j=false:=fun i j ij jn hi=>by
  cases hc:Bq lt left x q base j with
  |false=>rfl
  |true=>have:=mono _ _ ij jn hc;rw[hi] at this;cases this
 rw[Hu];dsimp only;refine gm (wk (i:=hint) H hx hq (by omega) hk ?_);dsimp only
 cases hb:Bq lt left x q base hint with
 |true=>
  simp only[ie]
  refine gm (iF (iJ (I:=fun i c i9=>i9=st/\ ∃last ofs,c=(none,last,ofs)/\last<ofs/\i+1<=ofs/\hint+last<n/\Bq lt left x q base (hint+last)=true)
   (Q:=fun c i9=>i9=st/\ ∃last ofs,c=(none,last,ofs)/\last<ofs/\hint+last<n/\Bq lt left x q base (hint+last)=true/\(ofs>=n-hint\/Bq lt left x q base (hint+ofs)=false)) ?step ?fin ⟨rfl,0,1,rfl,by omega,by omega,by omega,hb⟩) ?post)
  case post=>
   rintro c i9 ⟨rfl,last,ofs,rfl,a1,a2,a3,a4⟩;dsimp only;refine gm (BI H hx hq hn hk mono (lo:=hint+last+1) (hi:=hint+min ofs (n-hint)) (by omega) (by omega) (fun i hi=>mono i _ (by omega) a2 a3) (fun i i1 i2=>?_) fun r b1 b2 b3=>gp (h r b1 b2 b3));rcases a4 with a4|a4
   ·omega
   ·exact anti (hint+ofs) i (by omega) i2 a4
  case fin=>
   rintro c i9 ⟨rfl,last,ofs,rfl,a1,a2,a3,a4⟩;exact⟨rfl,last,ofs,rfl,a1,a3,a4,.inl (by omega)⟩
  case step=>
   rintro i c i9 _ hi ⟨rfl,last,ofs,rfl,a1,a2,a3,a4⟩;dsimp only;by_cases ho:ofs>=n-hint
   ·rw[gu ho];exact gp ⟨rfl,last,ofs,rfl,a1,a3,a4,.inl ho⟩
   ·rw[gv ho];refine gm (wk (i:=hint+ofs) H hx hq (by omega) hk ?_);dsimp only
    cases hc:Bq lt left x q base (hint+ofs) with
    |false=>simp only[Bool.not_false,ie];exact gp ⟨rfl,last,ofs,rfl,a1,a3,a4,.inr hc⟩
    |true=>simp only[lq,iC,iP];exact gp ⟨rfl,ofs,2*ofs+1,rfl,by omega,by omega,by omega,hc⟩
 |false=>
  simp only[iC,iP]
  refine gm (iF (iJ (I:=fun i c i9=>i9=st/\ ∃last ofs,c=(none,last,ofs)/\last<ofs/\i+1<=ofs/\last<=hint/\Bq lt left x q base (hint-last)=false)
   (Q:=fun c i9=>i9=st/\ ∃last ofs,c=(none,last,ofs)/\last<ofs/\last<=hint/\Bq lt left x q base (hint-last)=false/\(ofs>=hint+1\/Bq lt left x q base (hint-ofs)=true)) ?step ?fin ⟨rfl,0,1,rfl,by omega,by omega,by omega,hb⟩) ?post)
  case post=>
   rintro c i9 ⟨rfl,last,ofs,rfl,a1,a2,a3,a4⟩;dsimp only;refine gm (BI H hx hq hn hk mono (lo:=hint+1-min ofs (hint+1)) (hi:=hint-last) (by omega) (by omega) (fun i hi=>?_) (fun i i1 i2=>anti _ i i1 i2 a3) fun r b1 b2 b3=>gp (h r b1 b2 b3));rcases a4 with a4|a4
   ·omega
   ·by_cases ho:ofs>=hint+1
    ·omega
    ·exact mono i _ (by omega) (by omega) a4
  case fin=>
   rintro c i9 ⟨rfl,last,ofs,rfl,a1,a2,a3,a4⟩;exact⟨rfl,last,ofs,rfl,a1,a3,a4,.inl (by omega)⟩
  case step=>
   rintro i c i9 _ hi ⟨rfl,last,ofs,rfl,a1,a2,a3,a4⟩;dsimp only;by_cases ho:ofs>=hint+1
   ·rw[gu ho];exact gp ⟨rfl,last,ofs,rfl,a1,a3,a4,.inl ho⟩
   ·rw[gv ho];refine gm (wk (i:=hint-ofs) H hx hq (by omega) hk ?_);dsimp only
    cases hc:Bq lt left x q base (hint-ofs) with
    |true=>simp only[ie];exact gp ⟨rfl,last,ofs,rfl,a1,a3,a4,.inr hc⟩
    |false=>simp only[iC,iP];exact gp ⟨rfl,ofs,2*ofs+1,rfl,by omega,by omega,by omega,hc⟩
end
theorem EG(a b:mR):xN a b=(do
 rule "list.sort.merge-lo"
 let total:=a.size+b.size
 let done (out:mR) (ia ib:Nat):=out++a.extract ia a.size++b.extract ib b.size
 let o7 (out:mR) (ia ib:Nat):=out++b.extract ib b.size++a.extract ia a.size
 let mut out:Array Keyed:= #[<-elem' b 0]
 let mut ia:=0
 let mut ib:=1
 if ib==b.size then return done out ia ib
 if ia+1==a.size then return o7 out ia ib
 let mut minGallop:=gallopOf (<-get)
 for _ in [0:total] do
  let mut acount:=0
  let mut bcount:=0
  for _ in [0:total] do
   let some bWins <-lt' (<-elem' b ib) (<-elem' a ia)|return done out ia ib
   if bWins then
    out:=out.push (<-elem' b ib);ib:=ib+1;bcount:=bcount+1;acount:=0
    if ib==b.size then return done out ia ib
    if bcount>=minGallop then break
   else
    out:=out.push (<-elem' a ia);ia:=ia+1;acount:=acount+1;bcount:=0
    if ia+1==a.size then return o7 out ia ib
    if acount>=minGallop then break
  rule "list.sort.gallop"
  minGallop:=minGallop+1
  for _ in [0:total] do
   if minGallop>1 then minGallop:=minGallop-1
   tP minGallop
   let some k <-kr false (<-elem' b ib) a ia (a.size-ia) 0|return done out ia ib
   acount:=k
   if k>0 then
    out:=out++a.extract ia (ia+k);ia:=ia+k
    if ia+1==a.size then return o7 out ia ib
    if ia==a.size then return done out ia ib
   out:=out.push (<-elem' b ib);ib:=ib+1
   if ib==b.size then return done out ia ib
   let some k <-kr true (<-elem' a ia) b ib (b.size-ib) 0|return done out ia ib
   bcount:=k
   if k>0 then
    out:=out++b.extract ib (ib+k);ib:=ib+k
    if ib==b.size then return done out ia ib
   out:=out.push (<-elem' a ia);ia:=ia+1
   if ia+1==a.size then return o7 out ia ib
   if acount<7&&bcount<7 then break
  minGallop:=minGallop+1
  tP minGallop
 unsupported "internal:list.sort.merge-bound"):=rfl
section
variable {prog:gP}{w:gH}{A:gM}{E:hG}{G:Shared->Prop}{it:mQ}{lt:kN}{κ:SortKind}{N:Nat}
structure Pre(lt:kN)(N:Nat)(q r:iA):Prop where
 sq:q.Pairwise (SL lt)
 sr:r.Pairwise (SL lt)
 ix: ∀x∈q,∀y∈r,x<y
 nq: ∀x∈q,x<N
 nr: ∀x∈r,x<N
structure MG(lt:kN)(q r o:iA)(ia ib:Nat):Prop where
 srt:o.Pairwise (SL lt)
 low: ∀x∈o,∀y,(y∈q.drop ia\/y∈r.drop ib)->SL lt x y
 pm:(o++(q.drop ia++r.drop ib)).Perm (q++r)
def Res(lt:kN)(it:mQ)(q r:iA)(out:mR):Prop:= ∃o:List Nat,out=(o.map it).toArray/\o.Pairwise (SL lt)/\o.Perm (q++r)
theorem jJ{l:iA}{i:Nat}(h:i<l.length):l.drop i=l[i]::l.drop (i+1):=sf h
theorem nE{l:iA}{i j:Nat}{x:Nat}(h:x∈l.drop j)(r6:i<=j):x∈l.drop i:=by
 rw[show j=i+(j-i) by omega,<-nP] at h;exact kP h
section
variable {q r o:iA}{ia ib:Nat}(W:Wk lt)(B:Pre lt N q r)
include W B
theorem ET(h:ia<q.length): ∀y∈q.drop (ia+1),SL lt q[ia] y:=fun y hy=>by
 have:=B.sq.sublist (nO ia q);rw[jJ h,ph] at this;exact this.1 y hy
theorem Bh(h:ib<r.length): ∀y∈r.drop (ib+1),SL lt r[ib] y:=fun y hy=>by
 have:=B.sr.sublist (nO ib r);rw[jJ h,ph] at this;exact this.1 y hy
theorem MG.putB(m:MG lt q r o ia ib)(hb:ib<r.length)(h: ∀y∈q.drop ia,SL lt r[ib] y):MG lt q r (o++[r[ib]]) ia (ib+1):=by
 have hm:r[ib]∈r.drop ib:=by rw[jJ hb];exact iR
 refine⟨lE.mpr ⟨m.srt,Ap _ _,fun x hx y hy=>?_⟩,fun x hx y hy=>?_,?_⟩
 ·rw[pK] at hy;subst hy;exact m.low x hx _ (.inr hm)
 ·rcases mC.mp hx with hx|hx
  ·exact m.low x hx y (hy.imp id fun z=>nE z (uX _))
  ·rw[pK] at hx;subst hx;exact hy.elim (h y) (Bh W B hb y)
 ·refine List.Perm.trans ?_ m.pm;rw[jJ hb,jW];refine tf o ?_;exact(Dq (l₁:=q.drop ia) (l₂:=r.drop (ib+1)) (a:=r[ib])).symm
theorem MG.putA(m:MG lt q r o ia ib)(ha:ia<q.length)(h: ∀y∈r.drop ib,SL lt q[ia] y):MG lt q r (o++[q[ia]]) (ia+1) ib:=by
 have hm:q[ia]∈q.drop ia:=by rw[jJ ha];exact iR
 refine⟨lE.mpr ⟨m.srt,Ap _ _,fun x hx y hy=>?_⟩,fun x hx y hy=>?_,?_⟩
 ·rw[pK] at hy;subst hy;exact m.low x hx _ (.inl hm)
 ·rcases mC.mp hx with hx|hx
  ·exact m.low x hx y (hy.imp (fun z=>nE z (uX _)) id)
  ·rw[pK] at hx;subst hx;exact hy.elim (ET W B ha y) (h y)
 ·refine List.Perm.trans ?_ m.pm;rw[jJ ha,jW];exact rY _
theorem MG.putBs(m:MG lt q r o ia ib)(h: ∀x∈(r.drop ib).take k,∀y∈q.drop ia,SL lt x y):MG lt q r (o++(r.drop ib).take k) ia (ib+k):=by
 have hs:=B.sr.sublist (nO ib r);rw[<-ll k (r.drop ib),lE] at hs;obtain⟨s1,s2,s3⟩:=hs;have e:r.drop (ib+k)=(r.drop ib).drop k:=by rw[nP]
 refine⟨lE.mpr ⟨m.srt,s1,fun x hx y hy=>m.low x hx y (.inr (lO hy))⟩,fun x hx y hy=>?_,?_⟩
 ·rcases mC.mp hx with hx|hx
  ·exact m.low x hx y (hy.imp id fun z=>nE z (Nat.le_add_right _ _))
  ·exact hy.elim (h x hx y) fun z=>s3 x hx y (by rw[<-e];exact z)
 ·refine List.Perm.trans ?_ m.pm;rw[e,jW];refine tf o ?_
  have:(List.take k (r.drop ib)++(q.drop ia++List.drop k (r.drop ib))).Perm (q.drop ia++(List.take k (r.drop ib)++List.drop k (r.drop ib))):=by
   rw[<-jW,<-jW];exact uQ _ Ao
  rw[ll] at this;exact this
theorem MG.putAs(m:MG lt q r o ia ib)(h: ∀x∈(q.drop ia).take k,∀y∈r.drop ib,SL lt x y):MG lt q r (o++(q.drop ia).take k) (ia+k) ib:=by
 have hs:=B.sq.sublist (nO ia q);rw[<-ll k (q.drop ia),lE] at hs;obtain⟨s1,s2,s3⟩:=hs;have e:q.drop (ia+k)=(q.drop ia).drop k:=by rw[nP]
 refine⟨lE.mpr ⟨m.srt,s1,fun x hx y hy=>m.low x hx y (.inl (lO hy))⟩,fun x hx y hy=>?_,?_⟩
 ·rcases mC.mp hx with hx|hx
  ·exact m.low x hx y (hy.imp (fun z=>nE z (Nat.le_add_right _ _)) id)
  ·exact hy.elim (fun z=>s3 x hx y (by rw[<-e];exact z)) (h x hx y)
 ·refine List.Perm.trans ?_ m.pm;rw[e,jW];refine tf o ?_;rw[<-jW,ll]
theorem MG.endA(m:MG lt q r o ia ib)(h:r.drop ib=[]):(o++q.drop ia).Pairwise (SL lt)/\(o++q.drop ia).Perm (q++r):=by
 have pm:=m.pm;rw[h,tH] at pm;exact⟨lE.mpr ⟨m.srt,B.sq.sublist (nO ia q),fun x hx y hy=>m.low x hx y (.inl hy)⟩,pm⟩
theorem MG.endB(m:MG lt q r o ia ib)(h:q.drop ia=[]):(o++r.drop ib).Pairwise (SL lt)/\(o++r.drop ib).Perm (q++r):=by
 have pm:=m.pm;rw[h,rf] at pm;exact⟨lE.mpr ⟨m.srt,B.sr.sublist (nO ib r),fun x hx y hy=>m.low x hx y (.inr hy)⟩,pm⟩
theorem MG.endL(m:MG lt q r o ia ib)(h: ∀x∈r.drop ib,∀y∈q.drop ia,SL lt x y):(o++(r.drop ib++q.drop ia)).Pairwise (SL lt)/\(o++(r.drop ib++q.drop ia)).Perm (q++r):=by
 refine⟨lE.mpr ⟨m.srt,lE.mpr ⟨B.sr.sublist (nO ib r),B.sq.sublist (nO ia q),h⟩,fun x hx y hy=>m.low x hx y ((mC.mp hy).symm)⟩,?_⟩;exact List.Perm.trans (tf o Ao) m.pm
end
theorem jG{q:iA}{i:Nat}(hi:i<q.length){st:iH}{Q:Keyed->SortSt->Prop}(h:Q (it q[i]) st):wpI (model prog w) A E G (elem' (q.map it).toArray i) Q st:=by
 rw[elem'_eq];have:(q.map it).toArray[i]?=some (it q[i]):=by simp[hi]
 rw[this];exact gp h
theorem Ll{q:iA}{i:Nat}(hi:i<q.length):P q.toArray i=q[i]:=by simp[P,hi]
theorem qx(W:Wk lt)(H:Ask prog w A E G it κ N lt){left:Bool}{x:Nat}{q:iA}{base n hint:Nat}(hx:x<N)(hq: ∀y∈q,y<N)(hn:base+n<=q.length)(hh:hint<n){st:iH}(hk:kindOf st=κ)(srt:((q.drop base).take n).Pairwise (SL lt)){Q:za}
  (h: ∀r,r<=n->(∀y∈((q.drop base).take n).take r,(if left=true then lt y x else !lt x y)=true)->(∀y∈((q.drop base).take n).drop r,(if left=true then lt y x else !lt x y)=false)->Q (some r) st):
  wpI (model prog w) A E G (kr left (it x) (q.map it).toArray base n hint) Q st:=by
 have ea:(q.map it).toArray=q.toArray.map it:=by simp
 rw[ea];have hl:((q.drop base).take n).length=n:=by simp;lia
 have get: ∀i (hi:i<n),P q.toArray (base+i)=((q.drop base).take n)[i]:=fun i hi=>by
  rw[Ll (by lia)];simp
 have bq: ∀i (hi:i<n),Bq lt left x q.toArray base i=(if left=true then lt (((q.drop base).take n)[i]) x else !lt x (((q.drop base).take n)[i])):=fun i hi=>by unfold Bq;rw[get i hi]
 refine Eb H hx (fun k hk=>?_) (by simpa using hn) hh hk (fun i j ij jn hb=>?_) fun r r1 r2 r3=>h r r1 (fun y hy=>?_) (fun y hy=>?_)
 ·have cY:k<q.length:=by simpa using hk
  rw[Ll cY];exact hq _ (jL cY)
 ·rcases Aq i j with j7|fK
  ·rw[bq j jn] at hb;rw[bq i (by lia)];have sl:=FC.mp srt i j (by lia) (by lia) j7
   cases left with
   |true=>
    simp only[ie] at hb ⊢;exact W.le_lt (SL.le W sl) hb
   |false=>
    simp only[iC,iP,Bool.not_eq_true'] at hb ⊢;exact W.le_tr (SL.le W sl) hb
  ·have:i=j:=by lia
   subst this;exact hb
 ·obtain⟨i,hi,e⟩:=wF hy;have bu:i<r:=by simp at hi;lia
  have:=r2 i bu;rw[bq i (by lia)] at this;rw[<-e,List.getElem_take];exact this
 ·obtain⟨i,hi,e⟩:=wF hy;have bu:r+i<n:=by simp at hi;lia
  have:=r3 (r+i) (by lia) bu;rw[bq (r+i) bu] at this;rw[<-e,List.getElem_drop];exact this
theorem uD{o:iA}{x:Nat}:((o.map it).toArray.push (it x))=((o++[x]).map it).toArray:=by simp
theorem GD{o q r:iA}{i j:Nat}:((o.map it).toArray++(q.map it).toArray.extract i (q.map it).toArray.size++(r.map it).toArray.extract j (r.map it).toArray.size)=((o++(q.drop i++r.drop j)).map it).toArray:=by
 simp[uP,uO];rw[rX (by simp),rX (by simp)]
theorem GC{o q:iA}{i k:Nat}:((o.map it).toArray++(q.map it).toArray.extract i (i+k))=((o++(q.drop i).take k).map it).toArray:=by
 simp[uP,uO]
def Same(st b8:iH):Prop:=kindOf b8=kindOf st/\arrOf b8=arrOf st/\pendingOf b8=pendingOf st/\failedOf b8=failedOf st
theorem Same.refl{st:iH}:Same st st:=⟨rfl,rfl,rfl,rfl⟩
theorem Same.trans{a b c:iH}(x:Same a b)(y:Same b c):Same a c:=⟨y.1.trans x.1,y.2.1.trans x.2.1,y.2.2.1.trans x.2.2.1,y.2.2.2.trans x.2.2.2⟩
theorem qw{n:Nat}{st:iH}{Q:Unit->SortSt->Prop}(h: ∀b8,Same st b8->Q () b8):wpI (model prog w) A E G (tP n) Q st:=
 jA (f:=fun s=>SortSt.mk' (kindOf s) (arrOf s) (pendingOf s) n (failedOf s)) (h _ ⟨rfl,rfl,rfl,rfl⟩)
theorem qb(W:Wk lt){q r o:iA}{ia ib:Nat}(B:Pre lt N q r)(m:MG lt q r o ia ib)(h:q.length<=ia\/r.length<=ib):Res lt it q r ((o.map it).toArray++(q.map it).toArray.extract ia (q.map it).toArray.size++(r.map it).toArray.extract ib (r.map it).toArray.size):=by
 refine⟨_,GD,?_⟩;rcases h with h|h
 ·have e:q.drop ia=[]:=wI h;have:=m.endB W B e;rw[e,rf];exact this
 ·have e:r.drop ib=[]:=wI h;have:=m.endA W B e;rw[e,tH];exact this
theorem Cf(W:Wk lt){q r o:iA}{ia ib:Nat}(B:Pre lt N q r)(m:MG lt q r o ia ib)(h: ∀x∈r.drop ib,∀y∈q.drop ia,SL lt x y):Res lt it q r ((o.map it).toArray++(r.map it).toArray.extract ib (r.map it).toArray.size++(q.map it).toArray.extract ia (q.map it).toArray.size):=
 ⟨_,GD,m.endL W B h⟩
abbrev sz(q:iA)(it:mQ):(q.map it).toArray.size=q.length:=by simp
abbrev LoS:=Option (Array Keyed)×Array Keyed×Nat×Nat×Nat×Nat×Nat
noncomputable def FL(a b out:mR)(ia ib mg k k2:Nat):StateT SortSt Sem (ForInStep LoS):=do
 let y <-elem' a ia
 if(ia+1+1==a.size)=true then pure (ForInStep.done (some (out.push y++b.extract ib b.size++a.extract (ia+1) a.size),out.push y,ia+1,ib,mg,k,k2))
 else if(decide (k<7)&&decide (k2<7))=true then pure (ForInStep.done (none,out.push y,ia+1,ib,mg,k,k2)) else pure (ForInStep.yield (none,out.push y,ia+1,ib,mg,k,k2))
def Kc(a b out:mR)(ia ib mg k bc:Nat):StateT SortSt Sem (ForInStep LoS):=do
 let y <-elem' b ib
 if(ib+1==b.size)=true then pure (ForInStep.done (some (out.push y++a.extract ia a.size++b.extract (ib+1) b.size),out.push y,ia,ib+1,mg,k,bc))
 else do
  let z <-elem' a ia
  let x <-kr true z b (ib+1) (b.size-(ib+1)) 0
  match x with
  |some k2=>
   if k2>0 then
    if(ib+1+k2==b.size)=true then pure (ForInStep.done (some (out.push y++b.extract (ib+1) (ib+1+k2)++a.extract ia a.size++b.extract (ib+1+k2) b.size),out.push y++b.extract (ib+1) (ib+1+k2),ia,ib+1+k2,mg,k,k2))
    else FL a b (out.push y++b.extract (ib+1) (ib+1+k2)) ia (ib+1+k2) mg k k2
   else FL a b (out.push y) ia (ib+1) mg k k2
  |_=>pure (ForInStep.done (some (out.push y++a.extract ia a.size++b.extract (ib+1) b.size),out.push y,ia,ib+1,mg,k,bc))
def GI(lt:kN)(it:mQ)(q r:iA)(c st:Nat)(S:SortSt->Prop)(x:ForInStep LoS)(b8:iH):Prop:=
 match x with
 | .done c'=>S b8/\((∃res x,c'=(some res,x)/\Res lt it q r res)\/ ∃o2 i7 k7 p6 ac bc,c'=(none,(o2.map it).toArray,i7,k7,p6,ac,bc)/\MG lt q r o2 i7 k7/\i7+1<q.length/\k7<r.length/\c<=i7+k7)
 | .yield c'=> ∃o2 i7 k7 p6 ac bc,c'=(none,(o2.map it).toArray,i7,k7,p6,ac,bc)/\MG lt q r o2 i7 k7/\i7+1<q.length/\k7<r.length/\st<=i7+k7/\S b8
section
variable(W:Wk lt)(H:Ask prog w A E G it κ N lt){q r:iA}(B:Pre lt N q r)(top: ∀x∈r,∀y∈q.drop (q.length-1),SL lt x y){S:SortSt->Prop}{o:iA}{ia ib mg k k2 bc c cy:Nat}{st:iH}
include W H B top
theorem zc(m:MG lt q r o ia ib)(ha:ia+1<q.length)(hb:ib<r.length)(fb: ∀y∈r.drop ib,SL lt q[ia] y)(hs:S st)(hc:c<=ia+1+ib)(hy:cy<=ia+1+ib):
  wpI (model prog w) A E G (FL (q.map it).toArray (r.map it).toArray (o.map it).toArray ia ib mg k k2) (GI lt it q r c cy S) st:=by
 unfold FL;refine gm (jG (i:=ia) (by lia) ?_);have m2:=m.putA W B (by lia) fb;rw[uD];by_cases he:(ia+1+1==(q.map it).toArray.size)=true
 ·rw[gu he];have:ia+1+1=q.length:=by simpa using he
  exact gp ⟨hs,.inl ⟨_,_,rfl,Cf W B m2 fun x hx y hy=>top x (kP hx) y (by rw[show q.length-1=ia+1 by lia];exact hy)⟩⟩
 ·rw[gv he];have:ia+1+1≠q.length:=by simpa using he
  by_cases h7:(decide (k<7)&&decide (k2<7))=true
  ·rw[gu h7];exact gp ⟨hs,.inr ⟨_,_,_,_,_,_,rfl,m2,by lia,hb,hc⟩⟩
  ·rw[gv h7];exact gp ⟨_,_,_,_,_,_,rfl,m2,by lia,hb,hy,hs⟩
theorem IH(hk:kindOf st=κ)(m:MG lt q r o ia ib)(ha:ia+1<q.length)(hb:ib<r.length)(fa: ∀y∈q.drop ia,SL lt r[ib] y)(hs:S st)(hc:c<=ia+ib)(hy:cy<=ia+1+ib):
  wpI (model prog w) A E G (Kc (q.map it).toArray (r.map it).toArray (o.map it).toArray ia ib mg k bc) (GI lt it q r c cy S) st:=by
 unfold Kc;refine gm (jG hb ?_);have m2:=m.putB W B hb fa;rw[uD];by_cases he:(ib+1==(r.map it).toArray.size)=true
 ·rw[gu he];have:ib+1=r.length:=by simpa using he
  exact gp ⟨hs,.inl ⟨_,_,rfl,qb W B m2 (.inr (by lia))⟩⟩
 ·rw[gv he];have he:ib+1≠r.length:=by simpa using he
  have en:(r.drop (ib+1)).take ((r.map it).toArray.size-(ib+1))=r.drop (ib+1):=rX (by simp);refine gm (jG (i:=ia) (by lia) (gm (qx W H (B.nq _ (jL _)) B.nr (by rw[sz];lia) (by rw[sz];lia) hk (by rw[en];exact B.sr.sublist (nO _ _)) fun k' k1 k2 k3=>?_)));rw[en] at k2 k3;rw[sz] at k1;simp only[ie] at k2 k3
  have m3:=m2.putBs W B (k:=k') fun x hx y hy=>by
   rw[jJ (show ia<q.length by lia)] at hy;rcases jg.mp hy with rfl|hy
   ·exact .inl (k2 x hx)
   ·exact SL.trans W (.inl (k2 x hx)) (ET W B (by lia) y hy)
  have fb: ∀y∈r.drop (ib+1+k'),SL lt q[ia] y:=fun y hy=>by
   rw[<-nP] at hy;exact .inr ⟨k3 y hy,B.ix _ (jL _) _ (kP (kP hy))⟩
  dsimp only;by_cases hp:k'>0
  ·rw[gu hp];rw[GC];by_cases hf:(ib+1+k'==(r.map it).toArray.size)=true
   ·rw[gu hf];have:ib+1+k'=r.length:=by simpa using hf
    exact gp ⟨hs,.inl ⟨_,_,rfl,qb W B m3 (.inr (by lia))⟩⟩
   ·rw[gv hf];have:ib+1+k'≠r.length:=by simpa using hf
    exact zc W H B top m3 ha (by lia) fb hs (by lia) (by lia)
  ·rw[gv hp];have hz:k'=0:=by lia
   subst hz;exact zc W H B top m2 ha (by lia) fb hs (by lia) (by lia)
end
theorem Nu(W:Wk lt)(H:Ask prog w A E G it κ N lt){q r:iA}(B:Pre lt N q r)(h1:1<=q.length)(h2:1<=r.length)(hd: ∀y∈q,SL lt r[0] y)(top: ∀x∈r,∀y∈q.drop (q.length-1),SL lt x y){st:iH}(hk:kindOf st=κ){Q:Array Keyed->SortSt->Prop}
  (h: ∀out b8,Res lt it q r out->Same st b8->Q out b8):wpI (model prog w) A E G (xN (q.map it).toArray (r.map it).toArray) Q st:=by
 have aQ: ∀{o ia ib},MG lt q r o ia ib->ia+1=q.length->Res lt it q r ((o.map it).toArray++(r.map it).toArray.extract ib (r.map it).toArray.size++(q.map it).toArray.extract ia (q.map it).toArray.size):=fun {o ia ib} m e=>Cf W B m fun x hx y hy=>top x (kP hx) y (by rw[show q.length-1=ia by lia];exact hy);rw[EG];dsimp only;refine gm (nX (gm (jG (by lia) ?_)))
 have m0:MG lt q r [r[0]] 0 1:=by
  have:=MG.putB (o:=[]) (ia:=0) (ib:=0) W B ⟨List.Pairwise.nil,fun x hx=>absurd hx jF,by simp⟩ (by lia) (by simpa using hd);simpa using this
 have e0: #[it r[0]]=(([r[0]]:List Nat).map it).toArray:=rfl;rw[e0];by_cases aY:(1==(r.map it).toArray.size)=true
 ·rw[gu aY];have:1=r.length:=by simpa using aY
  exact gp (h _ _ (qb W B m0 (.inr (by lia))) .refl)
 ·rw[gv aY];have aY:1≠r.length:=by simpa using aY
  by_cases ao:(0+1==(q.map it).toArray.size)=true
  ·rw[gu ao];have:0+1=q.length:=by simpa using ao
   exact gp (h _ _ (aQ m0 this) .refl)
  ·rw[gv ao];have ao:1≠q.length:=by simpa using ao
   refine gm (kG ?_)
   refine gm (iF (iJ (I:=fun i c b8=> ∃o ia ib mg,c=(none,(o.map it).toArray,ia,ib,mg)/\MG lt q r o ia ib/\ia+1<q.length/\ib<r.length/\i+1<=ia+ib/\Same st b8)
    (Q:=fun c b8=> ∃res x,c=(some res,x)/\Res lt it q r res/\Same st b8) ?step ?fin ⟨_,0,1,_,rfl,m0,by lia,by lia,by lia,.refl⟩) ?post)
   case post=>
    rintro c b8 ⟨res,x,rfl,hr,hs⟩;exact gp (h res b8 hr hs)
   case fin=>
    rintro c b8 ⟨o,ia,ib,mg,rfl,m,b1,b2,b3,hs⟩;rw[sz,sz] at b3
    lia
   case step=>
    rintro i c aB _ _ ⟨o,ia,ib,mg,rfl,m,b1,b2,b3,hs⟩;dsimp only
    refine gm (iF (iJ (I:=fun j c b8=>b8=aB/\ ∃o' t4 u9 ac bc,c=(none,(o'.map it).toArray,t4,u9,ac,bc)/\MG lt q r o' t4 u9/\t4+1<q.length/\u9<r.length/\ia+ib+j<=t4+u9)
     (Q:=fun c b8=>b8=aB/\((∃res x,c=(some res,x)/\Res lt it q r res)\/ ∃o' t4 u9 ac bc,c=(none,(o'.map it).toArray,t4,u9,ac,bc)/\MG lt q r o' t4 u9/\t4+1<q.length/\u9<r.length/\ia+ib+1<=t4+u9)) ?step1 ?fin1 ⟨rfl,o,ia,ib,0,0,rfl,m,b1,b2,by lia⟩) ?post1)
    case fin1=>
     rintro c b8 ⟨rfl,o',t4,u9,ac,bc,rfl,m',c1,c2,c3⟩;rw[sz,sz] at c3
     lia
    case step1=>
     rintro j c b8 _ _ ⟨rfl,o',t4,u9,ac,bc,rfl,m',c1,c2,c3⟩;dsimp only;refine gm (jG c2 (gm (jG (i:=t4) (by lia) (gm (wX H (hs.1.trans hk) (B.nr _ (jL _)) (B.nq _ (jL _)) ?_)))));dsimp only
     cases hl:lt r[u9] q[t4] with
     |true=>
      simp only[ie];refine gm (jG c2 ?_)
      have m2:=m'.putB W B c2 fun y hy=>by
       rw[jJ (show t4<q.length by lia)] at hy;rcases jg.mp hy with rfl|hy
       ·exact .inl hl
       ·exact SL.trans W (.inl hl) (ET W B (by lia) y hy)
      rw[uD];by_cases he:(u9+1==(r.map it).toArray.size)=true
      ·rw[gu he];have:u9+1=r.length:=by simpa using he
       exact gp ⟨rfl,.inl ⟨_,_,rfl,qb W B m2 (.inr (by lia))⟩⟩
      ·rw[gv he];have:u9+1≠r.length:=by simpa using he
       by_cases hg:bc+1>=mg
       ·rw[gu hg];exact gp ⟨rfl,.inr ⟨_,_,_,_,_,rfl,m2,c1,by lia,by lia⟩⟩
       ·rw[gv hg];exact gp ⟨rfl,_,_,_,_,_,rfl,m2,c1,by lia,by lia⟩
     |false=>
      simp only[iC,iP];refine gm (jG (i:=t4) (by lia) ?_)
      have m2:=m'.putA W B (by lia) fun y hy=>by
       rw[jJ c2] at hy;have first:SL lt q[t4] r[u9]:= .inr ⟨hl,B.ix _ (jL _) _ (jL _)⟩;rcases jg.mp hy with rfl|hy
       ·exact first
       ·exact SL.trans W first (Bh W B c2 y hy)
      rw[uD];by_cases he:(t4+1+1==(q.map it).toArray.size)=true
      ·rw[gu he];have:t4+1+1=q.length:=by simpa using he
       exact gp ⟨rfl,.inl ⟨_,_,rfl,aQ m2 this⟩⟩
      ·rw[gv he];have:t4+1+1≠q.length:=by simpa using he
       by_cases hg:ac+1>=mg
       ·rw[gu hg];exact gp ⟨rfl,.inr ⟨_,_,_,_,_,rfl,m2,by lia,c2,by lia⟩⟩
       ·rw[gv hg];exact gp ⟨rfl,_,_,_,_,_,rfl,m2,by lia,c2,by lia⟩
    case post1=>
     rintro c b8 ⟨rfl,⟨res,x,rfl,hr⟩|⟨o',t4,u9,ac,bc,rfl,m',c1,c2,c3⟩⟩
     ·exact gp ⟨res,_,rfl,hr,hs⟩
     ·dsimp only
      refine gm (nX (gm (iF (iJ (I:=fun j c b8=> ∃o2 i7 k7 p6 ac bc,c=(none,(o2.map it).toArray,i7,k7,p6,ac,bc)/\MG lt q r o2 i7 k7/\i7+1<q.length/\k7<r.length/\ia+ib+1+j<=i7+k7/\Same st b8)
       (Q:=fun c b8=>Same st b8/\((∃res x,c=(some res,x)/\Res lt it q r res)\/ ∃o2 i7 k7 p6 ac bc,c=(none,(o2.map it).toArray,i7,k7,p6,ac,bc)/\MG lt q r o2 i7 k7/\i7+1<q.length/\k7<r.length/\ia+ib+1<=i7+k7)) ?step2 ?fin2 ⟨o',t4,u9,_,_,_,rfl,m',c1,c2,by lia,hs⟩) ?post2)))
      case fin2=>
       rintro c b8 ⟨o2,i7,k7,p6,ac,bc,rfl,m2,d1,d2,d3,o8⟩;rw[sz,sz] at d3
       lia
      case post2=>
       rintro c b8 ⟨o8,⟨res,x,rfl,hr⟩|⟨o2,i7,k7,p6,ac,bc,rfl,m2,d1,d2,d3⟩⟩
       ·exact gp ⟨res,_,rfl,hr,o8⟩
       ·dsimp only;exact gm (qw fun k8 m8=>gp ⟨o2,i7,k7,_,rfl,m2,d1,d2,by lia,o8.trans m8⟩)
      case step2=>
       rintro j c i9 _ _ ⟨o2,i7,k7,p6,ac,bc,rfl,m2,d1,d2,d3,o8⟩;dsimp only;have en:(q.drop i7).take ((q.map it).toArray.size-i7)=q.drop i7:=rX (by simp)
       have mid: ∀(w9 k:Nat) (k8:iH),Same st k8->k<=(q.map it).toArray.size-i7->(∀y∈(q.drop i7).take k,lt r[k7] y=false)->(∀y∈(q.drop i7).drop k,lt r[k7] y=true)->i7+k+1≠q.length->i7+k≠q.length->
         wpI (model prog w) A E G (Kc (q.map it).toArray (r.map it).toArray ((o2++(q.drop i7).take k).map it).toArray (i7+k) k7 w9 k bc) (GI lt it q r (ia+ib+1) (ia+ib+1+(j+1)) (Same st)) k8:=fun w9 k k8 m8 k1 k2 k3 e1 e2=>by
        rw[sz] at k1;refine IH W H B top (m8.1.trans hk) (m2.putAs W B fun x hx y hy=>?_) (by lia) d2 (fun y hy=>?_) m8 (by lia) (by lia)
        ·have first:SL lt x r[k7]:= .inr ⟨k2 x hx,B.ix x (kP (lO hx)) _ (jL _)⟩;rw[jJ d2] at hy;rcases jg.mp hy with rfl|hy
         ·exact first
         ·exact SL.trans W first (Bh W B d2 y hy)
        ·rw[<-nP] at hy;exact .inl (k3 y hy)
       have body: ∀(w9:Nat) (k8:iH),Same st k8->wpI (model prog w) A E G (do
         let y <-elem' (r.map it).toArray k7
         let x <-kr false y (q.map it).toArray i7 ((q.map it).toArray.size-i7) 0
         match x with
         |some k=>
          if k>0 then
           if(i7+k+1==(q.map it).toArray.size)=true then pure (ForInStep.done (some ((o2.map it).toArray++(q.map it).toArray.extract i7 (i7+k)++(r.map it).toArray.extract k7 (r.map it).toArray.size++(q.map it).toArray.extract (i7+k) (q.map it).toArray.size),(o2.map it).toArray++(q.map it).toArray.extract i7 (i7+k),i7+k,k7,w9,k,bc))
           else if(i7+k==(q.map it).toArray.size)=true then pure (ForInStep.done (some ((o2.map it).toArray++(q.map it).toArray.extract i7 (i7+k)++(q.map it).toArray.extract (i7+k) (q.map it).toArray.size++(r.map it).toArray.extract k7 (r.map it).toArray.size),(o2.map it).toArray++(q.map it).toArray.extract i7 (i7+k),i7+k,k7,w9,k,bc))
           else Kc (q.map it).toArray (r.map it).toArray ((o2.map it).toArray++(q.map it).toArray.extract i7 (i7+k)) (i7+k) k7 w9 k bc
          else Kc (q.map it).toArray (r.map it).toArray (o2.map it).toArray i7 k7 w9 k bc
         |_=>pure (ForInStep.done (some ((o2.map it).toArray++(q.map it).toArray.extract i7 (q.map it).toArray.size++(r.map it).toArray.extract k7 (r.map it).toArray.size),(o2.map it).toArray,i7,k7,w9,ac,bc))) (GI lt it q r (ia+ib+1) (ia+ib+1+(j+1)) (Same st)) k8:=fun w9 k8 m8=>by
        refine gm (jG d2 (gm (qx W H (B.nr _ (jL _)) B.nq (by rw[sz];lia) (by rw[sz];lia) (m8.1.trans hk) (by rw[en];exact B.sq.sublist (nO _ _)) fun k k1 k2 k3=>?_)));rw[en] at k2 k3;simp only[iC,iP,Bool.not_eq_true',Bool.not_eq_false'] at k2 k3;have fG:=k1;rw[sz] at fG
        have mA:MG lt q r (o2++(q.drop i7).take k) (i7+k) k7:=m2.putAs W B fun x hx y hy=>by
         have first:SL lt x r[k7]:= .inr ⟨k2 x hx,B.ix x (kP (lO hx)) _ (jL _)⟩;rw[jJ d2] at hy;rcases jg.mp hy with rfl|hy
         ·exact first
         ·exact SL.trans W first (Bh W B d2 y hy)
        dsimp only;by_cases hp:k>0
        ·rw[gu hp,GC];by_cases he:(i7+k+1==(q.map it).toArray.size)=true
         ·rw[gu he];exact gp ⟨m8,.inl ⟨_,_,rfl,aQ mA (by simpa using he)⟩⟩
         ·rw[gv he];by_cases hf:(i7+k==(q.map it).toArray.size)=true
          ·rw[gu hf];have:i7+k=q.length:=by simpa using hf
           exact gp ⟨m8,.inl ⟨_,_,rfl,qb W B mA (.inl (by lia))⟩⟩
          ·rw[gv hf];exact mid w9 k k8 m8 k1 k2 k3 (by simpa using he) (by simpa using hf)
        ·rw[gv hp];have hz:k=0:=by lia
         subst hz;have:=mid w9 0 k8 m8 k1 k2 k3 (by lia) (by lia);simpa using this
       by_cases hm:p6>1
       ·rw[gu hm];refine gm (qw fun k8 m8=>?_);exact iF (body _ k8 (o8.trans m8)) fun x b8 hx=>by cases x<;>exact hx
       ·rw[gv hm];refine gm (qw fun k8 m8=>?_);exact iF (body _ k8 (o8.trans m8)) fun x b8 hx=>by cases x<;>exact hx
end
theorem EH(a b:mR):xP a b=(do
 rule "list.sort.merge-hi"
 let total:=a.size+b.size
 let done (out:mR) (na nb:Nat):=a.extract 0 na++b.extract 0 nb++out.reverse
 let l9 (out:mR) (na nb:Nat):=b.extract 0 nb++a.extract 0 na++out.reverse
 let mut na:=a.size-1
 let mut nb:=b.size
 let mut out:Array Keyed:= #[<-elem' a na]
 if na==0 then return done out na nb
 if nb==1 then return l9 out na nb
 let mut minGallop:=gallopOf (<-get)
 for _ in [0:total] do
  let mut acount:=0
  let mut bcount:=0
  for _ in [0:total] do
   let some aWins <-lt' (<-elem' b (nb-1)) (<-elem' a (na-1))|return done out na nb
   if aWins then
    na:=na-1;out:=out.push (<-elem' a na);acount:=acount+1;bcount:=0
    if na==0 then return done out na nb
    if acount>=minGallop then break
   else
    nb:=nb-1;out:=out.push (<-elem' b nb);bcount:=bcount+1;acount:=0
    if nb==1 then return l9 out na nb
    if bcount>=minGallop then break
  rule "list.sort.gallop"
  minGallop:=minGallop+1
  for _ in [0:total] do
   if minGallop>1 then minGallop:=minGallop-1
   tP minGallop
   let some at_ <-kr false (<-elem' b (nb-1)) a 0 na (na-1)|return done out na nb
   let k:=na-at_
   acount:=k
   if k>0 then
    out:=out++(a.extract at_ na).reverse;na:=at_
    if na==0 then return done out na nb
   nb:=nb-1;out:=out.push (<-elem' b nb)
   if nb==1 then return l9 out na nb
   let some at_ <-kr true (<-elem' a (na-1)) b 0 nb (nb-1)|return done out na nb
   let k:=nb-at_
   bcount:=k
   if k>0 then
    out:=out++(b.extract at_ nb).reverse;nb:=at_
    if nb==1 then return l9 out na nb
    if nb==0 then return done out na nb
   na:=na-1;out:=out.push (<-elem' a na)
   if na==0 then return done out na nb
   if acount<7&&bcount<7 then break
  minGallop:=minGallop+1
  tP minGallop
 unsupported "internal:list.sort.merge-bound"):=rfl
section
variable {prog:gP}{w:gH}{A:gM}{E:hG}{G:Shared->Prop}{it:mQ}{lt:kN}{κ:SortKind}{N:Nat}
structure MH(lt:kN)(q r s:iA)(na nb:Nat):Prop where
 srt:s.Pairwise (SL lt)
 high: ∀y,(y∈q.take na\/y∈r.take nb)-> ∀x∈s,SL lt y x
 pm:(q.take na++r.take nb++s).Perm (q++r)
theorem jU{l:iA}{n:Nat}(h1:0<n)(h:n<=l.length):l.take n=l.take (n-1)++[l[n-1]]:=by
 obtain⟨m,rfl⟩: ∃m,n=m+1:=⟨n-1,by omega⟩
 rw[An,iO (by omega)];rfl
theorem nD{l:iA}{i j x:Nat}(h:x∈l.take i)(r6:i<=j):x∈l.take j:=by
 have:=List.take_sublist_take_left (l:=l) r6;exact this.subset h
section
variable {q r s:iA}{na nb k:Nat}(W:Wk lt)(B:Pre lt N q r)
include W B
theorem E5(h0:0<na)(h:na<=q.length): ∀y∈q.take (na-1),SL lt y q[na-1]:=fun y hy=>by
 have:=B.sq.sublist (mv na q);rw[jU h0 h,lE] at this;exact this.2.2 y hy _ (pK.mpr rfl)
theorem EZ(h0:0<nb)(h:nb<=r.length): ∀y∈r.take (nb-1),SL lt y r[nb-1]:=fun y hy=>by
 have:=B.sr.sublist (mv nb r);rw[jU h0 h,lE] at this;exact this.2.2 y hy _ (pK.mpr rfl)
theorem MH.putA(m:MH lt q r s na nb)(h0:0<na)(h1:na<=q.length)(h: ∀y∈r.take nb,SL lt y q[na-1]):MH lt q r (q[na-1]::s) (na-1) nb:=by
 have hm:q[na-1]∈q.take na:=by rw[jU h0 h1];exact nU _ (pK.mpr rfl)
 refine⟨ph.mpr ⟨fun x hx=>m.high _ (.inl hm) x hx,m.srt⟩,fun y hy x hx=>?_,?_⟩
 ·rcases jg.mp hx with rfl|hx
  ·exact hy.elim (E5 W B h0 h1 y) (h y)
  ·exact m.high y (hy.imp (fun z=>nD z (Nat.sub_le _ _)) id) x hx
 ·refine List.Perm.trans ?_ m.pm;rw[jU h0 h1]
  have e:(q.take (na-1)++r.take nb++q[na-1]::s).Perm (q.take (na-1)++(q[na-1]::(r.take nb++s))):=by
   rw[jW];exact tf _ Dq
  refine e.trans (Am ?_);rw[jW,jW,DK]
theorem MH.putB(m:MH lt q r s na nb)(h0:0<nb)(h1:nb<=r.length)(h: ∀y∈q.take na,SL lt y r[nb-1]):MH lt q r (r[nb-1]::s) na (nb-1):=by
 have hm:r[nb-1]∈r.take nb:=by rw[jU h0 h1];exact nU _ (pK.mpr rfl)
 refine⟨ph.mpr ⟨fun x hx=>m.high _ (.inr hm) x hx,m.srt⟩,fun y hy x hx=>?_,?_⟩
 ·rcases jg.mp hx with rfl|hx
  ·exact hy.elim (h y) (EZ W B h0 h1 y)
  ·exact m.high y (hy.imp id fun z=>nD z (Nat.sub_le _ _)) x hx
 ·refine List.Perm.trans ?_ m.pm;refine Am ?_;rw[jU h0 h1,jW,jW,jW,DK]
theorem MH.putAs(m:MH lt q r s na nb)(hk:k<=na)(h: ∀y∈r.take nb,∀x∈(q.take na).drop k,SL lt y x):MH lt q r ((q.take na).drop k++s) k nb:=by
 have e:q.take k=(q.take na).take k:=by rw[rW,pM hk]
 have hs:=B.sq.sublist (mv na q);rw[<-ll k (q.take na),lE] at hs;obtain⟨s1,s2,s3⟩:=hs;refine⟨lE.mpr ⟨s2,m.srt,fun y hy x hx=>m.high y (.inl (kP hy)) x hx⟩,fun y hy x hx=>?_,?_⟩
 ·rcases mC.mp hx with hx|hx
  ·exact hy.elim (fun z=>s3 y (by rw[<-e];exact z) x hx) fun z=>h y z x hx
  ·exact m.high y (hy.imp (fun z=>nD z hk) id) x hx
 ·refine List.Perm.trans ?_ m.pm;rw[<-jW];refine uQ s ?_;rw[e]
  have:((q.take na).take k++r.take nb++(q.take na).drop k).Perm ((q.take na).take k++(q.take na).drop k++r.take nb):=by
   rw[jW,jW];exact tf _ Ao
  rwa [ll] at this
theorem MH.putBs(m:MH lt q r s na nb)(hk:k<=nb)(h: ∀y∈q.take na,∀x∈(r.take nb).drop k,SL lt y x):MH lt q r ((r.take nb).drop k++s) na k:=by
 have e:r.take k=(r.take nb).take k:=by rw[rW,pM hk]
 have hs:=B.sr.sublist (mv nb r);rw[<-ll k (r.take nb),lE] at hs;obtain⟨s1,s2,s3⟩:=hs;refine⟨lE.mpr ⟨s2,m.srt,fun y hy x hx=>m.high y (.inr (kP hy)) x hx⟩,fun y hy x hx=>?_,?_⟩
 ·rcases mC.mp hx with hx|hx
  ·exact hy.elim (fun z=>h y z x hx) fun z=>s3 y (by rw[<-e];exact z) x hx
  ·exact m.high y (hy.imp id fun z=>nD z hk) x hx
 ·refine List.Perm.trans ?_ m.pm;rw[e,<-jW];refine uQ s ?_;rw[jW,ll]
theorem MH.endA(m:MH lt q r s na nb)(h:na=0\/nb=0):(q.take na++r.take nb++s).Pairwise (SL lt):=by
 refine lE.mpr ⟨?_,m.srt,fun y hy x hx=>m.high y (mC.mp hy) x hx⟩;rcases h with rfl|rfl
 ·rw[List.take_zero,rf];exact B.sr.sublist (mv _ _)
 ·rw[List.take_zero,tH];exact B.sq.sublist (mv _ _)
theorem MH.endL(m:MH lt q r s na nb)(h: ∀x∈r.take nb,∀y∈q.take na,SL lt x y):(r.take nb++q.take na++s).Pairwise (SL lt)/\(r.take nb++q.take na++s).Perm (q++r):=
 ⟨lE.mpr ⟨lE.mpr ⟨B.sr.sublist (mv _ _),B.sq.sublist (mv _ _),h⟩,m.srt,fun y hy x hx=>m.high y ((mC.mp hy).symm) x hx⟩,(uQ s Ao).trans m.pm⟩
end
theorem qR:((s.reverse.map it).toArray.push (it x))=((x::s).reverse.map it).toArray:=by simp
theorem Dm{s q r:iA}{i j:Nat}:((q.map it).toArray.extract 0 i++(r.map it).toArray.extract 0 j++(s.reverse.map it).toArray.reverse)=((q.take i++r.take j++s).map it).toArray:=by
 simp[uP,uO]
theorem Dl{s q:iA}{i k:Nat}:((s.reverse.map it).toArray++((q.map it).toArray.extract k i).reverse)=(((q.take i).drop k++s).reverse.map it).toArray:=by
 simp[uP,uO,List.drop_take]
theorem oh(W:Wk lt){q r s:iA}{na nb:Nat}(B:Pre lt N q r)(m:MH lt q r s na nb)(h:na=0\/nb=0):Res lt it q r ((q.map it).toArray.extract 0 na++(r.map it).toArray.extract 0 nb++(s.reverse.map it).toArray.reverse):=⟨_,Dm,m.endA W B h,m.pm⟩
theorem En(W:Wk lt){q r s:iA}{na nb:Nat}(B:Pre lt N q r)(m:MH lt q r s na nb)(h: ∀x∈r.take nb,∀y∈q.take na,SL lt x y):Res lt it q r ((r.map it).toArray.extract 0 nb++(q.map it).toArray.extract 0 na++(s.reverse.map it).toArray.reverse):=⟨_,Dm,m.endL W B h⟩
end
abbrev HiS:=Option (Array Keyed)×Nat×Nat×Array Keyed×Nat×Nat×Nat
def FN(a b out:mR)(na nb mg k k2:Nat):StateT SortSt Sem (ForInStep HiS):=do
 let y <-elem' a (na-1)
 if(na-1==0)=true then pure (ForInStep.done (some (a.extract 0 (na-1)++b.extract 0 nb++(out.push y).reverse),na-1,nb,out.push y,mg,k,k2))
 else if(decide (k<7)&&decide (k2<7))=true then pure (ForInStep.done (none,na-1,nb,out.push y,mg,k,k2)) else pure (ForInStep.yield (none,na-1,nb,out.push y,mg,k,k2))
def MA(a b out:mR)(na nb mg k bc:Nat):StateT SortSt Sem (ForInStep HiS):=do
 let y <-elem' b (nb-1)
 if(nb-1==1)=true then pure (ForInStep.done (some (b.extract 0 (nb-1)++a.extract 0 na++(out.push y).reverse),na,nb-1,out.push y,mg,k,bc))
 else do
  let z <-elem' a (na-1)
  let x <-kr true z b 0 (nb-1) (nb-1-1)
  match x with
  |some at_=>
   if nb-1-at_>0 then
    if(at_==1)=true then pure (ForInStep.done (some (b.extract 0 at_++a.extract 0 na++(out.push y++(b.extract at_ (nb-1)).reverse).reverse),na,at_,out.push y++(b.extract at_ (nb-1)).reverse,mg,k,nb-1-at_))
    else if(at_==0)=true then pure (ForInStep.done (some (a.extract 0 na++b.extract 0 at_++(out.push y++(b.extract at_ (nb-1)).reverse).reverse),na,at_,out.push y++(b.extract at_ (nb-1)).reverse,mg,k,nb-1-at_))
    else FN a b (out.push y++(b.extract at_ (nb-1)).reverse) na at_ mg k (nb-1-at_)
   else FN a b (out.push y) na (nb-1) mg k (nb-1-at_)
  |_=>pure (ForInStep.done (some (a.extract 0 na++b.extract 0 (nb-1)++(out.push y).reverse),na,nb-1,out.push y,mg,k,bc))
def Lo(lt:kN)(it:mQ)(q r:iA)(c cy:Nat)(S:SortSt->Prop)(x:ForInStep HiS)(b8:iH):Prop:=
 match x with
 | .done c'=>S b8/\((∃res x,c'=(some res,x)/\Res lt it q r res)\/ ∃s2 j8 k6 p6 ac bc,c'=(none,j8,k6,(s2.reverse.map it).toArray,p6,ac,bc)/\MH lt q r s2 j8 k6/\1<=j8/\j8<=q.length/\2<=k6/\k6<=r.length/\j8+k6+c<=q.length+r.length)
 | .yield c'=> ∃s2 j8 k6 p6 ac bc,c'=(none,j8,k6,(s2.reverse.map it).toArray,p6,ac,bc)/\MH lt q r s2 j8 k6/\1<=j8/\j8<=q.length/\2<=k6/\k6<=r.length/\j8+k6+cy<=q.length+r.length/\S b8
section
variable {prog:gP}{w:gH}{A:gM}{E:hG}{G:Shared->Prop}{it:mQ}{lt:kN}{κ:SortKind}{N:Nat}
section
variable(W:Wk lt)(H:Ask prog w A E G it κ N lt){q r:iA}(B:Pre lt N q r)(bot: ∀x∈r.take 1,∀y∈q,SL lt x y){S:SortSt->Prop}{s:iA}{na nb mg k k2 bc c cy:Nat}{st:iH}
include W H B bot
theorem zd(m:MH lt q r s na nb)(ha:1<=na)(dg:na<=q.length)(hb:2<=nb)(eK:nb<=r.length)(fa: ∀y∈r.take nb,SL lt y q[na-1])(hs:S st)(hc:na-1+nb+c<=q.length+r.length)(hy:na-1+nb+cy<=q.length+r.length):
  wpI (model prog w) A E G (FN (q.map it).toArray (r.map it).toArray (s.reverse.map it).toArray na nb mg k k2) (Lo lt it q r c cy S) st:=by
 unfold FN;refine gm (jG (i:=na-1) (by lia) ?_);have m2:=m.putA W B (by lia) dg fa;rw[qR];by_cases he:(na-1==0)=true
 ·rw[gu he];exact gp ⟨hs,.inl ⟨_,_,rfl,oh W B m2 (.inl (by simpa using he))⟩⟩
 ·rw[gv he];have:na-1≠0:=fun z=>he (by simp[z]);by_cases h7:(decide (k<7)&&decide (k2<7))=true
  ·rw[gu h7];exact gp ⟨hs,.inr ⟨_,_,_,_,_,_,rfl,m2,by lia,by lia,hb,eK,hc⟩⟩
  ·rw[gv h7];exact gp ⟨_,_,_,_,_,_,rfl,m2,by lia,by lia,hb,eK,hy,hs⟩
theorem yf(m:MH lt q r s na nb)(h:nb=1):Res lt it q r ((r.map it).toArray.extract 0 nb++(q.map it).toArray.extract 0 na++(s.reverse.map it).toArray.reverse):=En W B m fun x hx y hy=>bot x (by rw[<-h];exact hx) y (lO hy)
theorem BF(hk:kindOf st=κ)(m:MH lt q r s na nb)(ha:1<=na)(dg:na<=q.length)(hb:2<=nb)(eK:nb<=r.length)(fb: ∀y∈q.take na,SL lt y r[nb-1])(hs:S st)(hc:na+nb+c<=q.length+r.length+1)(hy:na+nb+cy<=q.length+r.length+2):
  wpI (model prog w) A E G (MA (q.map it).toArray (r.map it).toArray (s.reverse.map it).toArray na nb mg k bc) (Lo lt it q r c cy S) st:=by
 unfold MA;refine gm (jG (i:=nb-1) (by lia) ?_);have m2:=m.putB W B (by lia) eK fb;rw[qR];by_cases he:(nb-1==1)=true
 ·rw[gu he];exact gp ⟨hs,.inl ⟨_,_,rfl,yf W H B bot m2 (by simpa using he)⟩⟩
 ·rw[gv he];have he:nb-1≠1:=fun z=>he (by simp[z]);have en:(r.drop 0).take (nb-1)=r.take (nb-1):=by rw[wD]
  refine gm (jG (i:=na-1) (by lia) (gm (qx W H (B.nq _ (jL _)) B.nr (by lia) (by lia) hk (by rw[en];exact B.sr.sublist (mv _ _)) fun k' k1 k2 k3=>?_)));rw[en] at k2 k3;simp only[ie] at k2 k3
  have m3:=m2.putBs W B (k:=k') k1 fun y hy x hx=>by
   have first:SL lt q[na-1] x:= .inr ⟨k3 x hx,B.ix _ (jL _) _ (lO (kP hx))⟩;rw[jU ha dg] at hy;rcases mC.mp hy with hy|hy
   ·exact SL.trans W (E5 W B ha dg y hy) first
   ·rw[pK] at hy;subst hy;exact first
  have e2:r.take k'=(r.take (nb-1)).take k':=by rw[rW,pM k1]
  have fa: ∀y∈r.take k',SL lt y q[na-1]:=fun y hy=> .inl (k2 y (by rw[<-e2];exact hy));dsimp only;by_cases hp:nb-1-k'>0
  ·rw[gu hp,Dl];by_cases hf:(k'==1)=true
   ·rw[gu hf];exact gp ⟨hs,.inl ⟨_,_,rfl,yf W H B bot m3 (by simpa using hf)⟩⟩
   ·rw[gv hf];have hf:k'≠1:=fun z=>hf (by simp[z]);by_cases hg:(k'==0)=true
    ·rw[gu hg];exact gp ⟨hs,.inl ⟨_,_,rfl,oh W B m3 (.inr (by simpa using hg))⟩⟩
    ·rw[gv hg];have hg:k'≠0:=fun z=>hg (by simp[z]);exact zd W H B bot m3 ha dg (by lia) (by lia) fa hs (by lia) (by lia)
  ·rw[gv hp];have hz:k'=nb-1:=by lia
   subst hz;exact zd W H B bot m2 ha dg (by lia) (by lia) fa hs (by lia) (by lia)
end
theorem Nv(W:Wk lt)(H:Ask prog w A E G it κ N lt){q r:iA}(B:Pre lt N q r)(h1:1<=q.length)(h2:1<=r.length)(bot: ∀x∈r.take 1,∀y∈q,SL lt x y)(top: ∀x∈r,SL lt x q[q.length-1]){st:iH}(hk:kindOf st=κ){Q:Array Keyed->SortSt->Prop}
  (h: ∀out b8,Res lt it q r out->Same st b8->Q out b8):wpI (model prog w) A E G (xP (q.map it).toArray (r.map it).toArray) Q st:=by
 have firstB: ∀{s na nb},MH lt q r s na nb->nb=1->Res lt it q r ((r.map it).toArray.extract 0 nb++(q.map it).toArray.extract 0 na++(s.reverse.map it).toArray.reverse):=fun m e=>yf W H B bot m e;rw[EH];dsimp only;have e1:(q.map it).toArray.size=q.length:=sz q it;have e2:(r.map it).toArray.size=r.length:=sz r it;rw[e1,e2];refine gm (nX (gm (jG (i:=q.length-1) (by lia) ?_)))
 have m0:MH lt q r [q[q.length-1]] (q.length-1) r.length:=by
  have:=MH.putA (s:=[]) (na:=q.length) (nb:=r.length) W B ⟨List.Pairwise.nil,fun y hy x hx=>absurd hx jF,by simp⟩ (by lia) (hU _) (fun y hy=>top y (lO hy));exact this
 have e0: #[it q[q.length-1]]=(([q[q.length-1]]:List Nat).reverse.map it).toArray:=rfl;rw[e0];by_cases ao:(q.length-1==0)=true
 ·rw[gu ao];exact gp (h _ _ (oh W B m0 (.inl (by simpa using ao))) .refl)
 ·rw[gv ao];have ao:q.length-1≠0:=fun z=>ao (by simp[z]);by_cases aY:(r.length==1)=true
  ·rw[gu aY];exact gp (h _ _ (firstB m0 (by simpa using aY)) .refl)
  ·rw[gv aY];have aY:r.length≠1:=fun z=>aY (by simp[z]);refine gm (kG ?_)
   refine gm (iF (iJ (I:=fun i c b8=> ∃s na nb mg,c=(none,na,nb,(s.reverse.map it).toArray,mg)/\MH lt q r s na nb/\1<=na/\na<=q.length/\2<=nb/\nb<=r.length/\na+nb+(i+1)<=q.length+r.length/\Same st b8)
    (Q:=fun c b8=> ∃res x,c=(some res,x)/\Res lt it q r res/\Same st b8) ?step ?fin ⟨_,q.length-1,r.length,_,rfl,m0,by lia,by lia,by lia,by lia,by lia,.refl⟩) ?post)
   case post=>
    rintro c b8 ⟨res,x,rfl,hr,hs⟩;exact gp (h res b8 hr hs)
   case fin=>
    rintro c b8 ⟨s,na,nb,mg,rfl,m,b1,b2,b3,b4,b5,hs⟩
    lia
   case step=>
    rintro i c aB _ _ ⟨s,na,nb,mg,rfl,m,b1,b2,b3,b4,b5,hs⟩;dsimp only
    refine gm (iF (iJ (I:=fun j c b8=>b8=aB/\ ∃s' s9 j0 ac bc,c=(none,s9,j0,(s'.reverse.map it).toArray,ac,bc)/\MH lt q r s' s9 j0/\1<=s9/\s9<=q.length/\2<=j0/\j0<=r.length/\s9+j0+j<=na+nb)
     (Q:=fun c b8=>b8=aB/\((∃res x,c=(some res,x)/\Res lt it q r res)\/ ∃s' s9 j0 ac bc,c=(none,s9,j0,(s'.reverse.map it).toArray,ac,bc)/\MH lt q r s' s9 j0/\1<=s9/\s9<=q.length/\2<=j0/\j0<=r.length/\s9+j0+1<=na+nb)) ?step1 ?fin1 ⟨rfl,s,na,nb,0,0,rfl,m,b1,b2,b3,b4,by lia⟩) ?post1)
    case fin1=>
     rintro c b8 ⟨rfl,s',s9,j0,ac,bc,rfl,m',c1,c2,c3,c4,c5⟩
     lia
    case step1=>
     rintro j c b8 _ _ ⟨rfl,s',s9,j0,ac,bc,rfl,m',c1,c2,c3,c4,c5⟩;dsimp only;refine gm (jG (i:=j0-1) (by lia) (gm (jG (i:=s9-1) (by lia) (gm (wX H (hs.1.trans hk) (B.nr _ (jL _)) (B.nq _ (jL _)) ?_)))));dsimp only
     cases hl:lt r[j0-1] q[s9-1] with
     |true=>
      simp only[ie];refine gm (jG (i:=s9-1) (by lia) ?_)
      have m2:=m'.putA W B c1 c2 fun y hy=>by
       rw[jU (show 0<j0 by lia) c4] at hy;rcases mC.mp hy with hy|hy
       ·exact SL.trans W (EZ W B (by lia) c4 y hy) (.inl hl)
       ·rw[pK] at hy;subst hy;exact .inl hl
      rw[qR];by_cases he:(s9-1==0)=true
      ·rw[gu he];exact gp ⟨rfl,.inl ⟨_,_,rfl,oh W B m2 (.inl (by simpa using he))⟩⟩
      ·rw[gv he];have:s9-1≠0:=fun z=>he (by simp[z]);by_cases hg:ac+1>=mg
       ·rw[gu hg];exact gp ⟨rfl,.inr ⟨_,_,_,_,_,rfl,m2,by lia,by lia,c3,c4,by lia⟩⟩
       ·rw[gv hg];exact gp ⟨rfl,_,_,_,_,_,rfl,m2,by lia,by lia,c3,c4,by lia⟩
     |false=>
      simp only[iC,iP];refine gm (jG (i:=j0-1) (by lia) ?_)
      have m2:=m'.putB W B (by lia) c4 fun y hy=>by
       have first:SL lt q[s9-1] r[j0-1]:= .inr ⟨hl,B.ix _ (jL _) _ (jL _)⟩;rw[jU c1 c2] at hy;rcases mC.mp hy with hy|hy
       ·exact SL.trans W (E5 W B c1 c2 y hy) first
       ·rw[pK] at hy;subst hy;exact first
      rw[qR];by_cases he:(j0-1==1)=true
      ·rw[gu he];exact gp ⟨rfl,.inl ⟨_,_,rfl,firstB m2 (by simpa using he)⟩⟩
      ·rw[gv he];have:j0-1≠1:=fun z=>he (by simp[z]);by_cases hg:bc+1>=mg
       ·rw[gu hg];exact gp ⟨rfl,.inr ⟨_,_,_,_,_,rfl,m2,c1,c2,by lia,by lia,by lia⟩⟩
       ·rw[gv hg];exact gp ⟨rfl,_,_,_,_,_,rfl,m2,c1,c2,by lia,by lia,by lia⟩
    case post1=>
     rintro c b8 ⟨rfl,⟨res,x,rfl,hr⟩|⟨s',s9,j0,ac,bc,rfl,m',c1,c2,c3,c4,c5⟩⟩
     ·exact gp ⟨res,_,rfl,hr,hs⟩
     ·dsimp only
      refine gm (nX (gm (iF (iJ (I:=fun j c b8=> ∃s2 j8 k6 p6 ac bc,c=(none,j8,k6,(s2.reverse.map it).toArray,p6,ac,bc)/\MH lt q r s2 j8 k6/\1<=j8/\j8<=q.length/\2<=k6/\k6<=r.length/\j8+k6+(i+2+j)<=q.length+r.length/\Same st b8)
       (Q:=fun c b8=>Same st b8/\((∃res x,c=(some res,x)/\Res lt it q r res)\/ ∃s2 j8 k6 p6 ac bc,c=(none,j8,k6,(s2.reverse.map it).toArray,p6,ac,bc)/\MH lt q r s2 j8 k6/\1<=j8/\j8<=q.length/\2<=k6/\k6<=r.length/\j8+k6+(i+2)<=q.length+r.length)) ?step2 ?fin2 ⟨s',s9,j0,_,_,_,rfl,m',c1,c2,c3,c4,by lia,hs⟩) ?post2)))
      case fin2=>
       rintro c b8 ⟨s2,j8,k6,p6,ac,bc,rfl,m2,d1,d2,d3,d4,d5,o8⟩
       lia
      case post2=>
       rintro c b8 ⟨o8,⟨res,x,rfl,hr⟩|⟨s2,j8,k6,p6,ac,bc,rfl,m2,d1,d2,d3,d4,d5⟩⟩
       ·exact gp ⟨res,_,rfl,hr,o8⟩
       ·dsimp only;exact gm (qw fun k8 m8=>gp ⟨s2,j8,k6,_,rfl,m2,d1,d2,d3,d4,by lia,o8.trans m8⟩)
      case step2=>
       rintro j c i9 _ _ ⟨s2,j8,k6,p6,ac,bc,rfl,m2,d1,d2,d3,d4,d5,o8⟩;dsimp only;have en:(q.drop 0).take j8=q.take j8:=by rw[wD]
       have body: ∀(w9:Nat) (k8:iH),Same st k8->wpI (model prog w) A E G (do
         let y <-elem' (r.map it).toArray (k6-1)
         let x <-kr false y (q.map it).toArray 0 j8 (j8-1)
         match x with
         |some at_=>
          if j8-at_>0 then
           if(at_==0)=true then pure (ForInStep.done (some ((q.map it).toArray.extract 0 at_++(r.map it).toArray.extract 0 k6++((s2.reverse.map it).toArray++((q.map it).toArray.extract at_ j8).reverse).reverse),at_,k6,(s2.reverse.map it).toArray++((q.map it).toArray.extract at_ j8).reverse,w9,j8-at_,bc))
           else MA (q.map it).toArray (r.map it).toArray ((s2.reverse.map it).toArray++((q.map it).toArray.extract at_ j8).reverse) at_ k6 w9 (j8-at_) bc
          else MA (q.map it).toArray (r.map it).toArray (s2.reverse.map it).toArray j8 k6 w9 (j8-at_) bc
         |_=>pure (ForInStep.done (some ((q.map it).toArray.extract 0 j8++(r.map it).toArray.extract 0 k6++(s2.reverse.map it).toArray.reverse),j8,k6,(s2.reverse.map it).toArray,w9,ac,bc))) (Lo lt it q r (i+2) (i+2+(j+1)) (Same st)) k8:=fun w9 k8 m8=>by
        refine gm (jG (i:=k6-1) (by lia) (gm (qx W H (B.nr _ (jL _)) B.nq (by lia) (by lia) (m8.1.trans hk) (by rw[en];exact B.sq.sublist (mv _ _)) fun k k1 k2 k3=>?_)));rw[en] at k2 k3;simp only[iC,iP,Bool.not_eq_true',Bool.not_eq_false'] at k2 k3
        have mA:MH lt q r ((q.take j8).drop k++s2) k k6:=m2.putAs W B k1 fun y hy x hx=>by
         have first:SL lt r[k6-1] x:= .inl (k3 x hx);rw[jU (show 0<k6 by lia) d4] at hy;rcases mC.mp hy with hy|hy
         ·exact SL.trans W (EZ W B (by lia) d4 y hy) first
         ·rw[pK] at hy;subst hy;exact first
        have ek:q.take k=(q.take j8).take k:=by rw[rW,pM k1]
        have fb: ∀y∈q.take k,SL lt y r[k6-1]:=fun y hy=> .inr ⟨k2 y (by rw[<-ek];exact hy),B.ix _ (lO hy) _ (jL _)⟩;dsimp only;by_cases hp:j8-k>0
        ·rw[gu hp,Dl];by_cases he:(k==0)=true
         ·rw[gu he];exact gp ⟨m8,.inl ⟨_,_,rfl,oh W B mA (.inl (by simpa using he))⟩⟩
         ·rw[gv he];have he:k≠0:=fun z=>he (by simp[z]);exact BF W H B bot (m8.1.trans hk) mA (by lia) (by lia) d3 d4 fb m8 (by lia) (by lia)
        ·rw[gv hp];have hz:k=j8:=by lia
         subst hz;exact BF W H B bot (m8.1.trans hk) m2 d1 d2 d3 d4 fb m8 (by lia) (by lia)
       by_cases hm:p6>1
       ·rw[gu hm];refine gm (qw fun k8 m8=>?_);exact iF (body _ k8 (o8.trans m8)) fun x b8 hx=>by cases x<;>exact hx
       ·rw[gv hm];refine gm (qw fun k8 m8=>?_);exact iF (body _ k8 (o8.trans m8)) fun x b8 hx=>by cases x<;>exact hx
end
theorem EI(i:Nat):mergeAt' i=(do
 let s <-get
 let(some (sa,na,power),some (sb,nb,_)):=((pendingOf s)[i]?,(pendingOf s)[i+1]?)|unsupported "internal:list.sort.pending"
 set (setPending s (((pendingOf s).setIfInBounds i (sa,na+nb,power)).eraseIdxIfInBounds (i+1)))
 let some k <-kr false (<-elem' (arrOf s) sb) (arrOf s) sa na 0|return false
 let(sa,na):=(sa+k,na-k)
 if na==0 then return true
 let some nb <-kr true (<-elem' (arrOf s) (sa+na-1)) (arrOf s) sb nb (nb-1)|return false
 if nb==0 then return true
 let x:=(arrOf s).extract sa sb
 let y:=(arrOf s).extract sb (sb+nb)
 let merged <-if na<=nb then xN x y else xP x y
 modify fun s=>setArr s (merged.toList.zipIdx.foldl (fun a (p,j)=>a.setIfInBounds (sa+j) p) (arrOf s))
 return (failedOf (<-get)).isNone):=rfl
def seg(L:iA)(a n:Nat):List Nat:=(L.drop a).take n
section
variable {lt:kN}{p:jz}{a b n m:Nat}{L:iA}
theorem wo(h:a+n<=L.length):(seg L a n).length=n:=by simp[seg];omega
theorem AR{i:Nat}(hi:i<n):(seg L a n)[i]?=L[a+i]?:=by
 simp only[seg,List.getElem?_take,hi,ie,uN]
theorem NA(h:a+n<=p.size):Up lt p a (a+n)↔(seg p.toList a n).Pairwise (SL lt):=by
 have hl:(seg p.toList a n).length=n:=wo (by simpa using h)
 have get: ∀i (hi:i<n),(seg p.toList a n)[i]'(by omega)=P p (a+i):=fun i hi=>by
  have:(seg p.toList a n)[i]?=some (P p (a+i)):=by
   rw[AR hi];have:=vU (p:=p) (i:=a+i) (by omega);simpa using this
  rw[iO (by omega)] at this;exact iE this
 rw[FC];constructor
 ·intro u i j hi hj r6;rw[get i (by omega),get j (by omega)];exact u _ _ (by omega) (by omega) (by omega)
 ·intro u i j h1 h2 h3;have:=u (i-a) (j-a) (by omega) (by omega) (by omega);rw[get _ (by omega),get _ (by omega),show a+(i-a)=i by omega,show a+(j-a)=j by omega] at this;exact this
theorem LH(h:a+n<=p.size)(lo hi:Nat):(∀k,a<=k->k<a+n->lo<=P p k/\P p k<hi)↔ ∀x∈seg p.toList a n,lo<=x/\x<hi:=by
 have hl:(seg p.toList a n).length=n:=wo (by simpa using h)
 have get: ∀i (hi:i<n),(seg p.toList a n)[i]'(by omega)=P p (a+i):=fun i hi=>by
  have:(seg p.toList a n)[i]?=some (P p (a+i)):=by
   rw[AR hi];have:=vU (p:=p) (i:=a+i) (by omega);simpa using this
  rw[iO (by omega)] at this;exact iE this
 constructor
 ·intro u x hx;obtain⟨i,hi,e⟩:=wF hx;rw[<-e,get i (by omega)];exact u _ (by omega) (by omega)
 ·intro u k k1 k2;have:=u _ (jL (l:=seg p.toList a n) (n:=k-a) (by omega));rw[get _ (by omega),show a+(k-a)=k by omega] at this;exact this
theorem sy(h:a+n+m<=L.length):seg L a (n+m)=seg L a n++seg L (a+n) m:=by
 unfold seg;rw[List.take_add,nP]
theorem Ki(h:a+n<=L.length):L=L.take a++(seg L a n++L.drop (a+n)):=by
 unfold seg;rw[show L.drop (a+n)=(L.drop a).drop n by rw[nP],ll,ll]
theorem CV{α:Type}: ∀(m:List α) (j a:Nat) (L:List α),a+j+m.length<=L.length->((m.zipIdx j).foldl (fun(x:Array α) (p:α×Nat)=>x.setIfInBounds (a+p.2) p.1) L.toArray).toList=L.take (a+j)++(m++L.drop (a+j+m.length))
 |[],j,a,L,h=>by simp
 |x::m,j,a,L,h=>by
  simp only[jX] at h;rw[List.zipIdx_cons,rV];dsimp only;rw[List.setIfInBounds_toArray,CV m (j+1) a (L.set (a+j) x) (by rw[rm];omega)]
  have e1:(L.set (a+j) x).take (a+(j+1))=L.take (a+j)++[x]:=by
   rw[show a+(j+1)=a+j+1 by omega,An,Ij (hU _),pJ (by omega)];rfl
  have e2:(L.set (a+j) x).drop (a+(j+1)+m.length)=L.drop (a+(j+1)+m.length):=Ii (by omega);rw[e1,e2];simp only[jX];rw[show a+j+(m.length+1)=a+(j+1)+m.length by omega,jW,DK];rfl
end
section
variable {prog:gP}{w:gH}{A:gM}{E:hG}{G:Shared->Prop}{it:mQ}{lt:kN}{κ:SortKind}{N:Nat}
theorem Bk(hT:T.length=a)(hM:M.length=n):seg (T++(M++D)) a n=M/\(T++(M++D)).take a=T/\(T++(M++D)).drop (a+n)=D:=by
 subst hT hM;refine⟨?_,List.take_left,?_⟩
 ·unfold seg;rw[DJ,List.take_left]
 ·rw[<-nP,DJ,DJ]
def Run(lt:kN)(L:iA)(a n:Nat):Prop:=1<=n/\(seg L a n).Pairwise (SL lt)/\ ∀x∈seg L a n,a<=x/\x<a+n
theorem Nw(W:Wk lt)(H:Ask prog w A E G it κ N lt){i sa na sb nb pw dz:Nat}{st:iH}{p:jz}(R:Rp it κ N st p)(e1:(pendingOf st)[i]?=some (sa,na,pw))(e2:(pendingOf st)[i+1]?=some (sb,nb,dz))(hs:sb=sa+na)(hn:sb+nb<=N)(r1:Run lt p.toList sa na)(r2:Run lt p.toList sb nb)
  {Q:Bool->SortSt->Prop}(h: ∀b8 p',Rp it κ N b8 p'->pendingOf b8=((pendingOf st).setIfInBounds i (sa,na+nb,pw)).eraseIdxIfInBounds (i+1)->Run lt p'.toList sa (na+nb)->p'.toList.take sa=p.toList.take sa->p'.toList.drop (sa+(na+nb))=p.toList.drop (sa+(na+nb))->Q true b8):
  wpI (model prog w) A E G (mergeAt' i) Q st:=by
 rw[EI];refine gm (kG ?_);rw[e1,e2];dsimp only;refine gm (Lw ?_);rw[R.arr];obtain⟨n1,s1,x1⟩:=r1;obtain⟨n2,s2,x2⟩:=r2;have hL:p.toList.length=N:=by simp[R.size]
 have hp:p=p.toList.toArray:=by simp
 generalize hLL:p.toList=L at*;subst hp;have ea:(L.toArray.map it)=(L.map it).toArray:=by simp
 rw[ea]
 have eM: ∀y∈L,y<N:=fun y hy=>by
  have:=(M0.mp R.perm).mem_iff.mp (by simpa using hy);simpa using this
 generalize p9:setPending st (((pendingOf st).setIfInBounds i (sa,na+nb,pw)).eraseIdxIfInBounds (i+1))=aB;have aE:kindOf aB=κ:=by rw[<-p9];exact R.kind
 have ao:arrOf aB=(L.map it).toArray:=by rw[<-p9];show arrOf st=_;rw[R.arr,ea]
 have hp1:pendingOf aB=((pendingOf st).setIfInBounds i (sa,na+nb,pw)).eraseIdxIfInBounds (i+1):=by rw[<-p9]
 have fN:failedOf aB=none:=by rw[<-p9];exact R.ok
 have hlen1:(seg L sa na).length=na:=wo (by lia);have hlen2:(seg L sb nb).length=nb:=wo (by lia);have aR:sb<L.length:=by lia
 have r0:seg L sb nb=L[sb]::seg L (sb+1) (nb-1):=by
  unfold seg;rw[sf aR,show nb=nb-1+1 by lia,Ih];rfl
 have key_mem:L[sb]∈seg L sb nb:=by rw[r0];exact iR
 have key_le: ∀z∈seg L sb nb,z=L[sb]\/SL lt L[sb] z:=fun z hz=>by
  rw[r0] at s2 hz;rcases jg.mp hz with hz|hz
  ·exact .inl hz
  ·exact .inr ((ph.mp s2).1 z hz)
 have idx: ∀y∈seg L sa na,∀z∈seg L sb nb,y<z:=fun y hy z hz=>by
  have:=x1 y hy;have:=x2 z hz;lia
 have up: ∀y∈seg L sa na,lt L[sb] y=false-> ∀z∈seg L sb nb,SL lt y z:=fun y hy hl z hz=>by
  have first:SL lt y L[sb]:= .inr ⟨hl,idx y hy _ key_mem⟩;rcases key_le z hz with rfl|hz
  ·exact first
  ·exact SL.trans W first hz
 refine gm (jG aR (gm (qx W H (eM _ (jL _)) eM (by lia) (by lia) aE s1 fun k k1 k2 k3=>?_)));dsimp only;change ∀y∈(seg L sa na).take k,_ at k2;change ∀y∈(seg L sa na).drop k,_ at k3;simp only[iC,iP,Bool.not_eq_true',Bool.not_eq_false'] at k2 k3;by_cases hz:(na-k==0)=true
 ·rw[gu hz];have hz:na-k=0:=by simpa using hz
  have k2': ∀y∈seg L sa na,lt L[sb] y=false:=fun y hy=>k2 y (by rw[rX (by lia)];exact hy);refine gp (h aB L.toArray ⟨by rw[ao,ea],aE,fN,R.size,R.perm⟩ hp1 ?_ rfl rfl);show Run lt L sa (na+nb);refine⟨by lia,?_,fun x hx=>?_⟩
  ·rw[sy (by lia),<-hs];exact lE.mpr ⟨s1,s2,fun y hy z hz=>up y hy (k2' y hy) z hz⟩
  ·rw[sy (by lia),<-hs] at hx;rcases mC.mp hx with hx|hx
   ·have:=x1 x hx;lia
   ·have:=x2 x hx;lia
 ·rw[gv hz];have hz:na-k≠0:=fun z=>hz (by simp[z]);have aV:sa+k+(na-k)-1<L.length:=by lia
  have j6:(seg L sa na)[na-1]?=some L[sa+k+(na-k)-1]:=by
   rw[AR (by lia),iO (by lia)]
   congr 2;lia
  have p8:L[sa+k+(na-k)-1]∈(seg L sa na).drop k:=by
   refine lQ (i:=na-1-k) ?_;rw[uN,show k+(na-1-k)=na-1 by lia];exact j6
  generalize bW:L[sa+k+(na-k)-1]=la at j6 p8
  have le_last: ∀y∈seg L sa na,y=la\/SL lt y la:=fun y hy=>by
   obtain⟨j,hj,e⟩:=wF hy;by_cases cZ:j=na-1
   ·left;subst cZ;rw[iO hj] at j6;rw[<-e];exact iE j6
   ·right;have:=FC.mp s1 j (na-1) hj (by lia) (by lia);rw[iO (by lia)] at j6;rw[e,iE j6] at this;exact this
  have la_seg:la∈seg L sa na:=kP p8;refine gm (jG aV ?_);rw[bW];refine gm (qx W H (eM _ (by rw[<-bW];exact jL _)) eM (by lia) (by lia) aE s2 fun j0 j1 j2 j3=>?_);dsimp only;change ∀y∈(seg L sb nb).take j0,_ at j2;change ∀y∈(seg L sb nb).drop j0,_ at j3;simp only[ie] at j2 j3;by_cases hy:(j0==0)=true
  ·have hy:j0=0:=by simpa using hy
   subst hy;have:=j3 L[sb] (by rw[wD];exact key_mem);rw[k3 la p8] at this;cases this
  ·rw[gv hy];have hy:j0≠0:=fun z=>hy (by simp[z])
   have ex:(L.map it).toArray.extract (sa+k) sb=(((seg L sa na).drop k).map it).toArray:=by
    simp only[uP,uO,seg,List.drop_take,nP,List.map_take,List.map_drop];rw[show sb-(sa+k)=na-k by lia]
   have ey:(L.map it).toArray.extract sb (sb+j0)=(((seg L sb nb).take j0).map it).toArray:=by
    simp only[uP,uO,seg,rW,List.map_take,List.map_drop];rw[show sb+j0-sb=j0 by lia,pM j1]
   rw[ex,ey];have hq:((seg L sa na).drop k).length=na-k:=by simp[hlen1]
   have hr:((seg L sb nb).take j0).length=j0:=by rw[nS,hlen2,pM j1]
   have B:Pre lt N ((seg L sa na).drop k) ((seg L sb nb).take j0):=
    ⟨s1.sublist (nO _ _),s2.sublist (mv _ _),fun x hx y hy=>idx x (kP hx) y (lO hy),fun x hx=>by have:=x1 x (kP hx);lia,fun x hx=>by have:=x2 x (lO hx);lia⟩
   have rz:((seg L sb nb).take j0)[0]'(by lia)=L[sb]:=by
    rw[List.getElem_take];have:(seg L sb nb)[0]?=some L[sb]:=by rw[r0];rfl
    rw[iO (by lia)] at this;exact iE this
   have ql:((seg L sa na).drop k)[((seg L sa na).drop k).length-1]'(by lia)=la:=by
    rw[List.getElem_drop];have:(seg L sa na)[k+(((seg L sa na).drop k).length-1)]?=some la:=by rw[hq,show k+(na-k-1)=na-1 by lia];exact j6
    rw[iO (by lia)] at this;exact iE this
   have fin: ∀merged b8,Res lt it ((seg L sa na).drop k) ((seg L sb nb).take j0) merged->Same aB b8->wpI (model prog w) A E G (do
     modify fun s=>setArr s (List.foldl (fun a x=>a.setIfInBounds (sa+k+x.snd) x.fst) (arrOf s) merged.toList.zipIdx)
     let r <-get
     pure (failedOf r).isNone) Q b8:=fun merged b8 cx x6=>by
    obtain⟨o,rfl,so,po⟩:=cx;have ol:o.length=na-k+j0:=by rw[po.length_eq,lP,hq,hr]
    refine gm (jA (gm (kG (gp ?_))));have arr':arrOf b8=(L.map it).toArray:=x6.2.1.trans ao
    have c1:L.take (sa+k)=L.take sa++(seg L sa na).take k:=by
     unfold seg;rw[rW,pM k1,<-List.take_add]
    have c2:L.drop (sa+k+o.length)=(seg L sb nb).drop j0++L.drop (sa+(na+nb)):=by
     have e3:L.drop (sa+(na+nb))=(L.drop (sb+j0)).drop (nb-j0):=by rw[nP];congr 1;lia
     rw[ol,show sa+k+(na-k+j0)=sb+j0 by lia,e3];unfold seg;rw[List.drop_take,nP,ll]
    have fold:List.foldl (fun(a:mR) (x:Keyed×Nat)=>a.setIfInBounds (sa+k+x.snd) x.fst) (arrOf b8) (o.map it).toArray.toList.zipIdx=(((L.take sa++(((seg L sa na).take k++(o++(seg L sb nb).drop j0))++L.drop (sa+(na+nb)))):List Nat).toArray).map it:=by
     rw[arr'];apply Array.toList_inj.mp;have:=CV (o.map it) 0 (sa+k) (L.map it) (by simp only[iX,ol];lia);rw[DI] at this;refine this.trans ?_;simp only[Array.toList_map,iX];rw[<-List.map_take,<-List.map_drop,c1,c2];simp only[oE,jW]
    have hpm:(L.take sa++(((seg L sa na).take k++(o++(seg L sb nb).drop j0))++L.drop (sa+(na+nb)))).Perm L:=by
     have cut:=Ki (L:=L) (a:=sa) (n:=na+nb) (by lia);refine List.Perm.trans ?_ (Am cut.symm);refine tf _ (uQ _ ?_);rw[sy (by lia),<-hs];have e1:=ll k (seg L sa na);have e2:=ll j0 (seg L sb nb);have:((seg L sa na).take k++(o++(seg L sb nb).drop j0)).Perm ((seg L sa na).take k++(((seg L sa na).drop k++(seg L sb nb).take j0)++(seg L sb nb).drop j0)):=tf _ (uQ _ po);refine this.trans (Am ?_);rw[jW,e2,<-jW,e1]
    have fw:((seg L sa na).take k++(o++(seg L sb nb).drop j0)).length=na+nb:=by
     simp only[lP,nS,sh,hlen1,hlen2,ol];lia
    have dF:(L.take sa).length=sa:=by simp;lia
    show Q (failedOf b8).isNone _;rw[x6.2.2.2,fN];refine h _ (L.take sa++(((seg L sa na).take k++(o++(seg L sb nb).drop j0))++L.drop (sa+(na+nb)))).toArray ⟨fold,x6.1.trans aE,x6.2.2.2.trans fN,by rw[hZ,hpm.length_eq,hL],M0.mpr (hpm.trans (M0.mp R.perm))⟩ (x6.2.2.1.trans hp1) ?_ ?_ ?_
    ·have hseg:=(Bk (D:=L.drop (sa+(na+nb))) dF fw).1;show Run lt (L.take sa++_) sa (na+nb);unfold Run;rw[hseg];have om: ∀x∈o,x∈(seg L sa na).drop k\/x∈(seg L sb nb).take j0:=fun x hx=>mC.mp (po.mem_iff.mp hx);refine⟨by lia,lE.mpr ⟨s1.sublist (mv _ _),lE.mpr ⟨so,s2.sublist (nO _ _),fun x hx z hz=>?_⟩,fun y hy x hx=>?_⟩,fun x hx=>?_⟩
     ·rcases om x hx with hx|hx
      ·have lz:SL lt la z:= .inr ⟨j3 z hz,idx la la_seg z (kP hz)⟩;rcases le_last x (kP hx) with rfl|hx
       ·exact lz
       ·exact SL.trans W hx lz
      ·have:=s2;rw[<-ll j0 (seg L sb nb),lE] at this;exact this.2.2 x hx z hz
     ·have hyl:=k2 y hy;have hys:=lO hy;rcases mC.mp hx with hx|hx
      ·rcases om x hx with hx|hx
       ·have:=s1;rw[<-ll k (seg L sa na),lE] at this;exact this.2.2 y hy x hx
       ·exact up y hys hyl x (lO hx)
      ·exact up y hys hyl x (kP hx)
     ·have in1:x∈seg L sa na\/x∈seg L sb nb:=by
       rcases mC.mp hx with hx|hx
       ·exact .inl (lO hx)
       ·rcases mC.mp hx with hx|hx
        ·exact(om x hx).imp kP lO
        ·exact .inr (kP hx)
      rcases in1 with hx|hx
      ·have:=x1 x hx;lia
      ·have:=x2 x hx;lia
    ·show(L.take sa++_).take sa=L.take sa;exact(Bk dF fw).2.1
    ·show(L.take sa++_).drop (sa+(na+nb))=L.drop (sa+(na+nb));exact(Bk dF fw).2.2
   by_cases hle:na-k<=j0
   ·rw[gu hle];refine gm (Nu W H B (by lia) (by lia) (fun y hy=>by rw[rz];exact .inl (k3 y hy)) (fun x hx y hy=>?_) aE fin)
    have:y=la:=by
     have e:((seg L sa na).drop k).drop (((seg L sa na).drop k).length-1)=[la]:=by
      rw[sf (by lia),ql,wI (by lia)]
     rw[e] at hy;exact pK.mp hy
    subst this;exact .inl (j2 x hx)
   ·rw[gv hle];refine gm (Nv W H B (by lia) (by lia) (fun x hx y hy=>?_) (fun x hx=>by rw[ql];exact .inl (j2 x hx)) aE fin)
    have:x=L[sb]:=by
     have e:((seg L sb nb).take j0).take 1=[L[sb]]:=by
      rw[r0,show j0=j0-1+1 by lia,Ih];rfl
     rw[e] at hx;exact pK.mp hx
    subst this;exact .inl (k3 y hy)
def Chain(lt:kN)(L:iA):Nat->List (Nat×Nat×Nat)->Nat->Prop
 |a,[],b=>a=b
 |a,(s,n,_)::r,b=>s=a/\Run lt L a n/\Chain lt L (a+n) r b
theorem Chain.le{L:iA}: ∀{l:List (Nat×Nat×Nat)} {a b:Nat},Chain lt L a l b->a+l.length<=b
 |[],a,b,h=>by have:a=b:=h;simp;omega
 |(s,n,x)::r,a,b,h=>by
  obtain⟨_,r1,h2⟩:=h;have:=Chain.le h2;have:=r1.1;simp only[jX];omega
theorem Jh(h:Run lt L a n)(hc:a+n<=c)(e:L'.take c=L.take c):Run lt L' a n:=by
 have:seg L' a n=seg L a n:=by
  have q: ∀X:List Nat,seg X a n=seg (X.take c) a n:=fun X=>by
   unfold seg;rw[List.drop_take,rW,pM (by omega)]
  rw[q L',q L,e]
 unfold Run;rw[this];exact h
theorem xn(h:Run lt L a n)(hc:c<=a)(e:L'.drop c=L.drop c):Run lt L' a n:=by
 have:seg L' a n=seg L a n:=by
  have q: ∀X:List Nat,seg X a n=seg (X.drop c) (a-c) n:=fun X=>by
   unfold seg;rw[nP,show c+(a-c)=a by omega]
  rw[q L',q L,e]
 unfold Run;rw[this];exact h
theorem Chain.take{L L':iA}{c:Nat}(e:L'.take c=L.take c): ∀{l:List (Nat×Nat×Nat)} {a b:Nat},Chain lt L a l b->b<=c->Chain lt L' a l b
 |[],a,b,h,_=>h
 |(s,n,x)::r,a,b,h,hc=>by
  obtain⟨h1,h2,h3⟩:=h;have:=Chain.le h3;exact⟨h1,Jh h2 (by omega) e,Chain.take e h3 hc⟩
theorem Chain.drop{L L':iA}{c:Nat}(e:L'.drop c=L.drop c): ∀{l:List (Nat×Nat×Nat)} {a b:Nat},Chain lt L a l b->c<=a->Chain lt L' a l b
 |[],a,b,h,_=>h
 |(s,n,x)::r,a,b,h,hc=>by
  obtain⟨h1,h2,h3⟩:=h;exact⟨h1,xn h2 hc e,Chain.drop e h3 (by omega)⟩
theorem Chain.append{L:iA}: ∀{l m:List (Nat×Nat×Nat)} {a b:Nat},Chain lt L a (l++m) b↔ ∃c,Chain lt L a l c/\Chain lt L c m b
 |[],m,a,b=>⟨fun h=>⟨a,rfl,h⟩,fun⟨c,h1,h2⟩=>by have:a=c:=h1;subst this;exact h2⟩
 |(s,n,x)::r,m,a,b=>by
  constructor
  ·rintro⟨h1,h2,h3⟩;obtain⟨c,h4,h5⟩:=Chain.append.mp h3;exact⟨c,⟨h1,h2,h4⟩,h5⟩
  ·rintro⟨c,⟨h1,h2,h4⟩,h5⟩;exact⟨h1,h2,Chain.append.mpr ⟨c,h4,h5⟩⟩
theorem vb(W:Wk lt)(H:Ask prog w A E G it κ N lt){i lo:Nat}{st:iH}{p:jz}(R:Rp it κ N st p)(ch:Chain lt p.toList 0 (pendingOf st).toList lo)(hlo:lo<=N)(hi:i+1<(pendingOf st).size){Q:Bool->SortSt->Prop}
  (h: ∀b8 p',Rp it κ N b8 p'->Chain lt p'.toList 0 (pendingOf b8).toList lo->(pendingOf b8).size+1=(pendingOf st).size->p'.toList.drop lo=p.toList.drop lo->Q true b8):wpI (model prog w) A E G (mergeAt' i) Q st:=by
 obtain⟨⟨sa,na,pw⟩,e1⟩: ∃x,(pendingOf st)[i]?=some x:=⟨_,mn (by omega)⟩
 obtain⟨⟨sb,nb,dz⟩,e2⟩: ∃x,(pendingOf st)[i+1]?=some x:=⟨_,mn hi⟩
 have f1:(pendingOf st).toList[i]?=some (sa,na,pw):=by simpa using e1
 have f2:(pendingOf st).toList[i+1]?=some (sb,nb,dz):=by simpa using e2
 have hl:(pendingOf st).toList.length=(pendingOf st).size:=by simp
 have cut:(pendingOf st).toList=(pendingOf st).toList.take i++((sa,na,pw)::(sb,nb,dz)::(pendingOf st).toList.drop (i+2)):=by
  have a1:(pendingOf st).toList.drop i=(sa,na,pw)::(pendingOf st).toList.drop (i+1):=by
   rw[sf (by omega)];rw[iO (by omega)] at f1;rw[iE f1]
  have a2:(pendingOf st).toList.drop (i+1)=(sb,nb,dz)::(pendingOf st).toList.drop (i+2):=by
   rw[sf (by omega)];rw[iO (by omega)] at f2;rw[iE f2]
  rw[<-a2,<-a1,ll]
 rw[cut] at ch;obtain⟨c,c1,c2⟩:=Chain.append.mp ch;obtain⟨rfl,r1,rfl,r2,c3⟩:=c2;have le3:=Chain.le c3;refine Nw W H R e1 e2 rfl (by omega) r1 r2 fun b8 p' R' ep rn et ed=>?_
 have lst:(pendingOf b8).toList=(pendingOf st).toList.take i++((sa,na+nb,pw)::(pendingOf st).toList.drop (i+2)):=by
  rw[ep];have hx:i+1<((pendingOf st).setIfInBounds i (sa,na+nb,pw)).size:=by simpa using hi
  rw[Array.eraseIdxIfInBounds,dif_pos hx]
  have: ∀(l:List (Nat×Nat×Nat)) (z:Nat×Nat×Nat),i+1<l.length->(l.set i z).eraseIdx (i+1)=l.take i++(z::l.drop (i+2)):=fun l z hz=>by
   rw[List.eraseIdx_eq_take_drop_succ];rw[show i+1+1=i+2 from rfl,Ii (by omega),An,Ij (hU _),pJ (by omega)];simp
  have q:=this (pendingOf st).toList (sa,na+nb,pw) (by omega);simpa using q
 refine h b8 p' R' ?_ ?_ ?_
 ·rw[lst];refine Chain.append.mpr ⟨sa,Chain.take et c1 (hU _),rfl,rn,?_⟩;rw[<-Nat.add_assoc];exact Chain.drop ed c3 (by omega)
 ·have:=rA List.length lst;simp only[iY,lP,nS,jX,sh] at this;omega
 ·have q: ∀X:List Nat,X.drop lo=(X.drop (sa+(na+nb))).drop (lo-(sa+(na+nb))):=fun X=>by rw[nP];congr 1;omega
  rw[q,q p.toList,ed]
theorem GP{p p':jz}{lo:Nat}(hs:p'.size=p.size)(h: ∀k,k<lo->P p' k=P p k):p'.toList.take lo=p.toList.take lo:=by
 apply wH;intro k;rw[List.getElem?_take,List.getElem?_take];split
 ·rename_i hk;by_cases hz:k<p.size
  ·have a:=vU (p:=p) hz;have b:=vU (p:=p') (by rw[hs];exact hz);have a':p.toList[k]?=some (P p k):=by simpa using a
   have b':p'.toList[k]?=some (P p' k):=by simpa using b
   rw[a',b',h k hk]
  ·rw[Aw (by simp;omega),Aw (by simp;omega)]
 ·rfl
theorem Gm{p p':jz}{lo n:Nat}(hs:p'.size=p.size)(e:p'.toList.drop lo=p.toList.drop lo)(h: ∀k,lo+n<=k->k<p.size->P p k=k): ∀k,lo+n<=k->k<p'.size->P p' k=k:=fun k k1 k2=>by
 have a:=vU (p:=p) (i:=k) (by omega);have b:=vU (p:=p') k2;have a':p.toList[k]?=some (P p k):=by simpa using a
 have b':p'.toList[k]?=some (P p' k):=by simpa using b
 have q: ∀X:List Nat,X[k]?=(X.drop lo)[k-lo]?:=fun X=>by rw[uN,show lo+(k-lo)=k by omega]
 rw[q,e,<-q,a'] at b';rw[<-iE b'];exact h k k1 (by omega)
theorem MF{c:Prop}[Decidable c]{a b m:Nat}(ha:a<=m)(hb:b<=m):(if c then a else b)<=m:=by
 by_cases h:c
 ·rw[gu h];exact ha
 ·rw[gv h];exact hb
structure Mid(it:mQ)(lt:kN)(κ:SortKind)(N lo:Nat)(st:iH)(p:jz):Prop where
 R:Rp it κ N st p
 ch:Chain lt p.toList 0 (pendingOf st).toList lo
 le:lo<=N
 fx: ∀k,lo<=k->k<N->P p k=k
structure Mid2(it:mQ)(lt:kN)(κ:SortKind)(N lo n:Nat)(st:iH)(p:jz):Prop where
 R:Rp it κ N st p
 ch:Chain lt p.toList 0 (pendingOf st).toList lo
 le:lo+n<=N
 fx: ∀k,lo+n<=k->k<N->P p k=k
 rn:Run lt p.toList lo n
theorem Mid2.of{lo n:Nat}{bh st:iH}{p0 p:jz}(M:Mid it lt κ N lo bh p0)(R:Rp it κ N st p)(e:pendingOf st=pendingOf bh)(h1:1<=n)(h2:lo+n<=N)(f: ∀k,k<lo->P p k=P p0 k)(fx: ∀k,lo+n<=k->k<N->P p k=k)(rg:Reg p lo (lo+n))(up:Up lt p lo (lo+n)):Mid2 it lt κ N lo n st p:=by
 have hz:lo+n<=p.size:=by rw[R.size];exact h2
 refine⟨R,?_,h2,fx,h1,(NA hz).mp up,(LH hz lo (lo+n)).mp rg⟩;rw[e];exact Chain.take (GP (by rw[R.size,M.R.size]) f) M.ch (hU _)
theorem Mid2.push{lo n pw:Nat}{st:iH}{p:jz}(M:Mid2 it lt κ N lo n st p):Mid it lt κ N (lo+n) (setPending st ((pendingOf st).push (lo,n,pw))) p:=by
 refine⟨⟨M.R.arr,M.R.kind,M.R.ok,M.R.size,M.R.perm⟩,?_,M.le,M.fx⟩;show Chain lt p.toList 0 ((pendingOf st).push (lo,n,pw)).toList (lo+n);rw[Array.toList_push];exact Chain.append.mpr ⟨lo,M.ch,rfl,M.rn,rfl⟩
theorem Dc{L:iA}{f:Nat×Nat×Nat->Nat×Nat×Nat}(hf: ∀x,(f x).1=x.1/\(f x).2.1=x.2.1): ∀{l:List (Nat×Nat×Nat)} {a b:Nat} (i:Nat),Chain lt L a l b->Chain lt L a (l.modify i f) b
 |[],a,b,i,h=>by cases i<;>exact h
 |(s,n,x)::r,a,b,0,h=>by
  obtain⟨h1,h2,h3⟩:=h;have e:=hf (s,n,x);show Chain lt L a (f (s,n,x)::r) b;rcases hq:f (s,n,x) with⟨s',n',x'⟩
  rw[hq] at e;obtain⟨rfl,rfl⟩:=e;exact⟨h1,h2,h3⟩
 |(s,n,x)::r,a,b,i+1,h=>by
  obtain⟨h1,h2,h3⟩:=h;exact⟨h1,h2,Dc hf i h3⟩
theorem Mid2.pw{lo n pw i:Nat}{st:iH}{p:jz}(M:Mid2 it lt κ N lo n st p):Mid2 it lt κ N lo n (setPending st ((pendingOf st).modify i fun x=>(x.fst,x.2.fst,pw))) p:=by
 refine⟨⟨M.R.arr,M.R.kind,M.R.ok,M.R.size,M.R.perm⟩,?_,M.le,M.fx,M.rn⟩;show Chain lt p.toList 0 ((pendingOf st).modify i fun x=>(x.fst,x.2.fst,pw)).toList lo;rw[Array.toList_modify];exact Dc (f:=fun x=>(x.fst,x.2.fst,pw)) (fun x=>⟨rfl,rfl⟩) i M.ch
theorem IF(W:Wk lt)(H:Ask prog w A E G it κ N lt)(h2:1<=N){st:iH}{p:jz}(R:Rp it κ N st p)(e0:pendingOf st= #[])(fx0: ∀k,k<N->P p k=k){Q:Unit->SortSt->Prop}
  (h: ∀b8 p',Rp it κ N b8 p'->p'.toList.Pairwise (SL lt)->Q () b8):wpI (model prog w) A E G sortRuns' Q st:=by
 rw[sortRuns'_eq];refine gm (kG ?_);dsimp only;have hz:(arrOf st).size=N:=by rw[R.arr,Array.size_map,R.size]
 rw[hz];generalize hmr:minRun' N N 0=mr;have m0:Mid it lt κ N 0 st p:=⟨R,by rw[e0];rfl,lr _,fun k _ k2=>fx0 k k2⟩
 refine gm (iF (iJ (I:=fun x c b8=> ∃lo p',c=(none,lo)/\x<=lo/\Mid it lt κ N lo b8 p') (Q:=fun c b8=> ∃p',c=(none,N)/\Mid it lt κ N N b8 p') ?step ?fin ⟨0,p,rfl,hU _,m0⟩) ?post)
 case fin=>
  rintro c b8 ⟨lo,p',rfl,hx,M⟩;have:=M.le;have:lo=N:=by omega
  subst this;exact⟨p',rfl,M⟩
 case step=>
  rintro x c b8 _ hx ⟨lo,p',rfl,hlo,M⟩;dsimp only;by_cases fK:lo>=N
  ·rw[gu fK];have:=M.le;have:lo=N:=by omega
   subst this;exact gp ⟨p',rfl,M⟩
  ·rw[gv fK];refine gm (GK W H (by omega) (by omega) M.R M.fx fun n i9 p2 R2 e2 n1 n2 f2 fx2 rg2 up2=>?_);dsimp only;by_cases j7:n<mr
   ·rw[gu j7];refine gm (nX (gm (Lx W H n1 (by omega) (by omega) R2 fx2 rg2 up2 fun k8 p3 R3 e3 f3 fx3 rg3 up3=>?_)));simp only[lq,iC,iP];have M3:Mid2 it lt κ N lo (min (N-lo) mr) k8 p3:=Mid2.of M R3 (e3.trans e2) (by omega) (by omega) (fun k hk=>(f3 k hk).trans (f2 k hk)) fx3 rg3 up3;have hn1:1<=min (N-lo) mr:=by omega
    generalize min (N-lo) mr=n' at*;refine gm (kG ?_)
    cases hb:(pendingOf k8).back? with
    |none=>
     dsimp only;exact gm (jA (gp ⟨lo+n',p3,rfl,by omega,M3.push⟩))
    |some x1=>
     obtain⟨s1,m1,y1⟩:=x1;dsimp only;generalize power' N (2*s1+m1) (2*s1+m1+m1+n') N=pw;refine gm (iF (iJ (I:=fun x c t9=>c=(none,())/\ ∃p4,Mid2 it lt κ N lo n' t9 p4) (Q:=fun c t9=>c=(none,())/\ ∃p4,Mid2 it lt κ N lo n' t9 p4) ?_ (fun _ _ q=>q) ⟨rfl,p3,M3⟩) ?_)
     ·rintro y c t9 _ _ ⟨rfl,p4,M4⟩;refine gm (kG ?_);by_cases h1:(pendingOf t9).size>1
      ·rw[gu h1]
       cases hc:(pendingOf t9)[(pendingOf t9).size-2]? with
       |none=>dsimp only;exact gp ⟨rfl,p4,M4⟩
       |some z=>
        obtain⟨z1,z2,aO⟩:=z;dsimp only;by_cases ho:aO<=pw
        ·rw[gu ho];exact gp ⟨rfl,p4,M4⟩
        ·rw[gv ho];refine gm (vb W H M4.R M4.ch (by have:=M4.le;omega) (by omega) fun bA p5 R5 gb _ dU=>?_);simp only[lq,iC,iP];refine gp ⟨rfl,p5,R5,gb,M4.le,?_,xn M4.rn (hU _) dU⟩;have:=Gm (p:=p4) (p':=p5) (lo:=lo) (n:=n') (by rw[R5.size,M4.R.size]) dU (by rw[M4.R.size];exact M4.fx);rw[R5.size] at this;exact this
      ·rw[gv h1];dsimp only;exact gp ⟨rfl,p4,M4⟩
     ·rintro c t9 ⟨rfl,p4,M4⟩;dsimp only;exact gm (jA (gm (jA (gp ⟨lo+n',p4,rfl,by omega,(M4.pw).push⟩))))
   ·rw[gv j7];have M3:Mid2 it lt κ N lo n i9 p2:=Mid2.of M R2 e2 n1 (by omega) f2 fx2 rg2 up2;have hn1:=n1;generalize n=n' at*;generalize i9=k8 at*;generalize p2=p3 at*;refine gm (kG ?_)
    cases hb:(pendingOf k8).back? with
    |none=>
     dsimp only;exact gm (jA (gp ⟨lo+n',p3,rfl,by omega,M3.push⟩))
    |some x1=>
     obtain⟨s1,m1,y1⟩:=x1;dsimp only;generalize power' N (2*s1+m1) (2*s1+m1+m1+n') N=pw;refine gm (iF (iJ (I:=fun x c t9=>c=(none,())/\ ∃p4,Mid2 it lt κ N lo n' t9 p4) (Q:=fun c t9=>c=(none,())/\ ∃p4,Mid2 it lt κ N lo n' t9 p4) ?_ (fun _ _ q=>q) ⟨rfl,p3,M3⟩) ?_)
     ·rintro y c t9 _ _ ⟨rfl,p4,M4⟩;refine gm (kG ?_);by_cases h1:(pendingOf t9).size>1
      ·rw[gu h1]
       cases hc:(pendingOf t9)[(pendingOf t9).size-2]? with
       |none=>dsimp only;exact gp ⟨rfl,p4,M4⟩
       |some z=>
        obtain⟨z1,z2,aO⟩:=z;dsimp only;by_cases ho:aO<=pw
        ·rw[gu ho];exact gp ⟨rfl,p4,M4⟩
        ·rw[gv ho];refine gm (vb W H M4.R M4.ch (by have:=M4.le;omega) (by omega) fun bA p5 R5 gb _ dU=>?_);simp only[lq,iC,iP];refine gp ⟨rfl,p5,R5,gb,M4.le,?_,xn M4.rn (hU _) dU⟩;have:=Gm (p:=p4) (p':=p5) (lo:=lo) (n:=n') (by rw[R5.size,M4.R.size]) dU (by rw[M4.R.size];exact M4.fx);rw[R5.size] at this;exact this
      ·rw[gv h1];dsimp only;exact gp ⟨rfl,p4,M4⟩
     ·rintro c t9 ⟨rfl,p4,M4⟩;dsimp only;exact gm (jA (gm (jA (gp ⟨lo+n',p4,rfl,by omega,(M4.pw).push⟩))))
 case post=>
  rintro c b8 ⟨p',rfl,M⟩;dsimp only;refine gm (iF (iJ (I:=fun x c i9=> ∃p2,c=(none,())/\Mid it lt κ N N i9 p2/\(pendingOf i9).size<=max 1 (N-x)) (Q:=fun c i9=> ∃p2,c=(none,())/\Mid it lt κ N N i9 p2/\(pendingOf i9).size<=1) ?step2 ?fin2 ⟨p',rfl,M,?init⟩) ?post2)
  case init=>
   have:=M.ch.le;simp only[iY] at this;omega
  case fin2=>
   rintro c i9 ⟨p2,rfl,M2,hs⟩;exact⟨p2,rfl,M2,by omega⟩
  case post2=>
   rintro c i9 ⟨p2,rfl,M2,hs⟩;refine gp (h i9 p2 M2.R ?_);have ch:=M2.ch;have hl:p2.toList.length=N:=by simp[M2.R.size]
   match hq:(pendingOf i9).toList,ch with
   |[],ch=>have:0=N:=ch;omega
   |[(s,n,pw)],ch=>
    obtain⟨rfl,r,e⟩:=ch;have e:0+n=N:=e;have:seg p2.toList 0 n=p2.toList:=by unfold seg;rw[wD,rX (by omega)]
    have q:=r.2.1
    rwa [this] at q
   |_::_::_,ch=>
    have:(pendingOf i9).toList.length<=1:=by simpa using hs
    rw[hq] at this;simp at this
  case step2=>
   rintro x c i9 _ hx ⟨p2,rfl,M2,hs⟩;refine gm (kG ?_);by_cases h1:(pendingOf i9).size<=1
   ·rw[gu h1];exact gp ⟨p2,rfl,M2,h1⟩
   ·rw[gv h1];refine gm (vb W H M2.R M2.ch (hU _) ?_ fun k8 p3 R3 ch3 sz3 dr3=>?_)
    ·exact Nat.lt_of_le_of_lt (Nat.add_le_add_right (MF (m:=(pendingOf i9).size-2) (by omega) (hU _)) 1) (by omega)
    ·simp only[lq,iC,iP];exact gp ⟨p3,rfl,⟨R3,ch3,hU _,fun k k1 k2=>by omega⟩,by omega⟩
end
end TS
namespace PX
open PySem PySem.Spec PyProof.Rows L2 PySem.SeqAt
open PySem.AutoSeq1 (wpAny_loadPart')
open PySem.MeetsSeq PySem.MeetsSeq2 PySem.MeetsSeq3
def jk(op:CmpOp)(i j:Int):Bool:=match op with
 | .Lt=>decide (i<j)| .LtE=>decide (i<=j)| .Gt=>decide (i>j)|_=>decide (i>=j)
def um(op:CmpOp):Prop:=op= .Lt\/op= .LtE\/op= .Gt\/op= .GtE
def MY(op:CmpOp)(A:gM)(s:gr)(y x:gB)(b:Bool):Prop:= ∀(prog:gP) (w:gH) (E:hG) (Q:hG),Q (.bool b) s->wpAny (model prog w) A (richCompare op y x) Q E s
def yF(op:CmpOp)(A:gM)(s:gr)(fin:Bool):List (Value×Value)->Bool->Prop
 |[],r=>r=fin
 |(y,x)::gJ,r=> ∃e,EqAt A s y x e/\(if e=true then yF op A s fin gJ r else MY op A s y x r)
theorem IS(l b:gn)(items f7:jS)(n n2:Nat)(dd u7:Option Addr)(sl u5:sY)(r:Bool):
  Meets (Builtin.«tuple.__lt__» ⟨[.ref l,.ref b],[]⟩) (fun A R s=>s.heap.get? l=some {cls:= .type "tuple",dict:=dd,data:= .seq items n,slots:=sl}/\s.heap.get? b=some {cls:= .type "tuple",dict:=u7,data:= .seq f7 n2,slots:=u5}/\
   yF .Lt A.in1 s (jk .Lt items.size f7.size) (items.toList.zip f7.toList) r/\R (.ok (.ret (.bool r))) s):=
 .of_wp fun prog w A R s h=>by
  obtain⟨hp,g,d,tk,os⟩:=s;obtain⟨hl,hb,hx,h⟩:=h;have f2:=Al
  wp_walk using wpAny_loadPart' hl,wpAny_loadPart' hb,oD _ (fun gJ b s'=>b.1=none/\s'=⟨hp,g,d,tk,os⟩/\yF .Lt A.in1 ⟨hp,g,d,tk,os⟩ (jk .Lt items.size f7.size) gJ r) _
  case turn=>
   rintro⟨y,x⟩ gJ b s' ⟨r8,rfl,e,he,hx⟩;refine gi (he prog w _ _ ?_)
   cases e with
   |true=>
    simp only[ie] at hx
    wp_walk
    exact⟨rfl,rfl,hx⟩
   |false=>
    simp only[iC,iP] at hx;have cw:=hx prog w
    wp_walk using cw
    exact⟨_,rfl,by simpa using h⟩
  case fin=>
   rintro⟨b1,b2⟩ s' ⟨r8,rfl,hx⟩;simp only at r8;subst r8;have hx:r=jk .Lt items.size f7.size:=hx;rw[hx] at h
   wp_walk
   exact⟨_,rfl,by simpa[Builtin.Tuple.tupleCompareSizes,jk] using h⟩
  case h=>exact⟨rfl,rfl,hx⟩
theorem IT(l b:gn)(items f7:jS)(n n2:Nat)(dd u7:Option Addr)(sl u5:sY)(r:Bool):
  Meets (Builtin.«tuple.__le__» ⟨[.ref l,.ref b],[]⟩) (fun A R s=>s.heap.get? l=some {cls:= .type "tuple",dict:=dd,data:= .seq items n,slots:=sl}/\s.heap.get? b=some {cls:= .type "tuple",dict:=u7,data:= .seq f7 n2,slots:=u5}/\
   yF .LtE A.in1 s (jk .LtE items.size f7.size) (items.toList.zip f7.toList) r/\R (.ok (.ret (.bool r))) s):=
 .of_wp fun prog w A R s h=>by
  obtain⟨hp,g,d,tk,os⟩:=s;obtain⟨hl,hb,hx,h⟩:=h;have f2:=Al
  wp_walk using wpAny_loadPart' hl,wpAny_loadPart' hb,oD _ (fun gJ b s'=>b.1=none/\s'=⟨hp,g,d,tk,os⟩/\yF .LtE A.in1 ⟨hp,g,d,tk,os⟩ (jk .LtE items.size f7.size) gJ r) _
  case turn=>
   rintro⟨y,x⟩ gJ b s' ⟨r8,rfl,e,he,hx⟩;refine gi (he prog w _ _ ?_)
   cases e with
   |true=>
    simp only[ie] at hx
    wp_walk
    exact⟨rfl,rfl,hx⟩
   |false=>
    simp only[iC,iP] at hx;have cw:=hx prog w
    wp_walk using cw
    exact⟨_,rfl,by simpa using h⟩
  case fin=>
   rintro⟨b1,b2⟩ s' ⟨r8,rfl,hx⟩;simp only at r8;subst r8;have hx:r=jk .LtE items.size f7.size:=hx;rw[hx] at h
   wp_walk
   exact⟨_,rfl,by simpa[Builtin.Tuple.tupleCompareSizes,jk] using h⟩
  case h=>exact⟨rfl,rfl,hx⟩
theorem IU(l b:gn)(items f7:jS)(n n2:Nat)(dd u7:Option Addr)(sl u5:sY)(r:Bool):
  Meets (Builtin.«tuple.__gt__» ⟨[.ref l,.ref b],[]⟩) (fun A R s=>s.heap.get? l=some {cls:= .type "tuple",dict:=dd,data:= .seq items n,slots:=sl}/\s.heap.get? b=some {cls:= .type "tuple",dict:=u7,data:= .seq f7 n2,slots:=u5}/\
   yF .Gt A.in1 s (jk .Gt items.size f7.size) (items.toList.zip f7.toList) r/\R (.ok (.ret (.bool r))) s):=
 .of_wp fun prog w A R s h=>by
  obtain⟨hp,g,d,tk,os⟩:=s;obtain⟨hl,hb,hx,h⟩:=h;have f2:=Al
  wp_walk using wpAny_loadPart' hl,wpAny_loadPart' hb,oD _ (fun gJ b s'=>b.1=none/\s'=⟨hp,g,d,tk,os⟩/\yF .Gt A.in1 ⟨hp,g,d,tk,os⟩ (jk .Gt items.size f7.size) gJ r) _
  case turn=>
   rintro⟨y,x⟩ gJ b s' ⟨r8,rfl,e,he,hx⟩;refine gi (he prog w _ _ ?_)
   cases e with
   |true=>
    simp only[ie] at hx
    wp_walk
    exact⟨rfl,rfl,hx⟩
   |false=>
    simp only[iC,iP] at hx;have cw:=hx prog w
    wp_walk using cw
    exact⟨_,rfl,by simpa using h⟩
  case fin=>
   rintro⟨b1,b2⟩ s' ⟨r8,rfl,hx⟩;simp only at r8;subst r8;have hx:r=jk .Gt items.size f7.size:=hx;rw[hx] at h
   wp_walk
   exact⟨_,rfl,by simpa[Builtin.Tuple.tupleCompareSizes,jk] using h⟩
  case h=>exact⟨rfl,rfl,hx⟩
theorem IV(l b:gn)(items f7:jS)(n n2:Nat)(dd u7:Option Addr)(sl u5:sY)(r:Bool):
  Meets (Builtin.«tuple.__ge__» ⟨[.ref l,.ref b],[]⟩) (fun A R s=>s.heap.get? l=some {cls:= .type "tuple",dict:=dd,data:= .seq items n,slots:=sl}/\s.heap.get? b=some {cls:= .type "tuple",dict:=u7,data:= .seq f7 n2,slots:=u5}/\
   yF .GtE A.in1 s (jk .GtE items.size f7.size) (items.toList.zip f7.toList) r/\R (.ok (.ret (.bool r))) s):=
 .of_wp fun prog w A R s h=>by
  obtain⟨hp,g,d,tk,os⟩:=s;obtain⟨hl,hb,hx,h⟩:=h;have f2:=Al
  wp_walk using wpAny_loadPart' hl,wpAny_loadPart' hb,oD _ (fun gJ b s'=>b.1=none/\s'=⟨hp,g,d,tk,os⟩/\yF .GtE A.in1 ⟨hp,g,d,tk,os⟩ (jk .GtE items.size f7.size) gJ r) _
  case turn=>
   rintro⟨y,x⟩ gJ b s' ⟨r8,rfl,e,he,hx⟩;refine gi (he prog w _ _ ?_)
   cases e with
   |true=>
    simp only[ie] at hx
    wp_walk
    exact⟨rfl,rfl,hx⟩
   |false=>
    simp only[iC,iP] at hx;have cw:=hx prog w
    wp_walk using cw
    exact⟨_,rfl,by simpa using h⟩
  case fin=>
   rintro⟨b1,b2⟩ s' ⟨r8,rfl,hx⟩;simp only at r8;subst r8;have hx:r=jk .GtE items.size f7.size:=hx;rw[hx] at h
   wp_walk
   exact⟨_,rfl,by simpa[Builtin.Tuple.tupleCompareSizes,jk] using h⟩
  case h=>exact⟨rfl,rfl,hx⟩
section
variable {A:gM}{s:gr}{l b:gn}{items f7:jS}{r:Bool}
theorem Jl(ho:um op)(hl:s.heap.IsTuple l items)(hb:s.heap.IsTuple b f7)(hu:A.units<cLine)(hx:yF op A.in1 s (jk op items.size f7.size) (items.toList.zip f7.toList) r):MY op A s (.ref l) (.ref b) r:=fun prog w E Q h=>by
 obtain⟨⟨cls,dd,data,sl⟩,u6,hc,n,hd⟩:=id hl;obtain⟨⟨cQ,u7,data2,u5⟩,t5,y6,n2,hd2⟩:=id hb;simp only at hc hd y6 hd2;subst hc hd y6 hd2;rcases ho with rfl|rfl|rfl|rfl
 ·exact Ak (op:= .Lt) ⟨_,u6,rfl⟩ ⟨_,t5,rfl⟩ PySem.F.slot_tuple_lt PySem.F.entry_tuple_lt (PySem.F.args_tuple_lt_2 _ _) (IS l b items f7 n n2 dd u7 sl u5 r) ⟨u6,t5,hx,show Value.bool r≠Value.notImplemented/\Q (.bool r) s from⟨(fun x=>nomatch x),h⟩⟩ hu
 ·exact Ak (op:= .LtE) ⟨_,u6,rfl⟩ ⟨_,t5,rfl⟩ PySem.F.slot_tuple_le PySem.F.entry_tuple_le (PySem.F.args_tuple_le_2 _ _) (IT l b items f7 n n2 dd u7 sl u5 r) ⟨u6,t5,hx,show Value.bool r≠Value.notImplemented/\Q (.bool r) s from⟨(fun x=>nomatch x),h⟩⟩ hu
 ·exact Ak (op:= .Gt) ⟨_,u6,rfl⟩ ⟨_,t5,rfl⟩ PySem.F.slot_tuple_gt PySem.F.entry_tuple_gt (PySem.F.args_tuple_gt_2 _ _) (IU l b items f7 n n2 dd u7 sl u5 r) ⟨u6,t5,hx,show Value.bool r≠Value.notImplemented/\Q (.bool r) s from⟨(fun x=>nomatch x),h⟩⟩ hu
 ·exact Ak (op:= .GtE) ⟨_,u6,rfl⟩ ⟨_,t5,rfl⟩ PySem.F.slot_tuple_ge PySem.F.entry_tuple_ge (PySem.F.args_tuple_ge_2 _ _) (IV l b items f7 n n2 dd u7 sl u5 r) ⟨u6,t5,hx,show Value.bool r≠Value.notImplemented/\Q (.bool r) s from⟨(fun x=>nomatch x),h⟩⟩ hu
end
mutual
def lh(op:CmpOp):D->D->Option Bool
 | .int i,.int j=>some (jk op i j)
 | .tup l,.tup m=>oT op l m
 |_,_=>none
def oT(op:CmpOp):List D->List D->Option Bool
 |[],m=>some (jk op 0 m.length)
 |x::l,[]=>some (jk op ((x::l).length) 0)
 |x::l,y::m=>if D.eqb x y=true then oT op l m else lh op x y
end
theorem oO(op:CmpOp)(a b k:Int):jk op (a+k) (b+k)=jk op a b:=by
 cases op<;>simp[jk]
section
variable {X:Cx}{pins:hJ}{σ:L2.St}{H:Hp}{s:gr}
theorem Cj(ho:um op):MY op A s (.int i t) (.int j u) (jk op i j):=fun prog w E Q h=>by
 rcases ho with rfl|rfl|rfl|rfl
 ·exact(PyProof.Rows.lt_int h:wpAny (model prog w) A (compareOp .Lt _ _) Q E s)
 ·exact(PyProof.Rows.le_int h:wpAny (model prog w) A (compareOp .LtE _ _) Q E s)
 ·exact(PyProof.Rows.gt_int h:wpAny (model prog w) A (compareOp .Gt _ _) Q E s)
 ·exact(PyProof.Rows.ge_int h:wpAny (model prog w) A (compareOp .GtE _ _) Q E s)
theorem Jm(ho:um op)(I:Inv X pins σ H s): ∀(n:Nat) (d e:D) (v u:V) (a b:gB) (O O':AP') (A:gM) (r:Bool),iV X.K H O d v->iV X.K H O' e u->RelV v a->RelV u b->d.dep<=n->e.dep<20000->A.units+n<cLine->lh op d e=some r->MY op A s a b r:=by
 intro n
 induction n with
 |zero=>
  intro d e v u a b O O' A r hd he ra rb hn t7 hA hc
  cases d with
  |int i=>
   cases e with
   |int j=>
    have:=gS hd;subst this;have:=gS he;subst this;obtain⟨t,rfl⟩:=ra;obtain⟨t',rfl⟩:=rb;rw[lh] at hc;rw[<-iE hc];exact Cj ho
   |_=>rw[lh] at hc<;>first|cases hc|(intros;simp_all)
  |tup l=>rw[D.dep] at hn;omega
  |_=>rw[lh] at hc<;>first|cases hc|(intros;simp_all)
 |succ n ih=>
  intro d e v u a b O O' A r hd he ra rb hn t7 hA hc
  cases d with
  |int i=>
   cases e with
   |int j=>
    have:=gS hd;subst this;have:=gS he;subst this;obtain⟨t,rfl⟩:=ra;obtain⟨t',rfl⟩:=rb;rw[lh] at hc;rw[<-iE hc];exact Cj ho
   |_=>rw[lh] at hc<;>first|cases hc|(intros;simp_all)
  |tup l=>
   cases e with
   |tup m=>
    rw[lh] at hc;rw[D.dep] at hn t7;obtain⟨p,xs,rfl,q,r1⟩:=ke hd;obtain⟨p2,ys,rfl,q2,r2⟩:=ke he;cases ra;cases rb;obtain⟨b6,v1,pl,_⟩:=I.tuple q;obtain⟨e9,v2,i3,_⟩:=I.tuple q2;have k9:A.in1.units=A.units+1:=rfl
    have key: ∀(l m:List D) (xs ys:List V) (b6 e9:iG) (k:Int),D.depL l+1<=n+1->D.depL m<20000->RepL X.K H O l xs->RepL X.K H O' m ys->Vals xs b6->Vals ys e9->oT op l m=some r->yF op A.in1 s (jk op (b6.length+k) (e9.length+k)) (b6.zip e9) r:=by
     intro l
     induction l with
     |nil=>
      intro m xs ys b6 e9 k ay aG r1 r2 v1 v2 hc;rw[RepL] at r1;subst r1;cases v1;rw[oT] at hc;have e1:=r2.length;have e2:=v2.length;show r=_;rw[oO,<-iE hc]
      congr 1
      omega
     |cons x l ihl=>
      intro m xs ys b6 e9 k ay aG r1 r2 v1 v2 hc;rw[RepL] at r1;obtain⟨vx,xr,rfl,g1,g2⟩:=r1
      cases v1 with
      |cons a1 a2=>
       cases m with
       |nil=>
        rw[RepL] at r2;subst r2;cases v2;rw[oT] at hc;have e1:=g2.length;have e2:=a2.length;rw[List.zip_nil_right];show r=_;rw[oO,<-iE hc]
        congr 1
        simp only[jX];omega
       |cons y m=>
        rw[RepL] at r2;obtain⟨vy,yr,rfl,g3,g4⟩:=r2
        cases v2 with
        |cons b1 b2=>
         rw[oT] at hc;rw[D.depL] at ay aG;rw[rT];refine⟨D.eqb x y,yi I n x y vx vy _ _ O O' A.in1 (.inl g1) (.inl g3) a1 b1 (by omega) (by omega) (by rw[k9];omega),?_⟩
         cases hq:D.eqb x y with
         |true=>
          rw[hq,gu rfl] at hc;rw[gu rfl];have:=ihl m xr yr _ _ (k+1) (by omega) (by omega) g2 g4 a2 b2 hc;simp only[jX];have e: ∀a:Nat,(((a+1:Nat):Int)+k)=(a:Int)+(k+1):=fun a=>by omega
          rw[e,e];exact this
         |false=>
          rw[hq,gv jc] at hc;rw[gv jc];exact ih x y vx vy _ _ O O' A.in1 r (.inl g1) (.inl g3) a1 b1 (by omega) (by omega) (by rw[k9];omega) hc
    have:=key l m xs ys b6 e9 0 (by omega) (by omega) r1 r2 v1 v2 hc;refine Jl ho pl i3 (by omega) ?_;simpa using this
   |_=>rw[lh] at hc<;>first|cases hc|(intros;simp_all)
  |_=>rw[lh] at hc<;>first|cases hc|(intros;simp_all)
def mI(op:CmpOp)(d e:D):Option (D×Bool):=if d.dep<=50/\e.dep<=50 then(lh op d e).map fun b=>(.bl b,false) else none
theorem mH(ho:um op)(hu:X.A.units+60<cLine):OpR X (compareOp op) (rD X.K (mI op)):=by
 intro pins s σ H x y v u Q I rx ry h;obtain⟨O,d,e,z,np,h1,h2,hg,G⟩:=h;unfold mI at hg;split at hg
 ·rename_i hd;obtain⟨r,hr,rfl⟩:=iK hg;have:=Jm ho I 50 d e x y v u O O X.A r h1 h2 rx ry hd.1 (by omega) (by omega) hr X.prog X.w X.xe (EP X pins σ Q) ⟨.bl r,H,I,rfl,G.bl⟩;rcases ho with rfl|rfl|rfl|rfl<;>exact this
 ·cases hg
end
open TS
section
variable {prog:gP}{w:gH}{A:gM}{E:hG}{s:gr}
def oY(h:gQ)(a:gn)(vs:iG):Heap:=((h.update a (Obj.mapSeq fun _=> #[])).push (seqObj "tuple" vs.toArray 0)).push (seqObj "list" #[] 0)
def Hq(vs:iG)(i:Nat):Keyed:=(vs.getD i Value.none,vs.getD i Value.none)
theorem rH{a:gn}{vs:iG}{n:Nat}{P:PySem.Fin->Shared->Prop}{κ:SortKind}{lt:kN}(ho:s.heap.get? a=some (seqObj "list" vs.toArray n))(hz:vs.length<=sizeLine)(W:Wk lt)
  (hk:2<=vs.length->wpAny (model prog w) A (keyKind' vs.toArray) (fun κ' s'=>s'={s with heap:=oY s.heap a vs}/\κ'=κ) (fun _ _=>False) {s with heap:=oY s.heap a vs})
  (ask:2<=vs.length->Ask prog w A E (fun s'=>s'={s with heap:=oY s.heap a vs}) (Hq vs) κ vs.length lt)
  (h: ∀p:List Nat,p.Perm (List.range vs.length)->p.Pairwise (SL lt)->P (.done (.ret .none)) {s with heap:=(oY s.heap a vs).update a (Obj.mapSeq fun _=>(p.map fun i=>vs.getD i Value.none).toArray)}):
  wpAny (model prog w) A (Builtin.«list.sort» ⟨[.ref a],[]⟩) P E s:=by
 rw[list_sort_plain];have ha:a<s.heap.objs.size:=hV ho;refine gi (listItems_at ho rfl (gi (DH ho rfl ?_ (by rw[hZ];exact hz) (lr _))));obtain⟨e1,u6⟩: ∃e1,(s.heap.update a (Obj.mapSeq fun _=>(#[]:Array Value))).get? a=some (seqObj "list" #[] e1):=⟨_,DG ho fun _=> #[]⟩
 refine gi (DF u6 rfl (gi (wpAny_newTuple ?_ (by show vs.length<=_;exact hz))));refine gi (wpAny_newList ?_ (lr _));refine lR ?_;have eJ:(oY s.heap a vs).get? a=some (seqObj "list" #[] e1):=ig _ (ig _ u6);show wpAny (model prog w) A _ P E {s with heap:=oY s.heap a vs};dsimp only;by_cases h2:vs.toArray.size<2
 ·rw[gu h2,gu h2];refine gi (gw ?_);rw[StateT.run_pure];refine gi (gw ?_);dsimp only;refine gi (DF eJ rfl (gi (DH eJ rfl ?_ (lr _) ?_)))
  ·simp only[tD,iC,iP];refine gw ?_;have dS:vs.length<2:=by simpa using h2
   have:=h (List.range vs.length) (rY _) (by
    rw[FC];intro i j hi hj r6;simp at hi hj;omega)
   have e:((vs.toArray.zip vs.toArray).map (·.2))=((List.range vs.length).map fun i=>vs.getD i Value.none).toArray:=by
    apply Array.ext
    ·simp
    ·intro i h1 h3;have hi:i<vs.length:=by simpa using h1
     simp[hi]
   rw[e];exact this
  ·rw[Array.size_map,Array.size_zip];simp;omega
 ·rw[gv h2,gv h2];have dS:2<=vs.length:=by simpa using h2
  refine gi (oW (hk dS) (fun κ' s' hκ=>?_) fun _ _ x=>x.elim);obtain⟨rfl,rfl⟩:=hκ
  have R:Rp (Hq vs) κ' vs.length (SortSt.mk' κ' (vs.toArray.zip vs.toArray) #[] 7 none) (Array.range vs.length):=by
   refine⟨?_,rfl,rfl,by simp,Array.Perm.refl _⟩;show vs.toArray.zip vs.toArray=_;apply Array.ext
   ·simp
   ·intro i h1 h3;have hi:i<vs.length:=by simpa using h1
    simp[Hq,hi]
  refine gi (oW (IF (lt:=lt) W (ask dS) (by omega) R rfl (fun k hk=>by simp[TS.P,hk]) (Q:=fun _ b8=> ∃p',Rp (Hq vs) κ' vs.length b8 p'/\p'.toList.Pairwise (SL lt)) (fun b8 p' R' hp=>⟨p',R',hp⟩) _ rfl) ?_ fun _ _ e=>e);rintro⟨⟨⟩,b8⟩ s' ⟨rfl,p',R',hp⟩;dsimp only;have aC:failedOf b8=none:=R'.ok
  have out:(arrOf b8).map (·.2)=(p'.toList.map fun i=>vs.getD i Value.none).toArray:=by
   rw[R'.arr,Array.map_map];apply Array.toList_inj.mp;simp[Hq]
  have pl:p'.toList.length=vs.length:=by simp[R'.size]
  refine gi (DF eJ rfl (gi (DH eJ rfl ?_ (lr _) ?_)))
  ·rw[aC];simp only[tD,iC,iP];rw[out];refine gw (h p'.toList ?_ hp);have:=M0.mp R'.perm;simpa using this
  ·rw[out,hZ,iX,pl];omega
end
mutual
def cT:D->D->Ordering
 | .int i,.int j=>if i<j then .lt else if i=j then .eq else .gt
 | .int _,_=> .lt
 | .tup _,.int _=> .gt
 | .tup l,.tup m=>cL l m
 | .tup _,_=> .lt
 |_,.int _=> .gt
 |_,.tup _=> .gt
 |_,_=> .eq
def cL:List D->List D->Ordering
 |[],[]=> .eq
 |[],_::_=> .lt
 |_::_,[]=> .gt
 |x::l,y::m=>match cT x y with
  | .lt=> .lt
  | .gt=> .gt
  | .eq=>cL l m
end
mutual
theorem Bs: ∀x:D,cT x x= .eq
 | .int i=>by simp[cT]
 | .tup l=>by rw[cT];exact Gy l
 | .non=>by simp[cT]
 | .bl _=>by simp[cT]
 | .str _=>by simp[cT]
 | .lst _=>by simp[cT]
 | .oth _ _ _=>by simp[cT]
theorem Gy: ∀l:List D,cL l l= .eq
 |[]=>by simp[cL]
 |x::l=>by rw[cL,Bs x];exact Gy l
end
mutual
theorem kJ: ∀x y:D,cT y x=(cT x y).swap
 | .int i,.int j=>by
  rw[cT,cT];by_cases h1:i<j
  ·rw[gu h1,gv (by omega),gv (by omega)];rfl
  ·rw[gv h1];by_cases h2:i=j
   ·rw[gu h2,gv (by omega),gu h2.symm];rfl
   ·rw[gv h2,gu (by omega)];rfl
 | .tup l,.tup m=>by rw[cT,cT];exact Gx l m
 | .int _,.tup _=>by simp[cT]
 | .int _,.non=>by simp[cT]
 | .int _,.bl _=>by simp[cT]
 | .int _,.str _=>by simp[cT]
 | .int _,.lst _=>by simp[cT]
 | .int _,.oth _ _ _=>by simp[cT]
 | .tup _,.int _=>by simp[cT]
 | .tup _,.non=>by simp[cT]
 | .tup _,.bl _=>by simp[cT]
 | .tup _,.str _=>by simp[cT]
 | .tup _,.lst _=>by simp[cT]
 | .tup _,.oth _ _ _=>by simp[cT]
 | .non,y=>by cases y<;>simp[cT]
 | .bl _,y=>by cases y<;>simp[cT]
 | .str _,y=>by cases y<;>simp[cT]
 | .lst _,y=>by cases y<;>simp[cT]
 | .oth _ _ _,y=>by cases y<;>simp[cT]
theorem Gx: ∀l m:List D,cL m l=(cL l m).swap
 |[],[]=>by simp[cL]
 |[],_::_=>by simp[cL]
 |_::_,[]=>by simp[cL]
 |x::l,y::m=>by
  rw[cL,cL,kJ x y];cases h:cT x y<;>simp[Ordering.swap]
  exact Gx l m
end
theorem Nf(h1:cT x y≠ .gt)(h2:cT y x≠ .gt):cT x y= .eq:=by
 rw[kJ x y] at h2
 cases h:cT x y with
 |lt=>rw[h] at h2;exact absurd rfl h2
 |eq=>rfl
 |gt=>exact absurd h h1
mutual
theorem qr: ∀x y z:D,cT x y≠ .gt->cT y z≠ .gt->cT x z≠ .gt
 | .int i,y,z,h1,h2=>by
  cases z with
  |int k=>
   cases y with
   |int j=>
    rw[cT] at h1 h2 ⊢
    have a:i<=j:=by
     by_cases a:i<j
     ·omega
     ·rw[gv a] at h1;by_cases b:i=j
      ·omega
      ·rw[gv b] at h1;exact absurd rfl h1
    have b:j<=k:=by
     by_cases a:j<k
     ·omega
     ·rw[gv a] at h2;by_cases b:j=k
      ·omega
      ·rw[gv b] at h2;exact absurd rfl h2
    by_cases c:i<k
    ·rw[gu c];simp
    ·rw[gv c,gu (by omega)];simp
   |_=>simp[cT] at h2
  |_=>simp[cT]
 | .tup l,y,z,h1,h2=>by
  cases y with
  |int j=>simp[cT] at h1
  |tup m=>
   cases z with
   |int k=>simp[cT] at h2
   |tup n=>rw[cT] at h1 h2 ⊢;exact Df l m n h1 h2
   |_=>simp[cT]
  |_=>cases z<;>simp_all [cT]
 | .non,y,z,h1,h2=>by cases y<;>cases z<;>simp_all [cT]
 | .bl _,y,z,h1,h2=>by cases y<;>cases z<;>simp_all [cT]
 | .str _,y,z,h1,h2=>by cases y<;>cases z<;>simp_all [cT]
 | .lst _,y,z,h1,h2=>by cases y<;>cases z<;>simp_all [cT]
 | .oth _ _ _,y,z,h1,h2=>by cases y<;>cases z<;>simp_all [cT]
 termination_by x y z=>sizeOf x+sizeOf y+sizeOf z
theorem Df: ∀l m n:List D,cL l m≠ .gt->cL m n≠ .gt->cL l n≠ .gt
 |[],m,n,_,_=>by cases n<;>simp[cL]
 |x::l,[],n,h1,_=>by simp[cL] at h1
 |x::l,y::m,[],_,h2=>by simp[cL] at h2
 |x::l,y::m,z::n,h1,h2=>by
  have a1:cT x y≠ .gt:=fun h=>by rw[cL,h] at h1;exact h1 rfl
  have a2:cT y z≠ .gt:=fun h=>by rw[cL,h] at h2;exact h2 rfl
  have a3:=qr x y z a1 a2;rw[cL]
  cases hxz:cT x z with
  |lt=>simp
  |gt=>exact absurd hxz a3
  |eq=>
   have zx:cT z x≠ .gt:=by rw[kJ x z,hxz];simp[Ordering.swap]
   have exy:cT x y= .eq:=Nf a1 (qr y z x a2 zx);have eyz:cT y z= .eq:=Nf a2 (qr z x y zx a1);rw[cL,exy] at h1;rw[cL,eyz] at h2;exact Df l m n h1 h2
 termination_by l m n=>sizeOf l+sizeOf m+sizeOf n
end
def ltT(x y:D):Bool:=cT x y== .lt
theorem EK:ltT x y=true↔cT x y= .lt:=by simp[ltT]
theorem lB:ltT x y=false↔cT x y≠ .lt:=by simp[ltT]
theorem Nx(f:Nat->D):Wk fun i j=>ltT (f i) (f j):=by
 have key: ∀x y z:D,ltT x z=true->ltT x y=true\/ltT y z=true:=fun x y z h=>by
  cases h1:ltT x y with
  |true=>exact .inl rfl
  |false=>
   cases h2:ltT y z with
   |true=>exact .inr rfl
   |false=>
    exfalso
    have yx:cT y x≠ .gt:=by
     rw[kJ x y];intro e;rw[lB] at h1
     cases hc:cT x y with
     |lt=>exact h1 hc
     |eq=>rw[hc] at e;cases e
     |gt=>rw[hc] at e;cases e
    have zy:cT z y≠ .gt:=by
     rw[kJ y z];intro e;rw[lB] at h2
     cases hc:cT y z with
     |lt=>exact h2 hc
     |eq=>rw[hc] at e;cases e
     |gt=>rw[hc] at e;cases e
    have:=qr z y x zy yx;rw[kJ x z,EK.mp h] at this;exact this rfl
 refine⟨fun i=>by rw[lB,Bs];simp,fun i j k h1 h2=>?_,fun i j k h=>key _ _ _ h⟩;rcases key (f i) (f k) (f j) h1 with h|h
 ·exact h
 ·
  rw[EK] at h h2;rw[kJ,h] at h2;cases h2
mutual
/-- ints,and tuples of such -/
def D.pr:D->Bool
 | .int _=>true
 | .tup l=>D.prL l
 |_=>false
def D.prL:List D->Bool
 |[]=>true
 |x::l=>D.pr x&&D.prL l
end
mutual
theorem E8: ∀x y:D,D.pr x=true->D.pr y=true->D.eqb x y=(cT x y== .eq)
 | .int i,.int j,_,_=>by
  rw[D.eqb,cT];by_cases h:i=j
  ·subst h;simp
  ·rw[gv h];by_cases h2:i<j<;>simp[h,h2]
 | .int _,.tup _,_,_=>by simp[D.eqb,cT]
 | .tup _,.int _,_,_=>by simp[D.eqb,cT]
 | .tup l,.tup m,h1,h2=>by rw[D.eqb,cT];rw[D.pr] at h1 h2;exact Gq l m h1 h2
 | .non,_,h,_=>by simp[D.pr] at h
 | .bl _,_,h,_=>by simp[D.pr] at h
 | .str _,_,h,_=>by simp[D.pr] at h
 | .lst _,_,h,_=>by simp[D.pr] at h
 | .oth _ _ _,_,h,_=>by simp[D.pr] at h
 |_,.non,_,h=>by simp[D.pr] at h
 |_,.bl _,_,h=>by simp[D.pr] at h
 |_,.str _,_,h=>by simp[D.pr] at h
 |_,.lst _,_,h=>by simp[D.pr] at h
 |_,.oth _ _ _,_,h=>by simp[D.pr] at h
theorem Gq: ∀l m:List D,D.prL l=true->D.prL m=true->D.eqbL l m=(cL l m== .eq)
 |[],[],_,_=>by simp[D.eqbL,cL]
 |[],_::_,_,_=>by simp[D.eqbL,cL]
 |_::_,[],_,_=>by simp[D.eqbL,cL]
 |x::l,y::m,h1,h2=>by
  rw[D.prL,kQ] at h1 h2;rw[D.eqbL,cL,E8 x y h1.1 h2.1,Gq l m h1.2 h2.2];cases cT x y<;>simp
end
mutual
theorem Bo: ∀x y:D,D.pr x=true->D.pr y=true-> ∀b,lh .Lt x y=some b->b=ltT x y
 | .int i,.int j,_,_,b,h=>by
  rw[lh] at h;rw[<-iE h,ltT,cT,jk];by_cases h1:i<j
  ·simp[h1]
  ·rw[gv h1];by_cases h2:i=j<;>simp[h1,h2]
 | .int _,.tup _,_,_,b,h=>by simp[lh] at h
 | .tup _,.int _,_,_,b,h=>by simp[lh] at h
 | .tup l,.tup m,h1,h2,b,h=>by
  rw[lh] at h;rw[D.pr] at h1 h2;rw[ltT,cT];exact Gs l m h1 h2 b h
 | .non,_,h,_,_,_=>by simp[D.pr] at h
 | .bl _,_,h,_,_,_=>by simp[D.pr] at h
 | .str _,_,h,_,_,_=>by simp[D.pr] at h
 | .lst _,_,h,_,_,_=>by simp[D.pr] at h
 |_,.non,_,h,_,_=>by simp[D.pr] at h
 |_,.bl _,_,h,_,_=>by simp[D.pr] at h
 |_,.str _,_,h,_,_=>by simp[D.pr] at h
 |_,.lst _,_,h,_,_=>by simp[D.pr] at h
theorem Gs: ∀l m:List D,D.prL l=true->D.prL m=true-> ∀b,oT .Lt l m=some b->b=(cL l m== .lt)
 |[],[],_,_,b,h=>by rw[oT] at h;rw[<-iE h];simp[jk,cL]
 |[],_::_,_,_,b,h=>by rw[oT] at h;rw[<-iE h];simp[jk,cL]<;>omega
 |_::_,[],_,_,b,h=>by rw[oT] at h;rw[<-iE h];simp[jk,cL]<;>omega
 |x::l,y::m,h1,h2,b,h=>by
  rw[D.prL,kQ] at h1 h2;rw[oT,E8 x y h1.1 h2.1] at h;rw[cL]
  cases hc:cT x y with
  |eq=>rw[hc] at h;simp at h;exact Gs l m h1.2 h2.2 b h
  |lt=>rw[hc] at h;simp at h;have:=Bo x y h1.1 h2.1 b h;rw[this,ltT,hc]
  |gt=>rw[hc] at h;simp at h;have:=Bo x y h1.1 h2.1 b h;rw[this,ltT,hc]
end
section
variable {α:Type}(lt:α->α->Bool)
def wa(x:α):List α->List α
 |[]=>[x]
 |y::l=>if lt y x=true then y::wa x l else x::y::l
def lS:List α->List α
 |[]=>[]
 |x::l=>wa lt x (lS l)
theorem qK(x:α): ∀l:List α,(wa lt x l).Perm (x::l)
 |[]=>rY _
 |y::l=>by
  rw[wa];split
  ·exact((qK x l).cons y).trans (List.Perm.swap x y l)
  ·exact rY _
theorem jm: ∀l:List α,(lS lt l).Perm l
 |[]=>rY _
 |x::l=>(qK lt x _).trans ((jm l).cons x)
theorem CO{β:Type}(bQ:β->β->Bool)(f:α->β)(x:α): ∀l:List α,(∀y∈l,bQ (f y) (f x)=lt y x)->wa bQ (f x) (l.map f)=(wa lt x l).map f
 |[],_=>rfl
 |y::l,h=>by
  rw[iQ,wa,wa,h y iR];split
  ·rw[iQ,CO bQ f x l fun z hz=>h z (iT _ hz)]
  ·rfl
theorem zg{β:Type}(bQ:β->β->Bool)(f:α->β): ∀l:List α,(∀x∈l,∀y∈l,bQ (f y) (f x)=lt y x)->lS bQ (l.map f)=(lS lt l).map f
 |[],_=>rfl
 |x::l,h=>by
  rw[iQ,lS,lS,zg bQ f l fun a ha b hb=>h a (iT _ ha) b (iT _ hb)];exact CO lt bQ f x _ fun y hy=>h x iR y (iT _ ((jm lt l).mem_iff.mp hy))
end
theorem Gk{lt:kN}(W:Wk lt){x:Nat}: ∀{l:iA},l.Pairwise (SL lt)->(∀y∈l,x<y)->(wa lt x l).Pairwise (SL lt)
 |[],_,_=>Ap _ _
 |y::l,h,hx=>by
  rw[ph] at h;rw[wa]
  cases hl:lt y x with
  |true=>
   rw[gu rfl,ph];refine⟨fun z hz=>?_,Gk W h.2 fun z hz=>hx z (iT _ hz)⟩;rcases jg.mp ((qK lt x l).mem_iff.mp hz) with rfl|hz
   ·exact .inl hl
   ·exact h.1 z hz
  |false=>
   rw[gv jc,ph];have first:SL lt x y:= .inr ⟨hl,hx y iR⟩;refine⟨fun z hz=>?_,ph.mpr h⟩;rcases jg.mp hz with rfl|hz
   ·exact first
   ·exact SL.trans W first (h.1 z hz)
theorem BY{lt:kN}(W:Wk lt): ∀{l:iA},l.Pairwise (· < ·)->(lS lt l).Pairwise (SL lt)
 |[],_=>List.Pairwise.nil
 |x::l,h=>by
  rw[ph] at h;exact Gk W (BY W h.2) fun y hy=>h.1 y ((jm lt l).mem_iff.mp hy)
theorem BX(W:Wk lt)(hp:p.Perm (List.range n))(hs:p.Pairwise (SL lt)):p=lS lt (List.range n):=by
 refine Ig (fun x y _ _ h1 h2=>(SL.asym W h1 h2).elim) hs (BY W MZ) (hp.trans (jm lt _).symm)
theorem GR{ds:List D}{p:iA}(hp:p.Perm (List.range ds.length))(hs:p.Pairwise (SL fun i j=>ltT (ds.getD i .non) (ds.getD j .non))):p.map (fun i=>ds.getD i .non)=lS ltT ds:=by
 rw[BX (Nx fun i=>ds.getD i .non) hp hs,<-zg _ ltT (fun i=>ds.getD i .non) _ fun x _ y _=>rfl]
 congr 1
 apply wH;intro i;by_cases hi:i<ds.length
 ·simp[hi]
 ·simp[hi]
def jH:D->Option Nat
 | .int _=>some 0
 | .tup (.int _::_)=>some 1
 | .tup (.tup _::_)=>some 2
 |_=>none
def Gh:Nat->SortKind
 |0=>oneType'
 |1=>tuples' true
 |_=>tuples' false
structure SortsBy(k:Nat)(l:List D):Prop where
 hd: ∀x∈l,jH x=some k
 pr: ∀x∈l,D.pr x=true
 dp: ∀x∈l,x.dep<=50
 cm: ∀x∈l,∀y∈l,(lh .Lt x y).isSome=true
def lY(l:List D):Bool:=l.length<=1||match l with
 |[]=>true
 |x::_=>(jH x).isSome&&(l.all fun y=>jH y==jH x&&D.pr y&&decide (y.dep<=50))&&l.all fun y=>l.all fun z=>(lh .Lt y z).isSome
theorem zh(h:lY l=true):l.length<=1\/ ∃k,SortsBy k l:=by
 unfold lY at h;rw[uM] at h;rcases h with h|h
 ·left;simpa using h
 ·right
  cases l with
  |nil=>exact⟨0,fun x hx=>absurd hx jF,fun x hx=>absurd hx jF,fun x hx=>absurd hx jF,fun x hx=>absurd hx jF⟩
  |cons x m=>
   simp only[kQ,nL,se] at h;obtain⟨⟨h1,h2⟩,h3⟩:=h;obtain⟨k,hk⟩:=Lq.mp h1;refine⟨k,fun y hy=>?_,fun y hy=>(h2 y hy).1.2,fun y hy=>(h2 y hy).2,fun y hy z hz=>h3 y hy z hz⟩;have:=(h2 y hy).1.1;rw[hk] at this;simpa using this
section
variable {X:Cx}{pins:hJ}{σ:L2.St}{H:Hp}{s:gr}
theorem qA(v:Vals xs b6)(hi:i<b6.length):RelV (xs.getD i .non) (b6.getD i Value.none):=by
 have e:=v.length;have hx:xs[i]?=some xs[i]:=iO (by omega);obtain⟨w,w1,w2⟩:=v.get hx;have h1:xs.getD i .non=xs[i]:=by simp[show i<xs.length by omega]
 have h2:b6.getD i Value.none=w:=by
  rw[iO hi] at w1;have:=iE w1;simp[hi,this]
 rw[h1,h2];exact w2
theorem qF(r:RepL X.K H O ds xs)(hi:i<ds.length):Rep X.K H O (ds.getD i .non) (xs.getD i .non):=by
 have e:=r.length;have hd:ds[i]?=some ds[i]:=iO hi;obtain⟨v,v1,v2⟩:=r.get hd;have h1:ds.getD i .non=ds[i]:=by simp[hi]
 have h2:xs.getD i .non=v:=by
  rw[iO (by omega)] at v1;have:=iE v1;simp[show i<xs.length by omega,this]
 rw[h1,h2];exact v2
theorem xQ{ds:List D}{i:Nat}(hi:i<ds.length):ds.getD i .non∈ds:=by simp[hi]
theorem CM(I:Inv X pins σ H s){A:gM}{b:Bool}{O O':AP'}(hA:A.units+60<cLine){r:Bool}{Q:pA}(hQ:Q r s): ∀(l m:List D) (xs ys:List V) (b6 e9:iG) (k:Int) (i:Nat),D.depL l<=50->D.depL m<=50->
  ((b&&i==0)=true-> ∀x y l' m',l=x::l'->m=y::m'->(∃a,x= .int a)/\ ∃c,y= .int c)->RepL X.K H O l xs->RepL X.K H O' m ys->Vals xs b6->Vals ys e9->oT .Lt l m=some r->
  ∀fin:Bool,fin=jk .Lt (b6.length+k) (e9.length+k)->PySem.W.KatLex X.prog X.w A b fin Q (b6.zip e9) i s
 |[],m,xs,ys,b6,e9,k,i,_,_,_,r1,r2,v1,v2,hc,fin,hf=>by
  rw[RepL] at r1;subst r1;cases v1;rw[oT] at hc;have e1:=r2.length;have e2:=v2.length;show Q fin s;rw[hf,oO];rw[<-iE hc] at hQ;have:jk .Lt ((([]:List Value).length:Nat):Int) (e9.length:Int)=jk .Lt 0 (m.length:Int):=by congr 1;omega
  rw[this];exact hQ
 |x::l,[],xs,ys,b6,e9,k,i,_,_,_,r1,r2,v1,v2,hc,fin,hf=>by
  rw[RepL] at r2;subst r2;cases v2;rw[oT] at hc;have e1:=r1.length;have e2:=v1.length;rw[List.zip_nil_right];show Q fin s;rw[hf,oO];rw[<-iE hc] at hQ;have:jk .Lt (b6.length:Int) ((([]:List Value).length:Nat):Int)=jk .Lt (((x::l).length:Nat):Int) 0:=by congr 1;omega
  rw[this];exact hQ
 |x::l,y::m,xs,ys,b6,e9,k,i,ay,aG,hb,r1,r2,v1,v2,hc,fin,hf=>by
  rw[RepL] at r1 r2;obtain⟨vx,xr,rfl,g1,g2⟩:=r1;obtain⟨vy,yr,rfl,g3,g4⟩:=r2
  cases v1 with
  |cons a1 a2=>
   cases v2 with
   |cons b1 b2=>
    rw[oT] at hc;rw[D.depL] at ay aG;rw[rT];refine PySem.W.kat_cons (yi I 50 x y vx vy _ _ O O' A (.inl g1) (.inl g3) a1 b1 (by omega) (by omega) (by omega) X.prog X.w _ _ ?_)
    cases hq:D.eqb x y with
    |true=>
     rw[hq,gu rfl] at hc;refine PySem.W.kat_yes (CM I hA hQ l m xr yr _ _ (k+1) (i+1) (by omega) (by omega) (fun h=>by simp at h) g2 g4 a2 b2 hc fin ?_);rw[hf];simp only[jX];have e: ∀a:Nat,(((a+1:Nat):Int)+k)=(a:Int)+(k+1):=fun a=>by omega
     rw[e,e]
    |false=>
     rw[hq,gv jc] at hc;refine PySem.W.kat_no ?_
     cases hbi:(b&&i==0) with
     |true=>
      obtain⟨⟨a,rfl⟩,c,rfl⟩:=hb hbi x y l m rfl rfl;have:=g1.int;subst this;have:=g3.int;subst this;obtain⟨t,rfl⟩:=a1;obtain⟨t',rfl⟩:=b1;rw[lh] at hc;rw[<-iE hc] at hQ;exact oneLt_int hQ
     |false=>
      exact PySem.W.kat_one _ _ (Jm (.inl rfl) I 50 x y vx vy _ _ O O' A r (.inl g1) (.inl g3) a1 b1 (by omega) (by omega) (by omega) hc X.prog X.w _ _ hQ)
theorem Rh(I:Inv X pins σ H s){O:AP'}{ds:List D}{xs:List V}{b6:iG}{A:gM}{E:hG}(hA:A.units+60<cLine)(rr:RepL X.K H O ds xs)(v:Vals xs b6){k:Nat}(B:SortsBy k ds):
  Ask X.prog X.w A E (fun s'=>s'=s) (Hq b6) (Gh k) b6.length (fun i j=>ltT (ds.getD i .non) (ds.getD j .non)):=by
 intro i j hi hj s' aC E';subst aC;have e1:=rr.length;have e2:=v.length;have mi:ds.getD i .non∈ds:=xQ (by omega);have mj:ds.getD j .non∈ds:=xQ (by omega);have ri:=qF rr (i:=i) (by omega);have rj:=qF rr (i:=j) (by omega);have vi:=qA v hi;have vj:=qA v hj;obtain⟨b,hb⟩:=Lq.mp (B.cm _ mi _ mj);have j7:=Bo _ _ (B.pr _ mi) (B.pr _ mj) b hb;have bt:=B.hd _ mi;have br:=B.hd _ mj;have di:=B.dp _ mi;have dj:=B.dp _ mj;show wpAny _ _ (keyLt' (Gh k) (b6.getD i Value.none) (b6.getD j Value.none)) _ _ _;dsimp only;rw[<-j7];generalize ds.getD i .non=x at*;generalize ds.getD j .non=y at*;generalize xs.getD i .non=vx at*;generalize xs.getD j .non=vy at*;generalize b6.getD i Value.none=a at*;generalize b6.getD j Value.none=c at*
 have tups: ∀(l m:List D) (bb:Bool),x= .tup l->y= .tup m->(bb=true-> ∀x y l' m',l=x::l'->m=y::m'->(∃a,x= .int a)/\ ∃c,y= .int c)->wpAny (model X.prog X.w) A (keyLt' (tuples' bb) a c) (fun b' bP=>bP=s'/\b'=b) E' s':=fun l m bb hl hm hh=>by
  subst hl hm;obtain⟨p,us,rfl,q,r1⟩:=ri.tup;obtain⟨p2,ws,rfl,q2,r2⟩:=rj.tup;cases vi;cases vj;obtain⟨eB,w1,⟨o,ho,hc,n,hd⟩,_⟩:=I.tuple q.sq;obtain⟨is2,w2,⟨o2,t5,y6,n2,hd2⟩,_⟩:=I.tuple q2.sq;rw[lh] at hb;rw[D.dep] at di dj;refine PySem.W.kat_lt ho hd t5 hd2 ?_;have:=CM I (b:=bb) hA (Q:=fun b' bP=>bP=s'/\b'=b) ⟨rfl,rfl⟩ l m us ws eB is2 0 0 (by omega) (by omega) (fun h=>hh (by simpa using h)) r1 r2 w1 w2 hb (decide (eB.toArray.size<is2.toArray.size)) (by simp[jk]);simpa using this
 match k,bt,br with
 |0,bt,br=>
  cases x with
  |int ix=>
   cases y with
   |int iy=>
    have:=ri.int;subst this;have:=rj.int;subst this;obtain⟨t,rfl⟩:=vi;obtain⟨t',rfl⟩:=vj;rw[lh] at hb;rw[<-iE hb];show wpAny _ _ (keyLt' oneType' _ _) _ _ _;rw[keyLt'_oneType];exact oneLt_int ⟨rfl,rfl⟩
   |tup m=>cases m with
    |nil=>simp[jH] at br
    |cons z m=>cases z<;>simp[jH] at br
   |_=>simp[jH] at br
  |tup m=>cases m with
   |nil=>simp[jH] at bt
   |cons z m=>cases z<;>simp[jH] at bt
  |_=>simp[jH] at bt
 |1,bt,br=>
  cases x with
  |tup l=>
   cases y with
   |tup m=>
    refine tups l m true rfl rfl fun _ x y l' m' hl hm=>?_;subst hl hm;refine⟨?_,?_⟩
    ·cases x with
     |int a=>exact⟨a,rfl⟩
     |_=>simp[jH] at bt
    ·cases y with
     |int a=>exact⟨a,rfl⟩
     |_=>simp[jH] at br
   |_=>simp[jH] at br
  |_=>simp[jH] at bt
 |(n+2),bt,br=>
  cases x with
  |tup l=>
   cases y with
   |tup m=>exact tups l m false rfl rfl fun h=>absurd h jc
   |_=>simp[jH] at br
  |_=>simp[jH] at bt
end
open PySem.W
section
variable {X:Cx}{pins:hJ}{σ:L2.St}{H:Hp}{s:gr}
theorem ye(I:Inv X pins σ H s){O:AP'}{T:gB}(P:D->Prop)(hP: ∀x v u,P x->Rep X.K H O x v->RelV v u->Looks (model X.prog X.w) s.heap (typeOf u) T): ∀{ds:List D} {xs:List V} {b6:iG},RepL X.K H O ds xs->Vals xs b6->
  (∀d∈ds,∃x l,d= .tup (x::l)/\P x)-> ∃fs,KatTups s.heap b6 fs/\fs.length=b6.length/\ ∀f∈fs,Looks (model X.prog X.w) s.heap (typeOf f) T
 |[],xs,b6,r,v,_=>by
  rw[RepL] at r;subst r;cases v;exact⟨[],KatTups.nil,rfl,fun f hf=>absurd hf jF⟩
 |d::ds,xs,b6,r,v,h=>by
  rw[RepL] at r;obtain⟨vx,xr,rfl,g1,g2⟩:=r
  cases v with
  |cons a1 a2=>
   obtain⟨fs,k1,k2,k3⟩:=ye I P hP g2 a2 fun d hd=>h d (iT _ hd);obtain⟨x,l,rfl,px⟩:=h d iR;obtain⟨p,us,rfl,q,r1⟩:=g1.tup;cases a1;obtain⟨eB,w1,⟨o,ho,hc,n,hd⟩,_⟩:=I.tuple q.sq;rw[RepL] at r1;obtain⟨vy,yr,rfl,g3,g4⟩:=r1
   cases w1 with
   |cons b1 b2=>
    rename_i f fr;refine⟨f::fs,KatTups.cons ho hc hd (by simp) k1,by simp[k2],fun g hg=>?_⟩;rcases jg.mp hg with rfl|hg
    ·exact hP x vy _ px g3 b1
    ·exact k3 g hg
theorem OU(I:Inv X pins σ H s){O:AP'}{ds:List D}{xs:List V}{b6:iG}{A:gM}(rr:RepL X.K H O ds xs)(v:Vals xs b6){k:Nat}(B:SortsBy k ds)(h2:2<=b6.length):
  wpAny (model X.prog X.w) A (keyKind' b6.toArray) (fun κ' s'=>s'=s/\κ'=Gh k) (fun _ _=>False) s:=by
 have e1:=rr.length;have e2:=v.length
 match k,B with
 |0,B=>
  refine kas_kind (T:= .type "int") h2 (fun u hu=>?_) rfl rfl ⟨rfl,rfl⟩;obtain⟨i,hi,e⟩:=wF hu;have ri:=qF rr (i:=i) (by omega);have vi:=qA v hi;have hd:=B.hd _ (xQ (ds:=ds) (i:=i) (by omega));have:b6.getD i Value.none=u:=by simp[hi,e]
  rw[this] at vi
  cases hx:ds.getD i .non with
  |int a=>
   rw[hx] at ri;have:=ri.int;rw[this] at vi;obtain⟨t,rfl⟩:=vi;exact Looks.of_pure rfl
  |tup l=>
   rw[hx] at hd
   cases l with
   |nil=>simp[jH] at hd
   |cons z m=>cases z<;>simp[jH] at hd
  |_=>rw[hx] at hd;simp[jH] at hd
 |1,B=>
  obtain⟨fs,f1,f2,f3⟩:=ye I (T:= .type "int") (fun x=> ∃a,x= .int a) (fun x vv u px rx rv=>by
   obtain⟨a,rfl⟩:=px;have:=rx.int;subst this;obtain⟨t,rfl⟩:=rv
   exact Looks.of_pure rfl) rr v fun d hd=>by
    have:=B.hd d hd
    cases d with
    |tup l=>
     cases l with
     |nil=>simp[jH] at this
     |cons z m=>
      cases z with
      |int a=>exact⟨_,m,rfl,a,rfl⟩
      |_=>simp[jH] at this
    |_=>simp[jH] at this
  exact kat_kind f1 (by omega) f3 rfl ⟨rfl,rfl⟩
 |(n+2),B=>
  obtain⟨fs,f1,f2,f3⟩:=ye I (T:= .type "tuple") (fun x=> ∃a,x= .tup a) (fun x vv u px rx rv=>by
   obtain⟨a,rfl⟩:=px;obtain⟨p,us,rfl,q,r1⟩:=rx.tup;cases rv;obtain⟨eB,w1,⟨o,ho,hc,n,hd⟩,_⟩:=I.tuple q.sq;have:Looks (model X.prog X.w) s.heap (typeOf (.ref p)) o.cls:=(Looks.ld ho).andThen .now
   rw[hc] at this;exact this) rr v fun d hd=>by
    have:=B.hd d hd
    cases d with
    |tup l=>
     cases l with
     |nil=>simp[jH] at this
     |cons z m=>
      cases z with
      |tup a=>exact⟨_,m,rfl,a,rfl⟩
      |_=>simp[jH] at this
    |_=>simp[jH] at this
  exact kat_kind f1 (by omega) f3 rfl ⟨rfl,rfl⟩
def jv(l:List D):Option (D×Bool):=if lY l=true/\l.length<=sizeLine then some (.lst (lS ltT l),true) else none
def uo(d:D):Option (D×Bool):=(zi d).bind jv
theorem BN{xs:List V}{b6:iG}(v:Vals xs b6): ∀(p:iA),(∀i∈p,i<b6.length)->Vals (p.map fun i=>xs.getD i .non) (p.map fun i=>b6.getD i Value.none)
 |[],_=> .nil
 |i::p,h=> .cons (qA v (h i iR)) (BN v p fun j hj=>h j (iT _ hj))
theorem Cg{O:AP'}{ds:List D}{xs:List V}(r:RepL X.K H O ds xs): ∀(p:iA),(∀i∈p,i<ds.length)->RepL X.K H O (p.map fun i=>ds.getD i .non) (p.map fun i=>xs.getD i .non)
 |[],_=>RepL.nil
 |i::p,h=>RepL.cons (qF r (h i iR)) (Cg r p fun j hj=>h j (iT _ hj))
theorem Eh{ds:List D}{n:Nat}(hl:n=ds.length)(h1:ds.length<=1){p:iA}(hp:p.Perm (List.range n)):p.map (fun i=>ds.getD i .non)=lS ltT ds:=by
 subst hl
 match ds,h1,hp with
 |[],_,hp=>
  have:p=[]:=by simpa using hp.length_eq
  subst this;rfl
 |[d],_,hp=>
  have hl:p.length=1:=by simpa using hp.length_eq
  match p,hl,hp with
  |[i],_,hp=>
   have:i=0:=by have:=hp.mem_iff.mp (pK.mpr rfl);simpa using this
   subst this;rfl
theorem qC(hu:X.A.units+62<cLine)(I:Inv X pins σ H s){O:AP'}{ds:List D}{xs:List V}{b6:iG}{x:gB}{Q:VK}{z:D×Bool}(rr:RepL X.K H O ds xs)(v:Vals xs b6)(hg:jv ds=some z)(G:Gen X.K H O z Q)
  (hc: ∀(Q':List Value->Shared->Prop) (E':hG) (A':gM),A'.handled=X.A.handled->(∀(h':gQ) (tk:Nat),(∀b o,s.heap.get? b=some o->h'.get? b=some o)->Q' b6 {s with heap:=h',toks:=tk})->wpAny (model X.prog X.w) A' (collect x) Q' E' s):
  wpAny (model X.prog X.w) X.A (call (.builtin "sorted") [x]) (EP X pins σ Q) X.xe s:=by
 unfold jv at hg;obtain⟨⟨hok,hz⟩,rfl⟩:=hW hg;have e1:=rr.length;have e2:=v.length;refine Calls.call_function_entry kind_sorted plain_sorted entry_sorted (args_sorted1 _) ?_;unfold Builtin.«sorted»;refine gi (m:=checkCount "sorted" 1 1 _) (gw ?_);refine gi (hc _ _ _ rfl fun h1 tk k1=>?_);refine gi (wpAny_newList ?_ (by omega));have ho:(h1.push (seqObj "list" b6.toArray 0)).get? h1.objs.size=some (seqObj "list" b6.toArray 0):=jr _ rfl;have I1:Inv X pins σ H {s with heap:=h1,toks:=tk}:=I.kept k1
 have keep: ∀b o,h1.get? b=some o->(oY (h1.push (seqObj "list" b6.toArray 0)) h1.objs.size b6).get? b=some o:=fun b o e'=>by
  have hb:b≠h1.objs.size:=iz (hV e');refine ig _ (ig _ ?_);rw[Ie _ _ _ _ hb];exact ig _ e'
 have I2:Inv X pins σ H {s with heap:=oY (h1.push (seqObj "list" b6.toArray 0)) h1.objs.size b6,toks:=tk}:=I1.kept keep;have bp: ∀i∈List.range b6.length,i<b6.length:=fun i hi=>by simpa using hi
 refine gi (lR (mq (s:={s with heap:=h1.push (seqObj "list" b6.toArray 0),toks:=tk}) slot_list_sort ⟨_,ho,rfl⟩ entry_list_sort ?body (args_list_sort _)))
 case body=>
  have fin: ∀p:List Nat,p.Perm (List.range b6.length)->p.map (fun i=>ds.getD i .non)=lS ltT ds->EP X pins σ Q (.ref h1.objs.size) {s with heap:=(oY (h1.push (seqObj "list" b6.toArray 0)) h1.objs.size b6).update h1.objs.size (Obj.mapSeq fun _=>(p.map fun i=>b6.getD i Value.none).toArray),toks:=tk}:=fun p hp hs=>by
   have pi: ∀i∈p,i<b6.length:=fun i hi=>by simpa using hp.mem_iff.mp hi
   have ob: ∃n,(oY (h1.push (seqObj "list" b6.toArray 0)) h1.objs.size b6).get? h1.objs.size=some (seqObj "list" #[] n):=by
    obtain⟨e1,u6⟩: ∃e1,((h1.push (seqObj "list" b6.toArray 0)).update h1.objs.size (Obj.mapSeq fun _=>(#[]:Array Value))).get? h1.objs.size=some (seqObj "list" #[] e1):=⟨_,DG ho fun _=> #[]⟩
    exact⟨e1,ig _ (ig _ u6)⟩
   obtain⟨n,ob⟩:=ob;obtain⟨c2,y6⟩: ∃c2,((oY (h1.push (seqObj "list" b6.toArray 0)) h1.objs.size b6).update h1.objs.size (Obj.mapSeq fun _=>(p.map fun i=>b6.getD i Value.none).toArray)).get? h1.objs.size=some (seqObj "list" (p.map fun i=>b6.getD i Value.none).toArray c2):=⟨_,DG ob fun _=>(p.map fun i=>b6.getD i Value.none).toArray⟩
   have keep2: ∀b o,h1.get? b=some o->((oY (h1.push (seqObj "list" b6.toArray 0)) h1.objs.size b6).update h1.objs.size (Obj.mapSeq fun _=>(p.map fun i=>b6.getD i Value.none).toArray)).get? b=some o:=fun b o e'=>by
    rw[Ie _ _ _ _ (iz (hV e'))];exact keep b o e'
   have pl:p.length=b6.length:=by simpa using hp.length_eq
   refine⟨.ref h1.objs.size,_,I1.laid (t':=tk) keep2 (hU _) (show ObjOk X.prog X.w _ _ _ (.lst (p.map fun i=>xs.getD i .non)) from⟨by rw[iX];omega,_,c2,BN v p pi,y6⟩),rfl,?_⟩;refine G.lst I1.fresh ?_;rw[<-hs];exact Cg rr p fun i hi=>by have:=pi i hi;omega
  rcases zh hok with hlen|⟨k,B⟩
  ·refine rH (κ:=general') (lt:=fun _ _=>false) (s:={s with heap:=h1.push (seqObj "list" b6.toArray 0),toks:=tk}) ho (by omega) (Wk.mk (fun _=>rfl) (fun _ _ _ h=>absurd h jc) (fun _ _ _ h=>absurd h jc)) (fun h=>by omega) (fun h=>by omega) fun p hp _=>⟨_,rfl,gw ⟨_,rfl,fin p hp ?_⟩⟩
   exact Eh (by omega) hlen hp
  ·refine rH (κ:=Gh k) (lt:=fun i j=>ltT (ds.getD i .non) (ds.getD j .non)) (s:={s with heap:=h1.push (seqObj "list" b6.toArray 0),toks:=tk}) ho (by omega) (Nx _) (fun h=>OU I2 rr v B h) (fun _=>Rh (A:=X.A.in1.in1) I2 (by show X.A.units+1+1+60<cLine;omega) rr v B) fun p hp hs=>⟨_,rfl,gw ⟨_,rfl,fin p hp (GR (by rw[show ds.length=b6.length by omega];exact hp) hs)⟩⟩
theorem Br(hu:X.A.units+62<cLine):jf X (.builtin "sorted") (rDn X.K (g1 uo)):=nh fun pins s σ H x u Q O d z I ru np hd hg G=>by
 obtain⟨l,hl,hg⟩:=gg hg
 have hz:l.length<=sizeLine:=by
  unfold jv at hg;exact(hW hg).1.2
 cases d with
 |lst m=>
  cases hl;obtain⟨p,xs,rfl,q,r⟩:=ju hd;cases ru;obtain⟨b6,v,pl,_⟩:=I.list q;have e1:=r.length;have e2:=v.length;obtain⟨o,ho,hc,n,hd⟩:=pl.isList;refine qC hu I r v hg G fun Q' E' A' _ hQ=>wpAny_collect_seq p (.inl rfl) ho hc hd (fun h' k=>by simpa using hQ h' s.toks k) (by rw[hZ];omega)
 |tup m=>
  cases hl;obtain⟨p,xs,rfl,q,r⟩:=ke hd;cases ru;obtain⟨b6,v,⟨o,ho,hc,n,hd⟩,_⟩:=I.tuple q;have e1:=r.length;have e2:=v.length;refine qC hu I r v hg G fun Q' E' A' _ hQ=>wpAny_collect_seq p (.inr rfl) ho hc hd (fun h' k=>by simpa using hQ h' s.toks k) (by rw[hZ];omega)
 |_=>cases hl
end
theorem rP:bootBuiltins "isinstance"=some (.builtin "isinstance"):=by decide+kernel
structure Tx(mg:kO):Prop where
 n_len:mg "len"=none
 n_abs:mg "abs"=none
 n_int:mg "int"=none
 n_tuple:mg "tuple"=none
 n_list:mg "list"=none
 n_range:mg "range"=none
 n_isinstance:mg "isinstance"=none
 n_bool:mg "bool"=none
 n_max:mg "max"=none
 n_min:mg "min"=none
 n_all:mg "all"=none
 n_any:mg "any"=none
 n_sorted:mg "sorted"=none
 n_enumerate:mg "enumerate"=none
 n_zip:mg "zip"=none
 n_set:mg "set"=none
theorem MK{P:gP}{w:gH}{K:gL}{mg:kO}{base:gQ}{f:gn}{fd:mP}{ps:iw}{k:Nat}:FnOk P w K mg base CX0 k f fd ps (spF K fun _=>none) where
 len:=fun vs H Q E h=>by
  obtain⟨T,args,r,outs,_,e,_⟩:=h;cases e
 run:=fun A outer s H args us vs Q E _ _ _ _ h=>by
  obtain⟨T,args,r,outs,_,e,_⟩:=h;cases e
theorem zk{K:gL}{H:Hp}{O:AP'}: ∀ns:List Int,RepL K H O (ns.map .int) (ns.map V.int)
 |[]=>RepL.nil
 |n::ns=>RepL.cons Rep.mkInt (zk ns)
theorem OT{K:gL}{ev:EvF}{H:Hp}{a:gn}{ns:gU}(hS:SqL K H a (ns.map V.int)){o:Bool}{outs:Dn}(h:ev [(.lst (ns.map .int),false)]=some ((.bl true,o),outs)):spF K ev [.ref a] H (fun v _=>v= .bl true) fun _ _ _=>False:=by
 have no: ∀b,¬OwnA [some (V.ref a)] [some (D.lst (ns.map .int),false)] b:=fun b ⟨i,d,h1,h2⟩=>by
  cases i with
  |zero=>simp at h1
  |succ i=>simp at h1
 refine⟨fun _=>False,[(.lst (ns.map .int),false)],_,outs,⟨rfl,fun i d hd=>?_,fun i d hd=>?_,fun i j d e b h1=>?_,fun b z=>absurd z (no b),fun b z=>z.elim⟩,h,fun v H' P=>?_⟩
 ·cases i with
  |zero=>
   simp at hd;subst hd;refine⟨_,rfl,Rep.mkLst (a:=a) (xs:=ns.map V.int) ?_ (zk ns)⟩;exact hS.imp (fun z=>⟨z,fun z=>z.elim (no a) id⟩) id
  |succ i=>simp at hd
 ·cases i with
  |zero=>simp at hd
  |succ i=>simp at hd
 ·cases i with
  |zero=>simp at h1
  |succ i=>simp at h1
 ·cases o with
  |false=>exact P.2.2.bl
  |true=>
   obtain⟨p,_,_,_,ok⟩:=P.2;exact ok.elim
def qp(op w6:CmpOp)(fa fb fc:FO):F:=fun δ=>(fa δ).bind fun p=>(fb p.2).bind fun q=>match res q.2 p.1,res q.2 q.1 with
 |some (.int i),some (.int j)=>if jk op i j=true then(fc q.2).bind fun r=>match res r.2 r.1 with
   |some (.int k)=>some ((.bl (jk w6 j k),false),r.2)
   |_=>none
  else some ((.bl false,false),q.2)
 |_,_=>none
section
variable {X:Cx}{a b c:gC}{fa fb fc:FO}{pos:Pos}{op w6:CmpOp}
theorem F6(h:um op):OpR X (compareOp op) (rI0 fun i j=> .bl (jk op i j)):=by
 rcases h with rfl|rfl|rfl|rfl
 ·exact Qz
 ·exact QD
 ·exact QE
 ·exact QH
theorem Hy(hw:tF X.K (qp op w6 fa fb fc) σ H Q):I9 (rI0 fun i j=> .bl (jk op i j)) (rI0 fun i j=> .bl (jk w6 i j)) (tO X.K fa) (tO X.K fb) (tO X.K fc) σ H Q:=by
 obtain⟨δ,T,rr,δ',E,e,k⟩:=hw;unfold qp at e;obtain⟨⟨o1,δ1⟩,h1,e⟩:=gg e;obtain⟨⟨o2,δ2⟩,h2,e⟩:=gg e;refine⟨δ,T,o1,δ1,E,h1,fun v H1 P1=>⟨δ1,yE T o1 v,o2,δ2,P1.er E,h2,fun u H2 P2=>?_⟩⟩;have B:=Ops.cons E P1 (Ops.cons (P1.er E) P2 (Ops.nil (P2.er (P1.er E))));dsimp only at e;split at e
 ·rename_i i j hx hy;have hv:=gS (B.view (j:=0) rfl rfl hx);have hu:=gS (B.view (j:=1) rfl rfl hy);refine⟨i,j,hv,hu,jk op i j,rfl,?_⟩;by_cases c:jk op i j=true
  ·rw[gu c] at e ⊢;obtain⟨⟨o3,δ3⟩,h3,e⟩:=gg e;dsimp only at e;split at e
   ·rename_i k' hz;obtain⟨rfl,rfl⟩:=gK e;refine⟨δ2,_,o3,δ3,P2.er (P1.er E),h3,fun w H3 P3=>?_⟩;have B3:=Ops.cons E P1 (Ops.cons (P1.er E) P2 (Ops.cons (P2.er (P1.er E)) P3 (Ops.nil (P3.er (P2.er (P1.er E))))));exact⟨j,k',hu,gS (B3.view (j:=2) rfl rfl hz),(B3.done k).bl⟩
   ·cases e
  ·rw[gv c] at e ⊢;obtain⟨rfl,rfl⟩:=gK e;exact(B.done k).bl
 ·cases e
theorem Js(ho:um op)(aS:um w6)(ha:PO X a fa)(hb:PO X b fb)(hc:PO X c fc)(hm:lastMarks [op,w6] [b,c]=false:=by with_unfolding_all rfl):PX X (.Compare a [op,w6] [b,c] pos) (qp op w6 fa fb fc):=
 PX.imp (JS (F6 ho) (F6 aS) ha hb hc hm) fun σ H Q hw=>Hy hw
end
def vIs(x:V)(c:Bool):Bool:=match x with
 | .bl b=>b==c
 |_=>false
def gIs:D->D->Option (D×Bool)
 | .bl b,.bl c=>some (.bl (b==c),false)
 |_,.bl _=>some (.bl false,false)
 | .non,.non=>some (.bl true,false)
 |_,.non=>some (.bl false,false)
 |_,_=>none
section
variable {X:Cx}
theorem Ly(rx:RelV x v)(c:Bool):plainIs v (.bool c)=true/\(v== .bool c)=vIs x c:=by
 cases x<;>first
  |(cases rx;exact⟨rfl,rfl⟩)
  |(obtain⟨t,rfl⟩:=rx;exact⟨rfl,rfl⟩)
  |(rename_i b;cases rx;refine⟨rfl,?_⟩;cases b<;>cases c<;>rfl)
theorem J1:OpR X (compareOp .Is) (fun x y H Q=> ∃c,y= .bl c/\Q (.bl (vIs x c)) H):=by
 intro pins s σ H x y v u Q I rx ry h;obtain⟨c,rfl,q⟩:=h;cases ry;obtain⟨h1,h2⟩:=Ly rx c;exact wpAny_is_plain h1 (KD I q (by rw[h2]))
theorem xb{K H}(h:iV K H O (.bl b) v):v= .bl b:=h.elim (fun h=>h.bl) fun⟨_,_,h⟩=>h.elim
theorem vc{K H}(h:iV K H O .non v):v= .non:=h.elim (fun h=>h.non) fun⟨_,_,h⟩=>h.elim
theorem IJ{K H}(h:iV K H O d v)(nb: ∀b,d≠ .bl b)(c:Bool):vIs v c=false:=by
 cases d with
 |bl b=>exact absurd rfl (nb b)
 |non=>rw[vc h];rfl
 |int i=>rw[gS h];rfl
 |str x=>
   rcases h with h|⟨a,_,h⟩
   ·rw[h.str];rfl
   ·exact h.elim
 |tup l=>
   rcases h with h|⟨a,_,h⟩
   ·rw[Rep] at h;obtain⟨a,xs,rfl,_⟩:=h;rfl
   ·exact h.elim
 |lst l=>
   rcases h with h|⟨a,rfl,h⟩
   ·rw[Rep] at h;obtain⟨a,xs,rfl,_⟩:=h;rfl
   ·rfl
 |oth _ _ _=>
   rcases h with h|⟨a,rfl,h⟩
   ·rw[Rep] at h;obtain⟨a,xs,rfl,_⟩:=h;rfl
   ·rfl
theorem BM{K H}(h:iV K H O d v)(nb:d≠ .non):v≠ .non:=by
 cases d with
 |bl b=>rw[xb h];intro z;cases z
 |non=>exact absurd rfl nb
 |int i=>rw[gS h];intro z;cases z
 |str x=>
   rcases h with h|⟨a,_,h⟩
   ·rw[h.str];intro z;cases z
   ·exact h.elim
 |tup l=>
   rcases h with h|⟨a,_,h⟩
   ·rw[Rep] at h;obtain⟨a,xs,rfl,_⟩:=h;intro z;cases z
   ·exact h.elim
 |lst l=>
   rcases h with h|⟨a,rfl,h⟩
   ·rw[Rep] at h;obtain⟨a,xs,rfl,_⟩:=h;intro z;cases z
   ·intro z;cases z
 |oth _ _ _=>
   rcases h with h|⟨a,rfl,h⟩
   ·rw[Rep] at h;obtain⟨a,xs,rfl,_⟩:=h;intro z;cases z
   ·intro z;cases z
theorem OE:OpR X (compareOp .Is) (rD X.K gIs):=by
 intro pins s σ H x y v u Q I rx ry h;obtain⟨O,d,e,z,np,h1,h2,hg,G⟩:=h
 cases e with
 |bl c=>
  have hy:=xb h2;by_cases hb: ∃b,d= .bl b
  ·obtain⟨b,rfl⟩:=hb;cases hg;refine J1 pins s σ H x y v u Q I rx ry ⟨c,hy,?_⟩;rw[xb h1];exact G.bl
  ·have nb: ∀b,d≠ .bl b:=fun b z=>hb ⟨b,z⟩;have hz:z=(.bl false,false):=by cases d<;>first|exact absurd rfl (nb _)|(cases hg;rfl)
   subst hz;refine J1 pins s σ H x y v u Q I rx ry ⟨c,hy,?_⟩;rw[IJ h1 nb c];exact G.bl
 |non=>
  have hy:=vc h2;by_cases hb:d= .non
  ·subst hb;cases hg;refine JZ pins s σ H x y v u Q I rx ry ⟨hy,?_⟩;rw[vc h1];exact G.bl
  ·have hz:z=(.bl false,false):=by cases d<;>first|exact absurd rfl hb|(cases hg;rfl)
   subst hz;refine JZ pins s σ H x y v u Q I rx ry ⟨hy,?_⟩;rw[mx (BM h1 hb)];exact G.bl
 |_=>cases d<;>cases hg
end
end PX
namespace HT
open PySem PySem.Spec PyProof.Rows L2
section
variable {prog:gP}{w:gH}{A:gM}{E:hG}{s:gr}
theorem EW{t sl:gn}{items:jS}{vl vu:gB}{lo hi:Option Int}{Q:hG}(ht:IsTup s.heap t items)(hs:s.heap.IsSliceOf sl vl vu .none)(pl:IsPart vl lo)(pu:IsPart vu hi)
  (hw:sIx items.size 0 lo=0/\sIx items.size items.size hi=items.size)(h:Q (.ref t) s):wpAny (model prog w) A (getItem (.ref t) (.ref sl)) Q E s:=by
 obtain⟨os,y3,bx,aF⟩:=id hs;have dP:s.TypeIs (.ref sl) "slice":=⟨os,y3,bx⟩
 unfold getItem
 try with_reducible refine lR ?_
 first|refine gi (gw ?_)|skip
 refine gi (D0 ht.typeIs (by decide) ?_)
 refine gi (pG (name:=Str.ofString "__getitem__") ht.typeIs wz
  (mq wz ht.typeIs DZ ?_ (DY _ _)))
 show wpAny _ _ (Builtin.Tuple.tupleItemsOf (.ref t)>>=_) _ _ s;refine gi (DX ht ?_);refine gi (rq dP ?_);rw[gu (by decide)];refine gi (og hs pl pu ?_);rw[hw.1,hw.2];show wpAny _ _ (if((((0:Nat):Int)==0&&(1:Int)==1&&(items.size-0)==items.size)=true) then _ else _) _ _ s;rw[gu (by simp)];refine gi (m:=Builtin.Tuple.tupleIsExact _) ?_;unfold Builtin.Tuple.tupleIsExact;refine gi (rq ht.typeIs ?_);refine gw ?_;rw[gu (by decide)];refine gi (tx ?_)
 first
  |exact gi (gw ⟨_,rfl,gw h⟩)
  |exact gw ⟨_,rfl,gw h⟩
  |exact gi (gw (gw ⟨_,rfl,gw h⟩))
  |(refine gi ?_;trace_state;done)
end
end HT
namespace PX
open PySem PySem.Spec PyProof.Rows L2 PySem.SeqAt
def nM(l:List D)(lo hi:Option Int):List D:=(l.drop (HT.sIx l.length 0 lo)).take (HT.sIx l.length l.length hi-HT.sIx l.length 0 lo)
def gSl(lo hi:Option Int):D->Option (D×Bool)
 | .tup l=>some (.tup (nM l lo hi),false)
 | .lst l=>some (.lst (nM l lo hi),true)
 |_=>none
def SO(K:gL):V->Option Int->Option Int->Hp->VK->Prop:=fun x lo hi H Q=> ∃(O:AP') (d:D) (z:D×Bool),(∀p,H p=none-> ¬O p)/\iV K H O d x/\gSl lo hi d=some z/\Gen K H O z Q
theorem RepL.cut{K H}(r:RepL K H O l xs)(lo hi:Option Int):RepL K H O (nM l lo hi) (C5 xs lo hi):=by
 unfold nM C5;rw[r.length];exact(r.drop _).take _
section
variable {X:Cx}
theorem B7{pins:hJ}{s:gr}{σ:L2.St}{H:Hp}{a:gn}{v vl vu:gB}{lo hi:Option Int}{sl:gn}{Q:VK}{O:AP'}{l:List D}{xs:List V}(I:Inv X pins σ H s)(rx:RelV (.ref a) v)(hs:s.heap.IsSliceOf sl vl vu .none)(pl:IsPart vl lo)(pu:IsPart vu hi)
  (q:SqL X.K H a xs)(r:RepL X.K H O l xs)(G:Gen X.K H O (.lst (nM l lo hi),true) Q): ∃T id,typeLookup (.type T) "__getitem__"=pure (some (.builtin id))/\s.TypeIs v T/\wpAny (model X.prog X.w) X.A (getItem v (.ref sl)) (EP X pins σ Q) X.xe s:=
 LC pins s σ H (.ref a) v vl vu lo hi sl Q I rx hs pl pu ⟨a,xs,rfl,q,fun p hp=>G.lst hp (r.cut lo hi)⟩
theorem Qb:SlR X (SO X.K):=by
 intro pins s σ H x v vl vu lo hi sl Q I rx hs pl pu h;obtain⟨O,d,z,np,hd,hg,G⟩:=h
 cases d with
 |tup l=>
  cases hg;rcases hd with hd|⟨a,_,h⟩
  ·obtain⟨a,xs,rfl,q,r⟩:=hd.tup;by_cases hw:HT.sIx xs.length 0 lo=0/\HT.sIx xs.length xs.length hi=xs.length
   ·cases rx;obtain⟨b6,rv,ht,hz⟩:=I.tuple q.sq;have hlen:b6.toArray.size=xs.length:=by rw[hZ];exact rv.length.symm
    refine⟨"tuple",_,wz.lookup,ht.typeIs,?_⟩;refine HT.EW ht hs pl pu (by rw[hlen];exact hw) ⟨.ref a,H,I,rfl,?_⟩
    have e:nM l lo hi=l:=by
     unfold nM;rw[<-r.length,hw.1,hw.2];simp[r.length]
    rw[e] at G;exact G (.ref a) H (fun _ _ e=>e) hd
   ·exact NJ pins s σ H (.ref a) v vl vu lo hi sl Q I rx hs pl pu ⟨a,xs,rfl,q.sq,hw,fun p hp=>G.tup hp (np p hp) (r.cut lo hi)⟩
  ·exact h.elim
 |lst l=>
  cases hg;rcases hd with hd|⟨a,rfl,h⟩
  ·obtain⟨a,xs,rfl,q,r⟩:=hd.lst;exact B7 I rx hs pl pu q.sq r G
  ·obtain⟨xs,e,r⟩:=h;exact B7 I rx hs pl pu (.inl (.inl e)) r G
 |_=>cases hg
end
def vR(fa fl:FO):F:=fun δ=>(fa δ).bind fun p=>(fl p.2).bind fun q=>match res q.2 q.1 with
 |some (.int i)=>(res q.2 p.1).bind fun x=>(gSl (some i) none x).bind fun z=>some (z,q.2)
 |_=>none
def ng(fa fh:FO):F:=fun δ=>(fa δ).bind fun p=>(fh p.2).bind fun q=>match res q.2 q.1 with
 |some (.int i)=>(res q.2 p.1).bind fun x=>(gSl none (some i) x).bind fun z=>some (z,q.2)
 |_=>none
section
variable {X:Cx}{a lo hi:gC}{fa fl fh:FO}{pos p2:Pos}
theorem LQ(ha:PO X a fa)(hl:PO X lo fl):PX X (.Subscript a (.Slice (some lo) none none p2) pos) (vR fa fl):=
 PX.imp (Cp Qb ha (F0 hl) F1) fun σ H Q hw=>by
  obtain⟨δ,T,rr,δ',E,e,k⟩:=hw;unfold vR at e;obtain⟨⟨o1,δ1⟩,h1,e⟩:=gg e;obtain⟨⟨o2,δ2⟩,h2,e⟩:=gg e;dsimp only at e;split at e
  ·rename_i i hi;obtain⟨x,hx,e⟩:=gg e;obtain⟨z,hz,e⟩:=gg e;obtain⟨rfl,rfl⟩:=gK e;refine⟨δ,T,o1,δ1,E,h1,fun v H1 P1=>⟨δ1,yE T o1 v,o2,δ2,P1.er E,h2,fun u H2 P2=>?_⟩⟩;have B:=Ops.cons E P1 (Ops.cons (P1.er E) P2 (Ops.nil (P2.er (P1.er E))));exact⟨i,gS (B.view (j:=1) rfl rfl hi),_,x,z,fun p hp=>B.np hp,B.view (j:=0) rfl rfl hx,hz,B.done k⟩
  ·cases e
theorem LR(ha:PO X a fa)(hl:PO X hi fh):PX X (.Subscript a (.Slice none (some hi) none p2) pos) (ng fa fh):=
 PX.imp (Cp Qb ha F1 (F0 hl)) fun σ H Q hw=>by
  obtain⟨δ,T,rr,δ',E,e,k⟩:=hw;unfold ng at e;obtain⟨⟨o1,δ1⟩,h1,e⟩:=gg e;obtain⟨⟨o2,δ2⟩,h2,e⟩:=gg e;dsimp only at e;split at e
  ·rename_i i hi;obtain⟨x,hx,e⟩:=gg e;obtain⟨z,hz,e⟩:=gg e;obtain⟨rfl,rfl⟩:=gK e;refine⟨δ,T,o1,δ1,E,h1,fun v H1 P1=>⟨δ1,yE T o1 v,o2,δ2,P1.er E,h2,fun u H2 P2=>?_⟩⟩;have B:=Ops.cons E P1 (Ops.cons (P1.er E) P2 (Ops.nil (P2.er (P1.er E))));exact⟨i,gS (B.view (j:=1) rfl rfl hi),_,x,z,fun p hp=>B.np hp,B.view (j:=0) rfl rfl hx,hz,B.done k⟩
  ·cases e
end
end PX
namespace L2
open PySem PySem.Spec PyProof.Rows
section
variable {X:Cx}
end
end L2
namespace PX
open PySem PySem.Spec PyProof.Rows L2 PySem.SeqAt
section
variable {K:gL}{A:jb}{d:gn}{T:AP'}{σ σ1:L2.St}{δ δ1:Dn}{acc:List D}{H H1:Hp}
end
section
variable {X:Cx}{A:jb}{d:gn}{elt:gC}{f:F}
end
section
variable {X:Cx}{elt:gC}{c:nN}{gJ:pv}{scope:jD}{pos pos' p:Pos}{N':iw}{caps:iA}{k:Nat}{fi:FIt}{tg:Tg}{ti:FT}{fb:FB}
end
end PX
namespace HT
open PySem PySem.Spec PyProof.Rows L2
section
variable {prog:gP}{w:gH}{A:gM}{E:hG}{s:gr}
theorem Ft(n:Nat):Builtin.Slice.sliceAdjust none none (-1) (n:Int)=((n:Int)-1, -1):=by
 unfold Builtin.Slice.sliceAdjust;rfl
theorem Eu(n:Nat):Builtin.Slice.slicePlaces ((n:Int)-1) (-1) (-1)=n:=by
 unfold Builtin.Slice.slicePlaces;rw[gv (by decide)];by_cases h:n=0
 ·subst h;rfl
 ·rw[gu (by omega)];simp only[Int.neg_neg,Int.ediv_one];omega
theorem KC{α β:Type}{f:α->Option β}{g:α->β}: ∀{l:List α},(∀m∈l,f m=some (g m))->l.filterMap f=l.map g
 |[],_=>rfl
 |x::l,h=>by rw[List.filterMap_cons_some (h x (iR ..)),iQ,KC fun m hm=>h m (iT _ hm)]
theorem JI(xs:jS):((List.range xs.size).filterMap fun(m:Nat)=>xs[((xs.size:Int)-1+(m:Int)*(-1)).toNat]?).toArray=xs.toList.reverse.toArray:=by
 congr 1
 have e:(List.range xs.size).filterMap (fun(m:Nat)=>xs[((xs.size:Int)-1+(m:Int)*(-1)).toNat]?)=(List.range xs.size).map fun m=>xs.toList.reverse.getD m .none:=by
  refine KC fun m hm=>?_;have hm:=uH.1 hm;have:((xs.size:Int)-1+(m:Int)*(-1)).toNat=xs.size-1-m:=by omega
  rw[this];have h2:xs.size-1-m<xs.size:=by omega
  simp[hm,h2,List.getElem_reverse]
 rw[e];apply wH;intro i;by_cases hi:i<xs.size
 ·simp[hi]
 ·simp[hi]
theorem vf{sl:gn}{t:Tok}{n:Nat}{Q:Int×Int×Nat->Shared->Prop}(hs:s.heap.IsSliceOf sl .none .none (.int (-1) t))
  (h:Q ((n:Int)-1, -1,n) s):wpAny (model prog w) A (Builtin.Slice.sliceApplied (.ref sl) (pure (n:Int))) Q E s:=by
 obtain⟨os,y3,bx,aF⟩:=id hs;unfold Builtin.Slice.sliceApplied Builtin.Slice.sliceFields;refine gi (gi (lu y3 aF (x:= .none) rfl (gi (lu y3 aF (x:= .none) rfl (gi (lu y3 aF (x:= .int (-1) t) rfl (gw ?_)))))));refine gi (slicePart_int ?_);show wpAny _ _ (if((-1:Int)==0)=true then _ else _) _ _ s;rw[gv (by decide)];refine gi (AD (gi (AD (gi (gw ?_)))));show wpAny _ _ (match Builtin.Slice.sliceAdjust none none (-1) (n:Int) with|(lo,hi)=>pure (lo,(-1:Int),Builtin.Slice.slicePlaces lo hi (-1))) _ _ s;rw[Ft n];show wpAny _ _ (pure ((n:Int)-1,(-1:Int),Builtin.Slice.slicePlaces ((n:Int)-1) (-1) (-1))) _ _ s;rw[Eu];exact gw h
theorem EU(ht:IsTup s.heap t items)(hs:s.heap.IsSliceOf sl .none .none (.int (-1) u))
  (h:Q (.ref s.heap.objs.size) {s with heap:=s.heap.push {cls:= .type "tuple",data:= .seq items.toList.reverse.toArray}})
  (hsz:items.size<=sizeLine):wpAny (model prog w) A (getItem (.ref t) (.ref sl)) Q E s:=by
 have l7:sizeOk (.seq items.toList.reverse.toArray):=by
  show items.toList.reverse.toArray.size<=sizeLine;rw[hZ,Ic,iY];exact hsz
 obtain⟨os,y3,bx,aF⟩:=id hs;have dP:s.TypeIs (.ref sl) "slice":=⟨os,y3,bx⟩
 unfold getItem
 try with_reducible refine lR ?_
 first|refine gi (gw ?_)|skip
 refine gi (D0 ht.typeIs (by decide) ?_)
 refine gi (pG (name:=Str.ofString "__getitem__") ht.typeIs wz
  (mq wz ht.typeIs DZ ?_ (DY _ _)))
 show wpAny _ _ (Builtin.Tuple.tupleItemsOf (.ref t)>>=_) _ _ s;refine gi (DX ht ?_);refine gi (rq dP ?_);rw[gu (by decide)];refine gi (vf hs ?_);show wpAny _ _ (if((((items.size:Int)-1)==0&&(-1:Int)==1&&items.size==items.size)=true) then _ else _) _ _ s;rw[gv (by simp),JI]
 first
  |exact gi (m:=Builtin.Tuple.tupleExact _) (kE (gw ⟨_,rfl,gw h⟩) l7)
  |exact gi (m:=Builtin.Tuple.tupleExact _) (kE (gi (gw (gw ⟨_,rfl,gw h⟩))) l7)
  |exact gi (gi (m:=Builtin.Tuple.tupleExact _) (kE (gw (gw ⟨_,rfl,gw h⟩)) l7))
  |exact gi (gi (m:=Builtin.Tuple.tupleExact _) (kE (gw ⟨_,rfl,gw h⟩) l7))
end
end HT
namespace L2
open PySem PySem.Spec PyProof.Rows
section
variable {X:Cx}{e st:gC}{te ts:TE}{pos p2:Pos}
def RN(K:gL)(te ts:TE):TE:=fun σ H Q=>te σ H fun x H1=>ts σ H1 fun y H2=>y= .int (-1)/\ ∃a xs,x= .ref a/\SqT K H2 a xs/\ ∀p,H2 p=none->Q (.ref p) (upd H2 p (.tup xs.reverse))
theorem Co(he:PE X e te)(p9:PE X st ts):PE X (.Subscript e (.Slice none none (some st) p2) pos) (RN X.K te ts):=by
 intro pins s σ H Q I h;refine Subscript_ (thn (he pins s σ H _ I h) fun v s1 ⟨x,H1,I1,r1,q1⟩=>?_);refine wpAny_Slice ?_;rw[DV];refine gw (gw ?_);rw[evalPart_some];refine thn (p9 pins s1 σ H1 _ I1 q1) fun u s3 ⟨y,H3,I3,ry,ey,a,xs,ex,hx,q⟩=>?_;subst ey ex;obtain⟨t,rfl⟩:=ry;cases r1;have I4:Inv X pins σ H3 {s3 with heap:=s3.heap.push {cls:= .type "slice",data:= .fields #[.none,.none,.int (-1) t]}}:=I3.kept (t':=s3.toks) fun b ob q=>ig _ q;obtain⟨b6,r,ht,hz⟩:=I4.tuple hx;have hlen:b6.toArray.size=xs.length:=by rw[hZ];exact r.length.symm
 show wpAny (model X.prog X.w) X.A (subscriptTail e (.Slice none none (some st) p2) (.ref a) (.ref s3.heap.objs.size)) (EP X pins σ Q) X.xe {s3 with heap:=s3.heap.push {cls:= .type "slice",data:= .fields #[.none,.none,.int (-1) t]}};refine tail_any (ops:=[.ref a,.ref s3.heap.objs.size]) ht.typeIs wz.lookup (HT.EU ht (Heap.IsSliceOf.new ..) ?_ (by rw[hlen];exact hz)) (by with_unfolding_all rfl);refine⟨.ref _,_,I4.laid (t':=s3.toks) (o:= .tup xs.reverse) (fun b ob q=>ig _ q) (hU _) ?_,rfl,q _ (I4.hok.fresh (hU _))⟩;exact⟨by rw[Ic];exact hz,_,r.reverse,wN _ _⟩
end
end L2
namespace PX
open PySem PySem.Spec PyProof.Rows L2 PySem.SeqAt
def Q1:D->Option (D×Bool)
 | .tup l=>some (.tup l.reverse,false)
 |_=>none
theorem RepL.reverse{K H}{O:AP'}: ∀{l:List D} {vs:List V},RepL K H O l vs->RepL K H O l.reverse vs.reverse
 |[],vs,h=>by rw[RepL] at h;subst h;exact RepL.nil
 |d::l,vs,h=>by
  rw[RepL] at h;obtain⟨v,r,rfl,h1,h2⟩:=h;rw[AB,AB];exact(RepL.reverse h2).append (RepL.one h1)
def KH(fa fs:FO):F:=fun δ=>(fa δ).bind fun p=>(fs p.2).bind fun q=>match res q.2 q.1 with
 |some (.int i)=>if i= -1 then(res q.2 p.1).bind fun x=>(Q1 x).bind fun z=>some (z,q.2) else none
 |_=>none
section
variable {X:Cx}{a st:gC}{fa fs:FO}{pos p2:Pos}
theorem NZ(ha:PO X a fa)(hs:PO X st fs):PX X (.Subscript a (.Slice none none (some st) p2) pos) (KH fa fs):=
 PX.imp (Co ha hs) fun σ H Q hw=>by
  obtain⟨δ,T,rr,δ',E,e,k⟩:=hw;unfold KH at e;obtain⟨⟨o1,δ1⟩,h1,e⟩:=gg e;obtain⟨⟨o2,δ2⟩,h2,e⟩:=gg e;dsimp only at e;split at e
  ·rename_i i hi;split at e
   case isFalse=>cases e
   rename_i hi1;subst hi1;obtain⟨x,hx,e⟩:=gg e;obtain⟨z,hz,e⟩:=gg e;obtain⟨rfl,rfl⟩:=gK e;refine⟨δ,T,o1,δ1,E,h1,fun v H1 P1=>⟨δ1,yE T o1 v,o2,δ2,P1.er E,h2,fun u H2 P2=>?_⟩⟩;have B:=Ops.cons E P1 (Ops.cons (P1.er E) P2 (Ops.nil (P2.er (P1.er E))));have hv:=B.view (j:=0) rfl rfl hx;refine⟨gS (B.view (j:=1) rfl rfl hi),?_⟩
   cases x with
   |tup l=>
    cases hz;rcases hv with hv|⟨_,_,hv⟩
    ·obtain⟨p,xs,rfl,q,r⟩:=hv.tup;exact⟨p,xs,rfl,q.sq,fun p' hp=>(B.done k).tup hp (B.np hp) r.reverse⟩
    ·exact hv.elim
   |_=>cases hz
  ·cases e
end
section
variable {es:jl}{env:Env}
end
end PX
namespace TT
open PySem
def S:Nat->Nat
 |0=>0
 |n+1=>5*S n+1
theorem GH(m:Nat): ∀n:Nat,S (m+n)=5^n*S m+S n
 |0=>by simp[S]
 |n+1=>by
  rw[<-Nat.add_assoc,S,GH m n,S,rd,rS,<-oB,uL 5 (5^n)];lia
theorem yd: ∀n:Nat,∃c,5^n=4*c+1
 |0=>⟨0,rfl⟩
 |n+1=>by
  obtain⟨c,e⟩:=yd n;exact⟨5*c+1,by rw[rd,e];lia⟩
theorem Lj: ∀k:Nat,∃c,S (2^k)=2^k*(2*c+1)
 |0=>⟨0,rfl⟩
 |k+1=>by
  obtain⟨c,e⟩:=Lj k;obtain⟨d,f⟩:=yd (2^k)
  have h:S (2^(k+1))=(5^2^k+1)*S (2^k):=by
   rw[rd,Nat.mul_two,GH,Nat.add_mul,DE]
  refine⟨2*(d*c)+d+c,?_⟩;rw[h,f,e,rd];have:4*d+1+1=2*(2*d+1):=by lia
  rw[this,oB 2,uL (2*d+1),oB (2^k),oB (2^k),<-oB 2 (2^k),uL 2 (2^k),oB (2^k) 2]
  congr 2
  rw[Nat.add_mul,rS,DE,uK,oB 2 c,Aj c 2 d,uL c d]
  lia
theorem Lk(k n:Nat):S (2^k+n)%2^k=S n%2^k:=by
 obtain⟨c,e⟩:=Lj k;rw[GH,e,Aj,Nat.mul_add_mod]
theorem Bz: ∀(k e:Nat),e<2^k-> ∃n,n<2^k/\S n%2^k=e
 |0,e,h=>⟨0,by simp,by simp at h;subst h;rfl⟩
 |k+1,e,h=>by
  have hP:0<2^k:=Nat.two_pow_pos k;obtain⟨n,hn,hs⟩:=Bz k (e%2^k) (uJ _ hP);obtain⟨c,e1⟩:=Lj k;obtain⟨d,e2⟩:=yd n
  have h2:S (2^k+n)=2^(k+1)*(4*d*c+2*d+c)+2^k+S n:=by
   rw[GH,e1,e2,rd,Aj,oB (2^k) 2]
   have:(4*d+1)*(2*c+1)=2*(4*d*c+2*d+c)+1:=by
    rw[Nat.add_mul,rS,DE,uK,Aj (4*d) 2 c];lia
   rw[this,rS,uK]
  rw[rd] at h h2 ⊢;generalize 2^k=P at*;have d1:=Nat.div_add_mod (S n) P;have d2:=Nat.div_add_mod e P;rw[hs] at d1;have hq:e / P<2:=Nat.div_lt_of_lt_mul (by rw[uL] at h;lia)
  have mk: ∀a q x,a=P*2*q+x->x<P*2->a%(P*2)=x:=fun a q x h1 h2=>by
   rw[h1,Nat.mul_add_mod,Nat.mod_eq_of_lt h2]
  have hm:=uJ e hP;have q2:S n / P=2*(S n / P / 2)+S n / P%2:=by lia
  have sn:S n=P*2*(S n / P / 2)+(P*(S n / P%2)+e%P):=by
   rw[oB,<-Nat.add_assoc,<-rS,<-q2];exact d1.symm
  generalize S n / P / 2=q at sn;have r2:S n / P%2<2:=uJ _ (by decide);generalize S n / P%2=r at sn r2;generalize e / P=f at*;by_cases hr:r=f
  ·exact⟨n,by lia,mk _ q _ (by rw[sn,hr,d2]) h⟩
  ·refine⟨P+n,by lia,mk _ (4*d*c+2*d+c+q+r) _ ?_ h⟩;rw[h2,sn,rS (P*2) _ r,rS (P*2) _ q];rcases(show r=0\/r=1 by lia) with rfl|rfl
   ·have:f=1:=by lia
    subst this;rw[DD,DD];rw[uK] at d2;lia
   ·have:f=0:=by lia
    subst this;rw[uK,uK];rw[DD] at d2;lia
def ls(mask:Nat)(h:Int):Nat->Nat×Nat
 |0=>(SetTable.bits h%(mask+1),SetTable.bits h)
 |k+1=>SetTable.leap mask (ls mask h k).1 (ls mask h k).2
theorem MQ(h:Int):SetTable.bits h<2^64:=by
 unfold SetTable.bits;have:=DC h (show(0:Int)<2^64 by decide);have:=DA h (show(2^64:Int)≠0 by decide)
 lia
theorem Ga(mask:Nat)(h:Int): ∀k,(ls mask h k).1<=mask
 |0=>by have:=uJ (SetTable.bits h) (show 0<mask+1 by lia);show _%(mask+1)<=_;lia
 |k+1=>by
  show(_%(mask+1))<=_;have:=uJ ((ls mask h k).1*5+1+(ls mask h k).2 / 32) (show 0<mask+1 by lia);lia
theorem F9(mask:Nat)(h:Int): ∀k,(ls mask h k).2=SetTable.bits h / 32^k
 |0=>by simp[ls]
 |k+1=>by
  show(ls mask h k).2 / 32=_;rw[F9 mask h k,rd,Nat.div_div_eq_div_mul]
theorem MB(mask:Nat)(h:Int)(k:Nat)(hk:13<=k):(ls mask h k).2=0:=by
 rw[F9];refine Nat.div_eq_of_lt (mw (MQ h) ?_);exact kM (show 2^64<=32^13 by decide) (wC (by decide) hk)
theorem Kd(mask:Nat)(h:Int)(m:Nat)(h0:(ls mask h 13).1=S m%(mask+1)): ∀n,(ls mask h (13+n)).1=S (m+n)%(mask+1)
 |0=>h0
 |n+1=>by
  show(((ls mask h (13+n)).1*5+1+(ls mask h (13+n)).2 / 32)%(mask+1))=_;rw[MB mask h _ (by lia),Kd mask h m h0 n,Nat.zero_div,DI,<-Nat.add_assoc m n 1,S,Nat.add_mod,Nat.mod_mul_mod,<-Nat.add_mod,uL 5]
theorem CC(hk:mask+1=2^k)(h:Int)(he:e<=mask): ∃n,n<mask+14/\(ls mask h n).1=e:=by
 have hl:=Ga mask h 13;obtain⟨m,hm,em⟩:=Bz k (ls mask h 13).1 (by lia);obtain⟨q,hq,eq⟩:=Bz k e (by lia);rw[<-hk] at em eq hm hq;have far:=Kd mask h m em.symm;by_cases hqm:m<=q
 ·exact⟨13+(q-m),by lia,by rw[far,show m+(q-m)=q by lia];exact eq⟩
 ·refine⟨13+(q+(mask+1)-m),by lia,?_⟩;rw[far,show m+(q+(mask+1)-m)=2^k+q by lia,hk,Lk,<-hk];exact eq
theorem El(mask i:Nat)(h:i<=mask):i<=SetTable.runEnd mask i/\SetTable.runEnd mask i<=mask/\SetTable.runEnd mask i<=i+9:=by
 unfold SetTable.runEnd;split<;>lia
def tm(mask:Nat)(h:Int):Nat->Nat
 |0=>0
 |k+1=>tm mask h k+(SetTable.runEnd mask (ls mask h k).1-(ls mask h k).1)+1
theorem M5(mask:Nat)(h:Int): ∀k,tm mask h k<=10*k
 |0=>hU _
 |k+1=>by
  have:=M5 mask h k;have:=El mask _ (Ga mask h k);unfold tm;lia
def at_(mask:Nat)(h:Int)(k t:Nat):SetTable.Probe:=⟨(ls mask h k).1+t,SetTable.runEnd mask (ls mask h k).1-(ls mask h k).1-t,(ls mask h k).1,(ls mask h k).2,none⟩
theorem sG(mask:Nat)(h:Int): ∀k t,t<=SetTable.runEnd mask (ls mask h k).1-(ls mask h k).1->pr mask h (tm mask h k+t)=at_ mask h k t
 |0,0,_=>rfl
 |k+1,0,_=>by
  have e:=sG mask h k (SetTable.runEnd mask (ls mask h k).1-(ls mask h k).1) (hU _);show adv mask (pr mask h (tm mask h k+(SetTable.runEnd mask (ls mask h k).1-(ls mask h k).1)))=_;rw[e];unfold adv at_;simp only[Nat.sub_self,nV,iP,gt_iff_lt];rfl
 |k,t+1,ht=>by
  have e:=sG mask h k t (by lia);show adv mask (pr mask h (tm mask h k+t))=_;rw[e];unfold adv at_;rw[gu (show SetTable.runEnd mask (ls mask h k).1-(ls mask h k).1-t>0 by lia)];simp only[SetTable.Probe.mk.injEq,and_true,true_and]
  lia
theorem JD(hk:mask+1=2^k)(h:Int)(he:e<=mask): ∃n,n<10*(mask+14)/\(pr mask h n).j=e:=by
 obtain⟨r,hr,er⟩:=CC hk h he;have:=M5 mask h r;refine⟨tm mask h r,by lia,?_⟩;have:=sG mask h r 0 (lr _);rw[DI] at this;rw[this];exact er
theorem JC(mask:Nat)(h:Int): ∀n,(pr mask h n).dummy=none
 |0=>rfl
 |n+1=>by
  show(adv mask (pr mask h n)).dummy=none;unfold adv;split<;>exact JC mask h n
theorem Cn(mask:Nat)(h:Int): ∀n,∃k t,n=tm mask h k+t/\t<=SetTable.runEnd mask (ls mask h k).1-(ls mask h k).1
 |0=>⟨0,0,rfl,lr _⟩
 |n+1=>by
  obtain⟨k,t,e,ht⟩:=Cn mask h n;by_cases hq:t+1<=SetTable.runEnd mask (ls mask h k).1-(ls mask h k).1
  ·exact⟨k,t+1,by lia,hq⟩
  ·exact⟨k+1,0,by unfold tm;lia,lr _⟩
theorem JB(mask:Nat)(h:Int)(n:Nat):(pr mask h n).j<=mask:=by
 obtain⟨k,t,e,ht⟩:=Cn mask h n;rw[e,sG mask h k t ht];have:=El mask _ (Ga mask h k);show(ls mask h k).1+t<=mask;lia
theorem AX{xs:jz}(hr:xs.toList.Pairwise (· < ·)){i j:Nat}{a b:Nat}(r6:i<j)(h1:xs[i]?=some a)(h2:xs[j]?=some b):a<b:=by
 rw[<-kD] at h1 h2;obtain⟨hi,rfl⟩:=uI.mp h1;obtain⟨hj,rfl⟩:=uI.mp h2;exact FC.mp hr i j hi hj r6
theorem yt{xs:jz}(hr:xs.toList.Pairwise (· < ·))(j:Nat): ∀(fuel lo hi:Nat),lo<=hi->hi<=xs.size->hi-lo<=fuel->
  (∀i a,i<lo->xs[i]?=some a->a<j)->(∀i a,hi<=i->xs[i]?=some a->j<=a)->
  let p:=SetTable.below.go xs j fuel lo hi
  p<=xs.size/\(∀i a,i<p->xs[i]?=some a->a<j)/\(∀i a,p<=i->xs[i]?=some a->j<=a)
 |0,lo,hi,h1,h2,h3,h4,h5=>by
  have:lo=hi:=by omega
  subst this;exact⟨h2,h4,h5⟩
 |fuel+1,lo,hi,h1,h2,h3,h4,h5=>by
  unfold SetTable.below.go;by_cases j7:lo<hi
  ·rw[gu j7];have hm:(lo+hi) / 2<xs.size:=by omega
   have hg:xs[(lo+hi) / 2]?=some xs[(lo+hi) / 2]:=mn hm;have hd:xs.getD ((lo+hi) / 2) j=xs[(lo+hi) / 2]:=by simp[Array.getD,hm]
   dsimp only;rw[hd];by_cases hc:xs[(lo+hi) / 2]<j
   ·rw[gu hc];refine yt hr j fuel ((lo+hi) / 2+1) hi (by omega) h2 (by omega) (fun i a da ha=>?_) h5;by_cases e:i=(lo+hi) / 2
    ·subst e;rw[hg] at ha;cases ha;exact hc
    ·exact Nat.lt_trans (AX hr (by omega) ha hg) hc
   ·rw[gv hc];refine yt hr j fuel lo ((lo+hi) / 2) (by omega) (by omega) (by omega) h4 (fun i a da ha=>?_);by_cases e:i=(lo+hi) / 2
    ·subst e;rw[hg] at ha;cases ha;omega
    ·have:=AX hr (show(lo+hi) / 2<i by omega) hg ha;omega
  ·rw[gv j7];have:lo=hi:=by omega
   subst this;exact⟨h2,h4,h5⟩
theorem ni{xs:jz}(hr:xs.toList.Pairwise (· < ·))(j:Nat):SetTable.below xs j<=xs.size/\(∀i a,i<SetTable.below xs j->xs[i]?=some a->a<j)/\(∀i a,SetTable.below xs j<=i->xs[i]?=some a->j<=a):=
 yt hr j xs.size 0 xs.size (lr _) (hU _) (by omega) (fun i a h=>by omega) (fun i a h1 h2=>by
  have:=(Lp.mp h2).1;omega)
theorem yu{xs:jz}(hr:xs.toList.Pairwise (· < ·)){i j:Nat}(h:xs[i]?=some j):SetTable.below xs j=i:=by
 obtain⟨h1,h2,h3⟩:=ni hr j;by_cases hl:i<SetTable.below xs j
 ·exact absurd (h2 i j hl h) (nV _)
 ·by_cases hg:SetTable.below xs j<i
  ·have hi:=(Lp.mp h).1;have hb:xs[SetTable.below xs j]?=some xs[SetTable.below xs j]:=mn (by omega);have:=h3 _ _ (hU _) hb;have:=AX hr hg hb h;omega
  ·omega
theorem Bi(j:Nat):SetTable.has #[] j=false:=rfl
theorem nZ{t:kA}(hr:t.place.toList.Pairwise (· < ·)){i j:Nat}(h:t.place[i]?=some j):t.slot j= .live i:=by
 unfold SetTable.slot;dsimp only;rw[yu hr h,h];simp
theorem Ei{t:kA}(hd:t.dummies= #[]){j:Nat}(h:j∉t.place.toList):t.slot j= .empty:=by
 unfold SetTable.slot;dsimp only
 have:(t.place[SetTable.below t.place j]?==some j)=false:=by
  rw[yG];intro e;rw[<-kD] at e;exact h (lQ e)
 rw[this,hd,Bi];rfl
theorem Ld(t:kA)(p:SetTable.Probe):t.advance p=adv t.mask p:=by
 unfold SetTable.advance adv;split<;>rfl
theorem Cm{hs:gU}{t:kA}(ok:TabOk hs t)(hashAt:Nat->Int)(h:Int): ∀(fuel n:Nat),(∃M,n<=M/\M<n+fuel/\(pr t.mask h M).j∉t.place.toList)->
    ∃m,n<=m/\(∀q,n<=q->q<m-> ∃i,t.place[i]?=some (pr t.mask h q).j/\hashAt i≠h)/\
      (((pr t.mask h m).j∉t.place.toList/\SetTable.probe.go t hashAt h fuel (pr t.mask h n)=some (.empty (pr t.mask h m).j none))\/
       (∃i,t.place[i]?=some (pr t.mask h m).j/\hashAt i=h/\SetTable.probe.go t hashAt h fuel (pr t.mask h n)=some (.candidate (pr t.mask h m).j i (pr t.mask h (m+1)))))
  |0,n,⟨M,h1,h2,h3⟩=>by omega
  |fuel+1,n,⟨M,h1,h2,h3⟩=>by
    unfold SetTable.probe.go;by_cases hm:(pr t.mask h n).j∈t.place.toList
    · obtain⟨i,hi⟩:=tu hm
      rw[kD] at hi;rw[nZ ok.ris hi];dsimp only;by_cases hh:hashAt i=h
      · refine⟨n,hU _,fun q h1 h2=>by omega,.inr ⟨i,hi,hh,?_⟩⟩
        rw[gu (by simpa using hh),Ld];rfl
      · rw[gv (by simpa using hh),Ld]
        have hn:M≠n:=fun e=>h3 (e▸hm);obtain⟨m,g1,g2,g3⟩:=Cm ok hashAt h fuel (n+1) ⟨M,by omega,by omega,h3⟩;refine⟨m,by omega,fun q k1 k2=>?_,g3⟩;by_cases e:q=n
        · subst e;exact⟨i,hi,hh⟩
        · exact g2 q (by omega) k2
    · rw[Ei ok.dum hm]
      dsimp only;rw[JC];exact⟨n,hU _,fun q h1 h2=>by omega,.inl ⟨hm,rfl⟩⟩
theorem xR: ∀(n:Nat) (l:iA),l.length<=n-> ∃e,e<=n/\e∉l
 |0,l,h=>⟨0,hU _,by cases l with|nil=>simp|cons _ _=>simp at h⟩
 |n+1,l,h=>by
  by_cases hm:n+1∈l
  ·obtain⟨e,h1,h2⟩:=xR n (l.erase (n+1)) (by rw[List.length_erase_of_mem hm];omega);exact⟨e,by omega,fun z=>h2 ((Ib (by omega)).mpr z)⟩
  ·exact⟨n+1,hU _,hm⟩
theorem TabOk.free(ok:TabOk hs t)(h:Int): ∃M,M<10*(t.mask+14)/\(pr t.mask h M).j∉t.place.toList:=by
 obtain⟨k,_,_,hk⟩:=ok.pow
 have h1:t.place.toList.length<=t.mask:=by
  have:=ok.len;have:=ok.room;rw[iY];omega
 obtain⟨e,he,hn⟩:=xR t.mask _ h1;obtain⟨n,h2,h3⟩:=JD hk h he;exact⟨n,h2,by rw[h3];exact hn⟩
theorem kf{α:Type}(xs:Array α)(p:Nat)(x:α):(SetTable.insertAt xs p x).toList=xs.toList.take p++x::xs.toList.drop p:=by
 unfold SetTable.insertAt;simp[Array.toList_extract,List.extract];rw[rX (by simp)]
theorem Em(hr:xs.toList.Pairwise (· < ·))(hj:j∉xs.toList):(SetTable.insertAt xs (SetTable.below xs j) j).toList.Pairwise (· < ·):=by
 obtain⟨h1,h2,h3⟩:=ni hr j;rw[kf,lE];refine⟨hr.sublist (mv _ _),?_,?_⟩
 ·rw[ph];refine⟨fun a ha=>?_,hr.sublist (nO _ _)⟩;obtain⟨i,hi⟩:=tu ha;rw[uN] at hi;have h4:=h3 _ _ (show SetTable.below xs j<=SetTable.below xs j+i by omega) (by rw[<-kD];exact hi);have:a≠j:=fun e=>hj (e▸lQ hi);omega
 ·intro a ha b hb
  have haj:a<j:=by
   obtain⟨i,hi⟩:=tu ha;rw[List.getElem?_take] at hi;split at hi
   ·rename_i j7;exact h2 i a j7 (by rw[<-kD];exact hi)
   ·cases hi
  rcases jg.mp hb with rfl|hb
  ·exact haj
  ·obtain⟨i,hi⟩:=tu hb;rw[uN] at hi;have h4:=h3 _ _ (show SetTable.below xs j<=SetTable.below xs j+i by omega) (by rw[<-kD];exact hi);omega
theorem TabOk.fresh(finger moves:Nat)(led:Bool):TabOk [] (SetTable.fresh finger moves led) where
 pow:=⟨3,by omega,by omega,rfl⟩
 dum:=rfl
 len:=rfl
 room:=by show 5*0<3*7;omega
 ris:= .nil
 bd:=fun j h=>by simp[SetTable.fresh] at h
 road:=fun i h j h1=>by simp at h1
theorem TabOk.put(ok:TabOk hs t)(he:(pr t.mask h n).j∉t.place.toList)(hb: ∀m,m<n->(pr t.mask h m).j∈t.place.toList)(hr:5*(hs.length+1)<3*t.mask)(hj:j=(pr t.mask h n).j)(hp:p=SetTable.below t.place j):
  TabOk (hs.take p++h::hs.drop p) (t.put j).1/\(t.put j).2=p:=by
 subst hj;subst hp
 have e1:(t.put (pr t.mask h n).j).1={t with place:=SetTable.insertAt t.place (SetTable.below t.place (pr t.mask h n).j) (pr t.mask h n).j,dummies:= #[]}:=by
  unfold SetTable.put;dsimp only;rw[ok.dum,Bi];rfl
 obtain⟨h1,_,_⟩:=ni ok.ris (pr t.mask h n).j;have hl:=ok.len
 have mem: ∀x,x∈t.place.toList->x∈(SetTable.insertAt t.place (SetTable.below t.place (pr t.mask h n).j) (pr t.mask h n).j).toList:=fun x hx=>by
  rw[kf];rw[<-ll (SetTable.below t.place (pr t.mask h n).j) t.place.toList] at hx;rcases mC.mp hx with hx|hx
  ·exact mC.mpr (.inl hx)
  ·exact mC.mpr (.inr (iT _ hx))
 refine⟨?_,rfl⟩;rw[e1];generalize hP:SetTable.below t.place (pr t.mask h n).j=P at*;refine⟨ok.pow,rfl,?_,?_,?_,fun x hx=>?_,fun i h' j' g1 g2=>?_⟩
 ·show(SetTable.insertAt t.place P (pr t.mask h n).j).size=_;rw[<-iY,kf];simp only[lP,jX,nS,sh,iY];omega
 ·show 5*_<3*t.mask;simp only[lP,jX,nS,sh];omega
 ·have:=Em ok.ris he;rw[hP] at this;exact this
 ·have cU:x∈(SetTable.insertAt t.place P (pr t.mask h n).j).toList:=hx;rw[kf] at cU;show x<=t.mask;rcases mC.mp cU with hx|hx
  ·exact ok.bd x (lO hx)
  ·rcases jg.mp hx with rfl|hx
   ·exact JB _ _ _
   ·exact ok.bd x (kP hx)
 ·have o6:(SetTable.insertAt t.place P (pr t.mask h n).j).toList[i]?=some j':=by rw[kD];exact g2
  rw[kf] at o6;show ∃n',(pr t.mask h' n').j=j'/\ ∀m,m<n'->(pr t.mask h' m).j∈(SetTable.insertAt t.place P (pr t.mask h n).j).toList;have eX:(t.place.toList.take P).length=P:=by rw[nS,iY];omega
  have lt2:(hs.take P).length=P:=by rw[nS];omega
  by_cases hi:i<P
  ·rw[wO (by omega),Iv hi] at g1 o6;rw[kD] at o6;obtain⟨q,q1,q2⟩:=ok.road i h' j' g1 o6;exact⟨q,q1,fun m hm=>mem _ (q2 m hm)⟩
  ·rw[uZ (by omega),eX] at o6;rw[uZ (by omega),lt2] at g1
   cases hd:i-P with
   |zero=>
    rw[hd] at g1 o6;simp at g1 o6;subst g1;subst o6;exact⟨n,rfl,fun m hm=>mem _ (hb m hm)⟩
   |succ d=>
    rw[hd] at g1 o6;simp only[wB,uN] at g1 o6;rw[kD] at o6;obtain⟨q,q1,q2⟩:=ok.road _ h' j' g1 o6;exact⟨q,q1,fun m hm=>mem _ (q2 m hm)⟩
def occ(ow:sZ)(j:Nat):Prop:= ∃i,ow.getD j none=some i
theorem Bj{ow:sZ}{j:Nat}{d:Option Nat}(h:j<ow.size):ow.getD j d=ow.getD j none:=by simp[Array.getD,h]
theorem zD{mask:Nat}{ow:sZ}(hz:ow.size=mask+1)(h:Int): ∀(fuel k:Nat),(∃r,k<=r/\r<k+fuel/\ ¬occ ow (ls mask h r).1)->(∀m,m<tm mask h k->occ ow (pr mask h m).j)->
  ∃n,SetTable.layClean.free mask ow fuel (ls mask h k).1 (ls mask h k).2=some (pr mask h n).j/\ ¬occ ow (pr mask h n).j/\ ∀m,m<n->occ ow (pr mask h m).j
 |0,k,⟨r,h1,h2,_⟩,_=>by omega
 |fuel+1,k,⟨r,h1,h2,h3⟩,hb=>by
  unfold SetTable.layClean.free;have hl:=Ga mask h k;have hrn:=El mask _ hl
  cases hf:(List.range (SetTable.runEnd mask (ls mask h k).1+1-(ls mask h k).1)).find? fun t=>(ow.getD ((ls mask h k).1+t) (some 0)).isNone with
  |some t=>
   rw[List.find?_range_eq_some] at hf;obtain⟨a1,a2,a3⟩:=hf;rw[uH] at a2;have ht:t<=SetTable.runEnd mask (ls mask h k).1-(ls mask h k).1:=by omega
   have e:=sG mask h k t ht;refine⟨tm mask h k+t,by rw[e];rfl,?_,fun m hm=>?_⟩
   ·rw[e];rintro⟨i,hi⟩;rw[Bj (by show(ls mask h k).1+t<_;omega)] at a1;have da:ow.getD ((ls mask h k).1+t) none=some i:=hi;rw[da] at a1;simp at a1
   ·by_cases j7:m<tm mask h k
    ·exact hb m j7
    ·have e2:=sG mask h k (m-tm mask h k) (by omega);rw[show tm mask h k+(m-tm mask h k)=m by omega] at e2;rw[e2];have:=a3 (m-tm mask h k) (by omega);rw[Bj (by show(ls mask h k).1+(m-tm mask h k)<_;omega)] at this;show occ ow ((ls mask h k).1+(m-tm mask h k));unfold occ
     cases hq:ow.getD ((ls mask h k).1+(m-tm mask h k)) none with
     |none=>rw[hq] at this;simp at this
     |some i=>exact⟨i,rfl⟩
  |none=>
   rw[List.find?_range_eq_none] at hf
   have all: ∀t,t<=SetTable.runEnd mask (ls mask h k).1-(ls mask h k).1->occ ow ((ls mask h k).1+t):=fun t ht=>by
    have:=hf t (by omega);rw[Bj (by omega)] at this;unfold occ
    cases hq:ow.getD ((ls mask h k).1+t) none with
    |none=>rw[hq] at this;simp at this
    |some i=>exact⟨i,rfl⟩
   have hr:r≠k:=fun e=>h3 (by subst e;have:=all 0 (lr _);simpa using this)
   have:=zD hz h fuel (k+1) ⟨r,by omega,by omega,h3⟩ (fun m hm=>by
    by_cases j7:m<tm mask h k
    ·exact hb m j7
    ·unfold tm at hm;have e2:=sG mask h k (m-tm mask h k) (by omega);rw[show tm mask h k+(m-tm mask h k)=m by omega] at e2;rw[e2];exact all _ (by omega))
   exact this
theorem yc{α β:Type}{f g:α->Option β}: ∀{l:List α},(∀x∈l,f x=g x)->l.filterMap f=l.filterMap g
 |[],_=>rfl
 |x::l,h=>by rw[tJ,tJ,h x iR,yc fun y hy=>h y (iT _ hy)]
def mY(mask:Nat)(ow:sZ):List (Nat×Nat):=(List.range (mask+1)).filterMap fun j=>(ow.getD j none).map (j,·)
theorem Lr:(j,i)∈mY mask ow↔j<=mask/\ow.getD j none=some i:=by
 unfold mY;simp only[List.mem_filterMap,uH,Option.map_eq_some_iff,Prod.mk.injEq];constructor
 ·rintro⟨a,h1,b,h2,rfl,rfl⟩;exact⟨by omega,h2⟩
 ·rintro⟨h1,h2⟩;exact⟨j,by omega,i,h2,rfl,rfl⟩
theorem Kh(mask:Nat)(ow:sZ):((mY mask ow).map (·.1)).Pairwise (· < ·):=by
 unfold mY;rw[List.map_filterMap,List.pairwise_filterMap];refine MZ.imp fun {a b} hab x hx y hy=>?_;simp only[Option.mem_def,Option.map_map,Option.map_eq_some_iff,Function.comp] at hx hy;obtain⟨_,_,rfl⟩:=hx;obtain⟨_,_,rfl⟩:=hy;exact hab
theorem Kg{mask:Nat}{ow:sZ}(hz:ow.size=mask+1){j k:Nat}(hj:j<=mask)(hn:ow.getD j none=none):(mY mask (ow.setIfInBounds j (some k))).Perm ((j,k)::mY mask ow):=by
 have g: ∀i,(ow.setIfInBounds j (some k)).getD i none=if i=j then some k else ow.getD i none:=fun i=>by
  simp only[pN,Ai];by_cases e:i=j
  ·subst e;simp[show i<ow.size by omega]
  ·rw[gv (fun z=>e z.symm),gv e]
 have split:List.range (mask+1)=List.range j++j::(List.range (mask-j)).map (fun x=>j+1+x):=by
  rw[show mask+1=j+(mask-j+1) by omega,List.range_add,List.range_succ_eq_map];simp[nR,Nat.add_assoc,Nat.add_comm 1]
 unfold mY;rw[split,Ia,Ia,tJ,tJ];simp only[g,hn,gu rfl,Option.map_none,Option.map_some]
 have a1:(List.range j).filterMap (fun i=>(if i=j then some k else ow.getD i none).map (i,·))=(List.range j).filterMap (fun i=>(ow.getD i none).map (i,·)):=
  yc fun i hi=>by rw[uH] at hi;rw[gv (by omega)]
 have a2:((List.range (mask-j)).map (fun x=>j+1+x)).filterMap (fun i=>(if i=j then some k else ow.getD i none).map (i,·))=((List.range (mask-j)).map (fun x=>j+1+x)).filterMap (fun i=>(ow.getD i none).map (i,·)):=
  yc fun i hi=>by
   obtain⟨x,_,rfl⟩:=oA.mp hi;rw[gv (by omega)]
 rw[a1,a2];exact Dq
structure LayOk(mask:Nat)(hs:gU)(ow:sZ):Prop where
 size:ow.size=mask+1
 perm:((mY mask ow).map (·.2)).Perm (List.range hs.length)
 road: ∀j i h,ow.getD j none=some i->hs[i]?=some h-> ∃n,(pr mask h n).j=j/\ ∀m,m<n->occ ow (pr mask h m).j
theorem F7(h:occ ow x):occ (ow.setIfInBounds j (some k)) x:=by
 obtain⟨i,hi⟩:=h;unfold occ;simp only[pN,Ai] at hi ⊢;by_cases e:j=x
 ·subst e;rw[gu rfl];split
  ·exact⟨k,rfl⟩
  ·rename_i hz;rw[Ah (by omega)] at hi;simp at hi
 ·rw[gv e];exact⟨i,hi⟩
theorem LayOk.step{mask k:Nat}(hk:mask+1=2^k){hs:gU}{ow:sZ}(ok:LayOk mask hs ow)(h:Int)(hr:hs.length<=mask):
  ∃j,SetTable.layClean.free mask ow (SetTable.turns mask) (SetTable.bits h%(mask+1)) (SetTable.bits h)=some j/\LayOk mask (hs++[h]) (ow.setIfInBounds j (some hs.length)):=by
 have hlen:(mY mask ow).length=hs.length:=by have:=ok.perm.length_eq;simpa using this
 obtain⟨e,he,hn⟩:=xR mask ((mY mask ow).map (·.1)) (by rw[iX];omega)
 have bU: ¬occ ow e:=by
  rintro⟨i,hi⟩;exact hn (oA.mpr ⟨(e,i),Lr.mpr ⟨he,hi⟩,rfl⟩)
 obtain⟨r,hr1,hr2⟩:=CC hk h he;obtain⟨n,f1,f2,f3⟩:=zD ok.size h (SetTable.turns mask) 0 ⟨r,lr _,by unfold SetTable.turns;omega,by rw[hr2];exact bU⟩ (fun m hm=>by simp[tm] at hm);have hj:=JB mask h n
 have aT:ow.getD (pr mask h n).j none=none:=by
  cases hq:ow.getD (pr mask h n).j none with
  |none=>rfl
  |some i=>exact absurd ⟨i,hq⟩ f2
 refine⟨_,f1,⟨by rw[Array.size_setIfInBounds];exact ok.size,?_,fun j i h' g1 g2=>?_⟩⟩
 ·refine((Kg ok.size hj aT).map _).trans ?_;rw[iQ,lP,wM,List.range_succ];exact(List.Perm.cons _ ok.perm).trans (H9 _ _).symm
 ·by_cases hjj:j=(pr mask h n).j
  ·subst hjj
   have:i=hs.length:=by
    simp only[pN,Ai,gu rfl] at g1;rw[gu True.intro,gu (by rw[ok.size];omega)] at g1;exact(iE g1).symm
   subst this;rw[uZ (hU _)] at g2;simp at g2;subst g2;exact⟨n,rfl,fun m hm=>F7 (f3 m hm)⟩
  ·have aH:ow.getD j none=some i:=by
    simp only[pN,Ai] at g1 ⊢;rw[gv (fun z=>hjj z.symm)] at g1;exact g1
   have hi:i<hs.length:=by
    have hjm:j<=mask:=by
     by_cases q:j<ow.size
     ·have:=ok.size;omega
     ·rw[pN,Ah (by omega)] at aH;simp at aH
    have:=ok.perm.mem_iff.mp (oA.mpr ⟨(j,i),Lr.mpr ⟨hjm,aH⟩,rfl⟩);exact uH.mp this
   rw[wO hi] at g2;obtain⟨q,q1,q2⟩:=ok.road j i h' aH g2;exact⟨q,q1,fun m hm=>F7 (q2 m hm)⟩
theorem LayOk.start(mask:Nat):LayOk mask [] (Array.replicate (mask+1) none) where
 size:=by simp
 perm:=by
  have:mY mask (Array.replicate (mask+1) none)=[]:=by
   unfold mY;refine List.filterMap_eq_nil_iff.mpr fun j hj=>?_;rw[pN,HZ];split<;>rfl
  rw[this];exact rY _
 road:=fun j i h h1=>by
  rw[pN,HZ] at h1;split at h1<;>cases h1
def uh(mask:Nat)(acc:Option (Array (Option Nat)×Nat))(h:Int):Option (Array (Option Nat)×Nat):=do
 let(owner,k) <-acc
 let j <-SetTable.layClean.free mask owner (SetTable.turns mask) (SetTable.bits h%(mask+1)) (SetTable.bits h)
 pure (owner.setIfInBounds j (some k),k+1)
theorem CG{mask k:Nat}(hk:mask+1=2^k): ∀(l hs:gU) (ow:sZ),LayOk mask hs ow->hs.length+l.length<=mask+1->
  ∃ei,l.foldl (uh mask) (some (ow,hs.length))=some (ei,hs.length+l.length)/\LayOk mask (hs++l) ei
 |[],hs,ow,ok,_=>⟨ow,rfl,by rw[tH];exact ok⟩
 |h::l,hs,ow,ok,hl=>by
  rw[jX] at hl;obtain⟨j,e,ok'⟩:=ok.step hk h (by omega);obtain⟨ei,e',ok''⟩:=CG hk l (hs++[h]) _ ok' (by rw[lP,wM];omega);refine⟨ei,?_,by rw[jW] at ok'';exact ok''⟩;rw[rV]
  have:uh mask (some (ow,hs.length)) h=some (ow.setIfInBounds j (some hs.length),hs.length+1):=by
   unfold uh;show(SetTable.layClean.free mask ow (SetTable.turns mask) (SetTable.bits h%(mask+1)) (SetTable.bits h)>>=_)=_;rw[e];rfl
  rw[this];rw[lP,wM] at e';rw[e',jX]
  congr 2;omega
theorem CH(hk:mask+1=2^k)(hs:gU)(hl:hs.length<=mask): ∃ow,SetTable.layClean mask hs.toArray=some ow/\LayOk mask hs ow:=by
 obtain⟨ow,e,ok⟩:=CG hk hs [] _ (LayOk.start mask) (by simp;omega);refine⟨ow,?_,by simpa using ok⟩;unfold SetTable.layClean;rw[<-Array.foldl_toList];show Option.map _ (List.foldl (uh mask) _ hs)=_;have e':List.foldl (uh mask) (some (Array.replicate (mask+1) none,0)) hs=some (ow,hs.length):=by simpa using e
 rw[e'];rfl
theorem MC(hk:mask+1=2^k)(h3:3<=k)(h11:k<=11)(finger moves:Nat)(led plain:Bool)(hs:gU)(hl:5*hs.length<3*mask):
  ∃t order,SetTable.laid mask finger moves led plain hs.toArray=some (t,order)/\order.toList.Perm (List.range hs.length)/\TabOk (order.toList.map fun i=>hs.getD i 0) t/\t.plain=plain/\t.led=led:=by
 obtain⟨ow,e,ok⟩:=CH hk hs (by omega);refine⟨{mask,place:=((mY mask ow).map (·.1)).toArray,dummies:= #[],finger,led,moves,plain},((mY mask ow).map (·.2)).toArray,?_,by simpa using ok.perm,?_,rfl,rfl⟩
 ·unfold SetTable.laid;rw[e];rfl
 ·have hlen:(mY mask ow).length=hs.length:=by have:=ok.perm.length_eq;simpa using this
  refine⟨⟨k,h3,h11,hk⟩,rfl,by simp,by simp[hlen];omega,by simpa using Kh mask ow,fun j hj=>?_,fun i h j g1 g2=>?_⟩
  ·have fI:j∈(mY mask ow).map (·.1):=by simpa using hj
   obtain⟨⟨a,b⟩,hm,rfl⟩:=oA.mp fI;exact(Lr.mp hm).1
  ·have aH:((mY mask ow).map (·.2)).map (fun i=>hs.getD i 0)=(((mY mask ow).map (·.2)).toArray).toList.map fun i=>hs.getD i 0:=by simp
   rw[<-aH,kF,kF] at g1;have o6:((mY mask ow).map (·.1))[i]?=some j:=by simpa using g2
   rw[kF] at o6
   cases hq:(mY mask ow)[i]? with
   |none=>rw[hq] at o6;cases o6
   |some p=>
    obtain⟨a,b⟩:=p;rw[hq] at g1 o6;simp at g1 o6;subst o6;have hm:=Lr.mp (lQ hq)
    have hb:b<hs.length:=by
     have:=ok.perm.mem_iff.mp (oA.mpr ⟨(a,b),lQ hq,rfl⟩);exact uH.mp this
    have hh:hs[b]?=some h:=by rw[iO hb] at g1 ⊢;simpa using g1
    obtain⟨n,q1,q2⟩:=ok.road a b h hm.2 hh;refine⟨n,q1,fun m hm'=>?_⟩;obtain⟨i',da⟩:=q2 m hm';show(pr mask h m).j∈(((mY mask ow).map (·.1)).toArray).toList;have:(pr mask h m).j∈(mY mask ow).map (·.1):=oA.mpr ⟨(_,i'),Lr.mpr ⟨JB mask h m,da⟩,rfl⟩;simpa using this
theorem AQ: ∀n,n<2048-> ∃k,3<=k/\k<=11/\SetTable.sizeAbove n=2^k/\n<2^k:=by
 intro n hn
 have step: ∀(f k:Nat),3<=k->k<=11->11<k+f-> ∃k',3<=k'/\k'<=11/\SetTable.sizeAbove.go n f (2^k)=2^k'/\n<2^k':=by
  intro f
  induction f with
  |zero=>intro k h1 h2 h3;omega
  |succ f ih=>
   intro k h1 h2 h3;unfold SetTable.sizeAbove.go;by_cases hle:2^k<=n
   ·rw[gu hle,<-rd];have:k≠11:=fun e=>by subst e;omega
    exact ih (k+1) (by omega) (by omega) (by omega)
   ·rw[gv hle];exact⟨k,h1,h2,rfl,by omega⟩
 exact step 64 3 (by omega) (by omega) (by omega)
open PyProof.Rows PySem.SeqAt
theorem G6{hs:gU}{t:kA}(ok:TabOk hs t){hashAt:Nat->Int}{h:Int}{p:SetTable.Probe}{n:Nat}(hp:p=pr t.mask h n)(hn: ∀m,m<n->(pr t.mask h m).j∈t.place.toList):
    ∃m,n<=m/\m<10*(t.mask+14)/\(∀q,n<=q->q<m-> ∃i,t.place[i]?=some (pr t.mask h q).j/\hashAt i≠h)/\
      (((pr t.mask h m).j∉t.place.toList/\t.probe hashAt h p=some (.empty (pr t.mask h m).j none))\/
       (∃i,t.place[i]?=some (pr t.mask h m).j/\hashAt i=h/\t.probe hashAt h p=some (.candidate (pr t.mask h m).j i (pr t.mask h (m+1))))):=by
  subst hp;obtain⟨M,h1,h2⟩:=ok.free h
  have hM:n<=M:=by
    by_cases hq:M<n
    · exact absurd (hn M hq) h2
    · omega
  obtain⟨m,g1,g2,g3⟩:=Cm ok hashAt h (10*SetTable.turns t.mask) n ⟨M,hM,by unfold SetTable.turns;omega,h2⟩
  have hm:m<=M:=by
    by_cases hq:M<m
    · obtain⟨i,hi,_⟩:=g2 M hM hq
      rw[<-kD] at hi;exact absurd (lQ hi) h2
    · omega
  exact⟨m,g1,by omega,g2,g3⟩
section
variable {prog:gP}{w:gH}{A:gM}{E:hG}{s:gr}
structure Srch(A:gM)(s:gr)(a:gn)(es:mh)(n:Nat)(t:kA)(x:gB)(h:Int)(eqs:Nat->Bool):Prop where
 at_: ∃o,s.heap.get? a=some o/\o.data= .set es n t
 tab:TabOk (es.toList.map (·.1)) t
 refs: ∀(i:Nat) (e:Int×Value),es[i]?=some e-> ∃b,e.2= .ref b
 eq: ∀(i:Nat) (e:Int×Value),es[i]?=some e->EqAt A s e.2 x (eqs i)
 hash: ∀(i:Nat) (e:Int×Value),es[i]?=some e->eqs i=true->e.1=h
 quiet: ∀(l:iG) (prog:gP) (w:gH) (E:hG) (Q:pA),(∀v∈l,∃e∈es.toList,e.2=v)->Q false s->wpAny (model prog w) A (searchCouldBeSeen x l) Q E s
theorem J7(ok:TabOk hs t):t.gaveWay=false:=by
 obtain⟨k,h1,_,h3⟩:=ok.pow;obtain⟨k',rfl⟩: ∃k',k=k'+1:=⟨k-1,by omega⟩
 rw[rd] at h3;unfold SetTable.gaveWay;rw[yG];omega
theorem Gp(ok:TabOk hs t)(h:hs.length=n):t.fits n=true:=by
 have:=ok.len;have:=ok.room;unfold SetTable.fits SetTable.fill;rw[ok.dum];simp only[kQ,beq_iff_eq,se];exact⟨by omega,by show _+0<=_;omega⟩
theorem Srch.fits{a es n t x h eqs}(S:Srch A s a es n t x h eqs):t.fits es.size=true:=Gp S.tab (by simp)
theorem pZ{a:gn}{es:mh}{nn:Nat}{t:kA}{x:gB}{h:Int}{eqs:Nat->Bool}{adding:Bool}(S:Srch A s a es nn t x h eqs){Q:SetFound->Shared->Prop}
  (m6: ∀i r,eqs i=true->i<es.size->(r=none\/r=some i)->(adding=false->r=some i)->Q (.there r) s)
  (l8:(∀i,i<es.size->eqs i=false)-> ∀n,(pr t.mask h n).j∉t.place.toList->(∀m,m<n->(pr t.mask h m).j∈t.place.toList)->Q (.free (pr t.mask h n).j false) s):
  ∀(fuel n:Nat) (v9:Option SetTable.Probe),v9.getD (t.probeStart h)=pr t.mask h n->(∀q,q<n-> ∃i,t.place[i]?=some (pr t.mask h q).j/\eqs i=false)->10*(t.mask+14)<n+fuel->n<=10*(t.mask+14)->
   wpAny (model prog w) A (setSearchFrom a x h adding fuel v9) Q E s
 |0,n,v9,_,_,hf,hn=>by omega
 |fuel+1,n,v9,p9,hb,hf,hn=>by
  obtain⟨o,ho,hd⟩:=S.at_
  have occ: ∀m,m<n->(pr t.mask h m).j∈t.place.toList:=fun m hm=>by
   obtain⟨i,hi,_⟩:=hb m hm;rw[<-kD] at hi;exact lQ hi
  unfold setSearchFrom;refine gi (qZ ho hd S.fits ?_);dsimp only;rw[J7 S.tab];simp only[iC,↓reduceIte];generalize hP:t.probe _ h _=P;obtain⟨m,m1,m2,m3,m4⟩:=G6 S.tab p9 occ (hashAt:=fun i=>(es[i]?.map (·.1)).getD 0);have hP':t.probe (fun i=>(es[i]?.map (·.1)).getD 0) h (v9.getD (t.probeStart h))=P:=hP;rw[hP'] at m4
  have eF: ∀(i:Nat) (j:Nat),t.place[i]?=some j-> ∃e,es[i]?=some e/\(es[i]?.map (·.1)).getD 0=e.1:=fun i j hi=>by
   have h1:=(Lp.mp hi).1;have h2:=S.tab.len;rw[iX,iY] at h2;exact⟨es[i],mn (by omega),by rw[mn (by omega)];rfl⟩
  have ne: ∀(i:Nat) (j:Nat),t.place[i]?=some j->(es[i]?.map (·.1)).getD 0≠h->eqs i=false:=fun i j hi q9=>by
   obtain⟨e,he,hh⟩:=eF i j hi
   cases hq:eqs i with
   |false=>rfl
   |true=>exact absurd (hh.trans (S.hash i e he hq)) q9
  have seen: ∀q,q<m-> ∃i,t.place[i]?=some (pr t.mask h q).j/\eqs i=false:=fun q hq=>by
   by_cases j7:q<n
   ·exact hb q j7
   ·obtain⟨i,hi,q9⟩:=m3 q (by omega) hq;exact⟨i,hi,ne i _ hi q9⟩
  rcases m4 with⟨a1,a2⟩|⟨i,a1,a2,a3⟩
  ·subst a2;dsimp only;refine gw (l8 (fun i hi=>?_) m a1 fun q hq=>?_)
   ·cases hq:eqs i with
    |false=>rfl
    |true=>
     exfalso;have he:es[i]?=some es[i]:=mn hi;have h1:=S.hash i _ he hq;have h2:=S.tab.len;rw[iX,iY] at h2;have j9:t.place[i]?=some t.place[i]:=mn (by omega);obtain⟨n',r1,r2⟩:=S.tab.road i h t.place[i] (by rw[kF,kD,he];exact rA some h1) j9
     have:n'<m:=by
      by_cases j7:n'<m
      ·exact j7
      ·exfalso;rcases Nat.lt_or_eq_of_le (Nat.not_lt.mp j7) with j7|heq
       ·exact a1 (r2 m j7)
       ·subst heq;rw[<-kD] at j9;rw[r1] at a1;exact a1 (lQ j9)
     obtain⟨i',g1,g2⟩:=seen n' this;rw[r1] at g1;have:i'=i:=by rw[<-yu S.tab.ris g1,yu S.tab.ris j9]
     rw[this,hq] at g2;cases g2
   ·obtain⟨i,hi,_⟩:=seen q hq;rw[<-kD] at hi;exact lQ hi
  ·subst a3;dsimp only;obtain⟨e,he,hh⟩:=eF i _ a1;obtain⟨h',y⟩:=e;obtain⟨b,hy⟩:=S.refs i _ he;dsimp only at hy;subst hy;have sm:t.sameMemory t.moves t.mask=some true:=by simp[SetTable.sameMemory]
   have eA:i<es.size:=(Lp.mp he).1;cases hl:t.led
   ·simp only[Bool.not_false,↓reduceIte];refine gi (S.quiet _ _ _ _ _ (fun v hv=>?_) ?_)
    ·obtain⟨e,bw,rfl⟩:=oA.mp hv;exact⟨e,(Pz.mp (by simpa using(Array.mem_filter.mp (Pz.mp bw)).1) |> fun z=>by simpa using z),rfl⟩
    simp only[iC,↓reduceIte];rw[he];dsimp only;refine gi (lR (S.eq i _ he _ _ _ _ ?_));refine gi (qZ ho hd S.fits ?_);dsimp only
    cases hq:eqs i with
    |true=>
     cases adding with
     |true=>simp only[Bool.and_self,↓reduceIte];exact gw (m6 i none hq eA (.inl rfl) (fun z=>by cases z))
     |false=>
      simp only[Bool.false_and,iC,↓reduceIte,sm,nZ S.tab.ris a1,he];refine gi (Ag ?_);simp only[↓reduceIte];exact gi (gw (gw (m6 i _ hq eA (.inr rfl) fun _=>rfl)))
    |false=>
     simp only[Bool.and_false,iC,↓reduceIte,sm,nZ S.tab.ris a1,he];refine gi (Ag ?_);simp only[↓reduceIte];refine gi (gw ?_)
     exact pZ S m6 l8 fuel (m+1) _ rfl (fun q hq'=>by
      by_cases e:q=m
      ·subst e;exact⟨i,a1,hq⟩
      ·exact seen q (by omega)) (by omega) (by omega)
   ·simp only[lq,iC,↓reduceIte];rw[he];dsimp only;refine gi (lR (S.eq i _ he _ _ _ _ ?_));refine gi (qZ ho hd S.fits ?_);dsimp only
    cases hq:eqs i with
    |true=>
     cases adding with
     |true=>simp only[Bool.and_self,↓reduceIte];exact gw (m6 i none hq eA (.inl rfl) (fun z=>by cases z))
     |false=>
      simp only[Bool.false_and,iC,↓reduceIte,sm,nZ S.tab.ris a1,he];refine gi (Ag ?_);simp only[↓reduceIte];exact gi (gw (gw (m6 i _ hq eA (.inr rfl) fun _=>rfl)))
    |false=>
     simp only[Bool.and_false,iC,↓reduceIte,sm,nZ S.tab.ris a1,he];refine gi (Ag ?_);simp only[↓reduceIte];refine gi (gw ?_)
     exact pZ S m6 l8 fuel (m+1) _ rfl (fun q hq'=>by
      by_cases e:q=m
      ·subst e;exact⟨i,a1,hq⟩
      ·exact seen q (by omega)) (by omega) (by omega)
end
abbrev jN(es:mh)(n:Nat)(t:kA):Obj:={cls:= .type "set",data:= .set es n t}
section
variable {prog:gP}{w:gH}{A:gM}{E:hG}{s:gr}
theorem BU{h:gQ}{a:gn}{es es':mh}{n:Nat}{t t':kA}(ho:h.get? a=some (jN es n t)):(h.update a (Obj.putSet es' t')).get? a=some (jN es' (n+1) t'):=by
 have:=rp (Obj.putSet es' t') ho (by rw[putSet_of es' t' rfl];rfl);rw[putSet_of es' t' rfl] at this;exact this
theorem Jo{α:Type}(es:Array α):(List.range es.size).filterMap (fun i=>es[i]?)=es.toList:=by
 have: ∀(l:List α),(List.range l.length).filterMap (fun i=>l[i]?)=l:=by
  intro l
  induction l with
  |nil=>rfl
  |cons x l ih=>
   rw[jX,List.range_succ_eq_map,tJ];simp only[Af,List.filterMap_map,nR,wB,ih]
 have h:=this es.toList;simpa using h
theorem Gn{es:mh}: ∀(l:iA),(∀i∈l,i<es.size)->(l.filterMap (fun i=>es[i]?)).map (·.1)=l.map fun i=>(es.toList.map (·.1)).getD i 0
 |[],_=>rfl
 |i::l,h=>by
  have hi:=h i iR;rw[tJ,mn hi];simp only[iQ];rw[Gn l fun j hj=>h j (iT _ hj)]
  congr 1
  simp[hi]
theorem Jk{a:gn}{es:mh}{n:Nat}{t:kA}(ho:s.heap.get? a=some (jN es n t))(hf:t.fits es.size=true)(h5:5<=es.size)(hz:es.size<=500){Q:Unit->Shared->Prop}
  (h: ∀h' es' n' t',Heap.SameBut a s.heap h'->h'.get? a=some (jN es' n' t')->es'.toList.Perm es.toList->TabOk (es'.toList.map (·.1)) t'->t'.plain=t.plain->t'.led=t.led->Q () {s with heap:=h'}):
  wpAny (model prog w) A (setRelay a (SetTable.grown es.size)) Q E s:=by
 have hg:SetTable.grown es.size=es.size*4:=by unfold SetTable.grown;rw[gv (by lia)]
 obtain⟨k,k3,ez,ek,lk⟩:=AQ (es.size*4) (by lia);have hm:SetTable.sizeAbove (es.size*4)-1+1=2^k:=by have:=Nat.two_pow_pos k;lia
 obtain⟨t',order,e1,e2,e3,e4,e5⟩:=MC hm k3 ez t.finger (t.movedTo (SetTable.sizeAbove (es.size*4)-1)) t.led t.plain (es.toList.map (·.1)) (by rw[iX,iY];lia);rw[iX,iY] at e2
 have er:t.relaid (es.map (·.1)) (es.size*4)=some (t',order):=by
  unfold SetTable.relaid;rw[<-e1,<-Array.toList_map]
 have hmem: ∀i∈order.toList,i<es.size:=fun i hi=>uH.mp (e2.mem_iff.mp hi);have pl:(order.filterMap (es[·]?)).toList=order.toList.filterMap (fun i=>es[i]?):=by simp
 have perm:(order.filterMap (es[·]?)).toList.Perm es.toList:=by
  rw[pl];refine(e2.filterMap _).trans ?_;rw[Jo]
 have sz:(order.filterMap (es[·]?)).size=es.size:=by rw[<-iY,perm.length_eq,iY]
 rw[hg];unfold setRelay;refine gi (qZ ho rfl hf ?_);dsimp only
 have hs:2^k<=sizeLine:=by
  have:2^k<=2^11:=wC (by decide) ez;rw[iu];lia
 rw[gv (by rw[ek];lia),er];refine gi ?_;change wpAny _ _ (if((order.filterMap (es[·]?)).size !=es.size)=true then _ else _) _ _ _;rw[gv (by rw[sz];simp)];refine gw ?_;dsimp only;refine wpAny_storeSet_of ho rfl ?_ (by rw[sz,iu];lia);refine h _ (order.filterMap (es[·]?)) (n+1) t' (tj s.heap a _) (BU ho) perm ?_ e4 e5;rw[pl,Gn _ hmem];exact e3
theorem nG{α:Type}(xs:Array α)(p:Nat)(x:α):(SetTable.insertAt xs p x).toList.Perm (x::xs.toList):=by
 rw[kf];refine Dq.trans ?_;rw[ll]
theorem RE{a b:gn}{es:mh}{n:Nat}{t:kA}{h:Int}{eqs:Nat->Bool}(S:Srch A s a es n t (.ref b) h eqs)(ho:s.heap.get? a=some (jN es n t))(j9:t.plain=true)(hz:es.size+1<=500)
  (hbv: ∀(Q':pA),Q' true s->wpAny (model prog w) A (hashByValue 8 (.ref b)) Q' E s){Q:pA}
  (hold:(∃i,i<es.size/\eqs i=true)->Q false s)
  (ag:(∀i,i<es.size->eqs i=false)-> ∀h' es' n' t',Heap.SameBut a s.heap h'->h'.get? a=some (jN es' n' t')->es'.toList.Perm ((h,.ref b)::es.toList)->TabOk (es'.toList.map (·.1)) t'->t'.plain=true->t'.led=t.led->Q true {s with heap:=h'}):
  wpAny (model prog w) A (setAddHashed a (.ref b) h) Q E s:=by
 unfold setAddHashed setAddHashedIn;refine lR (gi (qZ ho rfl S.fits ?_));dsimp only;have hbs:byScan (.ref b) es=false:=rfl;rw[hbs];simp only[iC,↓reduceIte]
 have hm:t.mask+1<=2048:=by
  obtain⟨k,_,ez,ek⟩:=S.tab.pow;have:2^k<=2^11:=wC (by decide) ez
  lia
 refine gi (pZ S (adding:=true) (fun i r h1 h2 _ _=>?_) (fun bU m h1 h2=>?_) 100000 0 none rfl (fun q hq=>by lia) (by lia) (by lia))
 ·dsimp only;exact gw (hold ⟨i,h2,h1⟩)
 ·dsimp only;refine gi (qZ ho rfl S.fits ?_);dsimp only
  have e1:(t.put (pr t.mask h m).j).1={t with place:=SetTable.insertAt t.place (SetTable.below t.place (pr t.mask h m).j) (pr t.mask h m).j,dummies:= #[]}:=by
   unfold SetTable.put;dsimp only;rw[S.tab.dum,Bi];rfl
  have e2:(t.put (pr t.mask h m).j).2=SetTable.below t.place (pr t.mask h m).j:=rfl;have cz:(t.put (pr t.mask h m).j).1.plain=true:=by rw[e1];exact j9
  rw[gu cz];refine gi (hbv _ ?_);simp only[↓reduceIte]
  have dv:(SetTable.insertAt es (t.put (pr t.mask h m).j).2 (h,Value.ref b)).size=es.size+1:=by
   rw[<-iY,(nG es _ _).length_eq,jX,iY]
  refine gi (wpAny_storeSet_of ho rfl ?_ (by rw[dv,iu];lia));have u6:=BU (es':=SetTable.insertAt es (t.put (pr t.mask h m).j).2 (h,Value.ref b)) (t':=(t.put (pr t.mask h m).j).1) ho;have sb1:=tj s.heap a (Obj.putSet (SetTable.insertAt es (t.put (pr t.mask h m).j).2 (h,Value.ref b)) (t.put (pr t.mask h m).j).1);have hlen:es.toList.length=es.size:=iY;have tlen:=S.tab.len;rw[iX,hlen] at tlen
  have hpsz:(t.put (pr t.mask h m).j).1.place.size=es.size+1:=by
   rw[e1];show(SetTable.insertAt t.place _ _).size=_;rw[<-iY,(nG t.place _ _).length_eq,jX,iY,tlen]
  have aX:(t.put (pr t.mask h m).j).1.fill=es.size+1:=by
   unfold SetTable.fill;rw[hpsz,e1];rfl
  have aU:(t.put (pr t.mask h m).j).1.mask=t.mask:=by rw[e1]
  have hled:(t.put (pr t.mask h m).j).1.led=t.led:=by rw[e1]
  by_cases htf:(t.put (pr t.mask h m).j).1.tooFull=true
  ·rw[htf];simp only[Bool.not_false,Bool.and_self,↓reduceIte];have hroom:=S.tab.room;rw[iX,hlen] at hroom
   have hbig:3*t.mask<=5*(es.size+1):=by
    unfold SetTable.tooFull at htf;rw[aX,aU] at htf;have:=of_decide_eq_true htf;lia
   have m7:7<=t.mask:=by
    obtain⟨k,k3,_,ek⟩:=S.tab.pow;have:2^3<=2^k:=wC (by decide) k3
    lia
   have hfit:(t.put (pr t.mask h m).j).1.fits (SetTable.insertAt es (t.put (pr t.mask h m).j).2 (h,Value.ref b)).size=true:=by
    unfold SetTable.fits;rw[hpsz,dv,aX,aU];simp only[BEq.rfl,Bool.true_and,se];lia
   rw[<-dv];refine gi (Jk u6 hfit (by rw[dv];lia) (by rw[dv];lia) fun h' es' n' t' g1 g2 g3 g4 g5 g6=>?_);exact gw (ag bU h' es' n' t' (sb1.trans g1) g2 (g3.trans (nG es _ _)) g4 (by rw[g5];exact cz) (by rw[g6];exact hled))
  ·have htf':(t.put (pr t.mask h m).j).1.tooFull=false:=by simpa using htf
   rw[htf'];simp only[Bool.and_false,iC,↓reduceIte]
   have hsm:5*(es.size+1)<3*t.mask:=by
    unfold SetTable.tooFull at htf;rw[aX,aU] at htf;have: ¬(es.size+1)*5>=t.mask*3:=fun z=>htf (tE z)
    lia
   obtain⟨p1,p2⟩:=S.tab.put h1 h2 (by rw[iX,hlen];exact hsm) rfl rfl;refine gw (ag bU _ _ _ _ sb1 u6 (nG es _ _) ?_ cz hled);rw[kf,oE,iQ,<-List.map_take,<-List.map_drop] at*;rw[e2];exact p1
end
theorem yj:entryFor table "set.__iter__"=some Builtin.«frozenset.__iter__»:=entryFor_alias (id':="frozenset.__iter__") (by kernel_rfl) rfl (by decide+kernel) (by kernel_rfl)
theorem lZ:Slot "set_iterator" "__next__" "set_iterator.__next__":= .of (owner:="set_iterator") (n:="__next__") (by rw[typeLookup_type,HY];kernel_rfl) (by decide+kernel) (by decide+kernel) (by decide+kernel) (by first|exact .inl (by decide+kernel)|exact .inr (by decide+kernel)) (by rw[Ae];kernel_rfl)
theorem tN:Slot "set_iterator" "__iter__" "set_iterator.__iter__":= .of (owner:="set_iterator") (n:="__iter__") (by rw[typeLookup_type,HY];kernel_rfl) (by decide+kernel) (by decide+kernel) (by decide+kernel) (by first|exact .inl (by decide+kernel)|exact .inr (by decide+kernel)) (by rw[Ae];kernel_rfl)
theorem rN:entryFor table "set_iterator.__next__"=some Builtin.«set_iterator.__next__»:=entryFor_of_fast (by kernel_rfl)
theorem yS:entryFor table "set_iterator.__iter__"=some Builtin.«dict_keyiterator.__iter__»:=entryFor_alias (id':="dict_keyiterator.__iter__") (by kernel_rfl) rfl (by decide+kernel) (by kernel_rfl)
theorem uE(a:gB):argsOk "set_iterator.__next__" ⟨[a],[]⟩:=by unfold argsOk;kernel_rfl
theorem By(a:gB):argsOk "set_iterator.__iter__" ⟨[a],[]⟩:=by unfold argsOk;kernel_rfl
theorem pf{α:Type}: ∀(l:List α) {i:Nat} (h:i<l.length),(l[i]::l.eraseIdx i).Perm l
 |x::l,0,_=>by simp
 |x::l,i+1,h=>by
  have:=pf l (i:=i) (by simpa using h);simp only[List.getElem_cons_succ,List.eraseIdx_cons_succ];exact(List.Perm.swap x _ _).trans (List.Perm.cons x this)
theorem tZ{α:Type}(next:Nat->Nat): ∀(fuel k:Nat) (left:List α) (out:Array α),left.length<=fuel->(pickOrder.go next fuel k left out).toList.Perm (out.toList++left)
 |0,k,left,out,h=>by
  have:left=[]:=Py.mp (by omega);subst this;unfold pickOrder.go;simp
 |fuel+1,k,left,out,h=>by
  unfold pickOrder.go
  cases left with
  |nil=>simp
  |cons y l=>
   have j7:next k%(y::l).length<(y::l).length:=uJ _ (by simp);rw[iO j7];dsimp only;refine(tZ next fuel (k+1) _ _ (by rw[Ad,gu j7];simp at h ⊢;omega)).trans ?_;rw[Array.toList_push,jW];refine tf _ ?_;exact pf _ j7
theorem xv{α:Type}(next:Nat->Nat)(xs:Array α):(pickOrder next xs).toList.Perm xs.toList:=by
 unfold pickOrder;have:=tZ next xs.size 0 xs.toList #[] (by simp);simpa using this
def lX(w:gH)(a:gn)(n:Nat)(es:mh):Array (Int×Value):=if w.params.followText "set-order"=true then pickOrder (w.params.setOrder a n) es else es
theorem Ds(w:gH)(a:gn)(n:Nat)(es:mh):(lX w a n es).toList.Perm es.toList:=by
 unfold lX;split
 ·exact xv _ _
 ·exact rY _
theorem mS(w:gH)(a:gn)(n:Nat)(es:mh):(lX w a n es).size=es.size:=by
 rw[<-iY,(Ds w a n es).length_eq,iY]
def FR(t:kA):Nat->Nat
 |0=>0
 |i+1=>t.place.getD i 0+1
def kx(w:gH)(t:kA)(i:Nat):Nat:=if w.params.followText "set-order"=true then 0 else FR t i
structure SetIs(w:gH)(h:gQ)(a:gn)(es:mh)(n:Nat)(t:kA):Prop where
 at_:h.get? a=some (jN es n t)
 tab:TabOk (es.toList.map (·.1)) t
 plain:t.plain=true
 led:t.led=!w.params.followText "set-order"
def SetIter(w:gH)(h:gQ)(it a:gn)(t:kA)(size n i:Nat):Prop:= ∃o,h.get? it=some o/\o.cls= .type "set_iterator"/\o.data= .fields #[.int (kx w t i) 0,.int i 0,.ref a,.int size 0,.int n 0]
section
variable {prog:gP}{w:gH}{A:gM}{E:hG}{s:gr}
theorem SetIs.fits{h a es n t}(S:SetIs w h a es n t):t.fits es.size=true:=Gp S.tab (by simp)
theorem Fm(hr:t.place.toList.Pairwise (· < ·))(hi:i<=t.place.size):SetTable.below t.place (FR t i)=i:=by
 cases i with
 |zero=>
  obtain⟨h1,h2,_⟩:=ni hr 0
  cases hb:SetTable.below t.place 0 with
  |zero=>exact hb
  |succ k=>
   have hz:0<t.place.size:=by omega
   have:=h2 0 _ (by omega) (mn hz);omega
 |succ i=>
  have hd:t.place.getD i 0=t.place[i]:=by simp[Array.getD,show i<t.place.size by omega]
  show SetTable.below t.place (t.place.getD i 0+1)=i+1;rw[hd];have hg:t.place[i]?=some t.place[i]:=mn (by omega);obtain⟨h1,h2,h3⟩:=ni hr (t.place[i]+1);by_cases j7:SetTable.below t.place (t.place[i]+1)<i+1
  ·have:=h3 i _ (by omega) hg;omega
  ·by_cases hgt:i+1<SetTable.below t.place (t.place[i]+1)
   ·have de:t.place[i+1]?=some t.place[i+1]:=mn (by omega);have:=h2 (i+1) _ hgt de;have:=AX hr (tq i) hg de;omega
   ·omega
theorem xi{a:gn}{es:mh}{n:Nat}{t:kA}(S:SetIs w s.heap a es n t){i:Nat}(hi:i<=es.size){Q:Option (Value×Nat)->Shared->Prop}
  (h1: ∀e,(lX w a n es)[i]?=some e->Q (some (e.2,kx w t (i+1))) s)(h2:i=es.size->Q none s):wpAny (model prog w) A (setNext a (kx w t i) i n) Q E s:=by
 have tl:=S.tab.len;rw[iX,iY] at tl;unfold setNext;refine gi (qZ S.at_ rfl S.fits ?_);dsimp only;unfold setsByText;refine gi (gi (uW (gw ?_)));by_cases hb:w.params.followText "set-order"=true
 ·have r8:(model prog w).w.params.followText "set-order"=true:=hb;rw[gu r8,gv (by simp)];unfold setWalk setsByText;refine gi (gi (qZ S.at_ rfl S.fits ?_));dsimp only;refine gi (gi (uW (gw ?_)));rw[gu r8];refine gi (uW (gw (gw ?_)));have e1:lX w a n es=pickOrder (w.params.setOrder a n) es:=by unfold lX;rw[gu hb]
  have e2: ∀k,kx w t k=0:=fun k=>by unfold kx;rw[gu hb]
  show Q (((pickOrder (w.params.setOrder a n) es)[i]?).map fun e=>(e.2,kx w t i)) s;rw[<-e1];rw[e2] at h1;rw[e2]
  cases hg:(lX w a n es)[i]? with
  |some e=>exact h1 e hg
  |none=>
   have:=Array.getElem?_eq_none_iff.mp hg;rw[mS] at this;exact h2 (by omega)
 ·have r8: ¬(model prog w).w.params.followText "set-order"=true:=hb;rw[gv r8];change wpAny _ _ (if(!t.plain&&decide (es.size>1))=true then _ else _) _ _ _;rw[gv (by rw[S.plain];simp)];have hl:t.led=true:=by rw[S.led];simpa using hb
  refine gi ?_;change wpAny _ _ (if(!t.led&&!es.isEmpty)=true then _ else _) _ _ _;rw[gv (by rw[hl];simp)];refine gw ?_;have e1:lX w a n es=es:=by unfold lX;rw[gv hb]
  have e2: ∀k,kx w t k=FR t k:=fun k=>by unfold kx;rw[gv hb]
  have e3:SetTable.below t.place (kx w t i)=i:=by rw[e2];exact Fm S.tab.ris (by omega)
  rw[e3];rw[e1] at h1;by_cases j7:i<es.size
  ·have g1:es[i]?=some es[i]:=mn j7;have g2:t.place[i]?=some t.place[i]:=mn (by omega);rw[g1,g2];have:=h1 es[i] g1;rw[e2] at this;rw[show FR t (i+1)=t.place.getD i 0+1 from rfl] at this;have hd:t.place.getD i 0=t.place[i]:=by simp[Array.getD,show i<t.place.size by omega]
   rw[hd] at this;exact gw this
  ·rw[Ah (by omega)];exact gw (h2 (by omega))
theorem SetIs.typeIs{a es n t}(S:SetIs w s.heap a es n t):s.TypeIs (.ref a) "set":=⟨_,S.at_,rfl⟩
theorem SetIter.typeIs{it a t z n i}(S:SetIter w s.heap it a t z n i):s.TypeIs (.ref it) "set_iterator":=let⟨o,ho,hc,_⟩:=S;⟨o,ho,hc⟩
theorem Kr(S:SetIs w s.heap a es n t) 
  (hQ: ∀h',SetIter w h' s.heap.objs.size a t es.size n 0->(∀b o,s.heap.get? b=some o->h'.get? b=some o)->h'.objs.size=s.heap.objs.size+1->Q (.ref s.heap.objs.size) {s with heap:=h'}):
  wpAny (model prog w) A (pyIter (.ref a)) Q E s:=by
 refine Dz S.typeIs HX (mq HX S.typeIs yj ?_ (PySem.F.args_set_iter_1 _));unfold Builtin.«frozenset.__iter__» Builtin.Frozenset.slot0 slotArgs;simp only[List.isEmpty_nil,lq,iC,↓reduceIte,pT,rl,tD];unfold Builtin.Frozenset.addrOf Builtin.Frozenset.sizeOf;refine gi (gw ?_);dsimp only;refine gi (gw ?_);refine gi (gi (Dy S.at_ rfl S.fits (gw ?_)));unfold setDrawn setsByText;refine gi (gi (qZ S.at_ rfl S.fits ?_));dsimp only;refine gi (gi (uW (gw ?_)));refine gw ?_;change wpAny _ _ (if(!w.params.followText "set-order"&&(!t.plain&&decide (es.size>1)))=true then _ else _) _ _ _;rw[gv (by rw[S.plain];simp)];refine gi (gw ?_);unfold setEpoch;refine gi (gi (qZ S.at_ rfl S.fits (gw ?_)));refine gi (kE (gw ⟨_,rfl,"set_iterator",_,⟨_,jr _ rfl,rfl⟩,lZ.lookup,?_⟩));refine hQ _ ⟨_,jr _ rfl,rfl,?_⟩ (fun b o e=>ig _ e) (tw _ _);have:kx w t 0=0:=by unfold kx;split<;>rfl
 rw[this];rfl
theorem yP{it a:gn}{es:mh}{n:Nat}{t:kA}(S:SetIs w s.heap a es n t){i:Nat}(hI:SetIter w s.heap it a t es.size n i)(q9:it≠a){e:Int×Value}(he:(lX w a n es)[i]?=some e){Q:Fy}
  (hQ: ∀h',SetIter w h' it a t es.size n (i+1)->Heap.SameBut it s.heap h'->Q (some e.2) {s with heap:=h'}):wpAny (model prog w) A (pyNext (.ref it)) Q E s:=by
 obtain⟨o,ho,hc,hd⟩:=id hI;have hi:i<es.size:=by have:=(Lp.mp he).1;rw[mS] at this;exact this
 unfold pyNext;refine gi (rZ (pG (name:=Str.ofString "__next__") hI.typeIs lZ (mq lZ hI.typeIs rN ?_ (uE _))));unfold Builtin.«set_iterator.__next__» slotArgs;simp only[List.isEmpty_nil,lq,iC,↓reduceIte,pT,rl,tD];refine gi (gw ?_);unfold fieldsOf;simp only[pT];refine gi (va ho ?_);rw[hd];refine gi (gw ?_);dsimp only;refine gi (Dy S.at_ rfl S.fits ?_);rw[gv (by simp)];have h1:((kx w t i:Nat):Int).toNat=kx w t i:=pH _;have h2:((i:Nat):Int).toNat=i:=pH _;have h3:((n:Nat):Int).toNat=n:=pH _;rw[h1,h2,h3];refine gi (xi S (AI hi) (fun e' bw=>?_) fun z=>by omega);rw[he] at bw;cases bw;dsimp only;refine gi (sd ho hd (by simp) ?_);have u6:=rp (Obj.mapFields fun vs=>vs.setIfInBounds 0 (rawInt (kx w t (i+1)))) ho (Au (rh hd _));refine gi (sd u6 (rh hd _) (by simp) (gw ⟨_,rfl,gw (hQ _ ?_ ((tj ..).trans (tj ..)))⟩));refine⟨_,rp _ u6 (Au (rh (rh hd _) _)),?_,?_⟩
 ·rw[As,As];exact hc
 ·rw[rh (rh hd _)];simp[rawInt]
theorem A9(hh:A.handled=none)(S:SetIs w s.heap a es n t)(hI:SetIter w s.heap it a t es.size n es.size)(q9:it≠a) 
  (hQ: ∀h',Heap.ExtBut it s.heap h'->Q none {s with heap:=h'}):wpAny (model prog w) A (pyNext (.ref it)) Q E s:=by
 obtain⟨o,ho,hc,hd⟩:=id hI;unfold pyNext;refine gi (rZ (pG (name:=Str.ofString "__next__") hI.typeIs lZ (mq lZ hI.typeIs rN ?_ (uE _))));unfold Builtin.«set_iterator.__next__» slotArgs;simp only[List.isEmpty_nil,lq,iC,↓reduceIte,pT,rl,tD];refine gi (gw ?_);unfold fieldsOf;simp only[pT];refine gi (va ho ?_);rw[hd];refine gi (gw ?_);dsimp only;refine gi (Dy S.at_ rfl S.fits ?_);rw[gv (by simp)];have h1:((kx w t es.size:Nat):Int).toNat=kx w t es.size:=pH _;have h2:((es.size:Nat):Int).toNat=es.size:=pH _;have h3:((n:Nat):Int).toNat=n:=pH _;rw[h1,h2,h3];refine gi (xi S (hU _) (fun e' bw=>?_) fun _=>?_)
 ·have:=(Lp.mp bw).1;rw[mS] at this;omega
 dsimp only;refine gi (sd ho hd (by simp) ?_);show wpAny _ _ (newExc (.type "StopIteration") []>>=_) _ _ _;refine gi ?_;simp only[newExc,newTuple];refine gi (kE ?_ (by size_fits));refine gi (m:=firstArgMember _ _) (oV (a:=Value.none) (by first|rfl|(simp only[firstArgMember];rfl)) ?_);refine kE ?_ (by size_fits);simp only[raiseNew];refine gi (DQ ?_);rw[show A.in1.handled=none from hh];refine gi (gw (DP ?_));refine gi (uR (T:="StopIteration") (b:=true) ⟨_,jr _ rfl,rfl⟩ DM ?_);exact gw (hQ _ (((tj ..).extBut.push _).push _))
theorem Hn(hI:SetIter w s.heap it a t z n i)(hQ:Q (.ref it) s):wpAny (model prog w) A (pyIter (.ref it)) Q E s:=by
 refine Dz hI.typeIs tN (mq tN hI.typeIs yS ?_ (By _));unfold Builtin.«dict_keyiterator.__iter__» slotArgs;simp only[List.isEmpty_nil,lq,iC,↓reduceIte,pT,rl,tD];exact gi (gw (gw ⟨_,rfl,"set_iterator",_,hI.typeIs,lZ.lookup,hQ⟩))
theorem SetIs.stay{a es n t}(S:SetIs w h a es n t)(k: ∀o,h.get? a=some o->h'.get? a=some o):SetIs w h' a es n t:=⟨k _ S.at_,S.tab,S.plain,S.led⟩
theorem GV(hh:A.handled=none)(I a:gn)(q9:I≠a)(es:mh)(n:Nat)(t:kA):
  Walks prog w A I [I,a] [I] es.size (fun i v=> ∃e,(lX w a n es)[i]?=some e/\v=e.2) (fun i h=>SetIter w h I a t es.size n i/\SetIs w h a es n t) where
 sub:=fun b hb=>by simp at hb;simp[hb]
 frame:=fun _ _ _ st hk=>⟨(by obtain⟨o,h1,h2⟩:=st.1;exact⟨o,hk I (by simp) o h1,h2⟩),st.2.stay fun o e=>hk a (by simp) o e⟩
 item:=fun i s Q E hi st hQ=>by
  have j7:i<(lX w a n es).size:=by rw[mS];exact hi
  have hg:(lX w a n es)[i]?=some (lX w a n es)[i]:=mn j7;refine yP st.2 st.1 q9 hg fun h' aw aC=>?_;exact hQ _ h' s.toks ⟨_,hg,rfl⟩ ⟨aw,st.2.stay fun o e=>aC.extBut a o (fun h=>q9 h.symm) e⟩ fun b o hb e=>aC.extBut b o (fun h=>hb (by simp[h])) e
 done:=fun s Q E st hQ=>A9 hh st.2 st.1 q9 fun h' bw=>hQ h' s.toks fun b o hb e=>bw b o (fun h=>hb (by simp[h])) e
 self:=fun _ _ _ _ st hQ=>Hn st.1 hQ
theorem MO(hh:A.handled=none)(S:SetIs w s.heap a es n t)(hn:es.size<=sizeLine) 
  (hQ: ∀h' tk,(∀b o,s.heap.get? b=some o->h'.get? b=some o)->Q ((lX w a n es).toList.map (·.2)) {s with heap:=h',toks:=tk}):wpAny (model prog w) A (collect (.ref a)) Q E s:=by
 have bW:a<s.heap.objs.size:=hV S.at_;have cG:a≠s.heap.objs.size:=iz bW;have cF:a≠s.heap.objs.size+1:=iz (pS bW);have dH:s.heap.objs.size≠s.heap.objs.size+1:=iz (tq _);unfold collect;refine gi (Ax (pE HW ?_));rw[rk HV _];show wpAny _ A.in1 (newList []>>=fun l=>again (.builtin "list.__iadd__" ⟨[l,.ref a],[]⟩)) _ _ s;refine gi (kE ?_);refine gw ⟨pP Ac _,pE HU ?_⟩;rw[rk Ac _];show wpAny _ A.in1 (Builtin.List.listExtendWith (.ref s.heap.objs.size) (.ref a) (.ref s.heap.objs.size)) _ _ _;generalize dM:({cls:= .type "list",data:= .seq ([]:List Value).toArray}:Obj)=l0;have S1:SetIs w (s.heap.push l0) a es n t:=S.stay fun o e=>ig _ e;unfold Builtin.List.listExtendWith;refine gi (rq (T:="set") (s:={s with heap:=s.heap.push l0}) S1.typeIs ?_);have h1:Builtin.List.listSameRef (.ref s.heap.objs.size) (.ref a)=false:=by simp only[Builtin.List.listSameRef,yG];exact cG.symm
 have h2:(Value.type "set"==Value.type "list")=false:=by decide
 have h3:(Value.type "set"==Value.type "tuple")=false:=by decide
 simp only[h1,h2,h3,Bool.or_false,iC,iP];refine gi (Kr (s:={s with heap:=s.heap.push l0}) S1 fun h2 dE k2 z2=>?_);have dw:(s.heap.push l0).objs.size=s.heap.objs.size+1:=tw _ _;have S2:SetIs w h2 a es n t:=S1.stay fun o e=>k2 _ _ e;refine gi (lR ?_);unfold Builtin.List.listLengthHint;refine gi (rR (T:="set") (s:={s with heap:=h2}) S2.typeIs PySem.F.slot_set_len.lookup ?_);generalize dN:("set.__len__":String)=id0;dsimp only;rw[show splitId id0=some ("set","__len__") from by subst dN;decide+kernel];dsimp only;refine gi (uR (T:="set") (s:={s with heap:=h2}) (b:=true) S2.typeIs (by rw[Ae];kernel_rfl) ?_);simp only[lq,iC,iP];change wpAny _ _ (if _=true then _ else _) _ _ _;rw[gu (by subst dN;decide+kernel)];refine gi (rq (T:="set") (s:={s with heap:=h2}) S2.typeIs ?_);dsimp only;refine gw ?_;change wpAny _ _ (if _=true then _ else _) _ _ _;rw[gu (by decide+kernel)];refine gi (tx ?_);have dR:h2.get? s.heap.objs.size=some l0:=k2 _ _ (jr _ (by subst dM;rfl));subst dM;refine gi ?_;show wpAny _ A.in1 (updateSeq s.heap.objs.size (·.push .none)>>=fun _=>updateSeq s.heap.objs.size (·.pop)) _ _ _;refine gi (Ab (s:={s with heap:=h2}) dR rfl ?_);have dQ:=rp (Obj.mapSeq (·.push Value.none)) dR rfl;refine Ab dQ rfl ?_;have fS:=rp (Obj.mapSeq (·.pop)) dQ rfl
 have oth: ∀b o,b≠s.heap.objs.size->h2.get? b=some o->((h2.update s.heap.objs.size (Obj.mapSeq (·.push Value.none))).update s.heap.objs.size (Obj.mapSeq (·.pop))).get? b=some o:=
  fun b o hb e=>(uY _ _ (oX hb)).trans ((uY _ _ (oX hb)).trans e)
 have W:=(GV (prog:=prog) (w:=w) (A:=A.in1) (by show A.handled=none;exact hh) (s.heap.objs.size+1) a cF.symm es n t).toS;rw[dw] at dE;refine gw ⟨pP HS _,?_⟩;rw[dw];refine HR W hn s.heap.objs.size (by simp only[jg,jF,kL,nQ];exact⟨dH,cG.symm⟩) _ es.size 0 _ _ _ rfl (lr _) ?_ fS (ItemsOf.nil _) fun s' i6 c' hm ba n9=>?_
 ·refine⟨?_,S2.stay fun o e=>oth a o cG e⟩;obtain⟨o,g1,g2⟩:=dE;exact⟨o,oth _ o dH.symm g1,g2⟩
 show wpAny _ A (load s.heap.objs.size>>=_) _ _ s';refine gi (va ba ?_);obtain⟨h',g',d',bO,cg⟩:=s';have eg:g'=s.gens:=hm.gens;have ed:d'=s.drawn:=hm.drawn;have eo:cg=s.os:=hm.os;subst eg;subst ed;subst eo
 have cP:i6.toList=(lX w a n es).toList.map (·.2):=by
  obtain⟨a1,a2⟩:=n9;apply DS
  ·rw[iX,iY,iY,a1,mS]
  ·intro j g1 g2;have gj:i6[j]?=some i6.toList[j]:=by rw[<-kD];exact iO g1
   obtain⟨e,he,hv⟩:=a2 j _ gj;rw[hv];rw[iX,iY] at g2;rw[List.getElem_map];rw[<-kD,iO (by rw[iY];exact g2)] at he;cases he;rfl
 refine gw ?_;show Q i6.toList _;rw[cP];refine hQ h' bO fun b o e=>?_;have hb:=hV e;exact hm.heap b o (by simp only[jg,jF,kL,nQ];exact⟨iz hb,iz (pS hb)⟩) (oth b o (iz hb) (k2 _ _ (ig _ e)))
end
section
variable {prog:gP}{w:gH}{A:gM}{R:Result->Shared->Prop}{I:gn}{fp wr:jE}{G:Array GenState->Array GenState->Prop}{n:Nat}{P:Nat->Value->Prop}{St:Nat->Shared->Prop}
theorem IK(W:WalksS prog w A.in1 I fp wr G n P St)(S:gn)(eL:S∉fp)(s0:gr)(SI:Nat->Heap->Prop)(stay: ∀i h h',SI i h->(∀o,h.get? S=some o->h'.get? S=some o)->SI i h')
  (step: ∀i v (s':gr) (Q:pA) (E:hG),i<n->P i v->SI i s'.heap->Moved (S::wr) G s0 s'->(∀r h' tk,s'.toks<=tk->Heap.SameBut S s'.heap h'->SI (i+1) h'->Q r {s' with heap:=h',toks:=tk})->wpAny (model prog w) A.in1 (setAdd S v) Q E s'):
  ∀(k i:Nat) (s:gr),n-i=k->i<=n->St i s->SI i s.heap->Moved (S::wr) G s0 s->(∀s',Moved (S::wr) G s0 s'->SI n s'.heap->R (.ok (.ret .none)) s')->
   codeAny (model prog w) A (.builtin "set.update.loop" ⟨[.ref S,.ref I],[]⟩) R s:=by
 have hSw:S∉wr:=fun h=>eL (W.sub _ h);have au: ∀b∈wr,b∈S::wr:=fun b hb=>iT _ hb;intro k
 induction k with
 |zero=>
  intro i s hk hi p9 hS fA hR;have hin:i=n:=by omega
  subst hin;refine pE HQ ?_;rw[rk Dx _];show wpAny _ A.in1 (pyNext (.ref I)>>=_) _ _ s;refine gi (W.done s _ _ p9 fun s' hm=>?_);show wpAny _ A.in1 (ret Value.none) _ _ s';exact gw (hR s' (Moved.trans W.gtrans fA (hm.mono au)) (stay _ _ _ hS fun o e=>hm.heap S o hSw e))
 |succ k ih=>
  intro i s hk hi p9 hS fA hR;have j7:i<n:=by omega
  refine pE HQ ?_;rw[rk Dx _];show wpAny _ A.in1 (pyNext (.ref I)>>=_) _ _ s;refine gi (W.item i s _ _ j7 p9 fun v s' hP hst' hm=>?_);have hm1:=Moved.trans W.gtrans fA (hm.mono au);show wpAny _ A.in1 (holding [v] (setAdd S v)>>=_) _ _ s';refine gi (lR (step i v s' _ _ j7 hP (stay _ _ _ hS fun o e=>hm.heap S o hSw e) hm1 fun r h' tk bo aR hS2=>?_));refine gw ⟨pP Dx _,ih (i+1) _ (by omega) j7 (W.frame _ s' _ _ hst' bo fun b hb o e=>?_) hS2 (hm1.then_heap bo fun b o hb e=>?_) hR⟩
  ·rw[aR.2 b (fun h:b=S=>eL (by rw[<-h];exact hb))];exact e
  ·rw[aR.2 b (fun h:b=S=>hb (by rw[h];exact iR))];exact e
end
section
variable {prog:gP}{w:gH}{A:gM}{E:hG}{s:gr}
theorem Mz(a:gB)(h:Q₁ (.ref s.heap.objs.size) {s with heap:=s.heap.push (jN #[] 0 (.fresh 0 0 (!w.params.followText "set-order")))}):
  codeAny (model prog w) A (.call (.builtin "set.__new__") ⟨[.type "set",a],[]⟩) (wants Q₁ E) s:=by
 refine wJ ?_;show wpAny _ A.in1 (do checkBuiltinCall "set.__new__" ⟨[.type "set",a],[]⟩;again (.builtin "set.__new__" ⟨[.type "set",a],[]⟩)) _ _ s;refine gi (oV (PySem.F.newCall_set_1 a) (gw ⟨pP HP _,pE PySem.F.entry_set_new ?_⟩));rw[rk HP _];unfold Builtin.«set.__new__» Builtin.Frozenset.newClass;have au:=sub_set_self;obtain⟨hp,g,d,tk,os⟩:=s;dsimp only
 wp_walk
 refine uW (gw ?_);dsimp only;simp only[newObj];refine gi (wpAny_alloc (gw ?_));exact gw h
abbrev md(w:gH):SetTable:= .fresh 0 0 (!w.params.followText "set-order")
theorem PH{h:gQ}{a:gn}(e:h.get? a=some (jN #[] 0 (md w))):SetIs w h a #[] 0 (md w):=⟨e,TabOk.fresh _ _ _,rfl,rfl⟩
set_option maxHeartbeats 8000000 in
theorem PJ{l:gn}{items:jS}{Q:hG}(hh:A.handled=none)(hl:s.heap.IsList l items)(SI:Nat->Heap->Prop)
  (stay: ∀i h h',SI i h->(∀o,h.get? s.heap.objs.size=some o->h'.get? s.heap.objs.size=some o)->SI i h')
  (pq: ∀h',h'.get? s.heap.objs.size=some (jN #[] 0 (md w))->SI 0 h')
  (step: ∀i v (s':gr) (B:gM) (Q:pA) (E:hG),B.units<=A.units+20->items[i]?=some v->SI i s'.heap->(∀b o,s.heap.get? b=some o->s'.heap.get? b=some o)->s'.gens=s.gens->s'.drawn=s.drawn->s'.os=s.os->
   (∀r h' tk,s'.toks<=tk->Heap.SameBut s.heap.objs.size s'.heap h'->SI (i+1) h'->Q r {s' with heap:=h',toks:=tk})->wpAny (model prog w) B (setAdd s.heap.objs.size v) Q E s')
  (h: ∀(h':gQ) (tk:Nat),SI items.size h'->(∀b o,s.heap.get? b=some o->h'.get? b=some o)->Q (.ref s.heap.objs.size) {s with heap:=h',toks:=tk}):
  wpAny (model prog w) A (call (.type "set") [.ref l]) Q E s:=by
 obtain⟨c,tl,hmro⟩:=IB.mro;have hmade:=IB.made;have au:=IB.sub;refine wpAny_call (wJ ?_);show wpAny _ _ (callAny (.type "set") _) _ _ _;refine gw ⟨Code.quiet_builtin _ (by decide+kernel),pE PySem.F.entry_type_call ?_⟩;rw[Around.under_plain (weight_type_call_type "set" [.ref l] []) rfl];have h1:=IB.notType;have h2:=IB.canCreate;have hct:=PySem.F.typeCall_set_1 (.ref l)
 repeat (any_goals (first|assumption|wp_step))
 refine pV (Mz (.ref l) (E:=E) (Q₁:=fun obj s₁=>obj= .ref s.heap.objs.size/\s₁={s with heap:=s.heap.push (jN #[] 0 (md w))}) ⟨rfl,rfl⟩) fun r s₁ hr=>?_
 cases r with
 |error e=>exact hr
 |ok fl=>
  cases fl with
  |ret obj=>
   obtain⟨rfl,rfl⟩:=hr;have hS:(s.heap.push (jN #[] 0 (md w))).get? s.heap.objs.size=some (jN #[] 0 (md w)):=jr _ rfl;have hT:Shared.TypeIs {s with heap:=s.heap.push (jN #[] 0 (md w))} (.ref s.heap.objs.size) "set":=⟨_,hS,rfl⟩
   have hli:=IB.init.lookup;have hbi:=IB.init.bind (.ref s.heap.objs.size)
   repeat (any_goals (first|assumption|wp_step))
   refine pV (codeAny_call_builtin (R:=wants (fun r s₂=>r= .none/\ ∃h' tk,s₂={s with heap:=h',toks:=tk}/\SI items.size h'/\(∀b o,s.heap.get? b=some o->h'.get? b=some o)) E) IB.init.plain PySem.F.entry_set_init (check_set_init_1 hT ?_)) fun r₂ s₂ fq=>?_
   ·obtain⟨ol,cW,u3,nl,aj⟩:=hl;obtain⟨ocls,odict,odata,oslots⟩:=ol;simp only at u3 aj;subst u3;subst aj;have hol':(s.heap.push (jN #[] 0 (md w))).get? l=some {cls:= .type "list",dict:=odict,data:= .seq items nl,slots:=oslots}:=ig _ cW;have hsls:=PySem.F.sub_list_set;have hslf:=PySem.F.sub_list_frozenset;have q9:(Value.type "list"==Value.type "dict")=false:=by decide
    have bp:(s.heap.push (jN #[] 0 (md w))).IsList l items:=⟨_,hol',rfl,nl,rfl⟩
    unfold Builtin.«set.__init__» noKeywords Builtin.Frozenset.updateFrom;generalize hPI:pyIter=PI
    wp_walk
    subst hPI;refine wQ bp ?_;refine gi (Ax ?_);have hlS:l<s.heap.objs.size:=hV cW;have hh3:A.in1.in1.in1.handled=none:=by simp[hh]
    have sz:(s.heap.push (jN #[] 0 (md w))).objs.size=s.heap.objs.size+1:=tw _ _;have hneI:l≠(s.heap.push (jN #[] 0 (md w))).objs.size:=by rw[sz];exact iz (pS hlS)
    have eL:s.heap.objs.size∉[(s.heap.push (jN #[] 0 (md w))).objs.size,l]:=by
     rw[sz];simp only[jg,jF,kL,nQ];exact⟨iz (tq _),pI hlS⟩
    refine IK ((Walks.list hh3 _ l hneI items).toS) s.heap.objs.size eL _ SI stay (fun i v s' Q' E' hi hP hSI hm hk=>?_) (items.size-0) 0 _ (by omega) (lr _) ⟨⟨_,jr _ rfl,rfl,rfl⟩,(bp.push _)⟩ (pq _ (ig _ hS)) (Moved.refl fun _=>rfl) ?hR
    ·refine step i v s' _ Q' E' ?_ hP hSI (fun b o e=>?_) hm.gens hm.drawn hm.os hk
     ·show A.units+1+1+1<=A.units+20;omega
     ·have hb:=hV e;exact hm.heap b o (by rw[sz];simp only[jg,jF,kL,nQ];exact⟨iz hb,iz (pS hb)⟩) (ig _ (ig _ e))
    case hR=>
     intro s' hm ba;obtain⟨h',g',d',bO,cg⟩:=s';have eg:g'=s.gens:=hm.gens;have ed:d'=s.drawn:=hm.drawn;have eo:cg=s.os:=hm.os;subst eg;subst ed;subst eo;show wpAny _ _ _ _ _ _;refine gw ?_;show wpAny _ _ (ret Value.none) _ _ _;refine gw ⟨rfl,h',bO,rfl,ba,fun b o e=>?_⟩;have hb:=hV e;exact hm.heap b o (by rw[sz];simp only[jg,jF,kL,nQ];exact⟨iz hb,iz (pS hb)⟩) (ig _ (ig _ e))
   ·cases r₂ with
    |error e=>exact fq
    |ok fl₂=>
     cases fl₂ with
     |ret r=>
      obtain⟨rfl,h',tk,rfl,ba,cY⟩:=fq
      repeat (any_goals (first|assumption|wp_step))
      exact h _ _ ba cY
     |_=>exact fq.elim
  |_=>exact hr.elim
end
structure DRaw(h:gQ)(d:gn)(es:Array DictEntry)(ep:Nat):Prop where
 at_: ∃o,h.get? d=some o/\o.ExactDict/\o.data= .dict es ep
theorem DRaw.stay{d es ep}(x:DRaw h d es ep)(k: ∀o,h.get? d=some o->h'.get? d=some o):DRaw h' d es ep:=let⟨o,h1,r⟩:=x.at_;⟨o,k _ h1,r⟩
section
variable {prog:gP}{w:gH}{A:gM}{E:hG}{s:gr}
theorem DRaw.typeIs{d es ep}(x:DRaw s.heap d es ep):s.TypeIs (.ref d) "dict":=let⟨o,h1,r,_⟩:=x.at_;⟨o,h1,r.1⟩
theorem Ho(hd:(d==sysModules)=false)(hm:DRaw s.heap d es ep)
  (hQ:Q (.ref s.heap.objs.size) {s with heap:=s.heap.push {cls:= .type "dict_keyiterator",data:= .fields #[.ref d,.int 0 0,.int es.size 0,.int ep 0]}}):wpAny (model prog w) A (pyIter (.ref d)) Q E s:=by
 have hT:=hm.typeIs;obtain⟨o,ho,hc,hdat⟩:=hm.at_;refine Dz hT HN (mq HN hT PySem.F.entry_dict_iter ?_ (PySem.F.args_dict_iter_1 _));unfold Builtin.«dict.__iter__»;refine gi ?_;unfold Builtin.Dict.dictSlotNone;refine gi (wpAny_notOrdered_dict hT ?_);change wpAny _ _ (pure (Value.ref d)) _ _ s;refine gw ?_;change wpAny _ _ (Builtin.Dict.showsAll d>>=_) _ _ s;unfold Builtin.Dict.showsAll;rw[gv (by rw[hd];exact jc)];refine gi (gw ?_);refine gi (Dw ho hdat ?_);refine gi (Dv ho hdat ?_);refine gi (kE (gw ⟨_,rfl,"dict_keyiterator",_,⟨_,jr _ rfl,rfl⟩,zb.lookup,?_⟩));simpa[rawInt] using hQ
theorem xK{it d:gn}{i ep:Nat}{es:Array DictEntry}{e:DictEntry}{Q:Fy}(hit:s.heap.IsKeyIter it d i es.size ep)(hm:DRaw s.heap d es ep)(hx:es[i]?=some e)
  (hQ: ∀h',h'.IsKeyIter it d (i+1) es.size ep->Heap.SameBut it s.heap h'->Q (some e.key) {s with heap:=h'}):wpAny (model prog w) A (pyNext (.ref it)) Q E s:=by
 obtain⟨o,ho,hc,hd⟩:=id hit;obtain⟨od,dI,x8,bK⟩:=hm.at_;unfold pyNext;refine gi (rZ (pG (name:=Str.ofString "__next__") hit.typeIs zb (mq zb hit.typeIs HM ?_ (HL _))));refine gi (gw ?_);refine gi ?_;refine gi ?_;refine gi (Aa hit.typeIs (gw ?_));refine gi (wpAny_fieldsOf ho hd ?_);have cB:Builtin.Dict_items.ownsTuple "dict_keyiterator"=false:=by decide
 simp only[cB,iC,iP];change wpAny _ _ (if(Value.ref d==Value.none)=true then _ else _) _ _ s;rw[gv (show ¬((Value.ref d==Value.none)=true) from jc)];refine gi (gw ?_);refine gi (Dw dI bK ?_);rw[gv (by simp)];refine gi (gw ?_);refine gi (Dv dI bK ?_);rw[gv (by simp)];refine gw ?_;simp only[show ¬((i:Int)<0) from by omega,iP,pH,hx];refine gi ?_;refine gi (Aa hit.typeIs (gw ?_));refine gi (HK hit.typeIs ?_);change wpAny _ _ (setField (.ref it) 1 (rawInt ((i:Int)+1))>>=_) _ _ s;refine gi (sd ho hd (by simp) ?_)
 have aw:(s.heap.update it (Obj.mapFields (·.setIfInBounds 1 (rawInt ((i:Int)+1))))).IsKeyIter it d (i+1) es.size ep:=
  ⟨_,rp _ ho (Au (rh hd _)),(As ..).trans hc,by rw[rh hd];simp[rawInt]⟩
 refine gi (lR ?_);refine gi (HK (s:={s with heap:=s.heap.update it (Obj.mapFields (·.setIfInBounds 1 (rawInt ((i:Int)+1))))}) aw.typeIs ?_);change wpAny _ _ (pure e.key) _ _ _;exact gw (gw ⟨_,rfl,gw (hQ _ aw (tj ..))⟩)
theorem yQ(hh:A.handled=none)(hit:s.heap.IsKeyIter it d es.size es.size ep)(hm:DRaw s.heap d es ep)
  (hQ: ∀h',Heap.ExtBut it s.heap h'->Q none {s with heap:=h'}):wpAny (model prog w) A (pyNext (.ref it)) Q E s:=by
 obtain⟨o,ho,hc,hd⟩:=id hit;obtain⟨od,dI,x8,bK⟩:=hm.at_;unfold pyNext;refine gi (rZ (pG (name:=Str.ofString "__next__") hit.typeIs zb (mq zb hit.typeIs HM ?_ (HL _))));refine gi (gw ?_);refine gi ?_;refine gi ?_;refine gi (Aa hit.typeIs (gw ?_));refine gi (wpAny_fieldsOf ho hd ?_);have cB:Builtin.Dict_items.ownsTuple "dict_keyiterator"=false:=by decide
 simp only[cB,iC,iP];change wpAny _ _ (if(Value.ref d==Value.none)=true then _ else _) _ _ s;rw[gv (show ¬((Value.ref d==Value.none)=true) from jc)];refine gi (gw ?_);refine gi (Dw dI bK ?_);rw[gv (by simp)];refine gi (gw ?_);refine gi (Dv dI bK ?_);rw[gv (by simp)];refine gw ?_;simp only[show ¬((es.size:Int)<0) from by omega,iP,pH,Ah (hU es.size)];refine gi ?_;refine gi (Aa hit.typeIs (gw ?_));change wpAny _ _ (setField (.ref it) 0 .none>>=_) _ _ s;refine gi (sd ho hd (by simp) ?_);change wpAny _ _ (newExc (.type "StopIteration") []>>=_) _ _ _;refine gi ?_;simp only[newExc,newTuple];refine gi (kE ?_ (by size_fits));refine gi (m:=firstArgMember _ _) (oV (a:=Value.none) (by first|rfl|(simp only[firstArgMember];rfl)) ?_);refine kE ?_ (by size_fits);simp only[raiseNew];refine gi (DQ ?_);rw[show A.in1.handled=none from hh];refine gi (gw (DP ?_));refine gi (uR (T:="StopIteration") (b:=true) ⟨_,jr _ rfl,rfl⟩ DM ?_);exact gw (hQ _ (((tj ..).extBut.push _).push _))
theorem E9(hh:A.handled=none)(I d:gn)(q9:I≠d)(es:Array DictEntry)(ep:Nat):Walks prog w A I [I,d] [I] es.size (fun i v=> ∃e,es[i]?=some e/\v=e.key) (fun i h=>h.IsKeyIter I d i es.size ep/\DRaw h d es ep) where
 sub:=fun b hb=>by simp at hb;simp[hb]
 frame:=fun _ _ _ st hk=>⟨st.1.at fun o e=>hk I (by simp) o e,st.2.stay fun o e=>hk d (by simp) o e⟩
 item:=fun i s Q E hi st hQ=>by
  have hg:es[i]?=some es[i]:=mn hi;refine xK st.1 st.2 hg fun h' aw aC=>?_;exact hQ _ h' s.toks ⟨_,hg,rfl⟩ ⟨aw,st.2.stay fun o e=>aC.extBut d o (fun h=>q9 h.symm) e⟩ fun b o hb e=>aC.extBut b o (fun h=>hb (by simp[h])) e
 done:=fun s Q E st hQ=>yQ hh st.1 st.2 fun h' bw=>hQ h' s.toks fun b o hb e=>bw b o (fun h=>hb (by simp[h])) e
 self:=fun _ _ _ _ st hQ=>wpAny_pyIter_keyiter st.1 hQ
theorem Ls(hd:(a==sysModules)=false)(hh:A.handled=none)(S:DRaw s.heap a es n)(hn:es.size<=sizeLine) 
  (hQ: ∀h' tk,(∀b o,s.heap.get? b=some o->h'.get? b=some o)->Q (es.toList.map (·.key)) {s with heap:=h',toks:=tk}):wpAny (model prog w) A (collect (.ref a)) Q E s:=by
 have bW:a<s.heap.objs.size:=let⟨_,h1,_⟩:=S.at_;hV h1;have cG:a≠s.heap.objs.size:=iz bW;have cF:a≠s.heap.objs.size+1:=iz (pS bW);have dH:s.heap.objs.size≠s.heap.objs.size+1:=iz (tq _);unfold collect;refine gi (Ax (pE HW ?_));rw[rk HV _];show wpAny _ A.in1 (newList []>>=fun l=>again (.builtin "list.__iadd__" ⟨[l,.ref a],[]⟩)) _ _ s;refine gi (kE ?_);refine gw ⟨pP Ac _,pE HU ?_⟩;rw[rk Ac _];show wpAny _ A.in1 (Builtin.List.listExtendWith (.ref s.heap.objs.size) (.ref a) (.ref s.heap.objs.size)) _ _ _;generalize dM:({cls:= .type "list",data:= .seq ([]:List Value).toArray}:Obj)=l0;have S1:DRaw (s.heap.push l0) a es n:=S.stay fun o e=>ig _ e;unfold Builtin.List.listExtendWith;refine gi (rq (T:="dict") (s:={s with heap:=s.heap.push l0}) S1.typeIs ?_);have h1:Builtin.List.listSameRef (.ref s.heap.objs.size) (.ref a)=false:=by simp only[Builtin.List.listSameRef,yG];exact cG.symm
 have h2:(Value.type "dict"==Value.type "list")=false:=by decide
 have h3:(Value.type "dict"==Value.type "tuple")=false:=by decide
 simp only[h1,h2,h3,Bool.or_false,iC,iP];refine gi (Ho (s:={s with heap:=s.heap.push l0}) hd S1 ?_);obtain⟨h2,fJ⟩: ∃h2,h2=(s.heap.push l0).push {cls:= .type "dict_keyiterator",data:= .fields #[.ref a,.int 0 0,.int es.size 0,.int n 0]}:=⟨_,rfl⟩
 have dE:h2.IsKeyIter (s.heap.push l0).objs.size a 0 es.size n:=by rw[fJ];exact⟨_,jr _ rfl,rfl,rfl⟩
 have k2: ∀b o,(s.heap.push l0).get? b=some o->h2.get? b=some o:=fun b o e=>by rw[fJ];exact ig _ e
 rw[<-fJ];have dw:(s.heap.push l0).objs.size=s.heap.objs.size+1:=tw _ _;have S2:DRaw h2 a es n:=S1.stay fun o e=>k2 _ _ e;refine gi (lR ?_);unfold Builtin.List.listLengthHint;refine gi (rR (T:="dict") (s:={s with heap:=h2}) S2.typeIs PySem.F.slot_dict_len.lookup ?_);generalize dN:("dict.__len__":String)=id0;dsimp only;rw[show splitId id0=some ("dict","__len__") from by subst dN;decide+kernel];dsimp only;refine gi (uR (T:="dict") (s:={s with heap:=h2}) (b:=true) S2.typeIs (by rw[Ae];kernel_rfl) ?_);simp only[lq,iC,iP];change wpAny _ _ (if _=true then _ else _) _ _ _;rw[gu (by subst dN;decide+kernel)];refine gi (rq (T:="dict") (s:={s with heap:=h2}) S2.typeIs ?_);dsimp only;refine gw ?_;change wpAny _ _ (if _=true then _ else _) _ _ _;rw[gu (by decide+kernel)];refine gi (tx ?_);have dR:h2.get? s.heap.objs.size=some l0:=k2 _ _ (jr _ (by subst dM;rfl));subst dM;refine gi ?_;show wpAny _ A.in1 (updateSeq s.heap.objs.size (·.push .none)>>=fun _=>updateSeq s.heap.objs.size (·.pop)) _ _ _;refine gi (Ab (s:={s with heap:=h2}) dR rfl ?_);have dQ:=rp (Obj.mapSeq (·.push Value.none)) dR rfl;refine Ab dQ rfl ?_;have fS:=rp (Obj.mapSeq (·.pop)) dQ rfl
 have oth: ∀b o,b≠s.heap.objs.size->h2.get? b=some o->((h2.update s.heap.objs.size (Obj.mapSeq (·.push Value.none))).update s.heap.objs.size (Obj.mapSeq (·.pop))).get? b=some o:=
  fun b o hb e=>(uY _ _ (oX hb)).trans ((uY _ _ (oX hb)).trans e)
 have W:=(E9 (prog:=prog) (w:=w) (A:=A.in1) (by show A.handled=none;exact hh) (s.heap.objs.size+1) a cF.symm es n).toS;rw[dw] at dE;refine gw ⟨pP HS _,?_⟩;rw[dw];refine HR W hn s.heap.objs.size (by simp only[jg,jF,kL,nQ];exact⟨dH,cG.symm⟩) _ es.size 0 _ _ _ rfl (lr _) ?_ fS (ItemsOf.nil _) fun s' i6 c' hm ba n9=>?_
 ·refine⟨?_,S2.stay fun o e=>oth a o cG e⟩;obtain⟨o,g1,g2⟩:=dE;exact⟨o,oth _ o dH.symm g1,g2⟩
 show wpAny _ A (load s.heap.objs.size>>=_) _ _ s';refine gi (va ba ?_);obtain⟨h',g',d',bO,cg⟩:=s';have eg:g'=s.gens:=hm.gens;have ed:d'=s.drawn:=hm.drawn;have eo:cg=s.os:=hm.os;subst eg;subst ed;subst eo
 have cP:i6.toList=es.toList.map (·.key):=by
  obtain⟨a1,a2⟩:=n9;apply DS
  ·rw[iX,iY,iY,a1]
  ·intro j g1 g2;have gj:i6[j]?=some i6.toList[j]:=by rw[<-kD];exact iO g1
   obtain⟨e,he,hv⟩:=a2 j _ gj;rw[hv];rw[iX,iY] at g2;rw[List.getElem_map];rw[<-kD,iO (by rw[iY];exact g2)] at he;cases he;rfl
 refine gw ?_;show Q i6.toList _;rw[cP];refine hQ h' bO fun b o e=>?_;have hb:=hV e;exact hm.heap b o (by simp only[jg,jF,kL,nQ];exact⟨iz hb,iz (pS hb)⟩) (oth b o (iz hb) (k2 _ _ (ig _ e)))
end
end TT
namespace PX
open PySem PySem.Spec PyProof.Rows L2 PySem.SeqAt TS
theorem D.hashL_map: ∀l:List D,D.hashL l=l.map D.hash
 |[]=>by rw[D.hashL];rfl
 |d::l=>by rw[D.hashL,D.hashL_map l];rfl
theorem xq: ∀{l:List D} {d:D},D.prL l=true->d∈l->D.pr d=true
 |[],d,_,h=>by simp at h
 |e::l,d,hp,h=>by
  rw[D.prL,kQ] at hp;rcases jg.mp h with rfl|h
  ·exact hp.1
  ·exact xq hp.2 h
theorem oR: ∀{l:List D} {d:D},d∈l->d.dep<=D.depL l:=fun {l d} h=>by
 obtain⟨j,hj⟩:=tu h;exact D.dep_mem hj
section
variable {X:Cx}{pins:hJ}{σ:L2.St}{H:Hp}{s:gr}
def RepV(X:Cx)(H:Hp)(O:AP')(ds:List D)(b6:iG):Prop:= ∃xs,RepL X.K H O ds xs/\Vals xs b6
theorem RepV.cons(h:RepV X H O (d::ds) (v::b6)):(∃x,Rep X.K H O d x/\RelV x v)/\RepV X H O ds b6:=by
 obtain⟨xs,r,vs⟩:=h;rw[RepL] at r;obtain⟨x,xr,rfl,r1,r2⟩:=r
 cases vs with
 |cons a b=>exact⟨⟨x,r1,a⟩,xr,r2,b⟩
theorem RepV.nil_of{O:AP'}{ds:List D}(h:RepV X H O ds []):ds=[]:=by
 obtain⟨xs,r,vs⟩:=h;cases vs
 cases ds with
 |nil=>rfl
 |cons d ds=>rw[RepL] at r;obtain⟨_,_,e,_⟩:=r;cases e
theorem RepV.cons_of(h:RepV X H O ds (v::b6)): ∃d ds',ds=d::ds':=by
 cases ds with
 |nil=>obtain⟨xs,r,vs⟩:=h;rw[RepL] at r;subst r;cases vs
 |cons d ds=>exact⟨d,ds,rfl⟩
theorem OZ: ∀(n:Nat) {s:gr} (I:Inv X pins σ H s) (d:D) (v:V) (u:gB) (O:AP') (A:gM) (E:hG) (Q:Int->Shared->Prop),Rep X.K H O d v->RelV v u->D.pr d=true->d.dep<=n->A.units+n<cLine->(∀tk,s.toks<=tk->Q d.hash {s with toks:=tk})->
  wpAny (model X.prog X.w) A (pyHash u) Q E s:=by
 intro n
 induction n with
 |zero=>
  intro s I d v u O A E Q hr rv hp hd hA hQ
  cases d with
  |int i=>
   have:=hr.int;subst this;obtain⟨t,rfl⟩:=rv;have:=hQ (s.toks+1) (uX _);rw[D.hash] at this;exact D9 this
  |tup l=>rw[D.dep] at hd;omega
  |_=>simp[D.pr] at hp
 |succ n ih=>
  intro s I d v u O A E Q hr rv hp hd hA hQ
  cases d with
  |int i=>
   have:=hr.int;subst this;obtain⟨t,rfl⟩:=rv;have:=hQ (s.toks+1) (uX _);rw[D.hash] at this;exact D9 this
  |tup l=>
   rw[D.pr] at hp;rw[D.dep] at hd;obtain⟨a,xs,rfl,q,r⟩:=hr.tup;cases rv;obtain⟨b6,vs,⟨o,ho,hc,nn,cJ⟩,_⟩:=I.tuple q.sq;have hT:s.TypeIs (.ref a) "tuple":=⟨o,ho,hc⟩
   have hu:A.units<cLine:=by omega
   unfold pyHash;unfold pyHashByItsType;refine gi (wpAny_cRoomFor_or (.inr hu) ?_);refine gi (rR hT FA.lookup ?_);show wpAny _ _ (if(some (Value.builtin "tuple.__hash__")==some Value.none)=true then _ else _) Q E s;rw[gv (by rw[beq_builtin_none];exact jc)];refine gi (rR hT FA.lookup ?_);show wpAny _ _ (callSpecialIfBoundUnlessNone? (.ref a) "__hash__" _>>=_) Q E s;refine gi (wpAny_callSpecialIfBoundUnlessNone?_slot hT FA (mq FA hT PySem.F.entry_tuple_hash ?_ (PySem.F.args_tuple_hash_1 _)));show wpAny _ _ (Builtin.Tuple.tupleItemsOf (.ref a)>>=_) _ _ s;refine gi (wpAny_tupleItemsOf ho cJ ?_);refine gi ?_;rw[<-zZ]
   refine oD _
    (fun gJ (b:Array Int) s'=> ∃done left,l=done++left/\RepV X H (fun a=>O a) left gJ/\b.toList=done.map D.hash/\ ∃tk,s.toks<=tk/\s'={s with toks:=tk})
    _ ?_ ?_ _ _ ⟨[],l,rfl,⟨xs,r,by simpa using vs⟩,rfl,s.toks,hU _,rfl⟩
   ·rintro x gJ b s' ⟨done,left,rfl,hl,hb,tk,bo,rfl⟩;obtain⟨d,left,rfl⟩:=hl.cons_of;obtain⟨⟨y,h1,h2⟩,h3⟩:=hl.cons;have hm:d∈done++d::left:=by simp
    have bK:=oR hm;refine gi (ih (I.kept (h':=s.heap) (t':=tk) fun _ _ e=>e) d y x O A.in1 E _ h1 h2 (xq hp hm) (by omega) (by show A.units+1+n<cLine;omega) fun bO htk'=>?_)
    first
     |exact gw ⟨done++[d],left,by simp,h3,by simp[hb],bO,kM bo htk',rfl⟩
     |exact gi (gw (gw ⟨done++[d],left,by simp,h3,by simp[hb],bO,kM bo htk',rfl⟩))
   ·rintro b s' ⟨done,left,rfl,hl,hb,tk,bo,rfl⟩;have:=hl.nil_of;subst this;have h:=hQ (tk+1) (Nat.le_succ_of_le bo);rw[D.hash,D.hashL_map,tH] at h;show wpAny _ _ (retInt (Builtin.Tuple.tupleHashOf b.toList)) _ _ _;rw[hb];refine wpAny_ret_mkInt ?_;show wpAny _ _ (if(decide (-(2:Int)^63<=Builtin.Tuple.tupleHashOf (done.map D.hash))&&decide (Builtin.Tuple.tupleHashOf (done.map D.hash)<2^63))=true then _ else _) Q E _;unfold reduceHash at h;by_cases hr:(decide (-(2:Int)^63<=Builtin.Tuple.tupleHashOf (done.map D.hash))&&decide (Builtin.Tuple.tupleHashOf (done.map D.hash)<2^63))=true
    ·rw[gu hr];rw[gu hr] at h;exact gw h
    ·rw[gv hr];rw[gv hr] at h;exact gi (tx (gw h))
  |_=>simp[D.pr] at hp
theorem Q0(I:Inv X pins σ H s): ∀(n:Nat) (d:D) (v:V) (u:gB) (O:AP') (A:gM) (E:hG) (Q:pA),Rep X.K H O d v->RelV v u->D.pr d=true->d.dep<=n->Q true s->wpAny (model X.prog X.w) A (hashByValue n u) Q E s:=by
 intro n
 induction n with
 |zero=>
  intro d v u O A E Q hr rv hp hd hQ
  cases d with
  |int i=>
   have:=hr.int;subst this;obtain⟨t,rfl⟩:=rv;exact oV (show hashByValue 0 (.int i t)=pure true by simp[hashByValue]) hQ
  |tup l=>rw[D.dep] at hd;omega
  |_=>simp[D.pr] at hp
 |succ n ih=>
  intro d v u O A E Q hr rv hp hd hQ
  cases d with
  |int i=>
   have:=hr.int;subst this;obtain⟨t,rfl⟩:=rv;exact oV (show hashByValue (n+1) (.int i t)=pure true by simp[hashByValue]) hQ
  |tup l=>
   rw[D.pr] at hp;rw[D.dep] at hd;obtain⟨a,xs,rfl,q,r⟩:=hr.tup;cases rv;obtain⟨b6,vs,⟨o,ho,hc,nn,cJ⟩,_⟩:=I.tuple q.sq;have hT:s.TypeIs (.ref a) "tuple":=⟨o,ho,hc⟩
   unfold hashByValue;refine gi (rR hT FA.lookup ?_);dsimp only;refine gi (pD ho cJ ?_);refine gi ?_;show wpAny _ _ (forIn b6.toArray _ _) _ _ s;rw[<-zZ];refine oD _ (fun gJ rr s'=>rr.1=none/\s'=s/\ ∃left,(∀d∈left,d∈l)/\RepV X H O left gJ) _ ?_ ?_ _ _ ⟨rfl,rfl,l,fun d h=>h,xs,r,by simpa using vs⟩
   ·rintro x gJ rr s' ⟨h0,rfl,left,hm,hl⟩;obtain⟨d,left,rfl⟩:=hl.cons_of;obtain⟨⟨y,h1,h2⟩,h3⟩:=hl.cons;have bV:=hm d iR;have bK:=oR bV;refine gi (ih d y x O A E _ h1 h2 (xq hp bV) (by omega) ?_);simp only[lq,iC,iP];exact gw ⟨rfl,rfl,left,fun d h=>hm d (iT _ h),h3⟩
   ·rintro⟨r1,r2⟩ s' ⟨h0,rfl,_⟩;simp only at h0;subst h0;exact gw hQ
  |_=>simp[D.pr] at hp
theorem LL{P:gP}{W:gH}(I:Inv X pins σ H s): ∀(n:Nat) (d:D) (v:V) (u:gB) (O:AP') (A:gM) (E:hG) (Q:pA),Rep X.K H O d v->RelV v u->D.pr d=true->d.dep<=n->Q true s->wpAny (model P W) A (eqIsQuiet n u) Q E s:=by
 intro n
 induction n with
 |zero=>
  intro d v u O A E Q hr rv hp hd hQ
  cases d with
  |int i=>
   have:=hr.int;subst this;obtain⟨t,rfl⟩:=rv;exact oV (eqIsQuiet_byValue 0 rfl) hQ
  |tup l=>rw[D.dep] at hd;omega
  |_=>simp[D.pr] at hp
 |succ n ih=>
  intro d v u O A E Q hr rv hp hd hQ
  cases d with
  |int i=>
   have:=hr.int;subst this;obtain⟨t,rfl⟩:=rv;exact oV (eqIsQuiet_byValue (n+1) rfl) hQ
  |tup l=>
   rw[D.pr] at hp;rw[D.dep] at hd;obtain⟨a,xs,rfl,q,r⟩:=hr.tup;cases rv;obtain⟨b6,vs,⟨o,ho,hc,nn,cJ⟩,_⟩:=I.tuple q.sq;have hT:s.TypeIs (.ref a) "tuple":=⟨o,ho,hc⟩
   unfold eqIsQuiet;refine gi (rR hT PySem.F.slot_tuple_eq.lookup ?_);show wpAny _ _ (isInstance (.ref a) (.type "tuple")>>=_) _ _ s;refine gi (uR hT isSubtype_tuple_tuple ?_);simp only[lq,iC,iP];refine gi (pD ho cJ ?_);refine gi ?_;show wpAny _ _ (forIn b6.toArray _ _) _ _ s;rw[<-zZ];refine oD _ (fun gJ rr s'=>rr.1=none/\s'=s/\ ∃left,(∀d∈left,d∈l)/\RepV X H O left gJ) _ ?_ ?_ _ _ ⟨rfl,rfl,l,fun d h=>h,xs,r,by simpa using vs⟩
   ·rintro x gJ rr s' ⟨h0,rfl,left,hm,hl⟩;obtain⟨d,left,rfl⟩:=hl.cons_of;obtain⟨⟨y,h1,h2⟩,h3⟩:=hl.cons;have bV:=hm d iR;have bK:=oR bV;refine gi (ih d y x O A E _ h1 h2 (xq hp bV) (by omega) ?_);simp only[lq,iC,iP];exact gw ⟨rfl,rfl,left,fun d h=>hm d (iT _ h),h3⟩
   ·rintro⟨r1,r2⟩ s' ⟨h0,rfl,_⟩;simp only at h0;subst h0;exact gw hQ
  |_=>simp[D.pr] at hp
theorem Hg{P:gP}{W:gH}(I:Inv X pins σ H s): ∀(n:Nat) (d:D) (v:V) (u:gB) (O:AP') (A:gM) (E:hG) (Q:pA),Rep X.K H O d v->RelV v u->D.pr d=true->d.dep<=n->Q false s->wpAny (model P W) A (ofAClassStatement n u) Q E s:=by
 intro n
 induction n with
 |zero=>
  intro d v u O A E Q hr rv hp hd hQ
  cases d with
  |int i=>
   have:=hr.int;subst this;obtain⟨t,rfl⟩:=rv;exact oV (show ofAClassStatement 0 (.int i t)=pure false by simp[ofAClassStatement]) hQ
  |tup l=>rw[D.dep] at hd;omega
  |_=>simp[D.pr] at hp
 |succ n ih=>
  intro d v u O A E Q hr rv hp hd hQ
  cases d with
  |int i=>
   have:=hr.int;subst this;obtain⟨t,rfl⟩:=rv;exact oV (show ofAClassStatement (n+1) (.int i t)=pure false by simp[ofAClassStatement]) hQ
  |tup l=>
   rw[D.pr] at hp;rw[D.dep] at hd;obtain⟨a,xs,rfl,q,r⟩:=hr.tup;cases rv;obtain⟨b6,vs,⟨o,ho,hc,nn,cJ⟩,_⟩:=I.tuple q.sq;have hT:s.TypeIs (.ref a) "tuple":=⟨o,ho,hc⟩
   unfold ofAClassStatement;refine gi (rq hT ?_);dsimp only;rw[gu (by decide)];refine gi (gw ?_);simp only[lq,iC,iP];refine gi (pD ho cJ ?_);dsimp only;refine gi ?_;show wpAny _ _ (forIn b6.toArray _ _) _ _ s;rw[<-zZ];refine oD _ (fun gJ rr s'=>rr.1=none/\s'=s/\ ∃left,(∀d∈left,d∈l)/\RepV X H O left gJ) _ ?_ ?_ _ _ ⟨rfl,rfl,l,fun d h=>h,xs,r,by simpa using vs⟩
   ·rintro x gJ rr s' ⟨h0,rfl,left,hm,hl⟩;obtain⟨d,left,rfl⟩:=hl.cons_of;obtain⟨⟨y,h1,h2⟩,h3⟩:=hl.cons;have bV:=hm d iR;have bK:=oR bV;refine gi (ih d y x O A E _ h1 h2 (xq hp bV) (by omega) ?_);simp only[iC,iP];exact gw ⟨rfl,rfl,left,fun d h=>hm d (iT _ h),h3⟩
   ·rintro⟨r1,r2⟩ s' ⟨h0,rfl,_⟩;simp only at h0;subst h0;exact gw hQ
  |_=>simp[D.pr] at hp
end
def okS:D->Bool
 | .tup l=>D.prL l&&decide (D.depL l<=6)
 |_=>false
theorem oM(h:okS d=true): ∃l,d= .tup l:=by cases d<;>first|exact⟨_,rfl⟩|(simp[okS] at h)
theorem sL(h:okS d=true):D.pr d=true:=by
 obtain⟨l,rfl⟩:=oM h;simp only[okS,kQ] at h;rw[D.pr];exact h.1
theorem qH(h:okS d=true):d.dep<=7:=by
 obtain⟨l,rfl⟩:=oM h;simp only[okS,kQ,se] at h;rw[D.dep];omega
mutual
theorem yp: ∀x y:D,D.pr x=true->D.pr y=true->cT x y= .eq->x=y
 | .int i,.int j,_,_,h=>by
  rw[cT] at h;by_cases h1:i<j
  ·rw[gu h1] at h;cases h
  ·rw[gv h1] at h;by_cases h2:i=j
   ·rw[h2]
   ·rw[gv h2] at h;cases h
 | .tup l,.tup m,h1,h2,h=>by rw[D.pr] at h1 h2;rw[cT] at h;rw[Dg l m h1 h2 h]
 | .int _,.tup _,_,_,h=>by simp[cT] at h
 | .tup _,.int _,_,_,h=>by simp[cT] at h
 | .non,_,h,_,_=>by simp[D.pr] at h
 | .bl _,_,h,_,_=>by simp[D.pr] at h
 | .str _,_,h,_,_=>by simp[D.pr] at h
 | .lst _,_,h,_,_=>by simp[D.pr] at h
 | .oth _ _ _,_,h,_,_=>by simp[D.pr] at h
 |_,.non,_,h,_=>by simp[D.pr] at h
 |_,.bl _,_,h,_=>by simp[D.pr] at h
 |_,.str _,_,h,_=>by simp[D.pr] at h
 |_,.lst _,_,h,_=>by simp[D.pr] at h
 |_,.oth _ _ _,_,h,_=>by simp[D.pr] at h
theorem Dg: ∀l m:List D,D.prL l=true->D.prL m=true->cL l m= .eq->l=m
 |[],[],_,_,_=>rfl
 |[],_::_,_,_,h=>by simp[cL] at h
 |_::_,[],_,_,h=>by simp[cL] at h
 |x::l,y::m,h1,h2,h=>by
  rw[D.prL,kQ] at h1 h2;rw[cL] at h
  cases hc:cT x y with
  |lt=>rw[hc] at h;cases h
  |gt=>rw[hc] at h;cases h
  |eq=>
   rw[hc] at h;rw[yp x y h1.1 h2.1 hc,Dg l m h1.2 h2.2 h]
end
theorem E7(h1:D.pr x=true)(h2:D.pr y=true):D.eqb x y=true↔x=y:=by
 rw[E8 x y h1 h2];constructor
 ·intro h;exact yp x y h1 h2 (by simpa using h)
 ·rintro rfl;rw[Bs];rfl
def qu(vs:List D)(d:D):List D:=if vs.any (D.eqb · d)=true then vs else vs++[d]
def oS(l:List D):List D:=l.foldl qu []
theorem MU(h1:vs.all okS=true)(h2:okS d=true):(qu vs d).all okS=true:=by
 unfold qu;split
 ·exact h1
 ·rw[List.all_append,h1];simp[h2]
theorem Le(vs:List D)(d:D):(qu vs d).length<=vs.length+1:=by unfold qu;split<;>simp
theorem lK{α β:Type}(f:α->β){zs m:List β}(h:zs.Perm m): ∀l:List α,m=l.map f-> ∃l':List α,l'.Perm l/\zs=l'.map f:=by
 induction h with
 |nil=>
  intro l e;have:l=[]:=by simpa using e.symm
  subst this;exact⟨[],.refl _,rfl⟩
 |cons x _ ih=>
  intro l e
  cases l with
  |nil=>simp at e
  |cons y l=>
   simp only[iQ,List.cons.injEq] at e;obtain⟨l',p,q⟩:=ih l e.2;exact⟨y::l',p.cons y,by rw[q,e.1];rfl⟩
 |swap x y l0=>
  intro l e
  cases l with
  |nil=>simp at e
  |cons a l=>
   cases l with
   |nil=>simp at e
   |cons b l=>
    simp only[iQ,List.cons.injEq] at e;exact⟨b::a::l,.swap a b l,by rw[e.1,e.2.1,e.2.2];rfl⟩
 |trans _ _ fg eZ=>
  intro l e;obtain⟨l1,p1,q1⟩:=eZ l e;obtain⟨l2,p2,q2⟩:=fg l1 q1;exact⟨l2,p2.trans p1,q2⟩
theorem vJ{α β:Type}{F:α->β->Prop}{es m:List β}(h:es.Perm m): ∀{z:List α},Paired F z m-> ∃z':List α,Paired F z' es/\z'.Perm z:=by
 induction h with
 |nil=>intro z p;exact⟨z,p,.refl _⟩
 |cons x _ ih=>
  intro z p
  cases p with
  |cons r t=>
   obtain⟨z',h1,h2⟩:=ih t;exact⟨_::z',.cons r h1,h2.cons _⟩
 |swap x y l0=>
  intro z p
  cases p with
  |cons r t=>
   cases t with
   |cons r' t=>exact⟨_,.cons r' (.cons r t),.swap _ _ _⟩
 |trans _ _ fg eZ=>
  intro z p;obtain⟨z1,p1,q1⟩:=eZ p;obtain⟨z2,p2,q2⟩:=fg p1;exact⟨z2,p2,q2.trans q1⟩
theorem RepL.zip{K H}{O:AP'}: ∀{l:List D} {vs:List V},RepL K H O l vs-> ∀p∈l.zip vs,Rep K H O p.1 p.2
 |[],vs,h,p,hp=>by simp at hp
 |d::l,vs,h,p,hp=>by
  rw[RepL] at h;obtain⟨v,r,rfl,h1,h2⟩:=h;rw[rT] at hp;rcases jg.mp hp with rfl|hp
  ·exact h1
  ·exact RepL.zip h2 p hp
theorem RepL.ofZip{K H}{O:AP'}: ∀{l:List (D×V)},(∀p∈l,Rep K H O p.1 p.2)->RepL K H O (l.map (·.1)) (l.map (·.2))
 |[],_=>RepL.nil
 |p::l,h=>RepL.cons (h p iR) (RepL.ofZip fun q hq=>h q (iT _ hq))
abbrev hv(p:D×V):Int×V:=(D.hash p.1,p.2)
theorem wU: ∀(vs:List D) (us:List V),(D.hashL vs).zip us=(vs.zip us).map hv
 |[],us=>by simp[D.hashL]
 |d::vs,[]=>by simp
 |d::vs,u::us=>by rw[D.hashL,rT,rT,iQ,wU vs us]
section
variable {X:Cx}{pins:hJ}{σ:L2.St}{H:Hp}{s:gr}
structure SetV(X:Cx)(H:Hp)(O:AP')(h:gQ)(a:gn)(vs:List D)(es:mh)(n:Nat)(t:kA)(l:List (D×V)):Prop where
 is:TT.SetIs X.w h a es n t
 perm:(l.map (·.1)).Perm vs
 rep: ∀p∈l,Rep X.K H O p.1 p.2
 par:Paired (fun(z:Int×V) (e:Int×Value)=>z.1=e.1/\RelV z.2 e.2) (l.map hv) es.toList
theorem SetV.stay{a vs es n t l}(S:SetV X H O h a vs es n t l)(k: ∀o,h.get? a=some o->h'.get? a=some o):SetV X H O h' a vs es n t l:=⟨S.is.stay k,S.perm,S.rep,S.par⟩
theorem xy{α β:Type}{F:α->β->Prop}: ∀{l:List α} {m:List β},Paired F l m-> ∀{i:Nat} {b:β},m[i]?=some b-> ∃a,l[i]?=some a/\F a b
 |_,_,.nil,i,b,h=>by simp at h
 |_,_,.cons r t,0,b,h=>by simp at h;subst h;exact⟨_,rfl,r⟩
 |_,_,.cons r t,i+1,b,h=>by
  obtain⟨a,h1,h2⟩:=xy t (i:=i) (b:=b) (by simpa using h);exact⟨a,by simpa using h1,h2⟩
theorem xx{α β:Type}{F:α->β->Prop}: ∀{l:List α} {m:List β},Paired F l m->l.length=m.length
 |_,_,.nil=>rfl
 |_,_,.cons r t=>by simp[xx t]
theorem sH: ∀{l:List (Int×V)} {m:List (Int×Value)},Paired (fun(z:Int×V) (e:Int×Value)=>z.1=e.1/\RelV z.2 e.2) l m->l.map (·.1)=m.map (·.1)
 |_,_,.nil=>rfl
 |_,_,.cons r t=>by rw[iQ,iQ,r.1,sH t]
theorem SetV.srch(I:Inv X pins σ H s){O O':AP'}{a:gn}{vs:List D}{es n t l}(S:SetV X H O s.heap a vs es n t l)(hok:vs.all okS=true){d:D}{v:V}{u:gB}(hd:iV X.K H O' d v)(ru:RelV v u)(ax:okS d=true){A:gM}(hA:A.units+60<cLine):
  ∃b,u= .ref b/\TT.Srch A s a es n t u d.hash (fun i=>match l[i]? with|some p=>D.eqb p.1 d|none=>false):=by
 obtain⟨ld,rfl⟩:=oM ax;obtain⟨b,xs,rfl,q,r⟩:=ke hd;cases ru;have hdp:=qH ax;have eI:=sL ax;have mem: ∀p∈l,okS p.1=true:=fun p hp=>nL.mp hok _ (S.perm.mem_iff.mp (Du hp))
 have at_: ∀(i:Nat) (e:Int×Value),es[i]?=some e-> ∃p,l[i]?=some p/\p∈l/\D.hash p.1=e.1/\RelV p.2 e.2:=fun i e he=>by
  obtain⟨z,h1,h2,h3⟩:=xy S.par (i:=i) (b:=e) (by rw[kD];exact he);rw[kF] at h1
  cases hl:l[i]? with
  |none=>rw[hl] at h1;cases h1
  |some p=>rw[hl] at h1;cases h1;exact⟨p,rfl,lQ hl,h2,h3⟩
 have hqu: ∀(e:D) (y:V) (uu:gB) (OO:AP') (B:gM) (P:gP) (W:gH) (Q:pA) (E:hG),okS e=true->iV X.K H OO e y->RelV y uu->Q true s->wpAny (model P W) B (eqIsQuiet 8 uu) Q E s:=fun e y uu OO B P W Q E ho hv hr hq=>by
  obtain⟨le,rfl⟩:=oM ho;rcases hv with hv|⟨_,_,hv⟩
  ·exact LL I 8 _ _ _ OO B E Q hv hr (sL ho) (by have:=qH ho;omega) hq
  ·exact hv.elim
 have u3: ∀(e:D) (y:V) (uu:gB) (OO:AP') (B:gM) (P:gP) (W:gH) (Q:pA) (E:hG),okS e=true->iV X.K H OO e y->RelV y uu->Q false s->wpAny (model P W) B (ofAClassStatement 8 uu) Q E s:=fun e y uu OO B P W Q E ho hv hr hq=>by
  obtain⟨le,rfl⟩:=oM ho;rcases hv with hv|⟨_,_,hv⟩
  ·exact Hg I 8 _ _ _ OO B E Q hv hr (sL ho) (by have:=qH ho;omega) hq
  ·exact hv.elim
 refine⟨b,rfl,⟨_,S.is.at_,rfl⟩,S.is.tab,fun i e he=>?_,fun i e he=>?_,fun i e he hq=>?_,fun ls prog w E Q hls hq=>?_⟩
 ·obtain⟨p,h1,h2,h3,h4⟩:=at_ i e he;obtain⟨lp,hp⟩:=oM (mem p h2);have:=S.rep p h2;rw[hp] at this;obtain⟨c,xs,e1,_⟩:=this.tup;rw[e1] at h4;exact⟨c,h4⟩
 ·obtain⟨p,h1,h2,h3,h4⟩:=at_ i e he;rw[h1];have:=qH (mem p h2);exact yi I 50 p.1 (.tup ld) p.2 (.ref b) _ _ O O' A (.inl (S.rep p h2)) hd h4 rfl (by omega) (by omega) (by omega)
 ·obtain⟨p,h1,h2,h3,h4⟩:=at_ i e he;rw[h1] at hq;rw[(E7 (sL (mem p h2)) eI).mp hq] at h3;exact h3.symm
 ·unfold searchCouldBeSeen;refine gi ?_;refine oD _ (fun gJ rr s'=>rr.1=none/\s'=s/\ ∀v∈gJ,∃e∈es.toList,e.2=v) _ ?_ ?_ _ _ ⟨rfl,rfl,hls⟩
  ·rintro y gJ rr s' ⟨h0,rfl,hm⟩;have hrest: ∀v∈gJ,∃e∈es.toList,e.2=v:=fun v hv=>hm v (iT _ hv);obtain⟨e,he,rfl⟩:=hm y iR;obtain⟨i,hi⟩:=tu he;rw[kD] at hi;obtain⟨p,h1,h2,h3,h4⟩:=at_ i e hi;obtain⟨lp,hp⟩:=oM (mem p h2);have eG:=S.rep p h2
   obtain⟨c,ec⟩: ∃c,e.2= .ref c:=by
    rw[hp] at eG;obtain⟨c,xs,e1,_⟩:=eG.tup;rw[e1] at h4;exact⟨c,h4⟩
   rw[ec] at h4 ⊢;dsimp only;split
   ·exact gw ⟨rfl,rfl,hrest⟩
   ·refine gi (hqu _ _ _ O' A prog w _ _ ax hd rfl ?_);simp only[lq,iC,iP];refine gi (hqu _ _ _ O A prog w _ _ (mem p h2) (.inl eG) h4 ?_);simp only[lq,iC,iP];refine gi (u3 _ _ _ O' A prog w _ _ ax hd rfl ?_);simp only[iC,iP];refine gi (u3 _ _ _ O A prog w _ _ (mem p h2) (.inl eG) h4 ?_);simp only[iC,iP];exact gw ⟨rfl,rfl,hrest⟩
  ·rintro⟨r1,r2⟩ s' ⟨h0,rfl,_⟩;simp only at h0;subst h0;exact gw hq
theorem OthB.setV(I:Inv X pins σ H s)(h:OthB (H a) .set ks vs us)(r:RepL X.K H O vs us): ∃es n t l,SetV X H O s.heap a vs es n t l:=by
 obtain⟨_,zs,e,p⟩:=h;obtain⟨es,n,t,h1,h2,h3,h4,h5⟩:=(show ObjOk X.prog X.w H s.heap a (.stt zs) from I.hok a _ e)
 rw[wU] at p;obtain⟨l,p1,rfl⟩:=lK hv p _ rfl;refine⟨es,n,t,l,⟨h1,by rw[<-sH h2];exact h3,h4,h5⟩,?_,fun q hq=>r.zip q (p1.mem_iff.mp hq),h2⟩;have:=p1.map (·.1);rw[List.map_fst_zip (by rw[r.length];exact hU _)] at this;exact this
theorem SetV.objOk{es n t l}(S:SetV X H O h a vs es n t l):ObjOk X.prog X.w H' h a (.stt (l.map hv)):=
 ⟨es,n,t,S.is.at_,S.par,by rw[sH S.par];exact S.is.tab,S.is.plain,S.is.led⟩
theorem SetV.lens{es n t l}(S:SetV X H O h a vs es n t l):es.size=vs.length/\l.length=vs.length:=by
 have h1:=xx S.par;have h2:=S.perm.length_eq;simp only[iX,iY] at h1 h2;omega
theorem SetV.oth{O:AP'}{h:gQ}{a:gn}{vs:List D}{es n t l}(S:SetV X H O h a vs es n t l){K H'}{O':AP'}(hr: ∀p∈l,Rep K H' O' p.1 p.2)(hH:H' a=some (.stt (l.map hv))): ∃us,OthB (H' a) .set [] vs us/\RepL K H' O' vs us:=by
 obtain⟨l',p1,p2⟩:=lK (·.1) S.perm.symm l rfl;refine⟨l'.map (·.2),⟨rfl,l.map hv,hH,?_⟩,?_⟩
 ·rw[p2,wU]
  have:(l'.map (·.1)).zip (l'.map (·.2))=l':=by
   clear p1 p2
   induction l' with
   |nil=>rfl
   |cons x l ih=>rw[iQ,iQ,rT,ih]
  rw[this];exact(p1.map hv).symm
 ·rw[p2];exact RepL.ofZip fun p hp=>hr p (p1.mem_iff.mp hp)
theorem SetV.add(I:Inv X pins σ H s){es n t l}(S:SetV X H O s.heap a vs es n t l)(hok:vs.all okS=true)(hd:iV X.K H O' d v)(cM:Rep X.K H O d v)(ru:RelV v u)(ax:okS d=true)(hz:vs.length<500)
  (hA:A.units+60<cLine) 
  (h: ∀r h' tk es' n' t' l',s.toks<=tk->Heap.SameBut a s.heap h'->SetV X H O h' a (qu vs d) es' n' t' l'->Q r {s with heap:=h',toks:=tk}):wpAny (model X.prog X.w) A (setAdd a u) Q E s:=by
 obtain⟨bp,aD⟩:=S.lens;unfold setAdd;refine lR (gi (OZ 50 I d v u O A E _ cM ru (sL ax) (by have:=qH ax;omega) (by omega) fun tk bo=>?_));have I1:Inv X pins σ H {s with toks:=tk}:=I.kept (h':=s.heap) (t':=tk) fun _ _ e=>e;obtain⟨b,rfl,Sr⟩:=SetV.srch (s:={s with toks:=tk}) I1 S hok hd ru ax hA;have mem: ∀p∈l,p.1∈vs:=fun p hp=>S.perm.mem_iff.mp (Du hp);refine TT.RE Sr S.is.at_ S.is.plain (by omega) (fun Q' hq=>Q0 I1 8 d v _ O A E Q' cM ru (sL ax) (by have:=qH ax;omega) hq) (fun⟨i,hi,hq⟩=>?_) (fun bU h' es' n' t' g1 g2 g3 g4 g5 g6=>?_)
 ·have:qu vs d=vs:=by
   unfold qu
   cases hl:l[i]? with
   |none=>rw[hl] at hq;cases hq
   |some p=>
    rw[hl] at hq;rw[gu (List.any_eq_true.mpr ⟨p.1,mem p (lQ hl),hq⟩)]
  exact h false s.heap tk es n t l bo (Az a s.heap) (by rw[this];exact S)
 ·have aT:vs.any (D.eqb · d)=false:=by
   rw[List.any_eq_false];intro x hx;have cU:=S.perm.mem_iff.mpr hx;obtain⟨p,hp,rfl⟩:=oA.mp cU;obtain⟨i,hi⟩:=tu hp;have:=bU i (by have:=(uI.mp hi).1;omega);rw[hi] at this;simpa using this
  have hadd:qu vs d=vs++[d]:=by unfold qu;rw[aT,gv jc]
  have par:Paired (fun(z:Int×V) (e:Int×Value)=>z.1=e.1/\RelV z.2 e.2) (((d,v)::l).map hv) ((d.hash,Value.ref b)::es.toList):= .cons ⟨rfl,ru⟩ S.par;obtain⟨z',p1,p2⟩:=vJ g3 par;obtain⟨l',p3,rfl⟩:=lK hv p2 _ rfl;refine h true h' tk es' n' t' l' bo g1 ⟨⟨g2,g4,g5,g6.trans S.is.led⟩,?_,fun p hp=>?_,p1⟩
  ·rw[hadd];refine(p3.map (·.1)).trans ?_;rw[iQ];exact(S.perm.cons d).trans (H9 d vs).symm
  ·rcases jg.mp (p3.mem_iff.mp hp) with rfl|hp
   ·exact cM
   ·exact S.rep p hp
def EX:D->Option (D×Bool)
 | .lst l=>if l.all okS=true/\l.length<500 then some (.oth .set [] (oS l),true) else none
 |_=>none
theorem Fc{l:List D}{i:Nat}{d:D}(h:l[i]?=some d):oS (l.take (i+1))=qu (oS (l.take i)) d:=by
 unfold oS;rw[An,h,List.foldl_append];rfl
theorem C2: ∀(l acc:List D),l.all okS=true->acc.all okS=true->(l.foldl qu acc).all okS=true
 |[],acc,_,h=>h
 |d::l,acc,h1,h2=>by
  rw[List.all_cons,kQ] at h1;exact C2 l _ h1.2 (MU h2 h1.1)
theorem zJ: ∀(l acc:List D),(l.foldl qu acc).length<=acc.length+l.length
 |[],acc=>by simp
 |d::l,acc=>by
  have:=zJ l (qu acc d);have:=Le acc d;simp only[rV,jX];omega
theorem Lb{l:List D}(h:l.all okS=true)(i:Nat):(l.take i).all okS=true:=by
 rw[nL] at h ⊢;exact fun x hx=>h x (lO hx)
theorem zN(hc:X.calm=true)(hu:X.A.units+90<cLine):jf X (.type "set") (rDn X.K (g1 EX)):=nh fun pins s σ H x u Q O d z I ru np hd hg G=>by
 cases d with
 |lst l=>
  obtain⟨⟨hok,hz⟩,rfl⟩:=hW hg;obtain⟨p,xs,rfl,q,r⟩:=ju hd;cases ru;obtain⟨b6,v,pl,_⟩:=I.list q;have e1:=r.length;have e2:=v.length;have hh:X.A.handled=none:=I.ok.hd hc;have ag:=I.fresh
  refine TT.PJ hh pl.isList (fun i h=> ∃es n t l',SetV X H O h s.heap.objs.size (oS (l.take i)) es n t l') (fun i h h' ⟨es,n,t,l',S⟩ k=>⟨es,n,t,l',S.stay k⟩)
   (fun h' e=>⟨#[],0,_,[],⟨TT.PH e,by simp[oS],fun p hp=>by simp at hp,.nil⟩⟩) (fun i w s' B Q' E' hB hi hS hk hg hdr y3 hQ'=>?_) (fun h' tk hS hk=>?_)
  ·obtain⟨es,n,t,l',S⟩:=hS
   have hil:i<b6.length:=by
    have:=(Lp.mp hi).1;simpa using this
   have hw:b6[i]?=some w:=by simpa using hi
   have hxi:xs[i]?=some xs[i]:=iO (by omega);have fP:l[i]?=some l[i]:=iO (by omega);obtain⟨w',w1,w2⟩:=v.get hxi;rw[hw] at w1;cases w1;have hrep:Rep X.K H O l[i] xs[i]:=r.views fP hxi;have ax:okS l[i]=true:=nL.mp hok _ (jL _);obtain⟨h1,g1,dr1,tk1,os1⟩:=s';dsimp only at hk hg hdr y3 hQ' S;subst hg;subst hdr;subst y3;have I':Inv X pins σ H {s with heap:=h1,toks:=tk1}:=I.kept hk;refine SetV.add I' S (C2 _ _ (Lb hok i) rfl) (.inl hrep) hrep w2 ax ?_ (by omega) fun rr h2 tk2 es' n' t' l'' a1 a2 a3=>?_
   ·have:=zJ (l.take i) [];rw[nS] at this;unfold oS;simp only[rl] at this;omega
   ·rw[<-Fc fP] at a3;exact hQ' rr h2 tk2 a1 a2 ⟨es',n',t',l'',a3⟩
  ·obtain⟨es,n,t,l',S⟩:=hS;have hsz:b6.toArray.size=l.length:=by simp;omega
   rw[hsz,List.take_length] at S;refine⟨.ref s.heap.objs.size,upd H s.heap.objs.size (.stt (l'.map hv)),I.laid hk (hU _) S.objOk,rfl,?_⟩;refine G s.heap.objs.size _ ag (jY ag) ?_;exact S.oth (fun p hp=>Rep.mono (fun b o e _=>jY ag b o e) (fun b hb z=>z.elim id fun z=>absurd (z▸ag) hb) (S.rep p hp)) ik
 |_=>cases hg
end
theorem CN{x:D}: ∀{l:List D},l.Pairwise (fun a b=>ltT b a=false)->(wa ltT x l).Pairwise (fun a b=>ltT b a=false)
 |[],_=>Ap _ _
 |y::l,h=>by
  rw[ph] at h;have W:=Nx fun i:Nat=>match i with|0=>x|1=>y|_=>x
  rw[wa]
  cases hl:ltT y x with
  |true=>
   rw[gu rfl,ph];refine⟨fun z hz=>?_,CN h.2⟩;rcases jg.mp ((qK ltT x l).mem_iff.mp hz) with rfl|hz
   ·rw[EK] at hl;rw[lB,kJ,hl];simp
   ·exact h.1 z hz
  |false=>
   rw[gv jc,ph];refine⟨fun z hz=>?_,ph.mpr h⟩;rcases jg.mp hz with rfl|hz
   ·exact hl
   ·have h1:=h.1 z hz;rw[lB] at h1 hl ⊢;have a1:cT x y≠ .gt:=by rw[kJ y x];cases hc:cT y x<;>simp_all
    have a2:cT y z≠ .gt:=by rw[kJ z y];cases hc:cT z y<;>simp_all
    have a3:=qr x y z a1 a2;rw[kJ x z];cases hc:cT x z<;>simp_all
theorem nY: ∀l:List D,(lS ltT l).Pairwise (fun a b=>ltT b a=false)
 |[]=> .nil
 |x::l=>by rw[lS];exact CN (nY l)
theorem Jc(hp:l.Perm m)(eI: ∀x∈l,D.pr x=true):lS ltT l=lS ltT m:=by
 refine Ig (fun x y hx hy h1 h2=>?_) (nY l) (nY m) ((jm ltT l).trans (hp.trans (jm ltT m).symm));have px:=eI x ((jm ltT l).mem_iff.mp hx);have py:=eI y (hp.mem_iff.mpr ((jm ltT m).mem_iff.mp hy));rw[lB] at h1 h2;refine yp x y px py ?_;rw[kJ x y] at h1;cases hc:cT x y<;>simp_all
theorem GS{k:Nat}{l:List D}(h:SortsBy k l):lY l=true:=by
 unfold lY;rw[uM];right
 cases l with
 |nil=>rfl
 |cons x m=>
  simp only[kQ,nL,se];refine⟨⟨by rw[h.hd x iR];rfl,fun y hy=>⟨⟨?_,h.pr y hy⟩,h.dp y hy⟩⟩,fun y hy z hz=>h.cm y hy z hz⟩;rw[h.hd x iR,h.hd y hy];simp
theorem BZ(hp:l.Perm m)(h:lY m=true):lY l=true:=by
 rcases zh h with hl|⟨k,B⟩
 ·unfold lY;rw[uM];left;rw[hp.length_eq];simpa using hl
 ·exact GS (k:=k) ⟨fun x hx=>B.hd x (hp.mem_iff.mp hx),fun x hx=>B.pr x (hp.mem_iff.mp hx),fun x hx=>B.dp x (hp.mem_iff.mp hx),fun x hx y hy=>B.cm x (hp.mem_iff.mp hx) y (hp.mem_iff.mp hy)⟩
def qf(d:D):Option (D×Bool):=match d with
 | .oth .set [] vs=>if vs.all okS=true then jv vs else none
 |_=>uo d
section
variable {X:Cx}
theorem Bp(hc:X.calm=true)(hu:X.A.units+62<cLine):jf X (.builtin "sorted") (rDn X.K (g1 qf)):=nh fun pins s σ H x u Q O d z I ru np hd hg G=>by
 by_cases hs: ∃vs,d= .oth .set [] vs
 ·obtain⟨vs,rfl⟩:=hs;have v5:(if vs.all okS=true then jv vs else none)=some z:=hg;split at v5
  ·rename_i hok;obtain⟨a,us,rfl,q,r⟩:=pX hd;cases ru;obtain⟨es,n,t,l,S⟩:=q.setV I r;obtain⟨bp,aD⟩:=S.lens;have wp:=TT.Ds X.w a n es;obtain⟨z',p1,p2⟩:=vJ wp S.par;obtain⟨l',p3,rfl⟩:=lK hv p2 _ rfl;have rr:RepL X.K H O (l'.map (·.1)) (l'.map (·.2)):=RepL.ofZip fun p hp=>S.rep p (p3.mem_iff.mp hp)
   have vv:Vals (l'.map (·.2)) ((TT.lX X.w a n es).toList.map (·.2)):=by
    clear p2 p3 rr wp;generalize (TT.lX X.w a n es).toList=m at p1;revert p1;generalize hz:l'.map hv=zz;intro p1
    induction p1 generalizing l' with
    |nil=>
      have:l'=[]:=by simpa using hz
      subst this;exact .nil
    |cons r t ih=>
     cases l' with
     |nil=>simp at hz
     |cons p l'=>
      simp only[iQ,List.cons.injEq] at hz;rw[iQ,iQ];refine .cons ?_ (ih l' hz.2);have:=r.2;rw[<-hz.1] at this;exact this
   have ai:(l'.map (·.1)).Perm vs:=(p3.map (·.1)).trans S.perm
   have dc:jv (l'.map (·.1))=some z:=by
    unfold jv at v5 ⊢;obtain⟨⟨h1,h2⟩,rfl⟩:=hW v5;rw[gu ⟨BZ ai h1,by rw[ai.length_eq];exact h2⟩,Jc ai fun x hx=>sL (nL.mp hok x (ai.mem_iff.mp hx))]
   have hh:X.A.handled=none:=I.ok.hd hc
   have hz:es.size<=sizeLine:=by
    unfold jv at v5;rw[bp];exact(hW v5).1.2
   exact qC hu I rr vv dc G fun Q' E' A' fV hQ=>TT.MO (by rw[fV];exact hh) S.is hz fun h' tk k=>hQ h' tk k
  ·cases v5
 ·have v5:g1 uo [d]=some z:=by
   have:qf d=uo d:=by
    unfold qf;split
    ·exact absurd ⟨_,rfl⟩ hs
    ·rfl
   show uo d=some z;rw[<-this];exact hg
  exact Br hu pins s σ H [x] [u] Q I (.cons ru .nil) ⟨O,[d],z,np,rfl,(fun j d' v' a b=>by
   cases j with
   |zero=>simp at a b;subst a;subst b;exact hd
   |succ j=>simp at a),v5,G⟩
end
def sM:D->Option Key
 | .int i=>some (.inl i)
 | .str x=>some (.inr x)
 |_=>none
def Ko:List D->Option (List Key)
 |[]=>some []
 |d::l=>(sM d).bind fun k=>(Ko l).map (k:: ·)
def EN:D->Option (List Key)
 | .tup l=>Ko l
 |_=>none
theorem oo(h:sM d=some k):d=ji k:=by
 cases d<;>simp[sM] at h<;>subst h<;>rfl
theorem CK: ∀{l:List D} {ks:List Key},Ko l=some ks->l=ks.map ji
 |[],ks,h=>by cases h;rfl
 |d::l,ks,h=>by
  rw[Ko] at h;obtain⟨k,h1,h⟩:=gg h;obtain⟨m,h2,rfl⟩:=iK h;rw[oo h1,CK h2];rfl
theorem ui(h:EN d=some ks):d= .tup (ks.map ji):=by
 cases d with
 |tup l=>rw[CK (show Ko l=some ks from h)]
 |_=>cases h
theorem ux(a b:Key):D.eqb (ji a) (ji b)=decide (a=b):=by
 cases a with
 |inl i=>cases b with
  |inl j=>simp only[ji,D.eqb,Kn]
  |inr y=>simp only[ji,D.eqb,Km]
 |inr x=>cases b with
  |inl j=>simp only[ji,D.eqb,Kl]
  |inr y=>simp only[ji,D.eqb,Kk];rfl
theorem qO: ∀a b:List Key,D.eqbL (a.map ji) (b.map ji)=decide (a=b)
 |[],[]=>by simp[D.eqbL]
 |[],_::_=>by simp[D.eqbL]
 |_::_,[]=>by simp[D.eqbL]
 |x::a,y::b=>by
  simp only[iQ];rw[D.eqbL,ux,qO a b];simp only[List.cons.injEq,Bool.decide_and]
def lx:List D->List D->D->Option D
 |k'::ks,v::vs,k=>if D.eqb k' k=true then some v else lx ks vs k
 |_,_,_=>none
def qc:List D->List D->D->D->List D
 |k'::ks,v::vs,k,w=>(if D.eqb k' k=true then w else v)::qc ks vs k w
 |_,vs,_,_=>vs
def qU(ks vs:List D)(k w:D):List D×List D:=if ks.any (D.eqb · k)=true then(ks,qc ks vs k w) else(ks++[k],vs++[w])
def vQ(ks:List D)(k:D):Bool:=((sM k).isSome&&ks.all fun x=>(sM x).isSome)||((EN k).isSome&&ks.all fun x=>(EN x).isSome)
section
variable {K:gL}{H:Hp}{O:AP'}
theorem Ci(h:Rep K H O (ji k) v):v=kV k:=by
 cases k with
 |inl i=>exact Rep.int h
 |inr x=>exact Rep.str h
theorem zm: ∀{ks:List Key} {vs:List V},RepL K H O (ks.map ji) vs->vs=ks.map kV
 |[],vs,h=>by rw[pF,RepL] at h;exact h
 |k::ks,vs,h=>by
  rw[iQ,RepL] at h;obtain⟨v,r,rfl,h1,h2⟩:=h;rw[Ci h1,zm h2];rfl
theorem ve(hk:sM d=some k)(h:iV K H O d v):v=kV k:=by
 rw[oo hk] at h;rcases h with h|⟨a,rfl,h⟩
 ·exact Ci h
 ·cases k<;>exact h.elim
theorem vd(hk:EN d=some ks)(h:iV K H O d v): ∃b,v= .ref b/\H b=some (.tup (ks.map kV)):=by
 rw[ui hk] at h;rcases h with h|⟨a,rfl,h⟩
 ·obtain⟨b,xs,rfl,q,r⟩:=h.tup;rw[zm r] at q;exact⟨b,rfl,q.1⟩
 ·exact h.elim
theorem Kf{k:Key}: ∀{kvs:List (Key×V)} {vs:List D},RepL K H O vs (kvs.map (·.2))->(∀d,lx (kvs.map fun p=>ji p.1) vs (ji k)=some d-> ∃v,qS kvs k=some v/\Rep K H O d v)/\(lx (kvs.map fun p=>ji p.1) vs (ji k)=none->qS kvs k=none)
 |[],vs,_=>⟨fun d h=>by cases vs<;>simp[lx] at h,fun _=>rfl⟩
 |(k',v)::kvs,[],h=>by rw[iQ,RepL] at h;cases h
 |(k',v)::kvs,d'::vs,h=>by
  rw[iQ,RepL] at h;obtain⟨w,r,e,h1,h2⟩:=h;obtain⟨rfl,rfl⟩:=pO e;obtain⟨i1,i2⟩:=Kf (k:=k) h2;simp only[iQ,lx,ux];by_cases hk:k'=k
  ·simp only[hk,decide_true,ie];exact⟨fun d h=>by cases h;exact⟨v,pY (p:=(k,v)) rfl,h1⟩,fun h=>by cases h⟩
  ·simp only[hk,decide_false,iC,iP];refine⟨fun d h=>?_,fun h=>?_⟩
   ·obtain⟨u,h3,h4⟩:=i1 d h;exact⟨u,by rw[mT (p:=(k',v)) hk];exact h3,h4⟩
   ·rw[mT (p:=(k',v)) hk];exact i2 h
theorem Ke{k:List Key}: ∀{kvs:List (List Key×V)} {vs:List D},RepL K H O vs (kvs.map (·.2))->(∀d,lx (kvs.map fun p=> .tup (p.1.map ji)) vs (.tup (k.map ji))=some d-> ∃v,qS kvs k=some v/\Rep K H O d v)/\(lx (kvs.map fun p=> .tup (p.1.map ji)) vs (.tup (k.map ji))=none->qS kvs k=none)
 |[],vs,_=>⟨fun d h=>by cases vs<;>simp[lx] at h,fun _=>rfl⟩
 |(k',v)::kvs,[],h=>by rw[iQ,RepL] at h;cases h
 |(k',v)::kvs,d'::vs,h=>by
  rw[iQ,RepL] at h;obtain⟨w,r,e,h1,h2⟩:=h;obtain⟨rfl,rfl⟩:=pO e;obtain⟨i1,i2⟩:=Ke (k:=k) h2;simp only[iQ,lx,D.eqb,qO];by_cases hk:k'=k
  ·simp only[hk,decide_true,ie];exact⟨fun d h=>by cases h;exact⟨v,pY (p:=(k,v)) rfl,h1⟩,fun h=>by cases h⟩
  ·simp only[hk,decide_false,iC,iP];refine⟨fun d h=>?_,fun h=>?_⟩
   ·obtain⟨u,h3,h4⟩:=i1 d h;exact⟨u,by rw[mT (p:=(k',v)) hk];exact h3,h4⟩
   ·rw[mT (p:=(k',v)) hk];exact i2 h
end
section
variable {P:gP}{w:gH}{H H':Hp}{h:gQ}{a:gn}
theorem Ra(x:ObjOk P w H h a (.dT [])):ObjOk P w H' h a (.dK []):=by
 obtain⟨z,y,xs,r,o,es,ep,h1,h2,h3,h4,h5⟩:=x;cases r
 have:es= #[]:=by
  have:es.toList=[]:=by simpa using h4
  exact PL.mp this
 subst this;refine⟨z,y,[],.nil,o,#[],ep,h1,h2,h3,?_,?_,jV⟩
 ·first|exact fun e he=>by simp at he|(intro;simp)
 ·first|exact .nil|trivial|simp[Pairs]
theorem Rb(x:ObjOk P w H h a (.dK [])):ObjOk P w H' h a (.dT []):=by
 obtain⟨z,y,vs,r,o,es,ep,h1,h2,h3,h4,h5,h6⟩:=x;cases r
 have:es= #[]:=by
  have hl:es.toList.length=0:=by
   first
    |simpa using h5.length
    |simpa using(AJ h5)
    |(
      cases he:es.toList with
      |nil=>rfl
      |cons e l=>rw[he] at h5;cases h5)
  exact PL.mp (Py.mp hl)
 subst this;exact⟨z,y,[],.nil,o,#[],ep,h1,h2,h3,rfl,jV⟩
end
section
variable {X:Cx}{pins:hJ}{σ:L2.St}{H:Hp}{s:gr}
theorem uj(h:vQ ks k=true):(∃κ,sM k=some κ/\ ∀x∈ks,∃c,sM x=some c)\/(∃τ,EN k=some τ/\ ∀x∈ks,∃c,EN x=some c):=by
 unfold vQ at h;rw[uM,kQ,kQ,nL,nL] at h;rcases h with⟨h1,h2⟩|⟨h1,h2⟩
 ·exact .inl ⟨_,(Lq.mp h1).choose_spec,fun x hx=>Lq.mp (h2 x hx)⟩
 ·exact .inr ⟨_,(Lq.mp h1).choose_spec,fun x hx=>Lq.mp (h2 x hx)⟩
theorem FH{ks:List Key}{c:Key}(h:sM (.tup (ks.map ji))=some c):False:=by cases h
theorem CL(h:EN (ji k)=some c):False:=by cases k<;>cases h
theorem Pm(hu:A.units+1<cLine)(I:Inv X pins σ H s)(q:OthB (H a) .dct ks vs us)(r:RepL X.K H O vs us)(hk:vQ ks k=true)(hl:lx ks vs k=some d)(vk:iV X.K H O k y)(ry:RelV y u) 
  (h: ∀v w s',Inv X pins σ H s'->Rep X.K H O d v->RelV v w->Q w s'):wpAny (model X.prog X.w) A (getItem (.ref a) u) Q E s:=by
 have nil: ∀vs:List D,lx [] vs k=none:=fun vs=>by cases vs<;>rfl
 rcases q with⟨kvs,e,rfl,rfl⟩|⟨kvs,e,rfl,rfl⟩
 ·rcases uj hk with⟨κ,h1,_⟩|⟨τ,h1,h2⟩
  ·have:=ve h1 vk;subst this;have aW:=oo h1;subst aW;obtain⟨v,h3,h4⟩:=(Kf (k:=κ) r).1 d hl;refine zK hu I (v:=v) (y:=kV κ) ?_ ry fun w s' I' w5=>h v w s' I' h4 w5;rw[<-h3];exact DGet.k e
  ·cases kvs with
   |nil=>rw[pF,nil] at hl;cases hl
   |cons p kvs=>obtain⟨c,hc⟩:=h2 (ji p.1) (by simp);exact(CL hc).elim
 ·rcases uj hk with⟨κ,h1,h2⟩|⟨τ,h1,_⟩
  ·cases kvs with
   |nil=>rw[pF,nil] at hl;cases hl
   |cons p kvs=>obtain⟨c,hc⟩:=h2 (.tup (p.1.map ji)) (by simp);exact(FH hc).elim
  ·obtain⟨b,rfl,eb⟩:=vd h1 vk;have aW:=ui h1;subst aW;obtain⟨v,h3,h4⟩:=(Ke (k:=τ) r).1 d hl;refine zK hu I (v:=v) (y:= .ref b) ?_ ry fun w s' I' w5=>h v w s' I' h4 w5;rw[<-h3];exact DGet.t e eb
end
def CT(d k:D):Option (D×Bool):=match d with
 | .oth .dct ks vs=>if vQ ks k=true then(lx ks vs k).map fun v=>(v,false) else none
 |_=>gIx d k
section
variable {X:Cx}
theorem QM(hu:X.A.units+1<cLine):IxR X (rD X.K CT):=by
 intro value slice pins s σ H x y v u Q I rx ry h hs;obtain⟨O,d,e,z,np,h1,h2,hg,G⟩:=h;by_cases hd: ∃ks vs,d= .oth .dct ks vs
 ·obtain⟨ks,vs,rfl⟩:=hd;have v5:(if vQ ks e=true then(lx ks vs e).map fun v=>(v,false) else none)=some z:=hg;split at v5
  case isFalse=>cases v5
  rename_i hk;obtain⟨w,hw,rfl⟩:=iK v5;obtain⟨a,us,rfl,q,r⟩:=pX h1;cases rx;have hT:s.TypeIs (.ref a) "dict":=EA I q;unfold subscriptTail;refine gi ?_;rw[getitemInPython_of_ne hT.not_modules];refine gi (rR hT PySem.F.slot_dict_getitem.lookup ?_)
  have fin:wpAny (model X.prog X.w) X.A (subscripted slice false (.ref a) u) (fun r s₃=>wpAny (model X.prog X.w) X.A (letTemporaryGo value (.ref a) r>>=fun _=>pure r) (EP X pins σ Q) X.xe s₃) X.xe s:=by
   rw[hs];exact wpAny_operating (Pm hu I q r hk hw h2 ry fun v' w' s' I' hr rv=>gi (wpAny_letTemporaryGo (gw ⟨v',H,I',rv,G v' H (fun _ _ e=>e) hr⟩)))
  first
   |exact gw (gi fin)
   |exact gi (gw (gi fin))
   |exact gi fin
 ·have:CT d e=gIx d e:=by
   unfold CT;split
   ·exact absurd ⟨_,_,rfl⟩ hd
   ·rfl
  rw[this] at hg;exact Nh value slice pins s σ H x y v u Q I rx ry ⟨O,d,e,z,np,h1,h2,hg,G⟩ hs
theorem N6(hu:X.A.units+1<cLine)(ha:PO X a fa)(hb:PO X b fb)(hs:uG b):PX X (.Subscript a b pos) (gz CT fa fb):=px2 (Nc (QM hu) ha hb hs)
def CY:F:=fun δ=>some ((.oth .dct [] [],true),δ)
theorem LX{pos:Pos}:PX X (.Dict [] [] pos) CY:=PX.imp JR fun σ H Q hw=>by
 obtain⟨δ,T,rr,δ',E,e,k⟩:=hw;cases e;intro p hp;have B:=Ops.nil E;exact(B.done k) p _ hp (jY hp) ⟨[],.inl ⟨[],ik,rfl,rfl⟩,RepL.nil⟩
end
section
variable {K:gL}{T:AP'}{σ:L2.St}{δ:Dn}{H:Hp}{i:Nat}{d0 d':D}{a:gn}{o:HO}
theorem OwnI.writeG{j:Nat}{b:gn}(hd:δ[i]?=some (some (d0,true)))(h:OwnI σ (δ.set i (some (d',true))) j b):OwnI σ δ j b:=by
 obtain⟨e,h1,h2⟩:=h;rcases kc h1 with⟨rfl,_,_⟩|⟨_,q⟩
 ·exact⟨_,hd,h2⟩
 ·exact⟨e,q,h2⟩
theorem ER.writeG(E:ER K H T σ δ)(hd:δ[i]?=some (some (d0,true)))(hs:σ[i]?=some (some (.ref a)))(r:OwnOk K (upd H a o) (fun b=>OwnA σ δ b\/T b) d' a):
  ER K (upd H a o) T σ (δ.set i (some (d',true)))/\Keep σ δ H (δ.set i (some (d',true))) (upd H a o):=by
 have hi:i<δ.length:=(uI.mp hd).1;have oa:OwnA σ δ a:=⟨i,_,hd,hs⟩
 have ar: ∀b,OwnA σ (δ.set i (some (d',true))) b->OwnA σ δ b:=fun b ⟨j,e,h1,h2⟩=>by
  obtain⟨e',q1,q2⟩:=OwnI.writeG hd ⟨e,h1,h2⟩;exact⟨j,e',q1,q2⟩
 have kp: ∀b u,H b=some u-> ¬(OwnA σ δ b\/T b)->upd H a o b=some u:=fun b u e n=>by rw[iq (by intro z;subst z;exact n (.inl oa))];exact e
 have dm: ∀b,H b≠none->upd H a o b≠none:=fun b z=>by
  by_cases hb:b=a
  ·subst hb;rw[ik];simp
  ·rw[iq hb];exact z
 have sub: ∀b,(OwnA σ (δ.set i (some (d',true))) b\/T b)->OwnA σ δ b\/T b:=fun b z=>z.imp (ar b) id;refine⟨⟨by rw[rm];exact E.len,fun j e hj=>?_,fun j e hj=>?_,fun j k e f b hj hk h1 h2=>?_,fun b z=>E.nT b (ar b z),fun b z=>dm b (E.dom b z)⟩,⟨fun b u e n=>by rw[iq (by intro z;subst z;exact n oa)];exact e,fun j b z=>OwnI.writeG hd z,dm⟩⟩
 ·rcases kc hj with⟨_,_,q⟩|⟨_,q⟩
  ·cases q
  ·obtain⟨w,w1,w2⟩:=E.val j e q;exact⟨w,w1,Rep.mono kp (fun b _ z=>sub b z) w2⟩
 ·rcases kc hj with⟨rfl,_,q⟩|⟨ne,q⟩
  ·cases q;exact⟨a,hs,r.mono (fun _ _ e _=>e) (fun b _ z=>sub b z) fun _ e=>e⟩
  ·obtain⟨b,w1,w2⟩:=E.own j e q;refine⟨b,w1,w2.mono kp (fun b _ z=>sub b z) fun u eo=>?_⟩;rw[iq]
   ·exact eo
   ·intro z;subst z;exact ne (E.inj i j _ _ _ hd q hs w1)
 ·obtain⟨e1,q1,q2⟩:=OwnI.writeG hd ⟨e,hj,h1⟩;obtain⟨e2,q3,q4⟩:=OwnI.writeG hd ⟨f,hk,h2⟩;exact E.inj j k e1 e2 b q1 q3 q2 q4
end
section
variable {X:Cx}{pins:hJ}{σ:L2.St}{H:Hp}{s:gr}{a:gn}
theorem NQ(I:Inv X pins σ H s)(e:H a=some (.dT [])):Inv X pins σ (upd H a (.dK [])) s:=by
 have:=wy (t':=s.toks) (h':=s.heap) I (by rw[e];exact True.intro) (Az a s.heap) (by obtain⟨z,y,xs,r,o,es,ep,h1,_⟩:=(show ObjOk X.prog X.w H s.heap a (.dT []) from I.hok a _ e);exact⟨o,h1⟩) (Ra (H':=upd H a (.dK [])) (I.hok a _ e));exact this
theorem NP(I:Inv X pins σ H s)(e:H a=some (.dK [])):Inv X pins σ (upd H a (.dT [])) s:=by
 have:=wy (t':=s.toks) (h':=s.heap) I (by rw[e];exact True.intro) (Az a s.heap) (by obtain⟨z,y,xs,r,o,es,ep,h1,_⟩:=(show ObjOk X.prog X.w H s.heap a (.dK []) from I.hok a _ e);exact⟨o,h1⟩) (Rb (H':=upd H a (.dT [])) (I.hok a _ e));exact this
def Qk:MX:=fun o i v H Q=> ∃a,o= .ref a/\((∃H',DPut H a i v H'/\Q H')\/(∃κ,H a=some (.dT [])/\i=kV κ/\Q (upd H a (.dK [(κ,v)])))\/
 (∃τ b,H a=some (.dK [])/\i= .ref b/\H b=some (.tup (τ.map kV))/\Q (upd H a (.dT [(τ,v)]))))
theorem Je(hu:X.A.units+1<cLine):Pw X Qk:=by
 intro pins s σ H o i v ov iv u Q I ro ri rv h;obtain⟨a,rfl,h⟩:=h;cases ro;rcases h with⟨H',g,q⟩|⟨κ,e,rfl,q⟩|⟨τ,b,e,rfl,eb,q⟩
 ·exact vC hu I g ri rv fun s' I'=>⟨H',I',q⟩
 ·refine vC hu (NQ I e) (DPut.k (k:=κ) (v:=v) ik (by rw[iu];decide)) ri rv fun s' I'=>⟨_,I',?_⟩
  rw[FG];exact q
 ·have hb:b≠a:=Nd eb e (fun z=>nomatch z);refine vC hu (NP I e) (DPut.t (k:=τ) (v:=v) (b:=b) ik (by rw[iq hb];exact eb) (by rw[iu];decide)) ri rv fun s' I'=>⟨_,I',?_⟩
  rw[FG];exact q
end
section
variable {K:gL}{H:Hp}{O:AP'}
theorem Jj{k:Key}{w:D}{v:V}(hw:Rep K H O w v): ∀{kvs:List (Key×V)} {vs:List D},RepL K H O vs (kvs.map (·.2))->RepL K H O (qc (kvs.map fun p=>ji p.1) vs (ji k) w) ((kvs.map fun kv=>if kv.1=k then(kv.1,v) else kv).map (·.2))
 |[],vs,h=>by cases vs<;>simpa[qc] using h
 |(k',u)::kvs,[],h=>by rw[iQ,RepL] at h;cases h
 |(k',u)::kvs,d'::vs,h=>by
  rw[iQ,RepL] at h;obtain⟨x,r,e,h1,h2⟩:=h;obtain⟨rfl,rfl⟩:=pO e;simp only[iQ,qc,ux];refine RepL.cons ?_ (Jj hw h2);by_cases hk:k'=k
  ·simp only[hk,decide_true,ie];exact hw
  ·simp only[hk,decide_false,iC,iP];exact h1
theorem Ji{k:List Key}{w:D}{v:V}(hw:Rep K H O w v): ∀{kvs:List (List Key×V)} {vs:List D},RepL K H O vs (kvs.map (·.2))->RepL K H O (qc (kvs.map fun p=> .tup (p.1.map ji)) vs (.tup (k.map ji)) w) ((kvs.map fun kv=>if kv.1=k then(kv.1,v) else kv).map (·.2))
 |[],vs,h=>by cases vs<;>simpa[qc] using h
 |(k',u)::kvs,[],h=>by rw[iQ,RepL] at h;cases h
 |(k',u)::kvs,d'::vs,h=>by
  rw[iQ,RepL] at h;obtain⟨x,r,e,h1,h2⟩:=h;obtain⟨rfl,rfl⟩:=pO e;simp only[iQ,qc,D.eqb,qO];refine RepL.cons ?_ (Ji hw h2);by_cases hk:k'=k
  ·simp only[hk,decide_true,ie];exact hw
  ·simp only[hk,decide_false,iC,iP];exact h1
theorem Na(hw:Rep K H O w v)(h:RepL K H O vs (kvs.map (·.2))):
  (qU (kvs.map fun p=>ji p.1) vs (ji k) w).1=(pj kvs k v).map (fun p=>ji p.1)/\RepL K H O (qU (kvs.map fun p=>ji p.1) vs (ji k) w).2 ((pj kvs k v).map (·.2)):=by
 have ha:(kvs.map fun p=>ji p.1).any (D.eqb · (ji k))=kvs.any fun kv=>decide (kv.1=k):=by
  rw[uT];congr 1;funext p;exact ux _ _
 unfold qU pj;rw[ha];split
 ·refine⟨?_,Jj hw h⟩;rw[lj];apply pB;intro p _;simp only[Function.comp];split<;>rfl
 ·exact⟨by simp,by rw[oE];exact h.append (RepL.one hw)⟩
theorem M9{k:List Key}{w:D}{v:V}(hw:Rep K H O w v){kvs:List (List Key×V)}{vs:List D}(h:RepL K H O vs (kvs.map (·.2))):
  (qU (kvs.map fun p=> .tup (p.1.map ji)) vs (.tup (k.map ji)) w).1=(pj kvs k v).map (fun p=> .tup (p.1.map ji))/\RepL K H O (qU (kvs.map fun p=> .tup (p.1.map ji)) vs (.tup (k.map ji)) w).2 ((pj kvs k v).map (·.2)):=by
 have ha:(kvs.map fun p=>D.tup (p.1.map ji)).any (D.eqb · (.tup (k.map ji)))=kvs.any fun kv=>decide (kv.1=k):=by
  rw[uT];congr 1;funext p;simp only[Function.comp,D.eqb,qO]
 unfold qU pj;rw[ha];split
 ·refine⟨?_,Ji hw h⟩;rw[lj];apply pB;intro p _;simp only[Function.comp];split<;>rfl
 ·exact⟨by simp,by rw[oE];exact h.append (RepL.one hw)⟩
end
def Ce(i:Nat)(f:F)(g:FO):FS:=fun δ=>(f δ).bind fun p=>match p.2[i]? with
 |some (some _)=>(g p.2).bind fun q=>match res q.2 q.1,q.2[i]? with
  |some k,some (some (.oth .dct ks vs,true))=>if vQ ks k=true/\ks.length<10000 then some (.nx (q.2.set i (some (.oth .dct (qU ks vs k p.1.1).1 (qU ks vs k p.1.1).2,true)))) else none
  |_,_=>none
 |_=>none
section
variable {X:Cx}{e ix:gC}{f:F}{fo:FO}{pos b9 apos j5:Pos}{i:Nat}{x:Str}{A L:jb}{H0:Hp}
theorem Ju{h9:Pos}(hu:X.A.units+1<cLine)(hv:PO X (.Name x b9) (gh i))(he:PX X e f)(hi:PO X ix fo)
  (ha: ∀v,assign (.Subscript (.Name x b9) ix h9) X.env v=(do
   let ov <-holding [v] (eval (.Name x b9) X.env)
   let iv <-holding [v,ov] (eval ix X.env)
   standAt h9
   holding [v,ov,iv] (setItem ov iv v)
   release [v,ov,iv] []))
  (hs:swapsWithSole [.Subscript (.Name x b9) ix h9] e pos.line X.env=pure false)(hw:swappedStores [.Subscript (.Name x b9) ix h9] e X.env=pure none)
  (h1:(assignEach [.Subscript (.Name x b9) ix h9] X.env).map (·.2)=[assign (.Subscript (.Name x b9) ix h9) X.env]):
  PSX X A L H0 (.Assign [.Subscript (.Name x b9) ix h9] e pos) (Ce i f fo):=PS.imp' (Et he (JN hv hi (Je hu) ha) hs hw h1) fun D σ H hw=>by
 obtain⟨δ,T,out,E,fi,e,k⟩:=hw;obtain⟨⟨r,δ1⟩,h1,e⟩:=gg e;dsimp only at e;split at e
 case h_2=>cases e
 rename_i y0 h0;obtain⟨⟨o,δ2⟩,h2,e⟩:=gg e;dsimp only at e;split at e
 ·rename_i kk ks vs hk h3;obtain⟨⟨hok,hlen⟩,e⟩:=hW e;cases e;refine⟨δ,T,r,δ1,E,h1,fun v H1 P1=>⟨δ1,Tmp T r v,.slot i,δ1,P1.er E,by unfold gh;rw[h0],fun v2 H2 P2=>⟨δ1,Tmp T r v,o,δ2,P2.er (P1.er E),h2,fun v3 H3 P3=>?_⟩⟩⟩;have gd:PostO X.K T σ δ H (.val r) δ1 v H1:=P1;have B:=Ops.cons E gd (Ops.cons (P1.er E) P2 (Ops.cons (P2.er (P1.er E)) P3 (Ops.nil (P3.er (P2.er (P1.er E))))));have E3:ER X.K H3 T σ δ2:=B.er.mono (fun _ _ e _=>e) (fun b _ z=>B.tt b z) (fun a z=>B.er.dom a (B.tt a z));have hσ:σ[i]?=some (some v2):=P2.2.2;obtain⟨a,q1,us,q2,q3⟩:=E3.own i _ h3;rw[hσ] at q1;cases q1;have vk:=B.view (j:=2) rfl rfl hk;have rv:=B.rep E (j:=0) (r:=r) rfl rfl;have oa:OwnA σ δ2 a:=⟨i,_,h3,hσ⟩
  have kp: ∀(ho:HO) b u,H3 b=some u-> ¬(OwnA σ δ2 b\/T b)->upd H3 a ho b=some u:=fun ho b u e n=>by rw[iq (by intro z;subst z;exact n (.inl oa))];exact e
  have ks10:10000<sizeLine:=by rw[iu];decide
  have fin: ∀ho ee,OthB (some ho) .dct (qU ks vs kk r.1).1 (qU ks vs kk r.1).2 ee->RepL X.K H3 (fun a=>OwnA σ δ2 a\/T a) (qU ks vs kk r.1).2 ee->D.nx σ (upd H3 a ho):=fun ho ee g1 g2=>by
   obtain⟨E4,K4⟩:=E3.writeG (o:=ho) (d':= .oth .dct (qU ks vs kk r.1).1 (qU ks vs kk r.1).2) h3 hσ ⟨ee,by rw[ik];exact g1,RepL.mono (kp ho) (fun _ _ z=>z) g2⟩;exact k _ _ (B.keep.trans K4).sk E4
  refine⟨a,rfl,?_⟩;rcases q2 with⟨kvs,eH,rfl,rfl⟩|⟨kvs,eH,rfl,rfl⟩
  ·rw[iX] at hlen;rcases uj hok with⟨κ,g1,_⟩|⟨τ,g1,g2⟩
   ·have hy:=ve g1 vk;have aW:=oo g1;subst aW;obtain⟨p1,p2⟩:=Na (k:=κ) rv q3;refine .inl ⟨_,by rw[hy];exact DPut.k eH (by omega),fin _ _ (.inl ⟨_,rfl,p1,rfl⟩) p2⟩
   ·have fD:kvs=[]:=by
     cases kvs with
     |nil=>rfl
     |cons p kvs=>obtain⟨c,hc⟩:=g2 (ji p.1) (by simp);exact(CL hc).elim
    subst fD;obtain⟨b,hy,eb⟩:=vd g1 vk;have aW:=ui g1;subst aW;obtain⟨p1,p2⟩:=M9 (k:=τ) (kvs:=[]) rv q3;exact .inr (.inr ⟨τ,b,eH,hy,eb,fin _ _ (.inr ⟨[(τ,v)],rfl,p1,rfl⟩) p2⟩)
  ·rw[iX] at hlen;rcases uj hok with⟨κ,g1,g2⟩|⟨τ,g1,_⟩
   ·have fD:kvs=[]:=by
     cases kvs with
     |nil=>rfl
     |cons p kvs=>obtain⟨c,hc⟩:=g2 (.tup (p.1.map ji)) (by simp);exact(FH hc).elim
    subst fD;have hy:=ve g1 vk;have aW:=oo g1;subst aW;obtain⟨p1,p2⟩:=Na (k:=κ) (kvs:=[]) rv q3;exact .inr (.inl ⟨κ,eH,hy,fin _ _ (.inl ⟨[(κ,v)],rfl,p1,rfl⟩) p2⟩)
   ·obtain⟨b,hy,eb⟩:=vd g1 vk;have aW:=ui g1;subst aW;obtain⟨p1,p2⟩:=M9 (k:=τ) rv q3;refine .inl ⟨_,by rw[hy];exact DPut.t eH eb (by omega),fin _ _ (.inr ⟨_,rfl,p1,rfl⟩) p2⟩
 ·cases e
end
def jw(d:D):Option (D×Bool):=match d with
 | .oth .dct ks vs=>if(ks.all fun k=>(sM k).isSome)=true/\ks≠[] then jv ks else none
 |_=>qf d
section
variable {X:Cx}
theorem ze{P:gP}{w:gH}: ∀{es:List DictEntry} {vs:List (Key×Value)} {kvs:List (Key×V)},Pairs (kb P w) es vs->KV kvs vs->Vals (kvs.map fun p=>kV p.1) (es.map (·.key))
 |_,_,_,.nil,.nil=> .nil
 |_,_,_,.cons h1 h2 t,.cons r q=>by
  refine .cons ?_ (ze t q);dsimp only;rw[r.1];rcases jj (show xS _ _=true from h1) with⟨i,tk,e1,e2⟩|⟨x,tk,e1,e2⟩
  ·rw[e1,e2];exact⟨tk,rfl⟩
  ·rw[e1,e2];exact⟨tk,rfl⟩
theorem zj{K:gL}{H:Hp}{O:AP'}: ∀(kvs:List (Key×V)),RepL K H O (kvs.map fun p=>ji p.1) (kvs.map fun p=>kV p.1)
 |[]=>RepL.nil
 |(k,v)::kvs=>by
  refine RepL.cons ?_ (zj kvs)
  cases k with
  |inl i=>exact Rep.mkInt
  |inr x=>exact Rep.mkStr
theorem Qx{X:Cx}{id:String}{g g':D->Option (D×Bool)}(hr:jf X (.builtin id) (rDn X.K (g1 g'))){pins:hJ}{s:gr}{σ:L2.St}{H:Hp}{x:V}{u:gB}{Q:VK}{O:AP'}{d:D}{z:D×Bool}(I:Inv X pins σ H s)(ru:L2.RelV x u)(np: ∀p,H p=none-> ¬O p)(hd:iV X.K H O d x)(hg:g' d=some z)(G:Gen X.K H O z Q):
  wpAny (model X.prog X.w) X.A (call (.builtin id) [u]) (EP X pins σ Q) X.xe s:=
 hr pins s σ H [x] [u] Q I (.cons ru .nil) ⟨O,[d],z,np,rfl,(fun j d' v' a b=>by
   cases j with
   |zero=>simp at a b;subst a;subst b;exact hd
   |succ j=>simp at a),hg,G⟩
theorem oU(hc:X.calm=true)(hu:X.A.units+62<cLine):jf X (.builtin "sorted") (rDn X.K (g1 jw)):=nh fun pins s σ H x u Q O d z I ru np hd hg G=>by
 by_cases hs: ∃ks vs,d= .oth .dct ks vs
 ·obtain⟨ks,vs,rfl⟩:=hs;have v5:(if(ks.all fun k=>(sM k).isSome)=true/\ks≠[] then jv ks else none)=some z:=hg;split at v5
  ·rename_i hok;obtain⟨a,us,rfl,q,r⟩:=pX hd;cases ru;rcases q with⟨kvs,e,rfl,rfl⟩|⟨kvs,e,rfl,rfl⟩
   ·obtain⟨zl,cM,vs',rel,o,es,ep,h1,h2,h3,h4,h5,h6⟩:=Nq I.hok e;have vv:=ze h5 rel;have hl:=vv.length;simp only[iX,iY] at hl;have hh:X.A.handled=none:=I.ok.hd hc;exact qC hu I (zj (O:=O) kvs) vv v5 G fun Q' E' A' fV hQ=>TT.Ls cM (by rw[fV];exact hh) ⟨o,h1,h2,h3⟩ (by omega) fun h' tk k=>hQ h' tk k
   ·exfalso
    cases kvs with
    |nil=>exact hok.2 rfl
    |cons p kvs=>
     have:=nL.mp hok.1 (.tup (p.1.map ji)) (by simp);simp[sM] at this
  ·cases v5
 ·have:jw d=qf d:=by
   unfold jw;split
   ·exact absurd ⟨_,_,rfl⟩ hs
   ·rfl
  exact Qx (g:=jw) (Bp hc hu) I ru np hd (by rw[<-this];exact hg) G
theorem LW(hg:Gl X x)(hm:X.mg x=some (.int i t))(hd:(x==("__debug__":Str))=false):PX X (.Name x pos) (fC (.int i)):=PX.imp (Ml (v:= .int i) hg hm ⟨t,rfl⟩ hd) fun σ H Q h=>by
 obtain⟨δ,T,r,δ',E,e,k⟩:=h;cases e;exact k _ _ (Post.val .refl E Rep.mkInt)
end
def qM(i:Nat)(f:F):F:=fun δ=>match δ[i]? with
 |some (some (.lst _,true))=>(f δ).bind fun p=>match p.1,p.2[i]? with
  |(.lst m,true),some (some (.lst l,true))=>if l.length+m.length<=sizeLine then some ((.non,false),p.2.set i (some (.lst (l++m),true))) else none
  |_,_=>none
 |_=>none
section
variable {X:Cx}{e:gC}{f:F}{pos b9 apos j5:Pos}{i:Nat}{x:Str}
theorem G1(hv:PO X (.Name x b9) (gh i))(he:PX X e f)(k4:attributeBase (.Name x b9) "extend" X.env (eval (.Name x b9) X.env)=eval (.Name x b9) X.env)
  (m9:((backTo j5 (starEach [e] X.env)).all (fun x=>!x.1)&&(backToKw j5 (keywordEach [] X.env)).all (fun x=>x.1.isSome)&&decide ([e].length+([]:List Keyword).length+(if([]:List Keyword).isEmpty then 0 else 1)<30))=true)
  (k0:(apos.endLine==j5.line)=true)(hs:starEach [e] X.env=(false,eval e X.env)::starEach [] X.env)(j4:(backTo j5 (starEach [] X.env)).any (·.1)=false):
  PX X (.Call (.Attribute (.Name x b9) "extend" apos) [e] [] j5) (qM i f):=
 PX.imp (JT DR PySem.F.slot_list_extend PySem.F.type_list_extend Hj hv (kI he oJ hs) k4 m9 k0 hs j4) fun σ H Q hw=>by
 obtain⟨δ,T,rr,δ',E,e,k⟩:=hw;unfold qM at e;split at e
 ·rename_i l0 h0;obtain⟨⟨r,δ1⟩,h1,e⟩:=gg e;dsimp only at e;split at e
  ·rename_i m l h2;obtain⟨hz,e⟩:=hW e;obtain⟨rfl,rfl⟩:=sg e;refine⟨δ,T,.slot i,δ,E,by unfold gh;rw[h0],fun v H1 P=>?_⟩;obtain⟨K1,E1,hσ⟩:=P;obtain⟨a,g1,dr,g2,g3⟩:=E1.own i _ h0;rw[hσ] at g1;cases g1;refine⟨.inl ⟨rfl,dr,SqL.of g2⟩,δ,T,_,δ1,E1,h1,fun y H2 P2=>?_⟩;obtain⟨E2,ry⟩:=P2.rep E1;obtain⟨p,rfl,hp,dZ,zs,o1,o2⟩:=P2.2;obtain⟨a',q1,xs,q2,q3⟩:=E2.own i _ h2;rw[hσ] at q1;cases q1;have hrl:RepL X.K H2 (fun b=>OwnA σ δ1 b\/T b) m zs:=RepL.mono (fun _ _ e _=>e) (fun b _ z=>z.elim Or.inl fun z=>Or.inr (Or.inl z)) o2;refine⟨_,p,xs,zs,rfl,rfl,q2,o1,by rw[q3.length,o2.length];exact hz,?_⟩;obtain⟨E3,K3⟩:=E2.write h2 hσ (q3.append hrl);exact k _ _ (Post.val ((K1.trans P2.1).trans K3) E3 Rep.mkNon)
  ·cases e
 ·cases e
end
structure PXs(X:Cx)(es:jl)(fs:List F):Prop where
 pa:PA X es (tA X.K (fs.map gk))
section
variable {X:Cx}{e:gC}{es:jl}{f:F}{fs:List F}{pos:Pos}
theorem LM:PXs X [] []:=⟨A0⟩
theorem Jq(h:PX X e f)(hr:PXs X es fs)(hs:starEach (e::es) X.env=(false,eval e X.env)::starEach es X.env):PXs X (e::es) (f::fs):=⟨ua (PX.po h) hr.pa hs⟩
theorem LS(h:PXs X es fs):PX X (.List es pos) (ky fs):=N5 h.pa
theorem LP{x1}(h:PXs X es fs):PX X (.Tuple es x1 pos) (iU fs):=NW h.pa
theorem JG{fe:FT}(h:PTX X e fe):PIf X [e] (tT X.K fe):=Mg h
theorem Oc{fe:FT}(h:PWX X e fe):PTX X e fe:=PW.pt h
end
structure QX(X:Cx)(e:gC)(f:F):Prop where
 h:PX X e f
structure QO(X:Cx)(e:gC)(f:FO):Prop where
 h:PX.PO X e f
structure QA(X:Cx)(es:jl)(fs:List FO):Prop where
 h:PA X es (tA X.K fs)
structure QL(X:Cx)(es:jl)(fs:List F):Prop where
 h:PXs X es fs
structure QT(X:Cx)(e:gC)(f:FT):Prop where
 h:PTX X e f
structure QW(X:Cx)(e:gC)(f:FT):Prop where
 h:PWX X e f
structure QG(X:Cx)(A:jb)(e:gC)(t:Tg):Prop where
 h:PGX X A e t
structure QI(X:Cx)(B:SB)(tg e:gC)(f:FIt):Prop where
 h:PIX X B tg e f
structure QF(X:Cx)(es:jl)(f:FT):Prop where
 h:PIf X es (tT X.K f)
structure QB(X:Cx)(A:jb)(d:gn)(e:gC)(n:Nat)(f:FB):Prop where
 h:PB X (iL e n (.ref d) X.env) (tBx X.K A d f)
structure QS(X:Cx)(A L:jb)(H0:Hp)(st:Stmt)(f:FS):Prop where
 h:PSX X A L H0 st f
structure QQ(X:Cx)(A L:jb)(H0:Hp)(st:List Stmt)(f:FS):Prop where
 h:BC X A L H0 st f
structure QC(X:Cx)(v:gB)(g:List D->Option (D×Bool)):Prop where
 h:jf X v (rDn X.K g)
structure QP(X:Cx)(o:vH)(g:D->D->Option (D×Bool)):Prop where
 h:OpR X o (rD X.K g)
abbrev SE(X:Cx)(e:gC)(es:jl):Prop:=starEach (e::es) X.env=(false,eval e X.env)::starEach es X.env
abbrev BA(X:Cx)(p:Pos)(es:jl):Prop:=(backTo p (starEach es X.env)).any (·.1)=false
abbrev DB(x:Str):Prop:=(x==("__debug__":Str))=false
abbrev un(A:gM)(n:Nat):Prop:=A.units+n<cLine
structure ZZ where
 P:Program
 w:World
 K:PySem.W.Frag
 mg:Str->Option Value
 base:Heap
def Oz(Z:ZZ)(k:Nat)(x:Str)(ps:iw)(ev:EvF):Prop:= ∃f fd,FnOk Z.P Z.w Z.K Z.mg Z.base CX0 k f fd ps (spF Z.K ev)/\Z.mg x=some (.ref f)/\PySem.W.keepIn Z.K (.ref f)=true/\Binds Z.K fd ps []
theorem Oz.up{Z:ZZ}{k j:Nat}{x:Str}{ps:iw}{ev:EvF}(o:Oz Z k x ps ev)(h:k<=j:=by decide):Oz Z j x ps ev:=let⟨f,fd,a,b⟩:=o;⟨f,fd,a.mono h,b⟩
abbrev zX(X:Cx):ZZ:=⟨X.prog,X.w,X.K,X.mg,X.base⟩
def btT:List (Str×Value):=[("len",.builtin "len"),("abs",.builtin "abs"),("int",.type "int"),("tuple",.type "tuple"),("list",.type "list"),("bool",.type "bool"),("max",.builtin "max"),("min",.builtin "min"),("all",.builtin "all"),("any",.builtin "any"),("sorted",.builtin "sorted"),("set",.type "set")]
theorem btA{mg:kO}(T:Tx mg): ∀p∈btT,mg p.1=none/\bootBuiltins p.1=some p.2:=by
 have h: ∀p∈btT,bootBuiltins p.1=some p.2:=by decide+kernel
 intro p hp;refine⟨?_,h p hp⟩;have cA:p∈btT:=hp;unfold btT at cA;simp only[jg,jF,kL] at cA;rcases cA with rfl|rfl|rfl|rfl|rfl|rfl|rfl|rfl|rfl|rfl|rfl|rfl
 ·exact T.n_len
 ·exact T.n_abs
 ·exact T.n_int
 ·exact T.n_tuple
 ·exact T.n_list
 ·exact T.n_bool
 ·exact T.n_max
 ·exact T.n_min
 ·exact T.n_all
 ·exact T.n_any
 ·exact T.n_sorted
 ·exact T.n_set
theorem EL{z:Str}{v:gB}: ∀{l:List (Str×Value)},l.lookup z=some v->(z,v)∈l
 |[],h=>by cases h
 |(y,u)::l,h=>by
  rw[nu] at h;split at h
  ·rename_i q;cases h;rw[pU q];exact .head _
  ·exact .tail _ (EL h)
theorem btM{mg:kO}{z:Str}{v:gB}(T:Tx mg)(h:btT.lookup z=some v):mg z=none:=(btA T _ (EL h)).1
theorem btN{z:Str}{v:gB}(h:btT.lookup z=some v):bootBuiltins z=some v:=(show ∀p∈btT,bootBuiltins p.1=some p.2 from by decide+kernel) _ (EL h)
section
variable {X:Cx}{x z:Str}{e a b c st lo hi:gC}{es:jl}{fa fb fc fo fl fh:FO}{f g:F}{ft fu:FT}{p p2 p3 pos b9 apos:Pos}{A L:jb}{B:SB}{H0:Hp}{fs:List FO}{dq:List F}{i j k:Nat}{tg:gC}{S:Stmt}{Ss Ts:List Stmt}{u v:FS}
theorem xV(h1:X.N[i]?=some x:=by rfl)(h2:Vis X.env.scope x:=by first|exact Or.inl rfl|exact Or.inr (Or.inl rfl)|exact Or.inr (Or.inr rfl))(h3:DB x:=by decide)(h4:(x==("__classdict__":Str))=false:=by decide):QO X (.Name x pos) (gh i):=⟨Oo h1 h2 h3 h4⟩
theorem xW(h1:X.N[i]?=some x:=by rfl)(h2:Vis X.env.scope x:=by first|exact Or.inl rfl|exact Or.inr (Or.inl rfl)|exact Or.inr (Or.inr rfl))(h3:DB x:=by decide)(h4:(x==("__classdict__":Str))=false:=by decide):QX X (.Name x pos) (ir i):=⟨NV h1 h2 h3 h4⟩
theorem xO(h:QX X e f):QO X e (gk f):=⟨PX.po h.h⟩
theorem x1{j}:QX X (.Constant .none j pos) (fC .non):=⟨N3⟩
theorem x2{i j}:QX X (.Constant (.bool i) j pos) (fC (.bl i)):=⟨Qp⟩
theorem x3{i j}:QX X (.Constant (.int i) j pos) (fC (.int i)):=⟨N8⟩
theorem x4{i j}:QX X (.Constant (.str i) j pos) (fC (.str i)):=⟨NX⟩
theorem x5{i:Int}(h: ∃t,X.mg x=some (.int i t))(g:Gl X x:=by rfl)(h3:DB x:=by decide):QX X (.Name x pos) (fC (.int i)):=let⟨_,h⟩:=h;⟨LW g h h3⟩
theorem x7:QX X (.Dict [] [] pos) CY:=⟨LX⟩
theorem jh{op:Operator}{g:D->D->Option (D×Bool)}(o:QP X (binaryOp op) g)(ha:QO X a fa)(hb:QO X b fb):QX X (.BinOp a op b pos) (gz g fa fb):=⟨Oa o.h ha.h hb.h⟩
theorem Ea(ha:QO X a fa):QX X (.UnaryOp .USub a pos) (kd qW fa):=⟨N4 ha.h⟩
theorem PM(ha:QX X a f):QX X (.UnaryOp .Not a pos) (KJ f):=⟨N2 ha.h⟩
theorem wV{op:CmpOp}{g:D->D->Option (D×Bool)}(o:QP X (compareOp op) g)(ha:QO X a fa)(hb:QO X b fb)(hm:behindInMarks op b=false:=by first|exact Ka _|with_unfolding_all rfl):QX X (.Compare a [op] [b] pos) (gz g fa fb):=⟨N9 o.h ha.h hb.h hm⟩
theorem tCmp{op:CmpOp}{g:D->D->Option (D×Bool)}(o:QP X (compareOp op) g)(ha:QO X a fa)(hb:QO X b fb)(hm:behindInMarks op b=false:=by first|exact Ka _|with_unfolding_all rfl):QT X (.Compare a [op] [b] pos) (fT (gz g fa fb)):=⟨L7 o.h ha.h hb.h hm⟩
theorem xCh{op w6:CmpOp}(ha:QO X a fa)(hb:QO X b fb)(hc:QO X c fc)(o1:um op:=by first|exact .inl rfl|exact .inr (.inl rfl)|exact .inr (.inr (.inl rfl))|exact .inr (.inr (.inr rfl)))(o2:um w6:=by first|exact .inl rfl|exact .inr (.inl rfl)|exact .inr (.inr (.inl rfl))|exact .inr (.inr (.inr rfl)))(hm:lastMarks [op,w6] [b,c]=false:=by with_unfolding_all rfl):QX X (.Compare a [op,w6] [b,c] pos) (qp op w6 fa fb fc):=⟨Js o1 o2 ha.h hb.h hc.h hm⟩
theorem xBo{op}(ha:QX X a f):QX X (.BoolOp op [a] pos) f:=⟨L0 ha.h⟩
theorem wW(ha:QX X a f)(hb:QX X (.BoolOp .And (b::es) pos) g):QX X (.BoolOp .And (a::b::es) pos) (qX f g):=⟨Ob ha.h hb.h⟩
theorem wOr(ha:QT X a ft)(hb:QW X (.BoolOp .Or (b::es) pos) fu):QW X (.BoolOp .Or (a::b::es) pos) (wc ft fu):=⟨Od ha.h hb.h⟩
theorem Nz(ha:QT X a ft):QW X (.BoolOp .Or [a] pos) ft:=⟨L3 ha.h⟩
theorem tW{op}(h:QW X (.BoolOp op es pos) ft):QT X (.BoolOp op es pos) ft:=⟨Oc h.h⟩
theorem tNot(ha:QT X a ft):QT X (.UnaryOp .Not a pos) (qo ft):=⟨L6 ha.h⟩
theorem BQ(h:QX X e f)(he: ∀whole,isTrue e X.env whole=(do let v <-whole;standAt e.pos;holding [v] (truthy v)):=by intro _;rfl):QT X e (fT f):=⟨L5 h.h he⟩
theorem xIf(hc:QT X c ft)(ha:QX X a f)(hb:QX X b g):QX X (.IfExp c a b pos) (fIf ft f g):=⟨Qo hc.h ha.h hb.h⟩
theorem xIx(ha:QO X a fa)(hb:QO X b fb)(hs:uG b:=by exact fun _ _=>rfl):QX X (.Subscript a b pos) (gz gIx fa fb):=⟨Qn ha.h hb.h hs⟩
theorem RI(hu:un X.A 1)(ha:QO X a fa)(hb:QO X b fb)(hs:uG b:=by exact fun _ _=>rfl):QX X (.Subscript a b pos) (gz CT fa fb):=⟨N6 hu ha.h hb.h hs⟩
theorem Nt(ha:QO X a fa)(hl:QO X lo fl):QX X (.Subscript a (.Slice (some lo) none none p2) pos) (vR fa fl):=⟨LQ ha.h hl.h⟩
theorem GJ(ha:QO X a fa)(hh:QO X hi fh):QX X (.Subscript a (.Slice none (some hi) none p2) pos) (ng fa fh):=⟨LR ha.h hh.h⟩
theorem RG(ha:QO X a fa)(hs:QO X st fb):QX X (.Subscript a (.Slice none none (some st) p2) pos) (KH fa fb):=⟨NZ ha.h hs.h⟩
theorem xL0:QL X [] []:=⟨LM⟩
theorem xL(ha:QX X e f)(hr:QL X es dq)(hs:SE X e es:=by rfl):QL X (e::es) (f::dq):=⟨Jq ha.h hr.h hs⟩
theorem xA0:QA X [] []:=⟨A0⟩
theorem xA(ha:QO X e fa)(hr:QA X es fs)(hs:SE X e es:=by rfl):QA X (e::es) (fa::fs):=⟨ua ha.h hr.h hs⟩
theorem mD{k}(h:QL X es dq):QX X (.Tuple es k pos) (iU dq):=⟨LP h.h⟩
theorem nW(h:QL X es dq):QX X (.List es pos) (ky dq):=⟨LS h.h⟩
theorem xB{id:String}{g:List D->Option (D×Bool)}(T:Tx X.mg)(hv:btT.lookup z=some (.builtin id))(hc:QC X (.builtin id) g)(ha:QA X (e::es) fs)(hg:Gl X z:=by rfl)(hn:z≠"__name__":=by decide)(l5:DB z:=by decide)(he:SE X e es:=by rfl)(j9:BA X pos es:=by rfl):QX X (.Call (.Name z p) (e::es) [] pos) (gG g fs):=⟨L1 hc.h hg (btM T hv) (btN hv) ha.h hn l5 he j9⟩
theorem xT{id:String}{g:List D->Option (D×Bool)}(T:Tx X.mg)(hv:btT.lookup z=some (.type id))(hc:QC X (.type id) g)(ha:QA X (e::es) fs)(hg:Gl X z:=by rfl)(hn:z≠"__name__":=by decide)(l5:DB z:=by decide)(he:SE X e es:=by rfl)(j9:BA X pos es:=by rfl):QX X (.Call (.Name z p) (e::es) [] pos) (gG g fs):=⟨LO hc.h hg (btM T hv) (btN hv) ha.h hn l5 he j9⟩
theorem xI{t:Ty}(T:Tx X.mg)(hz:btT.lookup z=some (.type t.n))(ha:QO X e fa)(hg:Gl X "isinstance":=by rfl)(cI:Gl X z:=by rfl)(hn:z≠"__name__":=by decide)(l5:DB z:=by decide)
  (s1:SE X e [.Name z p2]:=by rfl)(s2:SE X (.Name z p2) []:=by rfl)(j9:BA X pos [.Name z p2]:=by rfl):
  QX X (.Call (.Name "isinstance" p) [e,.Name z p2] [] pos) (kd (ou [t]) fa):=⟨N7 ha.h hg T.n_isinstance cI (btM T hz) (btN hz) hn l5 rP s1 s2 j9⟩
theorem xI2{t t':Ty}{z':Str}{p4:Pos}{kk}(T:Tx X.mg)(hz:btT.lookup z=some (.type t.n))(eD:btT.lookup z'=some (.type t'.n))(ha:QO X e fa)(hg:Gl X "isinstance":=by rfl)(cI:Gl X z:=by rfl)(hn:z≠"__name__":=by decide)(l5:DB z:=by decide)(cH:Gl X z':=by rfl)(dJ:z'≠"__name__":=by decide)(cK:DB z':=by decide)
  (s1:SE X e [.Tuple [.Name z p2,.Name z' p3] kk p4]:=by rfl)(s2:SE X (.Tuple [.Name z p2,.Name z' p3] kk p4) []:=by rfl)
  (s3:SE X (.Name z p2) [.Name z' p3]:=by rfl)(s4:SE X (.Name z' p3) []:=by rfl)
  (j9:BA X pos [.Tuple [.Name z p2,.Name z' p3] kk p4]:=by rfl):
  QX X (.Call (.Name "isinstance" p) [e,.Tuple [.Name z p2,.Name z' p3] kk p4] [] pos) (kd (ou [t,t']) fa):=⟨LU ha.h hg T.n_isinstance cI (btM T hz) (btN hz) hn l5 cH (btM T eD) (btN eD) dJ cK rP s1 s2 s3 s4 j9⟩
theorem xU{k:Nat}{ps:iw}{ev:EvF}(O:Oz (zX X) k x ps ev)(hr:Room k X.A)(ha:QA X (e::es) fs)(hg:Gl X x:=by rfl)(l5:DB x:=by decide)
  (he:SE X e es:=by rfl)(j9:BA X pos es:=by rfl):QX X (.Call (.Name x p) (e::es) [] pos) (gA ev fs):=
 let⟨_,_,ok,hm,kp,bi⟩:=O;⟨LN ok hr hg hm kp bi ha.h l5 he j9⟩
theorem RF{T:String}{mk:List D->D}{o:Bool}(X0:Tx X.mg)(hv:btT.lookup z=some (.type T))(ha:QA X [a,b] [fa,fb])(hT:(T="list"/\mk= .lst/\o=true)\/(T="tuple"/\mk= .tup/\o=false):=by first|exact .inl ⟨rfl,rfl,rfl⟩|exact .inr ⟨rfl,rfl,rfl⟩)(hc:X.calm=true:=by rfl)(hg:Gl X z:=by rfl)(hn:z≠"__name__":=by decide)(l5:DB z:=by decide)(dc:Gl X "range":=by rfl)
  (s1:SE X (.Call (.Name "range" p2) [a,b] [] p3) []:=by rfl)(s2:SE X a [b]:=by rfl)
  (j9:BA X pos []:=by rfl)(bI:BA X p3 [b]:=by rfl):
  QX X (.Call (.Name z p) [.Call (.Name "range" p2) [a,b] [] p3] [] pos) (gG (gRg mk o) [fa,fb]):=⟨NY hT hc hg (btM X0 hv) (btN hv) hn l5 dc X0.n_range ha.h s1 s2 j9 bI⟩
theorem IE(hv:QO X (.Name x b9) (gh i))(he:QX X e f)(k4:attributeBase (.Name x b9) "append" X.env (eval (.Name x b9) X.env)=eval (.Name x b9) X.env:=by rfl)
  (m9:((backTo pos (starEach [e] X.env)).all (fun x=>!x.1)&&(backToKw pos (keywordEach [] X.env)).all (fun x=>x.1.isSome)&&decide ([e].length+([]:List Keyword).length+(if([]:List Keyword).isEmpty then 0 else 1)<30))=true:=by rfl)
  (k0:(apos.endLine==pos.line)=true:=by rfl)(hs:SE X e []:=by rfl)(j4:BA X pos []:=by rfl):QX X (.Call (.Attribute (.Name x b9) "append" apos) [e] [] pos) (jC i f):=⟨G2 hv.h he.h k4 m9 k0 hs j4⟩
theorem RJ(hv:QO X (.Name x b9) (gh i))(he:QX X e f)(k4:attributeBase (.Name x b9) "extend" X.env (eval (.Name x b9) X.env)=eval (.Name x b9) X.env:=by rfl)
  (m9:((backTo pos (starEach [e] X.env)).all (fun x=>!x.1)&&(backToKw pos (keywordEach [] X.env)).all (fun x=>x.1.isSome)&&decide ([e].length+([]:List Keyword).length+(if([]:List Keyword).isEmpty then 0 else 1)<30))=true:=by rfl)
  (k0:(apos.endLine==pos.line)=true:=by rfl)(hs:SE X e []:=by rfl)(j4:BA X pos []:=by rfl):QX X (.Call (.Attribute (.Name x b9) "extend" apos) [e] [] pos) (qM i f):=⟨G1 hv.h he.h k4 m9 k0 hs j4⟩
theorem RH(hv:QO X (.Name x b9) (gh i))(he:QO X e fo)(k4:attributeBase (.Name x b9) "pop" X.env (eval (.Name x b9) X.env)=eval (.Name x b9) X.env:=by rfl)
  (m9:((backTo pos (starEach [e] X.env)).all (fun x=>!x.1)&&(backToKw pos (keywordEach [] X.env)).all (fun x=>x.1.isSome)&&decide ([e].length+([]:List Keyword).length+(if([]:List Keyword).isEmpty then 0 else 1)<30))=true:=by rfl)
  (k0:(apos.endLine==pos.line)=true:=by rfl)(hs:SE X e []:=by rfl)(j4:BA X pos []:=by rfl):QX X (.Call (.Attribute (.Name x b9) "pop" apos) [e] [] pos) (sO i fo):=⟨Jr hv.h he.h k4 m9 k0 hs j4⟩
theorem iR1(T:Tx X.mg)(ha:QA X [a] [fa])(hg:Gl X "range":=by rfl)(hs:starEach [a] X.env=[(false,eval a X.env)]:=by rfl):QI X B tg (.Call (.Name "range" p) [a] [] pos) (ot fa):=⟨Ey hg T.n_range ha.h hs⟩
theorem iR2(T:Tx X.mg)(ha:QA X [a,b] [fa,fb])(hg:Gl X "range":=by rfl)(hs:starEach [a,b] X.env=[(false,eval a X.env),(false,eval b X.env)]:=by rfl)(o8:starEach [b] X.env=[(false,eval b X.env)]:=by rfl):QI X B tg (.Call (.Name "range" p) [a,b] [] pos) (ES fa fb):=⟨Ex hg T.n_range ha.h hs o8⟩
theorem iS(h:QX X e f):QI X B tg e (gW f):=⟨Mf h.h⟩
theorem iZV{elts:jl}{k1:Nat}{aq:Pos}(T:Tx X.mg)(ha:QO X a (gh i))(hb:QO X b (gh j))(b1:B i:=by decide)(b2:B j:=by decide)(hg:Gl X "zip":=by rfl)(hs:SE X a [b]:=by rfl)(o8:SE X b []:=by rfl)(j9:BA X pos [b]:=by rfl):
  QI X B (.Tuple elts k1 aq) (.Call (.Name "zip" p) [a,b] [] pos) (vn (gh i) (gh j)):=⟨JE hg T.n_zip ha.h hb.h (FU b1) (FU b2) hs o8 j9⟩
theorem gN(hN:X.N.Nodup)(hi:X.N[i]?=some x:=by rfl)(hx:Loc X.env.scope x:=by first|exact Or.inl rfl|exact Or.inr rfl)(hf:X.fn x=true\/X.env.scope.names.lookup x=some .local:=by first|exact Or.inl rfl|exact Or.inr rfl)(ha:A i:=by decide):QG X A (.Name x pos) (gq i):=⟨JK hN hi hx hf ha⟩
theorem gT{t1 t2:Tg}{k:Nat}(h1:QG X A a t1)(h2:QG X A b t2)(hc:X.calm=true:=by rfl)(q1:(assignEach [a,b] X.env).map (·.2)=assign a X.env::(assignEach [b] X.env).map (·.2):=by rfl)(q2:(assignEach [b] X.env).map (·.2)=assign b X.env::(assignEach [] X.env).map (·.2):=by rfl)
  (hn:(assignEach [a,b] X.env).length=2:=by rfl)(p9:(assignEach [a,b] X.env).findIdx? (·.1)=none:=by rfl):QG X A (.Tuple [a,b] k pos) (vI [t1,t2]):=⟨Mj hc (zo h1.h (zo h2.h JL q2) q1) hn rfl p9⟩
theorem f0:QF X [] hC:=⟨JH⟩
theorem f1(h:QT X e ft):QF X [e] ft:=⟨JG h.h⟩
theorem bE{gens:pv}{sc:jD}{d:gn}{n:Nat}(he:QX X e f)(hn:gens[n+1]?=none:=by rfl):QB X A d (.ListComp e gens sc p) n (gZ f):=⟨JU hn he.h⟩
theorem bF{gens:pv}{sc:jD}{d:gn}{n:Nat}{c:nN}{fi:FIt}{tt:Tg}{fb:FB}(hg:gens[n+1]?=some c)(pi:QI X (fun _=>False) c.target c.iter fi)(pg:QG X A c.target tt)(bD:QF X c.ifs ft)(pb:QB X A d (.ListComp e gens sc p) (n+1) fb)(cu:X.xe=fun _ _=>False:=by rfl)(hc:X.calm=true:=by rfl)
  (ha:c.is_async=0:=by rfl)(n8: ∀g',gens[n+1+1]?=some g'->g'.is_async=0:=by intro g' h;cases h;try rfl)(hs: ∀x,foldedSetIterable c.iter X.env x=pure x:=by intro _;rfl):QB X A d (.ListComp e gens sc p) n (Fp fi tt ft fb):=⟨Mo cu hc (Or.inl ⟨_,_,_,_,rfl⟩) hg ha n8 hs pi.h pg.h bD.h pb.h⟩
theorem cOk{N P:iw}{sc scope:jD}{N':iw}{caps:iA}(S:FnScope N P sc)(h:Bn N sc scope N' caps k=true:=by decide+kernel)(hN:X.N=N:=by rfl)(hs:X.env.scope=sc:=by rfl):CompOk X N' scope caps k:=KU hN hs h
theorem xC{c:nN}{gJ:pv}{elt:gC}{scope:jD}{fi:FIt}{tt:Tg}{ti:FT}{fb:FB}{caps:iA}{N':iw}(C:CompOk X N' scope caps k)(nd:N'.Nodup)(pi:QI X (fun i=>i∉caps) c.target c.iter fi)
  (aA: ∀(cl:pz) (C:gn) (s3:gr) (H3:Hp) (fp:jE) (pins:hJ),(X.comp N' scope cl C s3 H3 fp pins).N.Nodup->
   QG (X.comp N' scope cl C s3 H3 fp pins) (fun i=>caps.length<=i) c.target tt/\QF (X.comp N' scope cl C s3 H3 fp pins) c.ifs ti/\ ∀d,QB (X.comp N' scope cl C s3 H3 fp pins) (fun i=>caps.length<=i) d (.ListComp elt (c::gJ) scope pos) 0 fb)
  (hc:X.calm=true:=by rfl)(ha:c.is_async=0:=by rfl)(n8: ∀g',gJ[0]?=some g'->g'.is_async=0:=by intro g' h;cases h;try rfl)(hs: ∀x,foldedSetIterable c.iter X.env x=pure x:=by intro _;rfl):QX X (.ListComp elt (c::gJ) scope pos) (gX caps k fi tt ti fb):=⟨LY C hc ha n8 hs pi.h fun cl C s3 H3 fp pins=>let⟨a,b,c⟩:=aA cl C s3 H3 fp pins nd;⟨a.h,b.h,fun d=>(c d).h⟩⟩
theorem sC{c:nN}{gJ:pv}{elt:gC}{scope:jD}{fi:FIt}{tt:Tg}{ti:FT}{fb:FB}{caps:iA}{N':iw}{py h9:Pos}(hN:X.N.Nodup)(C:CompOk X N' scope caps k)(nd:N'.Nodup)(pi:QI X (fun i=>i∉caps) c.target c.iter fi)
  (aA: ∀(cl:pz) (C:gn) (s3:gr) (H3:Hp) (fp:jE) (pins:hJ),(X.comp N' scope cl C s3 H3 fp pins).N.Nodup->
   QG (X.comp N' scope cl C s3 H3 fp pins) (fun i=>caps.length<=i) c.target tt/\QF (X.comp N' scope cl C s3 H3 fp pins) c.ifs ti/\ ∀d,QB (X.comp N' scope cl C s3 H3 fp pins) (fun i=>caps.length<=i) d (.ListComp elt (c::gJ) scope pos) 0 fb)
  (dG:swapsWith (.ListComp elt (c::gJ) scope pos) (some (.Name x py)) h9.line X.env=pure true:=by rfl)(hi:X.N[i]?=some x:=by rfl)(hx:X.env.scope.names.lookup x=some .local:=by rfl)(hf:X.fn x=true:=by rfl)(hA:A i:=by decide)
  (hc:X.calm=true:=by rfl)(ha:c.is_async=0:=by rfl)(n8: ∀g',gJ[0]?=some g'->g'.is_async=0:=by intro g' h;cases h;try rfl)(hs: ∀x,foldedSetIterable c.iter X.env x=pure x:=by intro _;rfl):QS X A L H0 (.Assign [.Name x py] (.ListComp elt (c::gJ) scope pos) h9) (ic i (gX caps k fi tt ti fb)):=⟨Jv dG C hc ha n8 hs pi.h (F3 hN hi (Or.inl hx) (Or.inl hf)) hA fun cl C s3 H3 fp pins=>let⟨a,b,c⟩:=aA cl C s3 H3 fp pins nd;⟨a.h,b.h,fun d=>(c d).h⟩⟩
theorem s0:QQ X A L H0 [] gO:=⟨Jw⟩
theorem s1(h:QS X A L H0 S u)(hr:QQ X A L H0 Ss v):QQ X A L H0 (S::Ss) (gy u v):=⟨G5 h.h hr.h⟩
theorem sR(h:QX X e f):QS X A L H0 (.Return (some e) pos) (jQ f):=⟨Mb h.h⟩
theorem sRV(hl: ¬L i)(h1:X.N[i]?=some x:=by rfl)(h2:Vis X.env.scope x:=by first|exact Or.inl rfl|exact Or.inr (Or.inl rfl)|exact Or.inr (Or.inr rfl))(h3:DB x:=by decide)(h4:(x==("__classdict__":Str))=false:=by decide):QS X A L H0 (.Return (some (.Name x p)) pos) (lJ i):=⟨Es h1 h2 h3 h4 hl⟩
theorem sE(h:QX X e f)(hs:swapsWith e none pos.line X.env=pure false:=by rfl):QS X A L H0 (.Expr e pos) (lT f):=⟨Jt h.h hs⟩
theorem sI(hc:QT X c ft)(ha:QQ X A L H0 Ss u)(hb:QQ X A L H0 Ts v):QS X A L H0 (.If c Ss Ts pos) (sIf ft u v):=⟨Oi hc.h ha.h hb.h⟩
theorem sW{n:Nat}(hc:QT X c ft)(hb:QQ X A L H0 Ss u)(hp:PassesOwn (model X.prog X.w) X.A X.env X.xe:=by exact PassesOwn.never):QS X A L H0 (.While c Ss [] pos) (nc ft u n):=⟨G3 hp hc.h hb.h⟩
theorem sF{fi:FIt}{t:Tg}(hi:QI X (fun _=>False) tg e fi)(hg:QG X A tg t)(hb:QQ X A L H0 Ss u)(hp:PassesOwn (model X.prog X.w) X.A X.env X.xe:=by exact PassesOwn.never)(hc:X.calm=true:=by rfl)(hs: ∀x,foldedSetIterable e X.env x=pure x:=by intro _;rfl):QS X A L H0 (.For tg e Ss [] pos) (mV fi t u):=⟨Mc hp hc hi.h hg.h hb.h hs⟩
theorem sS(hN:X.N.Nodup)(he:QX X e f)(hi:X.N[i]?=some x:=by rfl)(hx:Loc X.env.scope x:=by first|exact Or.inl rfl|exact Or.inr rfl)(hf:X.fn x=true\/X.env.scope.names.lookup x=some .local:=by first|exact Or.inl rfl|exact Or.inr rfl)(ha:A i:=by decide)(hs:swapsWith e (some (.Name x p)) pos.line X.env=pure false:=by rfl):QS X A L H0 (.Assign [.Name x p] e pos) (ic i f):=⟨Ma hN hi hx he.h hs hf ha⟩
theorem sT{t:Tg}{pt:Pos}(he:QX X e f)(hg:QG X A (.Tuple es k pt) t)(hs:swapsWithSole [.Tuple es k pt] e pos.line X.env=pure false:=by rfl)(hw:swappedStores [.Tuple es k pt] e X.env=pure none:=by rfl)(h1:(assignEach [.Tuple es k pt] X.env).map (·.2)=[assign (.Tuple es k pt) X.env]:=by rfl):QS X A L H0 (.Assign [.Tuple es k pt] e pos) (LG t f):=⟨L9 he.h hg.h hs hw h1⟩
theorem sIx{h9:Pos}(hv:QO X (.Name x b9) (gh i))(he:QX X e f)(hi:QO X a fo)
  (ha: ∀v,assign (.Subscript (.Name x b9) a h9) X.env v=(do
   let ov <-holding [v] (eval (.Name x b9) X.env)
   let iv <-holding [v,ov] (eval a X.env)
   standAt h9
   holding [v,ov,iv] (setItem ov iv v)
   release [v,ov,iv] []):=by intro _;rfl)
  (hs:swapsWithSole [.Subscript (.Name x b9) a h9] e pos.line X.env=pure false:=by rfl)(hw:swappedStores [.Subscript (.Name x b9) a h9] e X.env=pure none:=by rfl)
  (h1:(assignEach [.Subscript (.Name x b9) a h9] X.env).map (·.2)=[assign (.Subscript (.Name x b9) a h9) X.env]:=by rfl):QS X A L H0 (.Assign [.Subscript (.Name x b9) a h9] e pos) (vg i f fo):=⟨G4 hv.h he.h hi.h ha hs hw h1⟩
theorem sDP{h9:Pos}(hu:un X.A 1)(hv:QO X (.Name x b9) (gh i))(he:QX X e f)(hi:QO X a fo)
  (ha: ∀v,assign (.Subscript (.Name x b9) a h9) X.env v=(do
   let ov <-holding [v] (eval (.Name x b9) X.env)
   let iv <-holding [v,ov] (eval a X.env)
   standAt h9
   holding [v,ov,iv] (setItem ov iv v)
   release [v,ov,iv] []):=by intro _;rfl)
  (hs:swapsWithSole [.Subscript (.Name x b9) a h9] e pos.line X.env=pure false:=by rfl)(hw:swappedStores [.Subscript (.Name x b9) a h9] e X.env=pure none:=by rfl)
  (h1:(assignEach [.Subscript (.Name x b9) a h9] X.env).map (·.2)=[assign (.Subscript (.Name x b9) a h9) X.env]:=by rfl):QS X A L H0 (.Assign [.Subscript (.Name x b9) a h9] e pos) (Ce i f fo):=⟨Ju hu hv.h he.h hi.h ha hs hw h1⟩
end
def Fz(K:gL)(mg:kO)(x:Str)(st:Stmt):Prop:= ∃f fd,mg x=some (.ref f)/\Fun K x x st f fd
theorem fz{K:gL}{h:gQ}{mg:kO}{x:Str}{st:Stmt}{f:gn}{oc:gB}{od an:Option Addr}{aN:sY}{kV doc pm i4 ct:gB}(X:K.In h)(G:h.Ns mainGlobals mg)(a:PySem.W.nsIn K mainGlobals x=some (some (.ref f)))
  (l:K.lookup f=some ⟨oc,od,.func (PySem.W.fnOf x x (qP st) (mN st) (gE st) .none kV doc pm an i4 ct),aN⟩)(c:PySem.W.codeIn K i4 x=true)(k:PySem.W.keepIn K (.ref f)=true):Fz K mg x st:=⟨f,_,PySem.W.mg_of X G a,Pb l c k⟩
def BdA(x:Str)(st:Stmt)(ps:iw):Prop:= ∀(kV doc pm:gB) (an:Option Addr) (i4 ct:gB) (us:iG),us.length=ps.length->bindArgs (PySem.W.fnOf x x (qP st) (mN st) (gE st) .none kV doc pm an i4 ct) ⟨us,[]⟩=pure (ps.zip us)
theorem scM{N P:iw}{sc:jD}(h1:sc.kind= .function:=by rfl)(h2:sc.isCoroutine=false:=by rfl)(h3:sc.isGenerator=false:=by rfl)(h4:N.Nodup:=by decide+kernel)(h5:N.take P.length=P:=by rfl)(h6: ∀x∈P,sc.names.lookup x=some .local\/sc.names.lookup x=some .cell:=by decide+kernel)(h7: ∀y∈sc.names,y.2≠ .free:=by decide+kernel):FnScope N P sc:=⟨h1,h2,h3,h4,h5,h6,h7⟩
def Bd(Z:ZZ)(k:Nat)(x:Str)(st:Stmt)(N ps:iw)(asg:iA)(fs:FS):Prop:= ∀(f:gn) (i4:gB) (A:gM) (outer:List Env) (s:gr) (H:Hp) (E:XK) (L:jb),(∀i,L i->i<ps.length)->Room k (A.deeper (envOfC x (gE st) s.heap.objs.size f i4))->
 un (A.deeper (envOfC x (gE st) s.heap.objs.size f i4)) 60->un (A.deeper (envOfC x (gE st) s.heap.objs.size f i4)) 1->un (A.deeper (envOfC x (gE st) s.heap.objs.size f i4)) 62->un (A.deeper (envOfC x (gE st) s.heap.objs.size f i4)) 90->N.Nodup->
 QQ (C4 CX0 Z.P Z.w Z.K Z.mg Z.base N x (gE st) f i4 A outer s H E).nox (fun i=>i∈asg) L H (mN st) fs
theorem fnB{Z:ZZ}{k:Nat}{x:Str}{st:Stmt}{N ps:iw}{asg:iA}{fs:FS}{f:gn}{fd:mP}(F:Fun Z.K x x st f fd)(S:FnScope N ps (gE st))(hb:Bd Z k x st N ps asg fs):FnOk Z.P Z.w Z.K Z.mg Z.base CX0 (k+1) f fd ps (spF Z.K (evF N.length ps.length asg fs)):=
 Pa F S fun i4 A outer s H E L hL hr=>by
  have:=hr.un;exact(hb f i4 A outer s H E L hL hr (by unfold un;omega) (by unfold un;omega) (by unfold un;omega) (by unfold un;omega) S.nd).h
theorem ozB{Z:ZZ}{k:Nat}{x:Str}{st:Stmt}{N ps:iw}{asg:iA}{fs:FS}(a:Fz Z.K Z.mg x st)(S:FnScope N ps (gE st))(b:BdA x st ps)(hb:Bd Z k x st N ps asg fs):Oz Z (k+1) x ps (evF N.length ps.length asg fs):=
 let⟨f,fd,m,F⟩:=a;⟨f,fd,fnB F S hb,m,F.kp,F.binds b⟩
theorem us0{P:List Value->Prop}(h:P []): ∀us:List Value,us.length=0->P us:=fun us e=>by cases us with|nil=>exact h|cons a l=>cases e
theorem us1{P:List Value->Prop}{n:Nat}(h: ∀a,∀us:List Value,us.length=n->P (a::us)): ∀us:List Value,us.length=n+1->P us:=fun us e=>by cases us with|nil=>cases e|cons a l=>exact h a l (Nat.succ.inj e)
theorem oz0{Z:ZZ}{x:Str}{st:Stmt}{ps:iw}(a:Fz Z.K Z.mg x st)(b:BdA x st ps):Oz Z 0 x ps (fun _=>none):=
 let⟨f,fd,m,F⟩:=a;⟨f,fd,MK,m,F.kp,F.binds b⟩
theorem fzL{K:gL}{mg:kO}{x y:Str}{st:Stmt}{fa:gn}(a:Fz K mg x st)(fM:mg x=some (.ref fa))(b:BdA x st [y]): ∃fd,Fun K x x st fa fd/\ ∀(s:gr) (v:gB),BindsTo s fd ⟨[v],[]⟩ [(y,v)]:=by
 obtain⟨f,fd,m,F⟩:=a;have e:=fM.symm.trans m;cases e;obtain⟨oc,od,kV,doc,pm,an,i4,ct,aN,e,_⟩:=F.ex;exact⟨fd,F,fun s v=>by subst e;exact .of_eq (b kV doc pm an i4 ct [v] rfl)⟩
theorem txK{K:gL}{h:gQ}{mg:kO}(X:K.In h)(G:h.Ns mainGlobals mg)(z0:PySem.W.nsIn K mainGlobals "len"=some none)(z1:PySem.W.nsIn K mainGlobals "abs"=some none)(z2:PySem.W.nsIn K mainGlobals "int"=some none)(z3:PySem.W.nsIn K mainGlobals "tuple"=some none)(z4:PySem.W.nsIn K mainGlobals "list"=some none)(z5:PySem.W.nsIn K mainGlobals "range"=some none)(z6:PySem.W.nsIn K mainGlobals "isinstance"=some none)(z7:PySem.W.nsIn K mainGlobals "bool"=some none)(z8:PySem.W.nsIn K mainGlobals "max"=some none)(z9:PySem.W.nsIn K mainGlobals "min"=some none)(z10:PySem.W.nsIn K mainGlobals "all"=some none)(z11:PySem.W.nsIn K mainGlobals "any"=some none)(z12:PySem.W.nsIn K mainGlobals "sorted"=some none)(z13:PySem.W.nsIn K mainGlobals "enumerate"=some none)(z14:PySem.W.nsIn K mainGlobals "zip"=some none)(z15:PySem.W.nsIn K mainGlobals "set"=some none):Tx mg:=⟨ml X G z0,ml X G z1,ml X G z2,ml X G z3,ml X G z4,ml X G z5,ml X G z6,ml X G z7,ml X G z8,ml X G z9,ml X G z10,ml X G z11,ml X G z12,ml X G z13,ml X G z14,ml X G z15⟩
theorem walkG{l:PySem.W.OpenLaw}{q:gP}{loose:iw}{XP:(Str->Option Value)->Heap->Prop}{YP:World->Heap->Prop}{d:DefRec}{K:Params->PySem.W.Frag}{LV:Nat}{x:Str}{ev:EvF}(hk:Room LV callerA)(hn:l.most=some 63)(dO:d.params.defaults=[])(hY: ∀(w:gH) (h:gQ),YP w h->(K w.params).In h)
  (F: ∀(w:gH) (mg:kO) (fa:gn) (h:gQ),(K w.params).In h->h.Ns mainGlobals mg->mg d.name=some (.ref fa)-> ∃fd:FuncData,(∀(s:gr) (u:gB),BindsTo s fd ⟨[u],[]⟩ [(x,u)])/\ ∀base:Heap,(K w.params).In base->base.Ns mainGlobals mg->FnOk l.prog w (K w.params) mg base CX0 LV fa fd [x] (spF (K w.params) ev))
  (M: ∀ns:List Int,ns.length<=63-> ∃o outs,ev [(.lst (ns.map .int),false)]=some ((.bl true,o),outs)):PySem.W.WalkO q loose XP YP l.row.toRowW d [] (fun f vs=>PySem.call f vs):=
 L2.PN (n:=63) (k:=LV) (x:=x) (CX:=fun _=>CX0) (sp:=fun w=>spF (K w.params) ev) hn (by decide) dO hk hY F (fun _ _ a ns hl _ hS=>by obtain⟨o,outs,e⟩:=M ns hl;exact OT hS e) fun _ _ _ _ _ z=>z
end PX
namespace PV
open PySem PySem.Spec PyProof.Rows L2 PX
abbrev Rk:Nat:=100000
abbrev RD:Nat:=6
def qj:FS:=(gy (jQ (qX (kd (ou [.int]) (gh 0)) (KJ (kd (ou [.bool]) (gh 0))))) gO)
def nK:EvF:=evF 1 1 [] qj
def mM:FS:=(gy (jQ (qX (gA nK [(gh 0)]) (qp .LtE .LtE (gh 1) (gh 0) (gh 2)))) gO)
def kZ:EvF:=evF 3 3 [] mM
def kW:FS:=(gy (sIf (fT (gz (mI .Lt) (gh 1) (gk (gG (g1 nk) [(gh 0)])))) (gy (jQ (gz gIx (gh 0) (gh 1))) gO) gO) (gy (jQ (fC (.int 0))) gO))
def ki:EvF:=evF 2 2 [] kW
def mK:FS:=(gy (ic 2 (gA ki [(gh 0),(gh 1)])) (gy (sIf (fT (gz (mI .GtE) (gh 2) (gk (gz CP (gk (fC (.int 10))) (gk (fC (.int 18))))))) (gy (jQ (ky [(gz gSub (gh 2) (gk (gz CP (gk (fC (.int 10))) (gk (fC (.int 18)))))),(fC (.bl true))])) gO) gO) (gy (jQ (ky [(gz uq (gh 2) (gk (fC (.int 2147483647)))),(fC (.bl false))])) gO)))
def ku:EvF:=evF 3 2 [2] mK
def nH:FS:=(gy (sIf (fT (gz gIx (gh 0) (gk (fC (.int 1))))) (gy (ic 2 (gz uq (gk (gz gIx (gh 0) (gk (fC (.int 0))))) (gh 1))) (gy (vg 0 (gz KA (gk (gz gIx (gh 0) (gk (fC (.int 0))))) (gh 1)) (gk (fC (.int 0)))) (gy (lJ 2) gO))) gO) (gy (vg 0 (gz uq (gk (gz js (gk (gz pk (gk (gz gIx (gh 0) (gk (fC (.int 0))))) (gk (fC (.int 48271))))) (gk (fC (.int 29))))) (gk (fC (.int 2147483647)))) (gk (fC (.int 0)))) (gy (ic 3 (gz uq (gk (gz js (gk (gz js (gk (gz pk (gk (gz gIx (gh 0) (gk (fC (.int 0))))) (gk (gz gIx (gh 0) (gk (fC (.int 0))))))) (gk (gz pk (gk (fC (.int 39373))) (gk (gz gIx (gh 0) (gk (fC (.int 0))))))))) (gk (fC (.int 7))))) (gk (fC (.int 2147483629))))) (gy (ic 3 (gz uq (gk (gz js (gk (gz pk (gh 3) (gh 3))) (gk (gz pk (gk (fC (.int 16807))) (gh 3))))) (gk (fC (.int 2147483587))))) (gy (jQ (gz uq (gk (gz KA (gh 3) (gk (fC (.int 8))))) (gh 1))) gO)))))
def gD:EvF:=evF 4 2 [2,3] nH
def qg:FS:=(gy (ic 2 (gG (gRg .lst true) [(gk (fC (.int 1))),(gk (gz js (gh 1) (gk (fC (.int 1)))))])) (gy (ic 3 (ky [])) (gy (mV (ot (gh 1)) (gq 4) (gy (lT (jC 3 (gz pk (gk (sO 2 (gk (gA gD [(gh 0),(gk (gG (g1 nk) [(gh 2)]))])))) (gk (gz gIx (gk (ky [(fC (.int 1)),(kd qW (gk (fC (.int 1))))])) (gk (gA gD [(gh 0),(gk (fC (.int 2)))]))))))) gO)) (gy (jQ (gG (g1 lC) [(gh 3)])) gO))))
def kh:EvF:=evF 5 2 [2,3,4] qg
def rL:FS:=(gy (ic 2 (gz gIx (gk (ky [(fC (.int 3)),(fC (.int 4)),(fC (.int 6))])) (gk (gA gD [(gh 0),(gk (fC (.int 3)))])))) (gy (ic 3 (ky [])) (gy (mV (ES (gk (fC (.int 1))) (gk (gz js (gh 1) (gk (fC (.int 1)))))) (gq 4) (gy (ic 5 (gA gD [(gh 0),(gh 2)])) (gy (sIf (fT (gz (mI .Lt) (gh 5) (gk (fC (.int 2))))) (gy (lT (jC 3 (gz gIx (gk (ky [(ir 4),(kd qW (gh 4))])) (gh 5)))) gO) gO) gO))) (gy (sIf (fT (gz gEq (gh 3) (gk (ky [])))) (gy (lT (jC 3 (gz pk (gk (gz gIx (gk (ky [(fC (.int 1)),(kd qW (gk (fC (.int 1))))])) (gk (gA gD [(gh 0),(gk (fC (.int 2)))])))) (gk (gz js (gk (fC (.int 1))) (gk (gA gD [(gh 0),(gh 1)]))))))) gO) gO) (gy (jQ (gG (g1 lC) [(gh 3)])) gO)))))
def lN:EvF:=evF 6 2 [2,3,4,5] rL
def ma:FS:=(gy (jQ (gz pk (gk (gz gIx (gh 0) (gk (gz gSub (gk (gG (g1 sN) [(gh 1)])) (gk (fC (.int 1))))))) (gk (gz gIx (gk (ky [(kd qW (gk (fC (.int 1)))),(fC (.int 1))])) (gk (gG (g1 Kz) [(gk (gz (mI .Gt) (gh 1) (gk (fC (.int 0)))))])))))) gO)
def jT:EvF:=evF 2 2 [] ma
def nI:FS:=(gy (ic 2 CY) (gy (mV (gW (ir 1)) (gq 3) (gy (ic 4 (gA jT [(gh 0),(gh 3)])) (gy (Ce 2 (ir 4) (gk (gG (g1 sN) [(gh 4)]))) gO))) (gy (jQ (gG (g1 lC) [(gk (gX [2] 1 (gW (gG (g1 jw) [(gh 2)])) (gq 1) hC (gZ (gz CT (gh 0) (gh 1)))))])) gO)))
def jy:EvF:=evF 5 2 [2,3,4] nI
def rK:FS:=(gy (ic 2 (gG (g1 CS) [(gh 0)])) (gy (ic 3 (fC (.int 0))) (gy (nc (fT (gz (mI .Lt) (gh 3) (gk (gG (g1 nk) [(gh 2)])))) (gy (mV (gW (ir 1)) (gq 4) (gy (ic 5 (gA jy [(gh 4),(gk (gz gIx (gh 2) (gh 3)))])) (gy (sIf (fT (gz vp (gh 5) (gh 2))) (gy (lT (jC 2 (ir 5))) gO) gO) gO))) (gy (ic 3 (gz js (gh 3) (gk (fC (.int 1))))) gO)) Rk) (gy (lJ 2) gO))))
def lM:EvF:=evF 6 2 [2,3,4,5] rK
def rJ:FS:=(gy (ic 3 (gz js (gh 1) (gk (gA gD [(gh 0),(gk (gz js (gk (gz gSub (gh 2) (gh 1))) (gk (fC (.int 1)))))])))) (gy (ic 4 (gA gD [(gh 0),(gk (fC (.int 4)))])) (gy (sIf (fT (gz gEq (gh 3) (gk (fC (.int 0))))) (gy (jQ (iU [(fC (.int 0)),(iU [])])) gO) gO) (gy (ic 5 (gA gD [(gh 0),(gk (gz gIx (gk (ky [(fC (.int 4)),(fC (.int 8)),(fC (.int 13))])) (gk (gA gD [(gh 0),(gk (fC (.int 3)))]))))])) (gy (ic 6 (gX [0,3] 1 (ot (gh 5)) (gq 2) hC (gZ (gA lN [(gh 0),(gh 1)])))) (gy (sIf (fT (gz (mI .Gt) (gh 4) (gk (fC (.int 0))))) (gy (ic 7 (gX [0,3] 1 (ot (gk (gz js (gk (fC (.int 1))) (gk (gz uq (gh 4) (gk (fC (.int 2)))))))) (gq 2) hC (gZ (gA kh [(gh 0),(gh 1)])))) (gy (sIf (fT (gz gEq (gh 4) (gk (fC (.int 3))))) (gy (ic 7 (gX [] 1 (gW (ir 7)) (gq 0) hC (gZ (gG (g1 lC) [(gk (gX [] 1 (gW (ir 0)) (gq 0) hC (gZ (gG (g1 sN) [(gh 0)]))))])))) gO) gO) (gy (ic 6 (gA lM [(gk (ng (gk (gG (g1 jw) [(gk (gG (g1 EX) [(gh 6)]))])) (gk (fC (.int 2))))),(gh 7)])) gO))) gO) (gy (ic 6 (gG (g1 jw) [(gk (gG (g1 EX) [(gh 6)]))])) (gy (sIf (fT (gz (mI .Gt) (gk (gG (g1 nk) [(gh 6)])) (gk (fC (.int 30))))) (gy (ic 6 (ng (gh 6) (gk (gA gD [(gh 0),(gk (fC (.int 30)))])))) gO) gO) (gy (jQ (iU [(ir 3),(gG (g1 lC) [(gh 6)])])) gO)))))))))
def lL:EvF:=evF 8 3 [3,4,5,6,7] rJ
def mJ:FS:=(gy (jQ (qX (kd (ou [.int]) (gh 0)) (qX (KJ (kd (ou [.bool]) (gh 0))) (qp .LtE .LtE (gh 1) (gh 0) (gh 2))))) gO)
def jR:EvF:=evF 3 3 [] mJ
def vz:FS:=(gy (jQ (gA kZ [(gh 0),(gk (fC (.int 0))),(gk (fC (.int 1)))])) gO)
def ox:EvF:=evF 1 1 [] vz
def oP:FS:=(gy (jQ (qX (kd (ou [.tuple]) (gh 1)) (qX (gz gEq (gk (gG (g1 nk) [(gh 1)])) (gh 0)) (gG (g1 vq) [(gk (gX [] 1 (gW (ir 1)) (gq 0) hC (gZ (gA ox [(gh 0)]))))])))) gO)
def lb:EvF:=evF 2 2 [] oP
def ya:FS:=(gy (jQ (gz gEq (gk (gz gIx (gh 0) (gk (gz gSub (gk (gG (g1 sN) [(gh 1)])) (gk (fC (.int 1))))))) (gk (fIf (fT (gz (mI .Gt) (gh 1) (gk (fC (.int 0))))) (fC (.int 1)) (fC (.int 0)))))) gO)
def uw:EvF:=evF 2 2 [] ya
def pe:FS:=(gy (jQ (gG (g1 EY) [(gk (gX [0] 1 (gW (ir 1)) (gq 1) hC (gZ (gA uw [(gh 0),(gh 1)]))))])) gO)
def mf:EvF:=evF 2 2 [] pe
def CU:FS:=(gy (LG (vI [(gq 2),(gq 3)]) (ir 0)) (gy (jQ (qX (gA lb [(gh 2),(gh 1)]) (gG (g1 vq) [(gk (gX [1] 1 (gW (ir 3)) (gq 1) hC (gZ (gA mf [(gh 0),(gh 1)]))))]))) gO))
def lV:EvF:=evF 4 2 [2,3] CU
def qk:FS:=(gy (ic 1 (ky [(iU [])])) (gy (mV (ot (gh 0)) (gq 2) (gy (ic 1 (gX [] 2 (gW (ir 1)) (gq 0) hC (Fp (gW (iU [(fC (.int 0)),(fC (.int 1))])) (gq 1) hC (gZ (gz js (gh 0) (gk (iU [(ir 1)]))))))) gO)) (gy (lJ 1) gO)))
def km:EvF:=evF 3 1 [1,2] qk
def yb:FS:=(gy (jQ (gX [0] 1 (gW (gA km [(gk (gz gIx (gh 0) (gk (fC (.int 0)))))])) (gq 1) (fT (gA lV [(gh 0),(gh 1)])) (gZ (ir 1)))) gO)
def kj:EvF:=evF 1 1 [] yb
def vt:FS:=(gy (jQ (gz gEq (gk (gz gIx (gh 0) (gk (gz gSub (gk (gG (g1 sN) [(gh 1)])) (gk (fC (.int 1))))))) (gk (gG (g1 Kz) [(gk (gz (mI .Gt) (gh 1) (gk (fC (.int 0)))))])))) gO)
def qN:EvF:=evF 2 2 [] vt
def mz:FS:=(gy (jQ (gG (g1 EY) [(gk (gX [0] 1 (gW (ir 1)) (gq 1) hC (gZ (gA qN [(gh 0),(gh 1)]))))])) gO)
def iD:EvF:=evF 2 2 [] mz
def mZ:FS:=(gy (ic 1 (ky [(iU [])])) (gy (mV (ot (gh 0)) (gq 2) (gy (ic 3 (ky [])) (gy (mV (gW (ir 1)) (gq 4) (gy (lT (qM 3 (gX [4] 1 (gW (iU [(fC (.int 0)),(fC (.int 1))])) (gq 1) hC (gZ (gz js (gh 0) (gk (iU [(ir 1)]))))))) gO)) (gy (ic 1 (ir 3)) gO)))) (gy (lJ 1) gO)))
def iW:EvF:=evF 5 1 [1,2,3,4] mZ
def qi:FS:=(gy (ic 1 (gA iW [(gk (gz gIx (gh 0) (gk (fC (.int 0)))))])) (gy (mV (gW (gz gIx (gh 0) (gk (fC (.int 1))))) (gq 2) (gy (ic 1 (gX [2] 1 (gW (ir 1)) (gq 1) (fT (gA iD [(gh 1),(gh 0)])) (gZ (ir 1)))) gO)) (gy (lJ 1) gO)))
def kY:EvF:=evF 3 1 [1,2] qi
def kg(ev:EvF):FS:=(gy (sIf (fT (kd (ou [.list,.tuple]) (gh 1))) (gy (sIf (wc (fT (gz gNe (gk (kd (ou [.list]) (gh 0))) (gk (kd (ou [.list]) (gh 1))))) (fT (gz gNe (gk (kd (ou [.tuple]) (gh 0))) (gk (kd (ou [.tuple]) (gh 1)))))) (gy (jQ (fC (.bl false))) gO) gO) (gy (jQ (qX (gz gEq (gk (gG (g1 nk) [(gh 0)])) (gk (gG (g1 nk) [(gh 1)]))) (gG (g1 vq) [(gk (gX [] 2 (vn (gh 0) (gh 1)) (vI [(gq 0),(gq 1)]) hC (gZ (gA ev [(gh 0),(gh 1)]))))]))) gO)) gO) (gy (jQ (qX (gz gEq (gk (kd (ou [.bool]) (gh 0))) (gk (kd (ou [.bool]) (gh 1)))) (gz gEq (gh 0) (gh 1)))) gO))
def jx:Nat->EvF
 |0=>fun _=>none
 |m+1=>evF 2 2 [] (kg (jx m))
def pd:FS:=(gy (ic 2 (gA gD [(gh 0),(gk (gz js (gk (gG (g1 nk) [(gh 1)])) (gk (fC (.int 1)))))])) (gy (ic 3 (gz gIx (gk (ky [(fC (.int 2)),(kd qW (gk (fC (.int 1)))),(fC (.bl true)),(fC (.bl false)),(fC .non),(fC (.str "0")),(iU [(fC (.int 0))]),(gz CP (gk (fC (.int 10))) (gk (fC (.int 29)))),(fC (.int 0)),(fC (.int 1))])) (gk (gA gD [(gh 0),(gk (fC (.int 10)))])))) (gy (ic 4 (ky [(gz js (gk (gz js (gk (ng (gh 1) (gh 2))) (gk (iU [(ir 3)])))) (gk (vR (gh 1) (gk (gz js (gh 2) (gk (fC (.int 1)))))))),(gz js (gk (gz js (gk (ng (gh 1) (gh 2))) (gk (iU [(ir 3)])))) (gk (vR (gh 1) (gh 2)))),(gz js (gk (ng (gh 1) (gh 2))) (gk (vR (gh 1) (gk (gz js (gh 2) (gk (fC (.int 1))))))))])) (gy (ic 4 (gz js (gh 4) (gk (ky [(gG (g1 CS) [(gh 1)]),(KH (gh 1) (gk (kd qW (gk (fC (.int 1)))))),(fC .non),CY,(gz js (gh 1) (gk (ng (gh 1) (gk (fC (.int 1)))))),(ir 3),(iU [(ir 1)])])))) (gy (jQ (gz gIx (gh 4) (gk (gz gIx (gk (ky [(fC (.int 0)),(fC (.int 0)),(fC (.int 0)),(fC (.int 0)),(fC (.int 1)),(fC (.int 1)),(fC (.int 2)),(fC (.int 3)),(fC (.int 4)),(fC (.int 5)),(fC (.int 6)),(fC (.int 7)),(fC (.int 8)),(fC (.int 9))])) (gk (gA gD [(gh 0),(gk (fC (.int 14)))])))))) gO)))))
def jt:EvF:=evF 5 2 [2,3,4] pd
def qh:FS:=(gy (sIf (wc (qo (fT (kd (ou [.tuple]) (gh 1)))) (wc (fT (gz gNe (gk (gG (g1 nk) [(gh 1)])) (gk (gz gIx (gh 0) (gk (fC (.int 0))))))) (qo (fT (gG (g1 vq) [(gk (gX [] 1 (gW (ir 1)) (gq 0) hC (gZ (gA jR [(gh 0),(gk (fC (.int 0))),(gk (fC (.int 1)))]))))]))))) (gy (jQ (fC (.bl false))) gO) gO) (gy (jQ (gG (g1 vq) [(gk (gX [1] 1 (gW (gz gIx (gh 0) (gk (fC (.int 1))))) (gq 1) hC (gZ (gA iD [(gh 0),(gh 1)]))))])) gO))
def kX:EvF:=evF 2 2 [] qh
def xZ:FS:=(gy (mV (ot (gk (gG (g2 Ky) [(gk (fC (.int 1))),(gk (gG (g2 Kx) [(gk (gG (g1 nk) [(gh 0)])),(gk (fC (.int 8)))]))]))) (gq 1) (gy (ic 2 (gA ku [(gh 0),(gh 1)])) (gy (ic 3 (gA lL [(gh 2),(gk (fC (.int 0))),(gk (fC (.int 5)))])) (gy (ic 4 (gA kY [(gh 3)])) (gy (mV (ot (gk (fC (.int 2)))) (gq 5) (gy (ic 6 (gA kj [(gh 3)])) (gy (sIf (qo (fT (gA (jx RD) [(gh 6),(gh 4)]))) (gy (jQ (fC (.bl false))) gO) gO) (gy (lT (jC 6 (iU []))) gO)))) (gy (ic 7 (gA iW [(gk (gz gIx (gh 3) (gk (fC (.int 0)))))])) (gy (ic 8 (gX [7,2] 1 (ot (gk (fC (.int 3)))) (gq 2) hC (gZ (gz gIx (gh 0) (gk (gA gD [(gh 1),(gk (gG (g1 nk) [(gh 0)]))])))))) (gy (mV (gW (gz js (gh 8) (gk (gX [2] 1 (gW (ir 8)) (gq 1) hC (gZ (gA jt [(gh 0),(gh 1)])))))) (gq 9) (gy (ic 6 (gA lV [(gh 3),(gh 9)])) (gy (sIf (wc (qo (fT (kd (ou [.bool]) (gh 6)))) (fT (gz gNe (gh 6) (gk (gA kX [(gh 3),(gh 9)]))))) (gy (jQ (fC (.bl false))) gO) gO) gO))) gO)))))))) (gy (jQ (qX (gz gEq (gk (gA kj [(gk (iU [(fC (.int 0)),(iU [])]))])) (gk (ky [(iU [])]))) (qX (gz gIs (gk (gA lV [(gk (iU [(fC (.int 0)),(iU [])])),(gk (iU []))])) (gk (fC (.bl true)))) (gz gEq (gk (gA kj [(gk (iU [(fC (.int 1)),(iU [(iU [(kd qW (gk (fC (.int 1))))]),(iU [(fC (.int 1))])])]))])) (gk (ky [])))))) gO))
def rM:EvF:=evF 10 1 [1,2,3,4,5,6,7,8,9] xZ
end PV
namespace K12
open PySem PySem.Spec PyProof.Rows L2 PX PV
def top(i:Nat):Stmt:=PySem.Challenge.pw_twinriddles_k12_answers.main.body.getD i (.Pass ⟨0,0,0,0⟩)
section
variable {Z:ZZ}{k:Nat}
abbrev oI:Stmt:=top 1
theorem Cb:FnScope ["thing"] ["thing"] (gE oI):=scM
abbrev xJ(Z:ZZ)(k:Nat):Prop:=Oz Z k "is_whole" ["thing"] nK
theorem Dk:BdA "is_whole" oI ["thing"]:=fun _ _ _ _ _ _=>us1 fun _=>us0 rfl
theorem Ct(a:Fz Z.K Z.mg "is_whole" oI)(T:Tx Z.mg):xJ Z (k+1):=by
 have S:=Cb;refine ozB (asg:=[]) (fs:=qj) a S Dk fun f i4 A outer s H E L hL hr hu k9 l6 m5 nd=>?_;exact(s1 (sR (wW (xI T rfl xV) (xBo (PM (xI T rfl xV))))) s0)
abbrev nA:Stmt:=top 2
theorem AV:FnScope ["thing","least","most"] ["thing","least","most"] (gE nA):=scM
abbrev vN(Z:ZZ)(k:Nat):Prop:=Oz Z k "is_number" ["thing","least","most"] kZ
theorem Bw:BdA "is_number" nA ["thing","least","most"]:=fun _ _ _ _ _ _=>us1 fun _=>us1 fun _=>us1 fun _=>us0 rfl
theorem A6(a:Fz Z.K Z.mg "is_number" nA)(T:Tx Z.mg)(O_is_whole:xJ Z k):vN Z (k+1):=by
 have S:=AV;refine ozB (asg:=[]) (fs:=mM) a S Bw fun f i4 A outer s H E L hL hr hu k9 l6 m5 nd=>?_;exact(s1 (sR (wW (xU O_is_whole hr (xA xV xA0)) (xBo (xCh xV xV xV)))) s0)
abbrev tU:Stmt:=top 3
theorem GZ:FnScope ["thing"] ["thing"] (gE tU):=scM
abbrev Cv(Z:ZZ)(k:Nat):Prop:=Oz Z k "is_bit" ["thing"] ox
theorem HC:BdA "is_bit" tU ["thing"]:=fun _ _ _ _ _ _=>us1 fun _=>us0 rfl
theorem He(a:Fz Z.K Z.mg "is_bit" tU)(T:Tx Z.mg)(O_is_number:vN Z k):Cv Z (k+1):=by
 have S:=GZ;refine ozB (asg:=[]) (fs:=vz) a S HC fun f i4 A outer s H E L hL hr hu k9 l6 m5 nd=>?_;exact(s1 (sR (xU O_is_number hr (xA xV (xA (xO x3) (xA (xO x3) xA0))))) s0)
abbrev nB:Stmt:=top 4
theorem AW:FnScope ["names","thing"] ["names","thing"] (gE nB):=scM
abbrev vO(Z:ZZ)(k:Nat):Prop:=Oz Z k "is_answer" ["names","thing"] lb
theorem Bx:BdA "is_answer" nB ["names","thing"]:=fun _ _ _ _ _ _=>us1 fun _=>us1 fun _=>us0 rfl
theorem A7(a:Fz Z.K Z.mg "is_answer" nB)(T:Tx Z.mg)(O_is_bit:Cv Z k):vO Z (k+1):=by
 have S:=AW;refine ozB (asg:=[]) (fs:=oP) a S Bx fun f i4 A outer s H E L hL hr hu k9 l6 m5 nd=>?_;exact(s1 (sR (wW (xI T rfl xV) (wW (wV ⟨(mX hu)⟩ (xO (xB T rfl ⟨jK⟩ (xA xV xA0))) xV) (xBo (xB T rfl ⟨(oy rfl)⟩ (xA (xO (by exact xC (N':=["bit"]) (cOk S) (by decide+kernel) (iS xW) fun _ _ _ _ _ _ nd=>⟨(gN nd),f0,fun _=>bE (xU O_is_bit hr (xA xV xA0))⟩)) xA0)))))) s0)
abbrev wt:Stmt:=top 5
theorem Jg:FnScope ["answer","sign"] ["answer","sign"] (gE wt):=scM
abbrev F8(Z:ZZ)(k:Nat):Prop:=Oz Z k "is_so" ["answer","sign"] uw
theorem K8:BdA "is_so" wt ["answer","sign"]:=fun _ _ _ _ _ _=>us1 fun _=>us1 fun _=>us0 rfl
theorem J5(a:Fz Z.K Z.mg "is_so" wt)(T:Tx Z.mg):F8 Z (k+1):=by
 have S:=Jg;refine ozB (asg:=[]) (fs:=ya) a S K8 fun f i4 A outer s H E L hL hr hu k9 l6 m5 nd=>?_;exact(s1 (sR (wV ⟨(mX hu)⟩ (xO (xIx xV (xO (jh ⟨ub⟩ (xO (xB T rfl ⟨oz⟩ (xA xV xA0))) (xO x3))))) (xO (xIf (tCmp ⟨(mH (.inr (.inr (.inl rfl))) hu)⟩ xV (xO x3)) x3 x3)))) s0)
abbrev kS:Stmt:=top 6
theorem vW:FnScope ["answer","clause"] ["answer","clause"] (gE kS):=scM
abbrev qe(Z:ZZ)(k:Nat):Prop:=Oz Z k "keeps_clause" ["answer","clause"] mf
theorem we:BdA "keeps_clause" kS ["answer","clause"]:=fun _ _ _ _ _ _=>us1 fun _=>us1 fun _=>us0 rfl
theorem vY(a:Fz Z.K Z.mg "keeps_clause" kS)(T:Tx Z.mg)(O_is_so:F8 Z k):qe Z (k+1):=by
 have S:=vW;refine ozB (asg:=[]) (fs:=pe) a S we fun f i4 A outer s H E L hL hr hu k9 l6 m5 nd=>?_;exact(s1 (sR (xB T rfl ⟨(zR rfl)⟩ (xA (xO (by exact xC (N':=["answer","sign"]) (cOk S) (by decide+kernel) (iS xW) fun _ _ _ _ _ _ nd=>⟨(gN nd),f0,fun _=>bE (xU O_is_so hr (xA xV (xA xV xA0)))⟩)) xA0))) s0)
abbrev wq:Stmt:=top 7
theorem Jf:FnScope ["riddle","thing","names","clauses"] ["riddle","thing"] (gE wq):=scM
abbrev A8(Z:ZZ)(k:Nat):Prop:=Oz Z k "keeps" ["riddle","thing"] lV
theorem K7:BdA "keeps" wq ["riddle","thing"]:=fun _ _ _ _ _ _=>us1 fun _=>us1 fun _=>us0 rfl
theorem J3(a:Fz Z.K Z.mg "keeps" wq)(T:Tx Z.mg)(O_is_answer:vO Z k)(O_keeps_clause:qe Z k):A8 Z (k+1):=by
 have S:=Jf;refine ozB (asg:=[2,3]) (fs:=CU) a S K7 fun f i4 A outer s H E L hL hr hu k9 l6 m5 nd=>?_;exact(s1 (sT xW (gT (gN nd) (gN nd))) (s1 (sR (wW (xU O_is_answer hr (xA xV (xA xV xA0))) (xBo (xB T rfl ⟨(oy rfl)⟩ (xA (xO (by exact xC (N':=["thing","clause"]) (cOk S) (by decide+kernel) (iS xW) fun _ _ _ _ _ _ nd=>⟨(gN nd),f0,fun _=>bE (xU O_keeps_clause hr (xA xV (xA xV xA0)))⟩)) xA0))))) s0))
abbrev lI:Stmt:=top 8
theorem xm:FnScope ["names","begun","place"] ["names"] (gE lI):=scM
abbrev rG(Z:ZZ)(k:Nat):Prop:=Oz Z k "all_answers" ["names"] km
theorem yz:BdA "all_answers" lI ["names"]:=fun _ _ _ _ _ _=>us1 fun _=>us0 rfl
theorem xG(a:Fz Z.K Z.mg "all_answers" lI)(T:Tx Z.mg):rG Z (k+1):=by
 have S:=xm;refine ozB (asg:=[1,2]) (fs:=qk) a S yz fun f i4 A outer s H E L hL hr hu k9 l6 m5 nd=>?_;exact(s1 (sS nd (nW (xL (mD xL0) xL0))) (s1 (sF (iR1 T (xA xV xA0)) (gN nd) (s1 (sC (N':=["begin","bit"]) nd (cOk S) (by decide+kernel) (iS xW) fun _ _ _ _ _ _ nd=>⟨(gN nd),f0,fun _=>bF rfl (iS (mD (xL x3 (xL x3 xL0)))) (gN nd) f0 (bE (jh ⟨iN⟩ xV (xO (mD (xL xW xL0)))))⟩) s0)) (s1 (sRV (fun h=>absurd (hL _ h) (by decide))) s0)))
abbrev qE:Stmt:=top 9
theorem Ek:FnScope ["riddle"] ["riddle"] (gE qE):=scM
abbrev zr(Z:ZZ)(k:Nat):Prop:=Oz Z k "answers" ["riddle"] kj
theorem Fo:BdA "answers" qE ["riddle"]:=fun _ _ _ _ _ _=>us1 fun _=>us0 rfl
theorem ED(a:Fz Z.K Z.mg "answers" qE)(T:Tx Z.mg)(O_all_answers:rG Z k)(o9:A8 Z k):zr Z (k+1):=by
 have S:=Ek;refine ozB (asg:=[]) (fs:=yb) a S Fo fun f i4 A outer s H E L hL hr hu k9 l6 m5 nd=>?_;exact(s1 (sR (by exact xC (N':=["riddle","answer"]) (cOk S) (by decide+kernel) (iS (xU O_all_answers hr (xA (xO (xIx xV (xO x3))) xA0))) fun _ _ _ _ _ _ nd=>⟨(gN nd),(f1 (BQ (xU o9 hr (xA xV (xA xV xA0))))),fun _=>bE xW⟩)) s0)
abbrev lG:Stmt:=top 11
theorem xk:FnScope ["_law_script","_law_k"] ["_law_script","_law_k"] (gE lG):=scM
abbrev rE(Z:ZZ)(k:Nat):Prop:=Oz Z k "_law_cell_at" ["_law_script","_law_k"] ki
theorem yw:BdA "_law_cell_at" lG ["_law_script","_law_k"]:=fun _ _ _ _ _ _=>us1 fun _=>us1 fun _=>us0 rfl
theorem xE(a:Fz Z.K Z.mg "_law_cell_at" lG)(T:Tx Z.mg):rE Z (k+1):=by
 have S:=xk;refine ozB (asg:=[]) (fs:=kW) a S yw fun f i4 A outer s H E L hL hr hu k9 l6 m5 nd=>?_;exact(s1 (sI (tCmp ⟨(mH (.inl rfl) hu)⟩ xV (xO (xB T rfl ⟨jK⟩ (xA xV xA0)))) (s1 (sR (xIx xV xV)) s0) s0) (s1 (sR x3) s0))
abbrev ny:Stmt:=top 12
theorem AU:FnScope ["_law_script","_law_k","_law_cell"] ["_law_script","_law_k"] (gE ny):=scM
abbrev vM(Z:ZZ)(k:Nat):Prop:=Oz Z k "_law_state" ["_law_script","_law_k"] ku
theorem Bv:BdA "_law_state" ny ["_law_script","_law_k"]:=fun _ _ _ _ _ _=>us1 fun _=>us1 fun _=>us0 rfl
theorem A5(a:Fz Z.K Z.mg "_law_state" ny)(T:Tx Z.mg)(O_law_cell_at:rE Z k):vM Z (k+1):=by
 have S:=AU;refine ozB (asg:=[2]) (fs:=mK) a S Bv fun f i4 A outer s H E L hL hr hu k9 l6 m5 nd=>?_;exact(s1 (sS nd (xU O_law_cell_at hr (xA xV (xA xV xA0)))) (s1 (sI (tCmp ⟨(mH (.inr (.inr (.inr rfl))) hu)⟩ xV (xO (jh ⟨A1⟩ (xO x3) (xO x3)))) (s1 (sR (nW (xL (jh ⟨ub⟩ xV (xO (jh ⟨A1⟩ (xO x3) (xO x3)))) (xL x2 xL0)))) s0) s0) (s1 (sR (nW (xL (jh ⟨oK⟩ xV (xO x3)) (xL x2 xL0)))) s0)))
abbrev oG:Stmt:=top 13
theorem B8:FnScope ["_law_state_here","_law_many","_law_found","_law_mixed"] ["_law_state_here","_law_many"] (gE oG):=scM
abbrev ly(Z:ZZ)(k:Nat):Prop:=Oz Z k "_law_take" ["_law_state_here","_law_many"] gD
theorem Di:BdA "_law_take" oG ["_law_state_here","_law_many"]:=fun _ _ _ _ _ _=>us1 fun _=>us1 fun _=>us0 rfl
theorem Cr(a:Fz Z.K Z.mg "_law_take" oG)(T:Tx Z.mg):ly Z (k+1):=by
 have S:=B8;refine ozB (asg:=[2,3]) (fs:=nH) a S Di fun f i4 A outer s H E L hL hr hu k9 l6 m5 nd=>?_;exact(s1 (sI (BQ (xIx xV (xO x3))) (s1 (sS nd (jh ⟨oK⟩ (xO (xIx xV (xO x3))) xV)) (s1 (sIx xV (jh ⟨F5⟩ (xO (xIx xV (xO x3))) xV) (xO x3)) (s1 (sRV (fun h=>absurd (hL _ h) (by decide))) s0))) s0) (s1 (sIx xV (jh ⟨oK⟩ (xO (jh ⟨iN⟩ (xO (jh ⟨nC⟩ (xO (xIx xV (xO x3))) (xO x3))) (xO x3))) (xO x3)) (xO x3)) (s1 (sS nd (jh ⟨oK⟩ (xO (jh ⟨iN⟩ (xO (jh ⟨iN⟩ (xO (jh ⟨nC⟩ (xO (xIx xV (xO x3))) (xO (xIx xV (xO x3))))) (xO (jh ⟨nC⟩ (xO x3) (xO (xIx xV (xO x3))))))) (xO x3))) (xO x3))) (s1 (sS nd (jh ⟨oK⟩ (xO (jh ⟨iN⟩ (xO (jh ⟨nC⟩ xV xV)) (xO (jh ⟨nC⟩ (xO x3) xV)))) (xO x3))) (s1 (sR (jh ⟨oK⟩ (xO (jh ⟨F5⟩ xV (xO x3))) xV)) s0)))))
abbrev mG:Stmt:=top 14
theorem yL:FnScope ["_law_state_here","_law_names","_law_far","_law_found","_law_name","_law_kind"] ["_law_state_here","_law_names"] (gE mG):=scM
abbrev uf(Z:ZZ)(k:Nat):Prop:=Oz Z k "_law_clause" ["_law_state_here","_law_names"] lN
theorem yY:BdA "_law_clause" mG ["_law_state_here","_law_names"]:=fun _ _ _ _ _ _=>us1 fun _=>us1 fun _=>us0 rfl
theorem yO(a:Fz Z.K Z.mg "_law_clause" mG)(T:Tx Z.mg)(b7:ly Z k):uf Z (k+1):=by
 have S:=yL;refine ozB (asg:=[2,3,4,5]) (fs:=rL) a S yY fun f i4 A outer s H E L hL hr hu k9 l6 m5 nd=>?_;exact(s1 (sS nd (xIx (xO (nW (xL x3 (xL x3 (xL x3 xL0))))) (xO (xU b7 hr (xA xV (xA (xO x3) xA0)))))) (s1 (sS nd (nW xL0)) (s1 (sF (iR2 T (xA (xO x3) (xA (xO (jh ⟨iN⟩ xV (xO x3))) xA0))) (gN nd) (s1 (sS nd (xU b7 hr (xA xV (xA xV xA0)))) (s1 (sI (tCmp ⟨(mH (.inl rfl) hu)⟩ xV (xO x3)) (s1 (sE (IE xV (xIx (xO (nW (xL xW (xL (Ea xV) xL0)))) xV))) s0) s0) s0))) (s1 (sI (tCmp ⟨(mX hu)⟩ xV (xO (nW xL0))) (s1 (sE (IE xV (jh ⟨nC⟩ (xO (xIx (xO (nW (xL x3 (xL (Ea (xO x3)) xL0)))) (xO (xU b7 hr (xA xV (xA (xO x3) xA0)))))) (xO (jh ⟨iN⟩ (xO x3) (xO (xU b7 hr (xA xV (xA xV xA0))))))))) s0) s0) (s1 (sR (xT T rfl ⟨lW⟩ (xA xV xA0))) s0)))))
abbrev lF:Stmt:=top 15
theorem xj:FnScope ["_law_state_here","_law_names","_law_rest","_law_found","_law_turn"] ["_law_state_here","_law_names"] (gE lF):=scM
abbrev rC(Z:ZZ)(k:Nat):Prop:=Oz Z k "_law_turning" ["_law_state_here","_law_names"] kh
theorem yv:BdA "_law_turning" lF ["_law_state_here","_law_names"]:=fun _ _ _ _ _ _=>us1 fun _=>us1 fun _=>us0 rfl
theorem xD(a:Fz Z.K Z.mg "_law_turning" lF)(T:Tx Z.mg)(b7:ly Z k):rC Z (k+1):=by
 have S:=xj;refine ozB (asg:=[2,3,4]) (fs:=qg) a S yv fun f i4 A outer s H E L hL hr hu k9 l6 m5 nd=>?_;exact(s1 (sS nd (RF T rfl (xA (xO x3) (xA (xO (jh ⟨iN⟩ xV (xO x3))) xA0)))) (s1 (sS nd (nW xL0)) (s1 (sF (iR1 T (xA xV xA0)) (gN nd) (s1 (sE (IE xV (jh ⟨nC⟩ (xO (RH xV (xO (xU b7 hr (xA xV (xA (xO (xB T rfl ⟨jK⟩ (xA xV xA0))) xA0)))))) (xO (xIx (xO (nW (xL x3 (xL (Ea (xO x3)) xL0)))) (xO (xU b7 hr (xA xV (xA (xO x3) xA0))))))))) s0)) (s1 (sR (xT T rfl ⟨lW⟩ (xA xV xA0))) s0))))
abbrev kR:Stmt:=top 16
theorem vV:FnScope ["_law_turning_here","_law_sign"] ["_law_turning_here","_law_sign"] (gE kR):=scM
abbrev qd(Z:ZZ)(k:Nat):Prop:=Oz Z k "_law_led_sign" ["_law_turning_here","_law_sign"] jT
theorem wd:BdA "_law_led_sign" kR ["_law_turning_here","_law_sign"]:=fun _ _ _ _ _ _=>us1 fun _=>us1 fun _=>us0 rfl
theorem vX(a:Fz Z.K Z.mg "_law_led_sign" kR)(T:Tx Z.mg):qd Z (k+1):=by
 have S:=vV;refine ozB (asg:=[]) (fs:=ma) a S wd fun f i4 A outer s H E L hL hr hu k9 l6 m5 nd=>?_;exact(s1 (sR (jh ⟨nC⟩ (xO (xIx xV (xO (jh ⟨ub⟩ (xO (xB T rfl ⟨oz⟩ (xA xV xA0))) (xO x3))))) (xO (xIx (xO (nW (xL (Ea (xO x3)) (xL x3 xL0)))) (xO (xT T rfl ⟨zP⟩ (xA (xO (wV ⟨(mH (.inr (.inr (.inl rfl))) hu)⟩ xV (xO x3))) xA0))))))) s0)
abbrev kn:Stmt:=top 17
theorem tQ:FnScope ["_law_turning_here","_law_clause_here","_law_found","_law_sign","_law_there"] ["_law_turning_here","_law_clause_here"] (gE kn):=scM
abbrev oj(Z:ZZ)(k:Nat):Prop:=Oz Z k "_law_led_clause" ["_law_turning_here","_law_clause_here"] jy
theorem uC:BdA "_law_led_clause" kn ["_law_turning_here","_law_clause_here"]:=fun _ _ _ _ _ _=>us1 fun _=>us1 fun _=>us0 rfl
theorem uc(a:Fz Z.K Z.mg "_law_led_clause" kn)(T:Tx Z.mg)(O_law_led_sign:qd Z k):oj Z (k+1):=by
 have S:=tQ;refine ozB (asg:=[2,3,4]) (fs:=nI) a S uC fun f i4 A outer s H E L hL hr hu k9 l6 m5 nd=>?_;exact(s1 (sS nd x7) (s1 (sF (iS xW) (gN nd) (s1 (sS nd (xU O_law_led_sign hr (xA xV (xA xV xA0)))) (s1 (sDP k9 xV xW (xO (xB T rfl ⟨oz⟩ (xA xV xA0)))) s0))) (s1 (sR (xT T rfl ⟨lW⟩ (xA (xO (by exact xC (N':=["_law_found","_law_name"]) (cOk S) (by decide+kernel) (iS (xB T rfl ⟨(oU rfl l6)⟩ (xA xV xA0))) fun _ _ _ _ _ _ nd=>⟨(gN nd),f0,fun _=>bE (RI k9 xV xV)⟩)) xA0))) s0)))
abbrev mF:Stmt:=top 19
theorem yK:FnScope ["_law_clauses","_law_turnings","_law_found","_law_at","_law_turning_here","_law_there"] ["_law_clauses","_law_turnings"] (gE mF):=scM
abbrev ue(Z:ZZ)(k:Nat):Prop:=Oz Z k "_law_closed" ["_law_clauses","_law_turnings"] lM
theorem yX:BdA "_law_closed" mF ["_law_clauses","_law_turnings"]:=fun _ _ _ _ _ _=>us1 fun _=>us1 fun _=>us0 rfl
theorem yN(a:Fz Z.K Z.mg "_law_closed" mF)(T:Tx Z.mg)(O_law_led_clause:oj Z k):ue Z (k+1):=by
 have S:=yK;refine ozB (asg:=[2,3,4,5]) (fs:=rK) a S yX fun f i4 A outer s H E L hL hr hu k9 l6 m5 nd=>?_;exact(s1 (sS nd (xT T rfl ⟨yo⟩ (xA xV xA0))) (s1 (sS nd x3) (s1 (sW (tCmp ⟨(mH (.inl rfl) hu)⟩ xV (xO (xB T rfl ⟨jK⟩ (xA xV xA0)))) (s1 (sF (iS xW) (gN nd) (s1 (sS nd (xU O_law_led_clause hr (xA xV (xA (xO (xIx xV xV)) xA0)))) (s1 (sI (tCmp ⟨(Hb hu)⟩ xV xV) (s1 (sE (IE xV xW)) s0) s0) s0))) (s1 (sS nd (jh ⟨iN⟩ xV (xO x3))) s0))) (s1 (sRV (fun h=>absurd (hL _ h) (by decide))) s0))))
abbrev mE:Stmt:=top 20
theorem yJ:FnScope ["_law_state_here","_law_least","_law_most","_law_names","_law_kind","_law_many","_law_clauses","_law_turnings"] ["_law_state_here","_law_least","_law_most"] (gE mE):=scM
abbrev ud(Z:ZZ)(k:Nat):Prop:=Oz Z k "_law_riddle" ["_law_state_here","_law_least","_law_most"] lL
theorem yW:BdA "_law_riddle" mE ["_law_state_here","_law_least","_law_most"]:=fun _ _ _ _ _ _=>us1 fun _=>us1 fun _=>us1 fun _=>us0 rfl
theorem yM(a:Fz Z.K Z.mg "_law_riddle" mE)(T:Tx Z.mg)(b7:ly Z k)(O_law_clause:uf Z k)(O_law_turning:rC Z k)(O_law_closed:ue Z k):ud Z (k+1):=by
 have S:=yJ;refine ozB (asg:=[3,4,5,6,7]) (fs:=rJ) a S yW fun f i4 A outer s H E L hL hr hu k9 l6 m5 nd=>?_;exact(s1 (sS nd (jh ⟨iN⟩ xV (xO (xU b7 hr (xA xV (xA (xO (jh ⟨iN⟩ (xO (jh ⟨ub⟩ xV xV)) (xO x3))) xA0)))))) (s1 (sS nd (xU b7 hr (xA xV (xA (xO x3) xA0)))) (s1 (sI (tCmp ⟨(mX hu)⟩ xV (xO x3)) (s1 (sR (mD (xL x3 (xL (mD xL0) xL0)))) s0) s0) (s1 (sS nd (xU b7 hr (xA xV (xA (xO (xIx (xO (nW (xL x3 (xL x3 (xL x3 xL0))))) (xO (xU b7 hr (xA xV (xA (xO x3) xA0)))))) xA0)))) (s1 (sC (N':=["_law_state_here","_law_names","_law_turn"]) nd (cOk S) (by decide+kernel) (iR1 T (xA xV xA0)) fun _ _ _ _ _ _ nd=>⟨(gN nd),f0,fun _=>bE (xU O_law_clause hr (xA xV (xA xV xA0)))⟩) (s1 (sI (tCmp ⟨(mH (.inr (.inr (.inl rfl))) hu)⟩ xV (xO x3)) (s1 (sC (N':=["_law_state_here","_law_names","_law_turn"]) nd (cOk S) (by decide+kernel) (iR1 T (xA (xO (jh ⟨iN⟩ (xO x3) (xO (jh ⟨oK⟩ xV (xO x3))))) xA0)) fun _ _ _ _ _ _ nd=>⟨(gN nd),f0,fun _=>bE (xU O_law_turning hr (xA xV (xA xV xA0)))⟩) (s1 (sI (tCmp ⟨(mX hu)⟩ xV (xO x3)) (s1 (sC (N':=["_law_turning_here"]) nd (cOk S) (by decide+kernel) (iS xW) fun _ _ _ _ _ _ nd=>⟨(gN nd),f0,fun _=>bE (xT T rfl ⟨lW⟩ (xA (xO (by exact xC (N':=["_law_sign"]) (KU rfl rfl (by with_unfolding_all rfl)) (by decide+kernel) (iS xW) fun _ _ _ _ _ _ nd=>⟨(gN nd),f0,fun _=>bE (xB T rfl ⟨oz⟩ (xA xV xA0))⟩)) xA0))⟩) s0) s0) (s1 (sS nd (xU O_law_closed hr (xA (xO (GJ (xO (xB T rfl ⟨(oU rfl l6)⟩ (xA (xO (xT T rfl ⟨(zN rfl m5)⟩ (xA xV xA0))) xA0))) (xO x3))) (xA xV xA0)))) s0))) s0) (s1 (sS nd (xB T rfl ⟨(oU rfl l6)⟩ (xA (xO (xT T rfl ⟨(zN rfl m5)⟩ (xA xV xA0))) xA0))) (s1 (sI (tCmp ⟨(mH (.inr (.inr (.inl rfl))) hu)⟩ (xO (xB T rfl ⟨jK⟩ (xA xV xA0))) (xO x3)) (s1 (sS nd (GJ xV (xO (xU b7 hr (xA xV (xA (xO x3) xA0)))))) s0) s0) (s1 (sR (mD (xL xW (xL (xT T rfl ⟨lW⟩ (xA xV xA0)) xL0)))) s0)))))))))
abbrev tR:Stmt:=top 21
theorem GY:FnScope ["_law_answer","_law_sign"] ["_law_answer","_law_sign"] (gE tR):=scM
abbrev Cu(Z:ZZ)(k:Nat):Prop:=Oz Z k "_law_so" ["_law_answer","_law_sign"] qN
theorem HB:BdA "_law_so" tR ["_law_answer","_law_sign"]:=fun _ _ _ _ _ _=>us1 fun _=>us1 fun _=>us0 rfl
theorem Hd(a:Fz Z.K Z.mg "_law_so" tR)(T:Tx Z.mg):Cu Z (k+1):=by
 have S:=GY;refine ozB (asg:=[]) (fs:=vt) a S HB fun f i4 A outer s H E L hL hr hu k9 l6 m5 nd=>?_;exact(s1 (sR (wV ⟨(mX hu)⟩ (xO (xIx xV (xO (jh ⟨ub⟩ (xO (xB T rfl ⟨oz⟩ (xA xV xA0))) (xO x3))))) (xO (xT T rfl ⟨zP⟩ (xA (xO (wV ⟨(mH (.inr (.inr (.inl rfl))) hu)⟩ xV (xO x3))) xA0))))) s0)
abbrev jO:Stmt:=top 22
theorem qT:FnScope ["_law_answer","_law_clause_here"] ["_law_answer","_law_clause_here"] (gE jO):=scM
abbrev kK(Z:ZZ)(k:Nat):Prop:=Oz Z k "_law_keeps_clause" ["_law_answer","_law_clause_here"] iD
theorem qY:BdA "_law_keeps_clause" jO ["_law_answer","_law_clause_here"]:=fun _ _ _ _ _ _=>us1 fun _=>us1 fun _=>us0 rfl
theorem qV(a:Fz Z.K Z.mg "_law_keeps_clause" jO)(T:Tx Z.mg)(O_law_so:Cu Z k):kK Z (k+1):=by
 have S:=qT;refine ozB (asg:=[]) (fs:=mz) a S qY fun f i4 A outer s H E L hL hr hu k9 l6 m5 nd=>?_;exact(s1 (sR (xB T rfl ⟨(zR rfl)⟩ (xA (xO (by exact xC (N':=["_law_answer","_law_sign"]) (cOk S) (by decide+kernel) (iS xW) fun _ _ _ _ _ _ nd=>⟨(gN nd),f0,fun _=>bE (xU O_law_so hr (xA xV (xA xV xA0)))⟩)) xA0))) s0)
abbrev jZ:Stmt:=top 23
theorem sA:FnScope ["_law_names","_law_found","_law_place","_law_longer","_law_begun"] ["_law_names"] (gE jZ):=scM
abbrev kU(Z:ZZ)(k:Nat):Prop:=Oz Z k "_law_all_answers" ["_law_names"] iW
theorem sV:BdA "_law_all_answers" jZ ["_law_names"]:=fun _ _ _ _ _ _=>us1 fun _=>us0 rfl
theorem sJ(a:Fz Z.K Z.mg "_law_all_answers" jZ)(T:Tx Z.mg):kU Z (k+1):=by
 have S:=sA;refine ozB (asg:=[1,2,3,4]) (fs:=mZ) a S sV fun f i4 A outer s H E L hL hr hu k9 l6 m5 nd=>?_;exact(s1 (sS nd (nW (xL (mD xL0) xL0))) (s1 (sF (iR1 T (xA xV xA0)) (gN nd) (s1 (sS nd (nW xL0)) (s1 (sF (iS xW) (gN nd) (s1 (sE (RJ xV (by exact xC (N':=["_law_begun","_law_bit"]) (cOk S) (by decide+kernel) (iS (mD (xL x3 (xL x3 xL0)))) fun _ _ _ _ _ _ nd=>⟨(gN nd),f0,fun _=>bE (jh ⟨iN⟩ xV (xO (mD (xL xW xL0))))⟩))) s0)) (s1 (sS nd xW) s0)))) (s1 (sRV (fun h=>absurd (hL _ h) (by decide))) s0)))
abbrev lH:Stmt:=top 24
theorem xl:FnScope ["_law_riddle_here","_law_found","_law_clause_here"] ["_law_riddle_here"] (gE lH):=scM
abbrev rF(Z:ZZ)(k:Nat):Prop:=Oz Z k "_law_answers" ["_law_riddle_here"] kY
theorem yy:BdA "_law_answers" lH ["_law_riddle_here"]:=fun _ _ _ _ _ _=>us1 fun _=>us0 rfl
theorem xF(a:Fz Z.K Z.mg "_law_answers" lH)(T:Tx Z.mg)(i8:kU Z k)(i5:kK Z k):rF Z (k+1):=by
 have S:=xl;refine ozB (asg:=[1,2]) (fs:=qi) a S yy fun f i4 A outer s H E L hL hr hu k9 l6 m5 nd=>?_;exact(s1 (sS nd (xU i8 hr (xA (xO (xIx xV (xO x3))) xA0))) (s1 (sF (iS (xIx xV (xO x3))) (gN nd) (s1 (sC (N':=["_law_clause_here","_law_answer"]) nd (cOk S) (by decide+kernel) (iS xW) fun _ _ _ _ _ _ nd=>⟨(gN nd),(f1 (BQ (xU i5 hr (xA xV (xA xV xA0))))),fun _=>bE xW⟩) s0)) (s1 (sRV (fun h=>absurd (hL _ h) (by decide))) s0)))
abbrev nv:Stmt:=top 25
theorem AS:FnScope ["_law_thing","_law_least","_law_most"] ["_law_thing","_law_least","_law_most"] (gE nv):=scM
abbrev vL(Z:ZZ)(k:Nat):Prop:=Oz Z k "_law_whole" ["_law_thing","_law_least","_law_most"] jR
theorem Bu:BdA "_law_whole" nv ["_law_thing","_law_least","_law_most"]:=fun _ _ _ _ _ _=>us1 fun _=>us1 fun _=>us1 fun _=>us0 rfl
theorem A4(a:Fz Z.K Z.mg "_law_whole" nv)(T:Tx Z.mg):vL Z (k+1):=by
 have S:=AS;refine ozB (asg:=[]) (fs:=mJ) a S Bu fun f i4 A outer s H E L hL hr hu k9 l6 m5 nd=>?_;exact(s1 (sR (wW (xI T rfl xV) (wW (PM (xI T rfl xV)) (xBo (xCh xV xV xV))))) s0)
abbrev mU:Stmt:=top 26
theorem B9:FnScope ["_law_found","_law_due_here"] ["_law_found","_law_due_here"] (gE mU):=scM
abbrev EE(Z:ZZ)(k:Nat):Prop:=Oz Z k "_law_same" ["_law_found","_law_due_here"] (jx RD)
theorem vT:BdA "_law_same" mU ["_law_found","_law_due_here"]:=fun _ _ _ _ _ _=>us1 fun _=>us1 fun _=>us0 rfl
theorem A3{ev:EvF}(a:Fz Z.K Z.mg "_law_same" mU)(T:Tx Z.mg)(l4:Oz Z k "_law_same" ["_law_found","_law_due_here"] ev):Oz Z (k+1) "_law_same" ["_law_found","_law_due_here"] (evF 2 2 [] (kg ev)):=by
 have S:=B9;refine ozB (asg:=[]) (fs:=kg ev) a S vT fun f i4 A outer s H E L hL hr hu k9 l6 m5 nd=>?_;exact(s1 (sI (BQ (xI2 T rfl rfl xV)) (s1 (sI (tW (wOr (tCmp ⟨(A2 hu)⟩ (xO (xI T rfl xV)) (xO (xI T rfl xV))) (Nz (tCmp ⟨(A2 hu)⟩ (xO (xI T rfl xV)) (xO (xI T rfl xV)))))) (s1 (sR x2) s0) s0) (s1 (sR (wW (wV ⟨(mX hu)⟩ (xO (xB T rfl ⟨jK⟩ (xA xV xA0))) (xO (xB T rfl ⟨jK⟩ (xA xV xA0)))) (xBo (xB T rfl ⟨(oy rfl)⟩ (xA (xO (by exact xC (N':=["_law_one","_law_other"]) (cOk S) (by decide+kernel) (iZV T xV xV) fun _ _ _ _ _ _ nd=>⟨(gT (gN nd) (gN nd)),f0,fun _=>bE (xU l4 hr (xA xV (xA xV xA0)))⟩)) xA0))))) s0)) s0) (s1 (sR (wW (wV ⟨(mX hu)⟩ (xO (xI T rfl xV)) (xO (xI T rfl xV))) (xBo (wV ⟨(mX hu)⟩ xV xV)))) s0))
theorem vK(a:Fz Z.K Z.mg "_law_same" mU)(T:Tx Z.mg): ∀m,Oz Z m "_law_same" ["_law_found","_law_due_here"] (jx m)
 |0=>oz0 a vT
 |m+1=>A3 a T (vK a T m)
abbrev oH:Stmt:=top 27
theorem Ca:FnScope ["_law_state_here","_law_answer","_law_at","_law_odd","_law_some"] ["_law_state_here","_law_answer"] (gE oH):=scM
abbrev xH(Z:ZZ)(k:Nat):Prop:=Oz Z k "_law_bent" ["_law_state_here","_law_answer"] jt
theorem Dj:BdA "_law_bent" oH ["_law_state_here","_law_answer"]:=fun _ _ _ _ _ _=>us1 fun _=>us1 fun _=>us0 rfl
theorem Cs(a:Fz Z.K Z.mg "_law_bent" oH)(T:Tx Z.mg)(b7:ly Z k):xH Z (k+1):=by
 have S:=Ca;refine ozB (asg:=[2,3,4]) (fs:=pd) a S Dj fun f i4 A outer s H E L hL hr hu k9 l6 m5 nd=>?_;exact(s1 (sS nd (xU b7 hr (xA xV (xA (xO (jh ⟨iN⟩ (xO (xB T rfl ⟨jK⟩ (xA xV xA0))) (xO x3))) xA0)))) (s1 (sS nd (xIx (xO (nW (xL x3 (xL (Ea (xO x3)) (xL x2 (xL x2 (xL x1 (xL x4 (xL (mD (xL x3 xL0)) (xL (jh ⟨A1⟩ (xO x3) (xO x3)) (xL x3 (xL x3 xL0)))))))))))) (xO (xU b7 hr (xA xV (xA (xO x3) xA0)))))) (s1 (sS nd (nW (xL (jh ⟨iN⟩ (xO (jh ⟨iN⟩ (xO (GJ xV xV)) (xO (mD (xL xW xL0))))) (xO (Nt xV (xO (jh ⟨iN⟩ xV (xO x3)))))) (xL (jh ⟨iN⟩ (xO (jh ⟨iN⟩ (xO (GJ xV xV)) (xO (mD (xL xW xL0))))) (xO (Nt xV xV))) (xL (jh ⟨iN⟩ (xO (GJ xV xV)) (xO (Nt xV (xO (jh ⟨iN⟩ xV (xO x3)))))) xL0))))) (s1 (sS nd (jh ⟨iN⟩ xV (xO (nW (xL (xT T rfl ⟨yo⟩ (xA xV xA0)) (xL (RG xV (xO (Ea (xO x3)))) (xL x1 (xL x7 (xL (jh ⟨iN⟩ xV (xO (GJ xV (xO x3)))) (xL xW (xL (mD (xL xW xL0)) xL0))))))))))) (s1 (sR (xIx xV (xO (xIx (xO (nW (xL x3 (xL x3 (xL x3 (xL x3 (xL x3 (xL x3 (xL x3 (xL x3 (xL x3 (xL x3 (xL x3 (xL x3 (xL x3 (xL x3 xL0)))))))))))))))) (xO (xU b7 hr (xA xV (xA (xO x3) xA0)))))))) s0)))))
abbrev qD:Stmt:=top 28
theorem Ej:FnScope ["_law_riddle_here","_law_thing"] ["_law_riddle_here","_law_thing"] (gE qD):=scM
abbrev zq(Z:ZZ)(k:Nat):Prop:=Oz Z k "_law_due" ["_law_riddle_here","_law_thing"] kX
theorem Fn:BdA "_law_due" qD ["_law_riddle_here","_law_thing"]:=fun _ _ _ _ _ _=>us1 fun _=>us1 fun _=>us0 rfl
theorem EC(a:Fz Z.K Z.mg "_law_due" qD)(T:Tx Z.mg)(O_law_whole:vL Z k)(i5:kK Z k):zq Z (k+1):=by
 have S:=Ej;refine ozB (asg:=[]) (fs:=qh) a S Fn fun f i4 A outer s H E L hL hr hu k9 l6 m5 nd=>?_;exact(s1 (sI (tW (wOr (tNot (BQ (xI T rfl xV))) (wOr (tCmp ⟨(A2 hu)⟩ (xO (xB T rfl ⟨jK⟩ (xA xV xA0))) (xO (xIx xV (xO x3)))) (Nz (tNot (BQ (xB T rfl ⟨(oy rfl)⟩ (xA (xO (by exact xC (N':=["_law_bit"]) (cOk S) (by decide+kernel) (iS xW) fun _ _ _ _ _ _ nd=>⟨(gN nd),f0,fun _=>bE (xU O_law_whole hr (xA xV (xA (xO x3) (xA (xO x3) xA0))))⟩)) xA0)))))))) (s1 (sR x2) s0) s0) (s1 (sR (xB T rfl ⟨(oy rfl)⟩ (xA (xO (by exact xC (N':=["_law_thing","_law_clause_here"]) (cOk S) (by decide+kernel) (iS (xIx xV (xO x3))) fun _ _ _ _ _ _ nd=>⟨(gN nd),f0,fun _=>bE (xU i5 hr (xA xV (xA xV xA0)))⟩)) xA0))) s0))
abbrev FV:Stmt:=top 29
theorem NL:FnScope ["_law_script","_law_k","_law_state_here","_law_riddle_here","_law_due_here","_law_turn","_law_found","_law_every","_law_some","_law_thing"] ["_law_script"] (gE FV):=scM
theorem Pt:BdA "law" FV ["_law_script"]:=fun _ _ _ _ _ _=>us1 fun _=>us0 rfl
theorem OP{f:gn}{fd:mP}(F:Fun Z.K "law" "law" FV f fd)(T:Tx Z.mg)(O_law_state:vM Z k)(O_law_riddle:ud Z k)(O_law_answers:rF Z k)(n6:zr Z k)(l4:EE Z k)(i8:kU Z k)(b7:ly Z k)(O_law_bent:xH Z k)(o9:A8 Z k)(O_law_due:zq Z k):FnOk Z.P Z.w Z.K Z.mg Z.base CX0 (k+1) f fd ["_law_script"] (spF Z.K rM):=by
 have S:=NL;refine fnB (asg:=[1,2,3,4,5,6,7,8,9]) (fs:=xZ) F S fun f i4 A outer s H E L hL hr hu k9 l6 m5 nd=>?_;exact(s1 (sF (iR1 T (xA (xO (xB T rfl ⟨(Fi rfl)⟩ (xA (xO x3) (xA (xO (xB T rfl ⟨(Fh rfl)⟩ (xA (xO (xB T rfl ⟨jK⟩ (xA xV xA0))) (xA (xO x3) xA0)))) xA0)))) xA0)) (gN nd) (s1 (sS nd (xU O_law_state hr (xA xV (xA xV xA0)))) (s1 (sS nd (xU O_law_riddle hr (xA xV (xA (xO x3) (xA (xO x3) xA0))))) (s1 (sS nd (xU O_law_answers hr (xA xV xA0))) (s1 (sF (iR1 T (xA (xO x3) xA0)) (gN nd) (s1 (sS nd (xU n6 hr (xA xV xA0))) (s1 (sI (tNot (BQ (xU l4 hr (xA xV (xA xV xA0))))) (s1 (sR x2) s0) s0) (s1 (sE (IE xV (mD xL0))) s0)))) (s1 (sS nd (xU i8 hr (xA (xO (xIx xV (xO x3))) xA0))) (s1 (sC (N':=["_law_every","_law_state_here","_law_turn"]) nd (cOk S) (by decide+kernel) (iR1 T (xA (xO x3) xA0)) fun _ _ _ _ _ _ nd=>⟨(gN nd),f0,fun _=>bE (xIx xV (xO (xU b7 hr (xA xV (xA (xO (xB T rfl ⟨jK⟩ (xA xV xA0))) xA0)))))⟩) (s1 (sF (iS (jh ⟨iN⟩ xV (xO (by exact xC (N':=["_law_state_here","_law_answer"]) (cOk S) (by decide+kernel) (iS xW) fun _ _ _ _ _ _ nd=>⟨(gN nd),f0,fun _=>bE (xU O_law_bent hr (xA xV (xA xV xA0)))⟩)))) (gN nd) (s1 (sS nd (xU o9 hr (xA xV (xA xV xA0)))) (s1 (sI (tW (wOr (tNot (BQ (xI T rfl xV))) (Nz (tCmp ⟨(A2 hu)⟩ xV (xO (xU O_law_due hr (xA xV (xA xV xA0)))))))) (s1 (sR x2) s0) s0) s0))) s0)))))))) (s1 (sR (wW (wV ⟨(mX hu)⟩ (xO (xU n6 hr (xA (xO (mD (xL x3 (xL (mD xL0) xL0)))) xA0))) (xO (nW (xL (mD xL0) xL0)))) (wW (wV ⟨OE⟩ (xO (xU o9 hr (xA (xO (mD (xL x3 (xL (mD xL0) xL0)))) (xA (xO (mD xL0)) xA0)))) (xO x2)) (xBo (wV ⟨(mX hu)⟩ (xO (xU n6 hr (xA (xO (mD (xL x3 (xL (mD (xL (mD (xL (Ea (xO x3)) xL0)) (xL (mD (xL x3 xL0)) xL0))) xL0)))) xA0))) (xO (nW xL0))))))) s0))
end
theorem all_mk{l:PySem.W.OpenLaw}{w:gH}{K:gL}{mg:kO}{fa:gn}(fM:mg "law"=some (.ref fa))(T:Tx mg)
  (a0:Fz K mg "is_whole" oI)
  (a1:Fz K mg "is_number" nA)
  (a2:Fz K mg "is_bit" tU)
  (a3:Fz K mg "is_answer" nB)
  (a4:Fz K mg "is_so" wt)
  (a5:Fz K mg "keeps_clause" kS)
  (a6:Fz K mg "keeps" wq)
  (a7:Fz K mg "all_answers" lI)
  (a8:Fz K mg "answers" qE)
  (a9:Fz K mg "_law_cell_at" lG)
  (a10:Fz K mg "_law_state" ny)
  (a11:Fz K mg "_law_take" oG)
  (a12:Fz K mg "_law_clause" mG)
  (a13:Fz K mg "_law_turning" lF)
  (a14:Fz K mg "_law_led_sign" kR)
  (a15:Fz K mg "_law_led_clause" kn)
  (a16:Fz K mg "_law_closed" mF)
  (a17:Fz K mg "_law_riddle" mE)
  (a18:Fz K mg "_law_so" tR)
  (a19:Fz K mg "_law_keeps_clause" jO)
  (a20:Fz K mg "_law_all_answers" jZ)
  (a21:Fz K mg "_law_answers" lH)
  (a22:Fz K mg "_law_whole" nv)
  (a23:Fz K mg "_law_same" mU)
  (a24:Fz K mg "_law_bent" oH)
  (a25:Fz K mg "_law_due" qD)
  (a26:Fz K mg "law" FV)
  : ∃fd:FuncData,(∀(s:gr) (v:gB),BindsTo s fd ⟨[v],[]⟩ [("_law_script",v)])/\ ∀base:Heap,K.In base->base.Ns mainGlobals mg->FnOk l.prog w K mg base CX0 9 fa fd ["_law_script"] (spF K rM):=by
 obtain⟨fd,F,hb⟩:=fzL a26 fM Pt;refine⟨fd,hb,fun base _ _=>?_⟩;have O0:=Ct (Z:=⟨l.prog,w,K,mg,base⟩) (k:=0) a0 T;have O1:=A6 (Z:=⟨l.prog,w,K,mg,base⟩) (k:=1) a1 T O0.up;have O2:=He (Z:=⟨l.prog,w,K,mg,base⟩) (k:=2) a2 T O1.up;have O3:=A7 (Z:=⟨l.prog,w,K,mg,base⟩) (k:=3) a3 T O2.up;have O4:=J5 (Z:=⟨l.prog,w,K,mg,base⟩) (k:=0) a4 T;have O5:=vY (Z:=⟨l.prog,w,K,mg,base⟩) (k:=1) a5 T O4.up;have O6:=J3 (Z:=⟨l.prog,w,K,mg,base⟩) (k:=4) a6 T O3.up O5.up;have O7:=xG (Z:=⟨l.prog,w,K,mg,base⟩) (k:=0) a7 T;have O8:=ED (Z:=⟨l.prog,w,K,mg,base⟩) (k:=5) a8 T O7.up O6.up;have O9:=xE (Z:=⟨l.prog,w,K,mg,base⟩) (k:=0) a9 T;have O10:=A5 (Z:=⟨l.prog,w,K,mg,base⟩) (k:=1) a10 T O9.up;have dX:=Cr (Z:=⟨l.prog,w,K,mg,base⟩) (k:=0) a11 T;have O12:=yO (Z:=⟨l.prog,w,K,mg,base⟩) (k:=1) a12 T dX.up;have O13:=xD (Z:=⟨l.prog,w,K,mg,base⟩) (k:=1) a13 T dX.up;have O14:=vX (Z:=⟨l.prog,w,K,mg,base⟩) (k:=0) a14 T;have O15:=uc (Z:=⟨l.prog,w,K,mg,base⟩) (k:=1) a15 T O14.up;have O16:=yN (Z:=⟨l.prog,w,K,mg,base⟩) (k:=2) a16 T O15.up;have O17:=yM (Z:=⟨l.prog,w,K,mg,base⟩) (k:=3) a17 T dX.up O12.up O13.up O16.up;have O18:=Hd (Z:=⟨l.prog,w,K,mg,base⟩) (k:=0) a18 T;have O19:=qV (Z:=⟨l.prog,w,K,mg,base⟩) (k:=1) a19 T O18.up;have O20:=sJ (Z:=⟨l.prog,w,K,mg,base⟩) (k:=0) a20 T;have O21:=xF (Z:=⟨l.prog,w,K,mg,base⟩) (k:=2) a21 T O20.up O19.up;have O22:=A4 (Z:=⟨l.prog,w,K,mg,base⟩) (k:=0) a22 T;have O23:=vK (Z:=⟨l.prog,w,K,mg,base⟩) a23 T RD;have O24:=Cs (Z:=⟨l.prog,w,K,mg,base⟩) (k:=1) a24 T dX.up;have O25:=EC (Z:=⟨l.prog,w,K,mg,base⟩) (k:=2) a25 T O22.up O19.up;exact OP (Z:=⟨l.prog,w,K,mg,base⟩) (k:=8) F T O10.up O17.up O21.up O8.up O23.up O20.up dX.up O24.up O6.up O25.up
end K12
namespace PV
open PySem PySem.Spec PyProof.Rows L2 PX
@[simp] theorem TK(d:D)(δ:Dn):fC d δ=some ((d,false),δ):=rfl
@[simp] theorem Sk(f:F)(δ:Dn):gk f δ=(f δ).bind fun p=>some (.val p.1,p.2):=rfl
@[simp] theorem Rw(x:D×Bool)(δ:Dn):gh 0 (some x::δ)=some (.slot 0,some x::δ):=rfl
@[simp] theorem Rv(a:Sl)(x:D×Bool)(δ:Dn):gh 1 (a::some x::δ)=some (.slot 1,a::some x::δ):=rfl
@[simp] theorem Ru(a b:Sl)(x:D×Bool)(δ:Dn):gh 2 (a::b::some x::δ)=some (.slot 2,a::b::some x::δ):=rfl
@[simp] theorem Rt(a b c:Sl)(x:D×Bool)(δ:Dn):gh 3 (a::b::c::some x::δ)=some (.slot 3,a::b::c::some x::δ):=rfl
@[simp] theorem Rr(a b c d:Sl)(x:D×Bool)(δ:Dn):gh 4 (a::b::c::d::some x::δ)=some (.slot 4,a::b::c::d::some x::δ):=rfl
@[simp] theorem Rq(a b c d e:Sl)(x:D×Bool)(δ:Dn):gh 5 (a::b::c::d::e::some x::δ)=some (.slot 5,a::b::c::d::e::some x::δ):=rfl
@[simp] theorem Ro(a b c d e f:Sl)(x:D×Bool)(δ:Dn):gh 6 (a::b::c::d::e::f::some x::δ)=some (.slot 6,a::b::c::d::e::f::some x::δ):=rfl
@[simp] theorem Rn(a b c d e f g:Sl)(x:D×Bool)(δ:Dn):gh 7 (a::b::c::d::e::f::g::some x::δ)=some (.slot 7,a::b::c::d::e::f::g::some x::δ):=rfl
@[simp] theorem Rm(a b c d e f g h:Sl)(x:D×Bool)(δ:Dn):gh 8 (a::b::c::d::e::f::g::h::some x::δ)=some (.slot 8,a::b::c::d::e::f::g::h::some x::δ):=rfl
@[simp] theorem Ep(δ:Dn)(r:D×Bool):res δ (.val r)=some r.1:=rfl
@[simp] theorem Sj(x:D×Bool)(δ:Dn):res (some x::δ) (.slot 0)=some x.1:=rfl
@[simp] theorem Si(a:Sl)(x:D×Bool)(δ:Dn):res (a::some x::δ) (.slot 1)=some x.1:=rfl
@[simp] theorem Sg(a b:Sl)(x:D×Bool)(δ:Dn):res (a::b::some x::δ) (.slot 2)=some x.1:=rfl
@[simp] theorem Sf(a b c:Sl)(x:D×Bool)(δ:Dn):res (a::b::c::some x::δ) (.slot 3)=some x.1:=rfl
@[simp] theorem Se(a b c d:Sl)(x:D×Bool)(δ:Dn):res (a::b::c::d::some x::δ) (.slot 4)=some x.1:=rfl
@[simp] theorem Sd(a b c d e:Sl)(x:D×Bool)(δ:Dn):res (a::b::c::d::e::some x::δ) (.slot 5)=some x.1:=rfl
@[simp] theorem Sb(a b c d e f:Sl)(x:D×Bool)(δ:Dn):res (a::b::c::d::e::f::some x::δ) (.slot 6)=some x.1:=rfl
@[simp] theorem Sa(a b c d e f g:Sl)(x:D×Bool)(δ:Dn):res (a::b::c::d::e::f::g::some x::δ) (.slot 7)=some x.1:=rfl
@[simp] theorem R9(a b c d e f g h:Sl)(x:D×Bool)(δ:Dn):res (a::b::c::d::e::f::g::h::some x::δ) (.slot 8)=some x.1:=rfl
@[simp] theorem SD(g:D->Option (D×Bool))(fa:FO)(δ:Dn):kd g fa δ=(fa δ).bind fun p=>(res p.2 p.1).bind fun x=>(g x).bind fun z=>some (z,p.2):=rfl
@[simp] theorem SA(g:D->D->Option (D×Bool))(fa fb:FO)(δ:Dn):gz g fa fb δ=(fa δ).bind fun p=>(fb p.2).bind fun q=>(res q.2 p.1).bind fun x=>(res q.2 q.1).bind fun y=>(g x y).bind fun z=>some (z,q.2):=rfl
@[simp] theorem Qg(δ:Dn):je [] δ=some ([],δ):=rfl
@[simp] theorem RB(f:FO)(fs:List FO)(δ:Dn):je (f::fs) δ=(f δ).bind fun p=>(je fs p.2).bind fun q=>some (p.1::q.1,q.2):=rfl
@[simp] theorem LI(δ:Dn):sD δ []=some []:=rfl
@[simp] theorem NS(δ:Dn)(o:Opd)(os:List Opd):sD δ (o::os)=(res δ o).bind fun d=>(sD δ os).bind fun l=>some (d::l):=rfl
@[simp] theorem RA(g:List D->Option (D×Bool))(fs:List FO)(δ:Dn):gG g fs δ=(je fs δ).bind fun p=>(sD p.2 p.1).bind fun ds=>(g ds).bind fun z=>some (z,p.2):=rfl
@[simp] theorem Rl:oF []=some []:=rfl
@[simp] theorem RU(r:D×Bool)(os:List Opd):oF (.val r::os)=(oF os).map (r.1:: ·):=rfl
@[simp] theorem Sy(fs:List F)(δ:Dn):iU fs δ=(je (fs.map gk) δ).bind fun p=>(oF p.1).bind fun ds=>if ds.length<=sizeLine then some ((.tup ds,false),p.2) else none:=rfl
@[simp] theorem SG(fs:List F)(δ:Dn):ky fs δ=(je (fs.map gk) δ).bind fun p=>(oF p.1).bind fun ds=>if ds.length<=sizeLine then some ((.lst ds,true),p.2) else none:=rfl
@[simp] theorem Tv(b o:Bool)(δ:Dn):asB ((.bl b,o),δ)=some (b,δ):=rfl
@[simp] theorem TJ(f:F)(δ:Dn):fT f δ=(f δ).bind asB:=rfl
@[simp] theorem RC(f g:FT)(δ:Dn):Q8 f g δ=(f δ).bind fun p=>if p.1=true then g p.2 else some (false,p.2):=rfl
@[simp] theorem Sz(f g:FT)(δ:Dn):wc f g δ=(f δ).bind fun p=>if p.1=true then some (true,p.2) else g p.2:=rfl
@[simp] theorem Rz(f:FT)(δ:Dn):qo f δ=(f δ).bind fun p=>some (!p.1,p.2):=rfl
@[simp] theorem Jp(f g:F)(δ:Dn):qX f g δ=(f δ).bind fun p=>(asB p).bind fun q=>if q.1=true then g q.2 else some ((.bl false,false),q.2):=rfl
@[simp] theorem Tr(f g:F)(δ:Dn):fOr f g δ=(f δ).bind fun p=>(asB p).bind fun q=>if q.1=true then some ((.bl true,false),q.2) else g q.2:=rfl
@[simp] theorem SF(f:F)(δ:Dn):KJ f δ=(f δ).bind fun p=>(asB p).bind fun q=>some ((.bl (!q.1),false),q.2):=rfl
@[simp] theorem Tt(t:FT)(f g:F)(δ:Dn):fIf t f g δ=(t δ).bind fun p=>if p.1=true then f p.2 else g p.2:=rfl
@[simp] theorem R7(δ:Dn):gO δ=some (.nx δ):=rfl
def nxt(g:FS):Out->Option Out
 | .nx δ1=>g δ1
 |o=>some o
@[simp] theorem Sn(g:FS)(δ:Dn):nxt g (.nx δ)=g δ:=rfl
@[simp] theorem Sm(g:FS)(r:D×Bool)(δ:Dn):nxt g (.rt r δ)=some (.rt r δ):=rfl
@[simp] theorem R0(f g:FS)(δ:Dn):gy f g δ=(f δ).bind (nxt g):=by
 unfold gy
 cases f δ with
 |none=>rfl
 |some o=>cases o<;>rfl
@[simp] theorem FZ(f:F)(δ:Dn):lT f δ=(f δ).bind fun p=>some (.nx p.2):=rfl
@[simp] theorem R6(f:F)(δ:Dn):jQ f δ=(f δ).bind fun p=>some (.rt p.1 p.2):=rfl
@[simp] theorem Ti(t:FT)(f g:FS)(δ:Dn):sIf t f g δ=(t δ).bind fun p=>if p.1=true then f p.2 else g p.2:=rfl
@[simp] theorem RZ(i:Nat)(f:F)(δ:Dn):ic i f δ=(f δ).bind fun p=>if i<p.2.length then some (.nx (p.2.set i (some p.1))) else none:=rfl
@[simp] theorem RY(tg:Tg)(f:F)(δ:Dn):LG tg f δ=(f δ).bind fun p=>(tg p.1.1 p.2).bind fun δ1=>some (.nx δ1):=rfl
@[simp] theorem TH(g:D->Option (D×Bool))(d:D):g1 g [d]=g d:=rfl
@[simp] theorem TF(g:D->D->Option (D×Bool))(d e:D):g2 g [d,e]=g d e:=rfl
@[simp] theorem Qi(i j:Int):js (.int i) (.int j)=some (.int (i+j),false):=rfl
@[simp] theorem Th(i j:Int):PX.gSub (.int i) (.int j)=some (.int (i-j),false):=rfl
@[simp] theorem Tj(i:Int):qW (.int i)=some (.int (-i),false):=rfl
@[simp] theorem Tw(i:Int):sN (.int i)=some (.int (if i<0 then -i else i),false):=rfl
@[simp] theorem Su(l:List D):nk (.tup l)=some (.int l.length,false):=rfl
@[simp] theorem Sv(l:List D):nk (.lst l)=some (.int l.length,false):=rfl
@[simp] theorem RX(l:List D):lC (.lst l)=some (.tup l,false):=rfl
@[simp] theorem RW(l:List D):lC (.tup l)=some (.tup l,false):=rfl
@[simp] theorem So(l:List D):CS (.tup l)=some (.lst l,true):=rfl
@[simp] theorem Sq(l:List D):CS (.lst l)=some (.lst l,true):=rfl
@[simp] theorem Sx(b:Bool):Kz (.bl b)=some (.int (if b then 1 else 0),false):=rfl
@[simp] theorem Sw(b:Int):Kz (.int b)=some (.int b,false):=rfl
@[simp] theorem Tp(i j:Int):Ky (.int i) (.int j)=some (.int (if j>i then j else i),false):=rfl
@[simp] theorem To(i j:Int):Kx (.int i) (.int j)=some (.int (if j<i then j else i),false):=rfl
@[simp] theorem Tq(ts:List Ty)(d:D):ou ts d=some (.bl (ts.any (isT d)),false):=rfl
@[simp] theorem M8(i j:Int):gEq (.int i) (.int j)=some (.bl (i==j),false):=by unfold gEq;rw[gu (by simp[D.dep])];simp[D.eqb]
@[simp] theorem Tn(i j:Int):gNe (.int i) (.int j)=some (.bl (!(i==j)),false):=by unfold gNe;rw[gu (by simp[D.dep])];simp[D.eqb]
@[simp] theorem Tu(i j:Bool):gEq (.bl i) (.bl j)=some (.bl (i==j),false):=by unfold gEq;rw[gu (by simp[D.dep])];simp[D.eqb]
@[simp] theorem Qe(i j:Bool):gNe (.bl i) (.bl j)=some (.bl (!(i==j)),false):=by unfold gNe;rw[gu (by simp[D.dep])];simp[D.eqb]
@[simp] theorem Qf(i j:Int):mI .Lt (.int i) (.int j)=some (.bl (decide (i<j)),false):=by simp[mI,lh,jk,D.dep]
@[simp] theorem Tz(i j:Int):mI .LtE (.int i) (.int j)=some (.bl (decide (i<=j)),false):=by simp[mI,lh,jk,D.dep]
@[simp] theorem NT(i j:Int):mI .Gt (.int i) (.int j)=some (.bl (decide (i>j)),false):=by simp[mI,lh,jk,D.dep]
@[simp] theorem TC(i j:Int):mI .GtE (.int i) (.int j)=some (.bl (decide (i>=j)),false):=by simp[mI,lh,jk,D.dep]
@[simp] theorem Rx(f:F)(δ:Dn):gW f δ=(f δ).bind fun p=>match p.1.1 with| .lst l=>some (l,p.2)| .tup l=>some (l,p.2)|_=>none:=rfl
@[simp] theorem R8(fi:FIt)(tg:Tg)(fb:FS)(δ:Dn):mV fi tg fb δ=(fi δ).bind fun p=>qm tg fb p.1 p.2:=rfl
@[simp] theorem tX(δ:Dn):hC δ=some (true,δ):=rfl
@[simp] theorem tY(f:F)(acc:List D)(δ:Dn):gZ f acc δ=(f δ).bind fun p=>if acc.length<sizeLine then some (acc++[p.1.1],p.2) else none:=rfl
theorem AO(h:n<=10000):n<sizeLine:=by rw[iu];omega
abbrev enc(t:gU):D×Bool:=(.tup (t.map .int),false)
abbrev stt(a:Int)(b:Bool):Sl:=some (.lst [.int a,.bl b],true)
abbrev lsi(l:gU):Sl:=some (.lst (l.map .int),true)
@[simp] theorem Ry(ev:EvF)(fs:List FO)(δ:Dn):gA ev fs δ=(je fs δ).bind fun p=>(jo p.2 p.1).bind fun args=>if(gR p.1 args).Nodup then(ev args).bind fun q=>some (q.1,wb p.1 args q.2 p.2) else none:=rfl
@[simp] theorem qG(δ:Dn):jo δ []=some []:=rfl
@[simp] theorem Qh(δ:Dn)(o:Opd)(os:List Opd):jo δ (o::os)=(yB δ o).bind fun a=>(jo δ os).bind fun l=>some (a::l):=rfl
@[simp] theorem SH(δ:Dn)(r:D×Bool):yB δ (.val r)=some (r.1,false):=rfl
@[simp] theorem SJ(δ:Dn)(i:Nat):yB δ (.slot i)=(δ[i]?).join:=rfl
theorem qB(a:Int)(b:Bool)(m:Int)(hm:0<m)(bJ:m<1073741824):
  ∃v a',0<=v/\v<m/\gD [(.lst [.int a,.bl b],true),(.int m,false)]=some ((.int v,false),[some (.lst [.int a',.bl b],true),some (.int m,false)]):=by
 cases b
 ·have h1: ∀x:Int, -18446744073709551616<x%2147483647/\x%2147483647<18446744073709551616:=fun x=>by omega
  have h2: ∀x:Int, -18446744073709551616<x%2147483629/\x%2147483629<18446744073709551616:=fun x=>by omega
  simp only[gD,nH];simp[evF,gIx,atI,ixN,uq,gI,KA,pk,CP,vg,lJ,ip,gR,wb,HG,wg,CMul,hm,bJ,h1,h2];exact⟨DA _ (by omega),DC _ hm⟩
 ·simp only[gD,nH];simp[evF,gIx,atI,ixN,uq,gI,KA,pk,CP,vg,lJ,ip,gR,wb,HG,wg,CMul,hm,bJ];exact⟨DA _ (by omega),DC _ hm⟩
theorem Bt(x y:Int):(x==y)=decide (x=y):=rfl
theorem iZ{g:List D->Option (D×Bool)}{fs:List FO}{δ δ':Dn}{os:List Opd}{ds:List D}{z:D×Bool}(h1:je fs δ=some (os,δ'))(h2:sD δ' os=some ds)(h3:g ds=some z):gG g fs δ=some (z,δ'):=by
 unfold gG;rw[h1];simp only[iI];rw[h2];simp only[iI];rw[h3];rfl
theorem jI(h1:args.length=np/\np<=n/\(args.zipIdx.all fun p=>!(p.1.2&&asg.contains p.2))=true)(h2:f (args.map some++List.replicate (n-np) none)=some (.rt r δ)):evF n np asg f args=some (r,ip args δ):=by
 unfold evF;rw[gu h1,h2]
theorem gx(h:f δ=some (.nx δ1)):gy f g δ=g δ1:=by unfold gy;rw[h];rfl
theorem iM{r}(h:f δ=some (.rt r δ1)):gy f g δ=some (.rt r δ1):=by unfold gy;rw[h];rfl
theorem jP{r}(h:f δ=some (r,δ1)):jQ f δ=some (.rt r δ1):=by unfold jQ;rw[h];rfl
theorem iB{r}(h:f δ=some (r,δ1))(hi:i<δ1.length):ic i f δ=some (.nx (δ1.set i (some r))):=by unfold ic;rw[h];simp only[iI];rw[gu hi]
theorem mB(h:f δ=some ((.bl b,o),δ1)):fT f δ=some (b,δ1):=by unfold fT;rw[h];rfl
theorem gF{r}(h:f δ=some (r,δ1)):gk f δ=some (.val r,δ1):=by unfold gk;rw[h];rfl
theorem il(h1:fa δ=some (o1,δ1))(h2:fb δ1=some (o2,δ2))(h3:res δ2 o1=some x)(h4:res δ2 o2=some y)(h5:g x y=some z):gz g fa fb δ=some (z,δ2):=by
 unfold gz;rw[h1];simp only[iI];rw[h2];simp only[iI];rw[h3,h4];simp only[iI];rw[h5];rfl
theorem hX{ev:EvF}{fs:List FO}{δ δ1:Dn}{os:List Opd}{args:List (D×Bool)}{r:D×Bool}{outs:Dn}(h1:je fs δ=some (os,δ1))(h2:jo δ1 os=some args)(h3:(gR os args).Nodup)(h4:ev args=some (r,outs)):gA ev fs δ=some (r,wb os args outs δ1):=by
 unfold gA;rw[h1];simp only[iI];rw[h2];simp only[iI];rw[gu h3,h4];rfl
theorem vA(h:f δ=some (false,δ1)):wc f g δ=g δ1:=by unfold wc;rw[h];rfl
theorem KI(h:f δ=some (true,δ1)):wc f g δ=some (true,δ1):=by unfold wc;rw[h];rfl
theorem uv(h:f δ=some (b,δ1)):qo f δ=some (!b,δ1):=by unfold qo;rw[h];rfl
theorem qa(h:t δ=some (false,δ1)):sIf t f g δ=g δ1:=by unfold sIf;rw[h];rfl
theorem tV(h:t δ=some (true,δ1)):sIf t f g δ=f δ1:=by unfold sIf;rw[h];rfl
theorem sP{fa fb:FO}{δ δ1 δ2:Dn}{o1 o2:Opd}(h1:fa δ=some (o1,δ1))(h2:fb δ1=some (o2,δ2)):je [fa,fb] δ=some ([o1,o2],δ2):=by
 simp only[je];rw[h1];simp only[iI];rw[h2];rfl
theorem oQ{fa:FO}{δ δ1:Dn}{o1:Opd}(h1:fa δ=some (o1,δ1)):je [fa] δ=some ([o1],δ1):=by
 simp only[je];rw[h1];rfl
theorem kT(h:fi δ=some (ds,δ1)):mV fi tg fb δ=qm tg fb ds δ1:=by unfold mV;rw[h];rfl
theorem MP(ns:gU)(k:Nat): ∃c,ki [(.lst (ns.map .int),false),(.int k,false)]=some ((.int c,false),[some (.lst (ns.map .int),false),some (.int k,false)]):=by
 by_cases hk:k<ns.length
 ·refine⟨ns[k],?_⟩;simp[ki,kW,evF,gIx,atI,ixN,ip,hk]
 ·refine⟨0,?_⟩;simp[ki,kW,evF,ip,hk]
theorem Nb:CP (.int 10) (.int 18)=some (.int 1000000000000000000,false):=by
 have:wg 10 18:=by unfold wg;decide+kernel
 show((if wg 10 18 then some (D.int (10^(18:Int).toNat)) else none).map fun z=>(z,false))=_;rw[gu this];rfl
theorem Qt:CP (.int 10) (.int 29)=some (.int 100000000000000000000000000000,false):=by
 have:wg 10 29:=by unfold wg;decide+kernel
 show((if wg 10 29 then some (D.int (10^(29:Int).toNat)) else none).map fun z=>(z,false))=_;rw[gu this];rfl
theorem Ja(ns:gU)(k:Nat): ∃a b,ku [(.lst (ns.map .int),false),(.int k,false)]=some ((.lst [.int a,.bl b],true),[some (.lst (ns.map .int),false),some (.int k,false)]):=by
 obtain⟨c,hc⟩:=MP ns k;by_cases h:c>=1000000000000000000
 ·refine⟨c-1000000000000000000,true,?_⟩;simp[ku,mK,evF,hc,gR,wb,Nb,h,iu,ip]
 ·refine⟨c%2147483647,false,?_⟩;simp[ku,mK,evF,hc,gR,wb,Nb,h,iu,ip,uq,gI]
def st(n:Nat):List Int:=(List.range n).map fun(k:Nat)=>(1+(k:Int))
theorem NH(n:Nat):(st n).map D.int=gY 1 n:=by simp[st,gY]
def mW:Nat->List Int->List Int->List (List Int)
 |0,_,f=>[f]
 |k+1,r,f=>(List.range r.length).flatMap fun v=>mW k (r.eraseIdx v) (f++[r.getD v 0*1])++mW k (r.eraseIdx v) (f++[r.getD v 0* -1])
theorem zH(f:Int->D): ∀(l:gU) (k:Nat),(l.map f).eraseIdx k=(l.eraseIdx k).map f
 |[],k=>by simp
 |x::l,0=>by simp
 |x::l,k+1=>by simp[zH f l k]
theorem Hv{i:Nat}{f:FO}{δ δ1:Dn}{o:Opd}{l0 l:List D}{k:Int}{j:Nat}{d:D}(h0:δ[i]?=some (some (.lst l0,true)))(h1:f δ=some (o,δ1))(h2:res δ1 o=some (.int k))(h3:δ1[i]?=some (some (.lst l,true)))(h4: -(2^63)<=k/\k<2^63)(h5:ixN l.length k=some j)(h6:l[j]?=some d):
  sO i f δ=some ((d,false),δ1.set i (some (.lst (l.eraseIdx j),true))):=by
 unfold sO;rw[h0];simp only[];rw[h1];simp only[iI];rw[h2,h3];simp only[];rw[gu h4,h5];simp only[iI];rw[h6];rfl
theorem yg{i:Nat}{f:F}{δ δ1:Dn}{r:D×Bool}{l0 l:List D}(h0:δ[i]?=some (some (.lst l0,true)))(h1:f δ=some (r,δ1))(h3:δ1[i]?=some (some (.lst l,true)))(h4:l.length<sizeLine):
  jC i f δ=some ((.non,false),δ1.set i (some (.lst (l++[r.1]),true))):=by
 unfold jC;rw[h0];simp only[];rw[h1];simp only[iI];rw[h3];simp only[];rw[gu h4]
theorem Cd{r}(h:f δ=some (r,δ1)):lT f δ=some (.nx δ1):=by unfold lT;rw[h];rfl
abbrev Q7:F:=(sO 2 (gk (gA gD [(gh 0),(gk (gG (g1 nk) [(gh 2)]))])))
abbrev Q6:F:=(gz gIx (gk (ky [(fC (.int 1)),(kd qW (gk (fC (.int 1))))])) (gk (gA gD [(gh 0),(gk (fC (.int 2)))])))
abbrev fbT:FS:=(gy (lT (jC 3 (gz pk (gk Q7) (gk Q6)))) gO)
theorem Om(a:Int)(b:Bool)(n:Sl)(r f:gU)(x:Sl)(h0:0<r.length)(h5:r.length<=5): ∃v a',v<r.length/\Q7 [stt a b,n,lsi r,lsi f,x]=some ((.int (r.getD v 0),false),[stt a' b,n,lsi (r.eraseIdx v),lsi f,x]):=by
 obtain⟨v,a',hv0,hv,e⟩:=qB a b r.length (by omega) (by omega);have hn:v.toNat<r.length:=by omega
 refine⟨v.toNat,a',hn,?_⟩;have e1:(lsi (r.eraseIdx v.toNat):Sl)=some (.lst ((r.map D.int).eraseIdx v.toNat),true):=by rw[zH]
 rw[e1];refine Hv (k:=v) (δ1:=[stt a' b,n,lsi r,lsi f,x]) rfl (gF (r:=(.int v,false)) (hX (δ1:=[stt a b,n,lsi r,lsi f,x]) (os:=[.slot 0,.val (.int r.length,false)]) (args:=[(.lst [.int a,.bl b],true),(.int r.length,false)]) ?_ rfl (show([0]:List Nat).Nodup from by decide) e)) rfl rfl ⟨by omega,by omega⟩ (j:=v.toNat) ?_ ?_
 ·show some ([Opd.slot 0,Opd.val (D.int ((r.map D.int).length:Nat),false)],_)=_;rw[iX]
 ·unfold ixN;rw[gu hv0,gu (by simpa using hv)]
 ·simp[hn]
theorem NK(a:Int)(b:Bool)(n y z x:Sl): ∃s a',(s=1\/s= -1)/\Q6 [stt a b,n,y,z,x]=some ((.int s,false),[stt a' b,n,y,z,x]):=by
 obtain⟨v,a',hv0,hv,e⟩:=qB a b 2 (by omega) (by omega);have hl: ∀δ:Dn,ky [(fC (.int 1)),(kd qW (gk (fC (.int 1))))] δ=some ((.lst [.int 1,.int (-1)],true),δ):=fun δ=>rfl;refine⟨if v=0 then 1 else -1,a',by split<;>simp,?_⟩;refine il (δ1:=[stt a b,n,y,z,x]) (gF (hl _)) (gF (δ1:=[stt a' b,n,y,z,x]) (hX (δ1:=[stt a b,n,y,z,x]) (os:=[.slot 0,.val (.int 2,false)]) (args:=[(.lst [.int a,.bl b],true),(.int 2,false)]) rfl rfl (show([0]:List Nat).Nodup from by decide) e)) rfl rfl ?_;rcases(show v=0\/v=1 by omega) with rfl|rfl<;>rfl
theorem Pc(a:Int)(b:Bool)(n:Sl)(r f:gU)(x:Sl)(h0:0<r.length)(h5:r.length<=5)(hf:f.length<=5): ∃v s a',v<r.length/\(s=1\/s= -1)/\fbT [stt a b,n,lsi r,lsi f,x]=some (.nx [stt a' b,n,lsi (r.eraseIdx v),lsi (f++[r.getD v 0*s]),x]):=by
 obtain⟨v,a1,hv,e1⟩:=Om a b n r f x h0 h5;obtain⟨s,a2,hs,e2⟩:=NK a1 b n (lsi (r.eraseIdx v)) (lsi f) x;refine⟨v,s,a2,hv,hs,?_⟩
 have hm:pk (.int (r.getD v 0)) (.int s)=some (.int (r.getD v 0*s),false):=by
  have:CMul (r.getD v 0) s:= .inr (by omega);show((if CMul (r.getD v 0) s then some (D.int (r.getD v 0*s)) else none).map fun z=>(z,false))=_;rw[gu this];rfl
 have hl:(f.map D.int).length<sizeLine:=by rw[iX];exact Nat.lt_of_le_of_lt hf (by decide)
 have e3:=yg (i:=3) (δ:=[stt a b,n,lsi r,lsi f,x]) (l0:=f.map .int) rfl (il (gF e1) (gF e2) rfl rfl hm) (l:=f.map .int) rfl hl;refine(gx (Cd e3)).trans ?_;simp[gO,lsi]
theorem Ni(b:Bool)(n:Sl): ∀(ds:List D) (a:Int) (r f:gU) (x:Sl),ds.length=r.length->f.length+r.length<=5->
  ∃a' t r' x',t∈mW ds.length r f/\qm (gq 4) fbT ds [stt a b,n,lsi r,lsi f,x]=some (.nx [stt a' b,n,lsi r',lsi t,x'])
 |[],a,r,f,x,_,_=>⟨a,f,r,x,by simp[mW],rfl⟩
 |d::ds,a,r,f,x,h,hl=>by
  simp only[jX] at h;obtain⟨v,s,a1,hv,hs,e⟩:=Pc a b n r f (some (d,false)) (by omega) (by omega) (by omega);obtain⟨a',t,r',x',ht,e'⟩:=Ni b n ds a1 (r.eraseIdx v) (f++[r.getD v 0*s]) (some (d,false)) (by rw[Ad,gu hv];omega) (by rw[Ad,gu hv,lP];simp only[jX,rl];omega);refine⟨a',t,r',x',?_,?_⟩
  ·simp only[jX,mW,List.mem_flatMap,mC,uH];refine⟨v,hv,?_⟩;rcases hs with rfl|rfl
   ·exact .inl ht
   ·exact .inr ht
  ·unfold qm;rw[show gq 4 d [stt a b,n,lsi r,lsi f,x]=some [stt a b,n,lsi r,lsi f,some (d,false)] from rfl];simp only[iI];rw[e];simp only[iI];exact e'
theorem NO(n:Nat)(hn:n<=5):gRg .lst true [.int 1,.int ((n:Int)+1)]=some (.lst ((st n).map .int),true):=by
 have:n=0\/n=1\/n=2\/n=3\/n=4\/n=5:=by omega
 have h1:RgOk 1 ((n:Int)+1):=by rcases this with rfl|rfl|rfl|rfl|rfl|rfl<;>decide+kernel
 have h2:((n:Int)+1-1).toNat=n:=by omega
 show(if RgOk 1 ((n:Int)+1) then some (D.lst (gY 1 ((n:Int)+1-1).toNat),true) else none)=_;rw[gu h1,h2,<-NH]
theorem nF{f:FO}{δ δ1:Dn}{o:Opd}{n:Nat}(h1:f δ=some (o,δ1))(h2:res δ1 o=some (.int n))(hn:n<=63):ot f δ=some (gY 0 n,δ1):=by
 have hb:(-(2^62)<=(n:Int)/\(n:Int)<2^62):=⟨by omega,by omega⟩
 have h3:je [f] δ=some ([o],δ1):=by simp[je,h1]
 have h4:sD δ1 [o]=some [.int n]:=by simp[sD,h2]
 unfold ot;rw[h3];simp only[iI];rw[h4];simp only[];rw[gu hb];rfl
theorem Ed(a:Int)(b:Bool)(n:Nat)(hn:n<=5): ∃a' t,t∈mW n (st n) []/\kh [(.lst [.int a,.bl b],true),(.int n,false)]=some (enc t,[stt a' b,some (.int n,false)]):=by
 have hlen:(gY 0 n).length=n:=by simp[gY]
 have p9:(st n).length=n:=by simp[st]
 obtain⟨a',t,r',x',ht,e⟩:=Ni b (some (.int n,false)) (gY 0 n) a (st n) [] none (by rw[hlen,p9]) (by rw[p9];simpa using hn);rw[hlen] at ht;refine⟨a',t,ht,?_⟩;refine jI (δ:=[stt a' b,some (.int n,false),lsi r',lsi t,x']) ⟨rfl,by decide,rfl⟩ ?_;refine(gx (δ1:=[stt a b,some (.int n,false),lsi (st n),none,none]) (iB (i:=2) (δ1:=[stt a b,some (.int n,false),none,none,none]) (iZ (os:=[.val (.int 1,false),.val (.int ((n:Int)+1),false)]) rfl rfl (NO n hn)) (show 2<5 by decide))).trans ?_;refine(gx (δ1:=[stt a b,some (.int n,false),lsi (st n),lsi [],none]) rfl).trans ?_;refine(gx ((kT (nF (o:= .slot 1) rfl rfl (by omega))).trans e)).trans ?_;exact iM (jP (iZ (os:=[.slot 3]) rfl rfl rfl))
theorem vh: ∀(k:Nat) (r f t:gU),r.length=k->t∈mW k r f->t.length=f.length+k
 |0,r,f,t,_,h=>by simp[mW] at h;subst h;simp
 |k+1,r,f,t,hr,h=>by
  simp only[mW,List.mem_flatMap,mC,uH] at h;obtain⟨v,hv,h⟩:=h;have hl:(r.eraseIdx v).length=k:=by rw[Ad,gu hv];omega
  rcases h with h|h
  ·have:=vh k _ _ t hl h;simp at this;omega
  ·have:=vh k _ _ t hl h;simp at this;omega
theorem IM{n:Nat}{t:gU}(h:t∈mW n (st n) []):t.length=n:=by
 have:=vh n (st n) [] t (by simp[st]) h;simpa using this
theorem uy: ∀t:List Int,D.depL (t.map .int)=0
 |[]=>by simp[D.depL]
 |s::t=>by simp[D.depL,D.dep,uy t]
theorem yh: ∀a b:List Int,D.eqbL (a.map .int) (b.map .int)=decide (a=b)
 |[],[]=>by simp[D.eqbL]
 |[],_::_=>by simp[D.eqbL]
 |_::_,[]=>by simp[D.eqbL]
 |x::a,y::b=>by simp[D.eqbL,D.eqb,yh a b,Bool.decide_and,Bt]
@[simp] theorem zC(a b:gU):gEq (.lst (a.map .int)) (.lst (b.map .int))=some (.bl (decide (a=b)),false):=by unfold gEq;rw[gu (by simp[D.dep,uy])];simp[D.eqb,yh]
theorem PC:x∈st n↔1<=x/\x<=n:=by
 simp only[st,oA,uH];constructor
 ·rintro⟨k,h,rfl⟩;omega
 ·rintro⟨h1,h2⟩;exact⟨(x-1).toNat,by omega,by omega⟩
theorem Bf{l:gU}{m:List D}(h:m.Perm (l.map D.int)): ∃k:List Int,m=k.map .int:=by
 refine⟨m.map fun d=>match d with|D.int i=>i|_=>0,?_⟩;rw[lj]
 symm
 rw[pB (g:=id),rQ];intro d hd;obtain⟨i,_,rfl⟩:=oA.mp (h.mem_iff.mp hd);rfl
theorem B6(l:gU):lY (l.map .int)=true:=by
 unfold lY
 cases l with
 |nil=>rfl
 |cons x l=>
  rw[uM];right;simp only[iQ];simp[jH,D.pr,D.dep,lh]
theorem FJ(pre:Dn)(x:Sl)(d:D):gq pre.length d (pre++[x])=some (pre++[some (d,false)]):=by
 unfold gq;rw[gu (by simp)];simp[List.set_append]
theorem yq(f:F)(g:D->D)(pre:Dn): ∀(l acc:List D) (x:Sl),(∀d∈l,∃o,f (pre++[some (d,false)])=some ((g d,o),pre++[some (d,false)]))->acc.length+l.length<=sizeLine->
  ∃x',jM (gq pre.length) hC (gZ f) l acc (pre++[x])=some (acc++l.map g,pre++[x'])
 |[],acc,x,_,_=>⟨x,by simp[jM]⟩
 |d::l,acc,x,h,hl=>by
  obtain⟨o,hd⟩:=h d iR;obtain⟨x',e⟩:=yq f g pre l (acc++[g d]) (some (d,false)) (fun d' h'=>h d' (iT _ h')) (by simp at hl ⊢;omega);refine⟨x',?_⟩;have hs:acc.length<sizeLine:=by simp at hl;omega
  rw[jM,FJ];simp only[iI,tX,ie,tY];rw[hd];simp only[iI];rw[gu hs];simp only[iI];rw[e];simp
theorem vD(p:D->Bool): ∀l:List D,qQ (l.map fun d=> .bl (p d))=some (l.map p)
 |[]=>rfl
 |d::l=>by simp[qQ,vD p l]
theorem BE(p:D->Bool)(l:List D):vq (.lst (l.map fun d=> .bl (p d)))=some (.bl (l.all p),false):=by
 simp[vq,vD,List.all_map,nR]
theorem K9(p:D->Bool)(l:List D):EY (.lst (l.map fun d=> .bl (p d)))=some (.bl (l.any p),false):=by
 simp[EY,vD,uT,nR]
def ab(s:Int):Int:=if s<0 then -s else s
def wh:D->Bool
 | .int _=>true
 |_=>false
def iOf:D->Int
 | .int s=>s
 |_=>0
theorem BK(d:D):nK [(d,false)]=some ((.bl (wh d),false),[some (d,false)]):=by
 cases d<;>simp[nK,qj,evF,ip,wh,isT]
theorem Hh(d:D)(lo hi:Int):kZ [(d,false),(.int lo,false),(.int hi,false)]=some ((.bl (match d with| .int s=>decide (lo<=s)&&decide (s<=hi)|_=>false),false),[some (d,false),some (.int lo,false),some (.int hi,false)]):=by
 cases d with
 |int s=>by_cases h:lo<=s<;>simp[kZ,mM,evF,ip,BK,wh,gR,wb,qp,jk,h]
 |_=>simp[kZ,mM,evF,ip,BK,wh,gR,wb]
def OkD(d:D):Prop:= ∀l,d= .tup l->l.length<=60
theorem ixl(h0:0<=v)(h:v<L.length):gIx (.lst L) (.int v)=some (L.getD v.toNat .non,false):=by
 have h1:v.toNat<L.length:=by omega
 simp[gIx,atI,ixN,h0,h,h1]
theorem ixi{t:gU}{v:Int}(h0:0<=v)(h:v<t.length):gIx (.tup (t.map .int)) (.int v)=some (.int (t.getD v.toNat 0),false):=by
 have h1:v.toNat<t.length:=by omega
 simp[gIx,atI,ixN,h0,h,h1]
theorem OX{t:gU}{v:Int}(h0:0<=v)(h:v<t.length):gIx (.lst (t.map .int)) (.int v)=some (.int (t.getD v.toNat 0),false):=by
 have h1:v.toNat<t.length:=by omega
 simp[gIx,atI,ixN,h0,h,h1]
theorem Lc{P:D->Prop}{L:List D}(hn:P .non)(h: ∀d∈L,P d)(k:Nat):P (L.getD k .non):=by
 rw[wA]
 cases e:L[k]? with
 |none=>exact hn
 |some d=>exact h d (lQ e)
theorem Mx:OkD .non:=fun l h=>by cases h
theorem Ri(h1:l.length<=1000)(h2:m.length<=1000):js (.tup l) (.tup m)=some (.tup (l++m),false):=by
 simp only[js];rw[gu (by rw[iu];omega)]
theorem Rj(h1:l.length<=1000)(h2:m.length<=1000):js (.lst l) (.lst m)=some (.lst (l++m),true):=by
 simp only[js];rw[gu (by rw[iu];omega)]
theorem kH(a:Int)(b:Bool)(m:Int)(hm:0<m)(bJ:m<1073741824): ∃v a',0<=v/\v<m/\ ∀(fo:FO) (δ:Dn) (o:Opd),fo (stt a b::δ)=some (o,stt a b::δ)->yB (stt a b::δ) o=some (.int m,false)->gA gD [gh 0,fo] (stt a b::δ)=some ((.int v,false),stt a' b::δ):=by
 obtain⟨v,a',h0,h1,e⟩:=qB a b m hm bJ;refine⟨v,a',h0,h1,fun fo δ o h2 h3=>?_⟩;refine(hX (os:=[.slot 0,o]) (args:=[(.lst [.int a,.bl b],true),(.int m,false)]) (sP rfl h2) ?_ ?_ e).trans ?_
 ·simp[h3]
 ·cases o<;>simp[gR]
 ·cases o<;>simp[wb]
theorem Bl(l:List D)(lo hi:Option Int):(nM l lo hi).length<=l.length:=by
 unfold PX.nM;rw[nS,sh];omega
def led(u:gU)(s:Int):Int:=if 0<s then u.getD (s-1).toNat 0 else -(u.getD (-s-1).toNat 0)
theorem SV(x:Int):pk (.int x) (.int 1)=some (.int x,false):=by
 have:CMul x 1:= .inr (by omega);show((if CMul x 1 then some (D.int (x*1)) else none).map fun z=>(z,false))=_;rw[gu this,D7];rfl
theorem SU(x:Int):pk (.int x) (.int (-1))=some (.int (-x),false):=by
 have:CMul x (-1):= .inr (by omega);show((if CMul x (-1) then some (D.int (x*(-1))) else none).map fun z=>(z,false))=_;rw[gu this,Int.mul_neg,D7];rfl
theorem mO(h:f δ=some ((.lst l,o),δ1)):gW f δ=some (l,δ1):=by unfold gW;rw[h];rfl
def ClOk(n:Nat)(c:gU):Prop:=c≠[]/\(c.map ab).Pairwise (· < ·)/\ ∀s∈c,1<=ab s/\ab s<=n
def CA(j:Int)(c:gU):Prop:=(c.map ab).Pairwise (· < ·)/\ ∀s∈c,1<=ab s/\ab s<j
theorem Fw(h:0<=i):ab i=i:=by unfold ab;rw[gv (by omega)]
theorem Li(h:0<=i):ab (-i)=i:=by unfold ab;split<;>omega
theorem CA.snoc{j s:Int}{c:gU}(h:CA j c)(h1:ab s=j)(h0:1<=j):CA (j+1) (c++[s]):=by
 refine⟨?_,fun x hx=>?_⟩
 ·rw[oE,lE];refine⟨h.1,by simp,fun x hx y hy=>?_⟩;obtain⟨z,hz,rfl⟩:=oA.mp hx;simp at hy;subst hy;have:=h.2 z hz;omega
 ·rcases mC.mp hx with hx|hx
  ·have:=h.2 x hx;omega
  ·simp at hx;subst hx;omega
theorem CA.up(h:CA j c):CA (j+1) c:=⟨h.1,fun x hx=>by have:=h.2 x hx;omega⟩
abbrev fbC:FS:=(gy (ic 5 (gA gD [(gh 0),(gh 2)])) (gy (sIf (fT (gz (mI .Lt) (gh 5) (gk (fC (.int 2))))) (gy (lT (jC 3 (gz gIx (gk (ky [(ir 4),(kd qW (gh 4))])) (gh 5)))) gO) gO) gO))
theorem sQ{i:Nat}{f:F}{δ δ1:Dn}{r:D×Bool}{l0 l:List D}(h0:δ[i]?=some (some (.lst l0,true)))(h1:f δ=some (r,δ1))(h3:δ1[i]?=some (some (.lst l,true)))(h4:l.length<=10000):
  gy (lT (jC i f)) gO δ=some (.nx (δ1.set i (some (.lst (l++[r.1]),true)))):=
 (gx (Cd (yg h0 h1 h3 (AO h4)))).trans rfl
theorem Pg(a:Int)(b:Bool)(n w:Int)(hw:0<w)(fm:w<100)(j:Int)(hj:1<=j)(c:gU)(hc:CA j c)(hl:c.length<=10)(x:Sl): ∃a' c' x',CA (j+1) c'/\c'.length<=c.length+1/\fbC [stt a b,some (.int n,false),some (.int w,false),lsi c,some (.int j,false),x]=some (.nx [stt a' b,some (.int n,false),some (.int w,false),lsi c',some (.int j,false),x']):=by
 obtain⟨v,a',v0,v1,e⟩:=kH a b w hw (by omega)
 have s1: ∀g,gy (ic 5 (gA gD [(gh 0),(gh 2)])) g [stt a b,some (.int n,false),some (.int w,false),lsi c,some (.int j,false),x]=g [stt a' b,some (.int n,false),some (.int w,false),lsi c,some (.int j,false),some (.int v,false)]:=fun g=>
  gx (iB (i:=5) (δ1:=[stt a' b,some (.int n,false),some (.int w,false),lsi c,some (.int j,false),x]) (e _ [some (.int n,false),some (.int w,false),lsi c,some (.int j,false),x] (.slot 2) rfl rfl) (show 5<6 by decide))
 by_cases h:v<2
 ·have hix:gIx (.lst [.int j,.int (-j)]) (.int v)=some (.int (if v=0 then j else -j),false):=by
   rcases(show v=0\/v=1 by omega) with rfl|rfl<;>rfl
  refine⟨a',c++[if v=0 then j else -j],some (.int v,false),hc.snoc (by split;exact Fw (by omega);exact Li (by omega)) hj,by simp,?_⟩;refine(s1 _).trans ((gx ((tV (δ1:=[stt a' b,some (.int n,false),some (.int w,false),lsi c,some (.int j,false),some (.int v,false)]) (by simp[h])).trans (sQ (δ1:=[stt a' b,some (.int n,false),some (.int w,false),lsi c,some (.int j,false),some (.int v,false)]) (r:=(.int (if v=0 then j else -j),false)) (l0:=c.map .int) (l:=c.map .int) rfl (by simp[ir,iu,hix]) rfl (by simp;omega)))).trans ?_);simp[lsi]
 ·refine⟨a',c,some (.int v,false),hc.up,by omega,?_⟩;exact(s1 _).trans ((gx ((qa (by simp[h])).trans rfl)).trans rfl)
theorem Q3(b:Bool)(n w:Int)(hw:0<w)(fm:w<100): ∀(m:Nat) (j:Nat) (a:Int) (c:gU) (x4 x5:Sl),1<=j->CA j c->c.length+m<=10-> ∃a' c' v8 y7,CA (j+m:Nat) c'/\c'.length<=10/\qm (gq 4) fbC ((List.range' j m).map fun(k:Nat)=>D.int (k:Int)) [stt a b,some (.int n,false),some (.int w,false),lsi c,x4,x5]=some (.nx [stt a' b,some (.int n,false),some (.int w,false),lsi c',v8,y7])
 |0,j,a,c,x4,x5,hj,hc,hl=>⟨a,c,x4,x5,by simpa using hc,by omega,rfl⟩
 |m+1,j,a,c,x4,x5,hj,hc,hl=>by
  obtain⟨a1,c1,x1,h1,l1,e1⟩:=Pg a b n w hw fm j (by omega) c hc (by omega) x5;obtain⟨a',c',v8,y7,h2,l2,e2⟩:=Q3 b n w hw fm m (j+1) a1 c1 (some (.int j,false)) x1 (by omega) (by simpa using h1) (by omega);refine⟨a',c',v8,y7,by rw[show j+(m+1)=j+1+m by omega];exact h2,l2,?_⟩;rw[DL,iQ];unfold qm;rw[show gq 4 (.int (j:Int)) [stt a b,some (.int n,false),some (.int w,false),lsi c,x4,x5]=some [stt a b,some (.int n,false),some (.int w,false),lsi c,some (.int j,false),x5] from rfl];simp only[iI];rw[e1];simp only[iI];exact e2
theorem MI(h1:f δ=some (o1,δ1))(h2:g δ1=some (o2,δ2))(h3:res δ2 o1=some (.int i))(h4:res δ2 o2=some (.int j))(hi:0<=i/\i<=1000)(hj:0<=j/\j<=1000):ES f g δ=some (gY i (j-i).toNat,δ2):=by
 unfold ES;rw[sP h1 h2];simp only[iI,NS,LI,h3,h4];rw[gu ⟨by omega,by omega,by omega,by omega⟩]
theorem Hx(a:Int)(b:Bool)(n:Nat)(h1:1<=n)(h5:n<=5): ∃a' c,ClOk n c/\lN [(.lst [.int a,.bl b],true),(.int n,false)]=some (enc c,[stt a' b,some (.int n,false)]):=by
 obtain⟨v,a1,v0,v1,e1⟩:=kH a b 3 (by omega) (by omega)
 let wL:List Int:=[3,4,6]
 let w:=wL.getD v.toNat 0
 have hw:0<w/\w<100:=by
  rcases(show v=0\/v=1\/v=2 by omega) with rfl|rfl|rfl<;>decide
 obtain⟨a2,c,x4,x5,hc,hl,e2⟩:=Q3 b n w hw.1 hw.2 n 1 a1 [] none none (by omega) ⟨by simp,by simp⟩ (by simp;omega)
 have r1:ES (gk (fC (.int 1))) (gk (gz js (gh 1) (gk (fC (.int 1))))) [stt a1 b,some (.int n,false),some (.int w,false),lsi [],none,none]=some (((List.range' 1 n).map fun(k:Nat)=>D.int (k:Int)),[stt a1 b,some (.int n,false),some (.int w,false),lsi [],none,none]):=by
  rw[MI (o1:= .val (.int 1,false)) (o2:= .val (.int ((n:Int)+1),false)) (i:=1) (j:=(n:Int)+1) rfl rfl rfl rfl (by omega) (by omega)];rw[show((n:Int)+1-1).toNat=n by omega]
  congr 2
  unfold gY;rw[List.range'_eq_map_range,lj];apply pB;intro k _;simp
 have pre: ∀g,(gy (ic 2 (gz gIx (gk (ky [(fC (.int 3)),(fC (.int 4)),(fC (.int 6))])) (gk (gA gD [(gh 0),(gk (fC (.int 3)))])))) (gy (ic 3 (ky [])) (gy (mV (ES (gk (fC (.int 1))) (gk (gz js (gh 1) (gk (fC (.int 1)))))) (gq 4) fbC) g))) [stt a b,some (.int n,false),none,none,none,none]=g [stt a2 b,some (.int n,false),some (.int w,false),lsi c,x4,x5]:=by
  intro g;refine(gx (δ1:=[stt a1 b,some (.int n,false),some (.int w,false),none,none,none]) ?_).trans ?_
  ·refine iB (i:=2) (δ1:=[stt a1 b,some (.int n,false),none,none,none,none]) (il (o1:= .val (.lst (wL.map .int),true)) (o2:= .val (.int v,false)) (gF (δ1:=[stt a b,some (.int n,false),none,none,none,none]) (by simp[wL,iu])) (gF (e1 _ [some (.int n,false),none,none,none,none] _ rfl rfl)) rfl rfl (OX v0 (by simpa[wL] using v1))) (show 2<6 by decide)
  refine(gx (δ1:=[stt a1 b,some (.int n,false),some (.int w,false),lsi [],none,none]) (by simp[lsi,iu])).trans ?_;exact gx ((kT r1).trans e2)
 by_cases hn:c=[]
 ·subst hn;obtain⟨s,a3,s0,s1,e3⟩:=kH a2 b 2 (by omega) (by omega);obtain⟨i,a4,i0,i1,e4⟩:=kH a3 b n (by omega) (by omega);refine⟨a4,[if s=0 then 1+i else -(1+i)],?_,?_⟩
  ·refine⟨by simp,by simp,fun x hx=>?_⟩;simp at hx;subst hx;split
   ·rw[Fw (by omega)];omega
   ·rw[show -(1+i)= -(1+i) from rfl,Li (by omega)];omega
  ·refine jI (δ:=[stt a4 b,some (.int n,false),some (.int w,false),lsi [if s=0 then 1+i else -(1+i)],x4,x5]) ⟨rfl,by decide,rfl⟩ ((pre _).trans ?_)
   have hm: ∀q,gIx (.lst [.int 1,.int (-1)]) (.int s)=some q->pk q.1 (.int (1+i))=some (.int (if s=0 then 1+i else -(1+i)),false):=by
    intro q hq;have k1:CMul 1 (1+i):=by unfold CMul;omega
    have k2:CMul (-1) (1+i):=by unfold CMul;omega
    rcases(show s=0\/s=1 by omega) with rfl|rfl
    ·cases hq;simp[pk,gI,k1]
    ·cases hq;simp[pk,gI,k2]
   have hs:gIx (.lst [.int 1,.int (-1)]) (.int s)=some (.int (if s=0 then 1 else -1),false):=by
    rcases(show s=0\/s=1 by omega) with rfl|rfl<;>rfl
   refine(gx ((tV (δ1:=[stt a2 b,some (.int n,false),some (.int w,false),lsi [],x4,x5]) (mB (il (o1:= .slot 3) (o2:= .val (.lst [],true)) (δ2:=[stt a2 b,some (.int n,false),some (.int w,false),lsi [],x4,x5]) rfl (gF (by simp[iu])) rfl rfl (zC [] [])))).trans (sQ (r:=(.int (if s=0 then 1+i else -(1+i)),false)) (δ1:=[stt a4 b,some (.int n,false),some (.int w,false),lsi [],x4,x5]) (l0:=[]) (l:=[]) rfl ?_ rfl (by simp)))).trans ?_
   ·refine il (δ1:=[stt a3 b,some (.int n,false),some (.int w,false),lsi [],x4,x5]) (gF (il (δ1:=[stt a2 b,some (.int n,false),some (.int w,false),lsi [],x4,x5]) (o1:= .val (.lst [.int 1,.int (-1)],true)) (gF (by simp[iu])) (gF (e3 _ _ _ rfl rfl)) rfl rfl hs)) (gF (il (o1:= .val (.int 1,false)) rfl (gF (e4 _ _ (.slot 1) rfl rfl)) rfl rfl rfl)) rfl rfl (hm _ hs)
   ·exact iM (jP (iZ (os:=[.slot 3]) rfl rfl rfl))
 ·refine⟨a2,c,⟨hn,hc.1,fun s hs=>by have:=hc.2 s hs;omega⟩,?_⟩;refine jI (δ:=[stt a2 b,some (.int n,false),some (.int w,false),lsi c,x4,x5]) ⟨rfl,by decide,rfl⟩ ((pre _).trans ?_);refine(gx ((qa (δ1:=[stt a2 b,some (.int n,false),some (.int w,false),lsi c,x4,x5]) (mB (o:=false) (il (o1:= .slot 3) (o2:= .val (.lst [],true)) (δ2:=[stt a2 b,some (.int n,false),some (.int w,false),lsi c,x4,x5]) rfl (gF (by simp[iu])) rfl rfl ((zC c []).trans (by rw[mx hn]))))).trans rfl)).trans ?_;exact iM (jP (iZ (os:=[.slot 3]) rfl rfl rfl))
theorem xM{α:Type}[BEq α][LawfulBEq α]: ∀(l m:List α),l.Nodup->(∀x∈l,x∈m)->l.length<=m.length
 |[],m,_,_=>lr _
 |x::l,m,nd,hs=>by
  rw[IA] at nd;have hx:=hs x iR;have hp:=List.perm_cons_erase hx
  have:=xM l (m.erase x) nd.2 (fun y hy=>by
   have hy2:=hs y (iT _ hy);have q9:y≠x:=fun e=>nd.1 (e▸hy);exact(Ib q9).mpr hy2)
  have h2:=hp.length_eq;simp only[jX] at h2 ⊢;omega
theorem Qr{l:gU}(h:l.Pairwise (· < ·)):l.Nodup:=h.imp fun h=>by omega
theorem ClOk.len{n:Nat}{c:gU}(h:ClOk n c):c.length<=n:=by
 have:=xM (c.map ab) (st n) (Qr h.2.1) (fun x hx=>by
  obtain⟨s,hs,rfl⟩:=oA.mp hx;exact PC.mpr (h.2.2 s hs))
 simpa[st] using this
def TOk(n:Nat)(t:gU):Prop:=t.length=n/\ ∀x∈t,1<=ab x/\ab x<=n
theorem mp0:gIx (.lst [.int (-1),.int 1]) (.int 0)=some (.int (-1),false):=rfl
theorem mp1:gIx (.lst [.int (-1),.int 1]) (.int 1)=some (.int 1,false):=rfl
theorem QK(u:gU)(s:Int)(h0:s≠0)(h1: -(u.length:Int)<=s)(h2:s<=u.length):
  jT [enc u,(.int s,false)]=some ((.int (led u s),false),[some (enc u),some (.int s,false)]):=by
 simp only[jT,ma];by_cases h:0<s
 ·have:=ixi (t:=u) (v:=s-1) (by omega) (by omega);have e0: ¬s<0:=by omega
  simp only[evF];simp[h,e0,led,this,ip,iu,mp1,SV]
 ·have:=ixi (t:=u) (v:= -s-1) (by omega) (by omega);have e0:s<0:=by omega
  simp only[evF];simp[h,e0,led,this,ip,iu,mp0,SU]
theorem HF(i:Int):ab (-i)=ab i:=by unfold ab;split<;>split<;>omega
theorem vo{l:gU}{k:Nat}(h:k<l.length):l.getD k 0∈l:=by
 rw[wA,iO h];exact jL h
theorem OS{n:Nat}{t:gU}(ht:TOk n t){s:Int}(h1:1<=ab s)(h2:ab s<=n):1<=ab (led t s)/\ab (led t s)<=n:=by
 unfold led;unfold ab at h1 h2;have hl:=ht.1;split
 ·rename_i h;rw[gv (by omega)] at h1 h2;exact ht.2 _ (vo (by omega))
 ·rename_i h;rw[HF];split at h1
  ·rw[gu (by assumption)] at h2;exact ht.2 _ (vo (by omega))
  ·omega
def dD(ws:gU):D:= .oth .dct (ws.map fun w=> .int (ab w)) (ws.map .int)
def AY(ws:gU)(w:Int):List Int:=if ab w∈ws.map ab then ws.map fun x=>if ab x=ab w then w else x else ws++[w]
theorem La(w:Int): ∀ws:List Int,((ws.map fun w=>D.int (ab w)).any (D.eqb · (.int (ab w))))=decide (ab w∈ws.map ab)
 |[]=>by simp
 |x::ws=>by
  simp only[iQ,uU,La w ws,D.eqb,jg];by_cases h:ab x=ab w
  ·simp[h]
  ·have: ¬ab w=ab x:=fun e=>h e.symm;simp[h,this]
theorem FY(w:Int): ∀ws:List Int,qc (ws.map fun w=>D.int (ab w)) (ws.map .int) (.int (ab w)) (.int w)=(ws.map fun x=>if ab x=ab w then w else x).map .int
 |[]=>by simp[qc]
 |x::ws=>by
  simp only[iQ,qc,FY w ws,D.eqb];by_cases h:ab x=ab w<;>simp[h]
theorem Of(ws:gU)(w:Int):D.oth .dct (qU (ws.map fun w=> .int (ab w)) (ws.map .int) (.int (ab w)) (.int w)).1 (qU (ws.map fun w=> .int (ab w)) (ws.map .int) (.int (ab w)) (.int w)).2=dD (AY ws w):=by
 unfold qU AY dD;rw[La];by_cases h:ab w∈ws.map ab
 ·rw[gu (by simpa using h),gu h,FY]
  congr 1
  show(ws.map fun w=>D.int (ab w))=List.map (fun w=>D.int (ab w)) (ws.map fun x=>if ab x=ab w then w else x);rw[lj];apply pB;intro x _;simp only[Function.comp];split
  ·rename_i e;rw[e]
  ·rfl
 ·rw[gv (by simpa using h),gv h];simp
def DW(n:Nat)(ws:gU):Prop:=(ws.map ab).Nodup/\ ∀w∈ws,1<=ab w/\ab w<=n
theorem DW.put(h:DW n ws)(h1:1<=ab w/\ab w<=n):DW n (AY ws w):=by
 unfold AY;split
 ·rename_i hm;refine⟨?_,fun x hx=>?_⟩
  ·have:((ws.map fun x=>if ab x=ab w then w else x).map ab)=ws.map ab:=by
    rw[lj];apply pB;intro x _;simp only[Function.comp];split
    ·rename_i e;rw[e]
    ·rfl
   rw[this];exact h.1
  ·obtain⟨y,hy,rfl⟩:=oA.mp hx;split
   ·exact h1
   ·exact h.2 y hy
 ·rename_i hm;refine⟨?_,fun x hx=>?_⟩
  ·rw[oE,Dt];refine⟨h.1,by simp,fun x hx y hy e=>?_⟩;simp at hy;subst hy;subst e;exact hm hx
  ·rcases mC.mp hx with hx|hx
   ·exact h.2 x hx
   ·simp at hx;subst hx;exact h1
theorem L4(ws:gU)(w:Int):AY ws w≠[]:=by
 unfold AY;split
 ·rename_i h
  cases ws with
  |nil=>simp at h
  |cons=>simp
 ·simp
theorem DW.len(h:DW n ws):ws.length<=n:=by
 have:=xM (ws.map ab) (st n) h.1 (fun x hx=>by
  obtain⟨s,hs,rfl⟩:=oA.mp hx;exact PC.mpr (h.2 s hs))
 simpa[st] using this
theorem Ba(k:Int): ∀ws:List Int,k∈ws.map ab-> ∃w∈ws,ab w=k/\lx (ws.map fun w=>D.int (ab w)) (ws.map .int) (.int k)=some (.int w)
 |[],h=>by simp at h
 |x::ws,h=>by
  simp only[iQ,lx,D.eqb];by_cases e:ab x=k
  ·exact⟨x,by simp,e,by simp[e]⟩
  ·have:k∈ws.map ab:=by
    simp only[iQ,jg] at h;rcases h with h|h
    ·exact absurd h.symm e
    ·exact h
   obtain⟨w,hw,h1,h2⟩:=Ba k ws this;exact⟨w,by simp[hw],h1,by simp[e,h2]⟩
theorem CJ(ws:gU)(k:Int):vQ (ws.map fun w=>D.int (ab w)) (.int k)=true:=by simp[vQ,sM]
abbrev fbL:FS:=(gy (ic 4 (gA jT [(gh 0),(gh 3)])) (gy (Ce 2 (ir 4) (gk (gG (g1 sN) [(gh 4)]))) gO))
theorem Pe{n:Nat}{t:gU}(ht:TOk n t)(hn:n<=5){s:Int}(h1:1<=ab s/\ab s<=n){ws:gU}(hw:DW n ws)(c1 x4:Sl):fbL [some (enc t),c1,some (dD ws,true),some (.int s,false),x4]=some (.nx [some (enc t),c1,some (dD (AY ws (led t s)),true),some (.int s,false),some (.int (led t s),false)]):=by
 have hl:=ht.1
 have h0:s≠0/\ -(t.length:Int)<=s/\s<=t.length:=by
  have:=h1;unfold ab at this;split at this<;>omega
 refine(gx (δ1:=[some (enc t),c1,some (dD ws,true),some (.int s,false),some (.int (led t s),false)]) ?_).trans ?_
 ·exact iB (i:=4) (δ1:=[some (enc t),c1,some (dD ws,true),some (.int s,false),x4]) (hX (δ1:=[some (enc t),c1,some (dD ws,true),some (.int s,false),x4]) (os:=[.slot 0,.slot 3]) (args:=[enc t,(.int s,false)]) rfl rfl jV (QK t s h0.1 h0.2.1 h0.2.2)) (show 4<5 by decide)
 ·refine(gx (δ1:=[some (enc t),c1,some (dD (AY ws (led t s)),true),some (.int s,false),some (.int (led t s),false)]) ?_).trans rfl;have e1:ir 4 [some (enc t),c1,some (dD ws,true),some (.int s,false),some (.int (led t s),false)]=some ((.int (led t s),false),[some (enc t),c1,some (dD ws,true),some (.int s,false),some (.int (led t s),false)]):=rfl;have e2:gk (gG (g1 sN) [(gh 4)]) [some (enc t),c1,some (dD ws,true),some (.int s,false),some (.int (led t s),false)]=some (.val (.int (ab (led t s)),false),[some (enc t),c1,some (dD ws,true),some (.int s,false),some (.int (led t s),false)]):=rfl;unfold Ce;rw[e1];simp only[iI,wB,Af];rw[e2];simp only[iI,Ep,wB,Af,dD];rw[gu ⟨CJ ws _,by have:=hw.len;simp;omega⟩,Of];rfl
theorem Nk{n:Nat}{t:gU}(ht:TOk n t)(hn:n<=5)(c1:Sl): ∀(c ws:gU) (x3 x4:Sl),(∀s∈c,1<=ab s/\ab s<=n)->DW n ws-> ∃du eP v8,DW n du/\(ws≠[]\/c≠[]->du≠[])/\qm (gq 3) fbL (c.map .int) [some (enc t),c1,some (dD ws,true),x3,x4]=some (.nx [some (enc t),c1,some (dD du,true),eP,v8])
 |[],ws,x3,x4,_,hw=>⟨ws,x3,x4,hw,fun h=>h.elim id fun h=>absurd rfl h,rfl⟩
 |s::c,ws,x3,x4,h,hw=>by
  have hs:=h s iR;obtain⟨du,eP,v8,h1,h2,e⟩:=Nk ht hn c1 c (AY ws (led t s)) (some (.int s,false)) (some (.int (led t s),false)) (fun x hx=>h x (iT _ hx)) (hw.put (OS ht hs.1 hs.2));refine⟨du,eP,v8,h1,fun _=>h2 (.inl (L4 _ _)),?_⟩;rw[iQ];unfold qm;rw[show gq 3 (.int s) [some (enc t),c1,some (dD ws,true),x3,x4]=some [some (enc t),c1,some (dD ws,true),some (.int s,false),x4] from rfl];simp only[iI];rw[Pe ht hn hs hw];simp only[iI];exact e
theorem NI{l k:gU}(nd:l.Nodup)(h:lS ltT (l.map .int)=k.map .int):k.Perm l/\k.Pairwise (· < ·):=by
 have hp:=jm ltT (l.map D.int);rw[h] at hp;have cV:=(hp.map fun d=>match d with|D.int i=>i|_=>0)
 simp only[lj] at cV;have e:((fun d=>match d with|D.int i=>i|_=>0)∘D.int)=id:=rfl;rw[e,rQ,rQ] at cV;refine⟨cV,?_⟩;have hs:=nY (l.map D.int);rw[h,List.pairwise_map] at hs;have nd2:=cV.symm.nodup nd;have:=hs.and nd2;refine this.imp fun {a b} h=>?_;have h1:=h.1;rw[lB] at h1;simp only[cT] at h1;by_cases q:b<a
 ·simp[q] at h1
 ·have:=h.2;omega
theorem zw(ws:gU): ∀k:List Int,(∀x∈k,x∈ws.map ab)-> ∃c:List Int,c.map ab=k/\(∀w∈c,w∈ws)/\k.map (fun x=>(lx (ws.map fun w=>D.int (ab w)) (ws.map .int) (.int x)).getD .non)=c.map .int
 |[],_=>⟨[],rfl,by simp,rfl⟩
 |x::k,h=>by
  obtain⟨w,hw,h1,h2⟩:=Ba x ws (h x iR);obtain⟨c,e1,e2,e3⟩:=zw ws k fun y hy=>h y (iT _ hy);exact⟨w::c,by simp[h1,e1],by simp[hw];exact e2,by simp[h2,e3]⟩
theorem yR{n:Nat}(hn:n<=5){t c:gU}(ht:TOk n t)(hc:ClOk n c): ∃c',ClOk n c'/\jy [enc t,enc c]=some (enc c',[some (enc t),some (enc c)]):=by
 obtain⟨ws,x3,x4,hw,q9,e⟩:=Nk ht hn (some (enc c)) c [] none none hc.2.2 ⟨by simp,by simp⟩;have q9:=q9 (.inr hc.1);have hlen:=hw.len;obtain⟨k,hk⟩:=Bf (jm ltT ((ws.map ab).map D.int));obtain⟨kp,kl⟩:=NI hw.1 hk;obtain⟨c',e1,e2,e3⟩:=zw ws k fun x hx=>kp.mem_iff.mp hx;refine⟨c',⟨?_,by rw[e1];exact kl,fun s hs=>hw.2 s (e2 s hs)⟩,?_⟩
 ·intro z;have:k=[]:=by rw[<-e1,z];rfl
  have h2:=kp.length_eq;rw[this] at h2;simp at h2;exact q9 (Py.mp h2.symm)
 ·have klen:k.length<=5:=by have:=kp.length_eq;simp at this;omega
  have s1:jw (dD ws)=some (.lst (k.map .int),true):=by
   unfold jw dD;have q:((ws.map fun w=>D.int (ab w)).all fun k=>(sM k).isSome)=true:=by simp[sM]
   have q2:(ws.map fun w=>D.int (ab w))≠[]:=by simpa using q9
   simp only;rw[gu ⟨q,q2⟩];have em:(ws.map fun w=>D.int (ab w))=(ws.map ab).map D.int:=by rw[lj];rfl
   unfold jv;rw[em,gu ⟨B6 _,by rw[iu];simp;omega⟩,hk]
  obtain⟨x',b1⟩:=yq (gz CT (gh 0) (gh 1)) (fun d=>match d with| .int x=>(lx (ws.map fun w=>D.int (ab w)) (ws.map .int) (.int x)).getD .non|_=> .non) [some (dD ws,true)] (k.map .int) [] none (by
    intro d hd;obtain⟨x,hx,rfl⟩:=oA.mp hd;obtain⟨w,hw',h1,h2⟩:=Ba x ws (kp.mem_iff.mp hx);refine⟨false,il (o1:= .slot 0) (o2:= .slot 1) rfl rfl rfl rfl ?_⟩;simp only[CT,dD];rw[gu (CJ ws x),h2];rfl) (by rw[iu];simp;omega)
  have m1:((k.map D.int).map fun d=>match d with| .int x=>(lx (ws.map fun w=>D.int (ab w)) (ws.map .int) (.int x)).getD .non|_=> .non)=c'.map .int:=by
   rw[lj,<-e3];rfl
  rw[m1] at b1;simp only[List.cons_append,rf,jX,rl,Nat.zero_add] at b1;refine jI (δ:=[some (enc t),some (enc c),some (dD ws,true),x3,x4]) ⟨rfl,by decide,rfl⟩ ?_;refine(gx (δ1:=[some (enc t),some (enc c),some (dD [],true),none,none]) rfl).trans ?_;refine(gx ((kT (ds:=c.map .int) (δ1:=[some (enc t),some (enc c),some (dD [],true),none,none]) rfl).trans e)).trans ?_;refine iM (jP (iZ (os:=[.val (.lst (c'.map .int),true)]) (oQ (gF ?_)) rfl rfl));have i1:gW (gG (g1 jw) [(gh 2)]) [some (enc t),some (enc c),some (dD ws,true),x3,x4]=some (k.map .int,[some (enc t),some (enc c),some (dD ws,true),x3,x4]):=mO (iZ (os:=[.slot 2]) rfl rfl s1);unfold gX;rw[i1];simp only[iI,iQ,pF];rw[show jo [some (enc t),some (enc c),some (dD ws,true),x3,x4] [.slot 2]=some [(dD ws,true)] from rfl];simp only[iI];rw[gu (show(gR [Opd.slot 2] [(dD ws,true)]).Nodup from(show([2]:List Nat).Nodup by decide))];rw[show(List.map some [(dD ws,true)]++List.replicate 1 none:Dn)=[some (dD ws,true),none] from rfl,b1];rfl
abbrev cD(c:gU):D:= .tup (c.map .int)
theorem Fb(c:gU):D.dep (cD c)=1:=by simp[D.dep,uy]
theorem Gr: ∀cs:List (List Int),D.depL (cs.map cD)<=1
 |[]=>by simp[D.depL]
 |c::cs=>by
  have:=Gr cs;simp only[iQ,D.depL,Fb];omega
theorem Pj(a b:gU):D.eqb (cD a) (cD b)=decide (a=b):=by simp[D.eqb,yh]
theorem Fs(c:gU): ∀cs:List (List Int),(cs.map cD).any (fun d=>D.eqb d (cD c))=decide (c∈cs)
 |[]=>by simp
 |x::cs=>by
  simp only[iQ,uU,Fs c cs,Pj,jg];by_cases h:x=c
  ·simp[h]
  ·have: ¬c=x:=fun e=>h e.symm;simp[h,this]
theorem J9(c:gU)(cs:ja):vp (cD c) (.lst (cs.map cD))=some (.bl (!decide (c∈cs)),false):=by
 have:inD (cD c) (.lst (cs.map cD))=some (decide (c∈cs)):=by
  have hd:=Gr cs;show(if D.depL (cs.map cD)<=50/\(cD c).dep<=50 then some ((cs.map cD).any fun d=>D.eqb d (cD c)) else none)=_;rw[gu ⟨by omega,by rw[Fb];omega⟩,Fs]
 unfold vp;rw[this];rfl
def yD:Nat->List (List Int)
 |0=>[[]]
 |k+1=>yD k++((yD k).map fun c=>c++[((k:Int)+1)])++((yD k).map fun c=>c++[-((k:Int)+1)])
theorem uF: ∀(k:Nat) (c:gU),(c.map ab).Pairwise (· < ·)->(∀s∈c,1<=ab s/\ab s<=k)->c∈yD k
 |0,c,_,h=>by
  cases c with
  |nil=>simp[yD]
  |cons s c=>have:=h s iR;omega
 |k+1,c,hp,h=>by
  simp only[yD,mC,oA];by_cases hn:c=[]
  ·subst hn;exact .inl (.inl (uF k [] (by simp) (by simp)))
  ·have hd:=List.dropLast_concat_getLast hn;generalize c.dropLast=i at hd;generalize c.getLast hn=s at hd;subst hd;rw[oE,lE] at hp;have hs:=h s (by simp);have hi: ∀x∈i,1<=ab x/\ab x<ab s:=fun x hx=>⟨(h x (by simp[hx])).1,hp.2.2 (ab x) (Du hx) (ab s) (by simp)⟩
   by_cases q:ab s<=k
   ·refine .inl (.inl (uF k _ ?_ fun x hx=>?_))
    ·rw[oE,lE];exact hp
    ·rcases mC.mp hx with hx|hx
     ·have:=hi x hx;omega
     ·simp at hx;subst hx;omega
   ·have e:ab s=(k:Int)+1:=by omega
    have hk:=uF k i hp.1 fun x hx=>by have:=hi x hx;omega
    unfold ab at e;split at e
    ·exact .inr ⟨i,hk,by rw[show s= -((k:Int)+1) by omega]⟩
    ·exact .inl (.inr ⟨i,hk,by rw[show s=((k:Int)+1) by omega]⟩)
theorem zY: ∀(k:Nat) (n:Nat),n<=k->(yD n).length<=(yD k).length
 |0,n,h=>by rw[show n=0 by omega];exact hU _
 |k+1,n,h=>by
  by_cases e:n=k+1
  ·subst e;exact hU _
  ·have:=zY k n (by omega);simp only[yD,lP,iX];omega
def CsOk(n:Nat)(cs:ja):Prop:=cs.Nodup/\ ∀c∈cs,ClOk n c
theorem CsOk.len(hn:n<=5)(h:CsOk n cs):cs.length<=243:=by
 have h1:=xM cs (yD n) h.1 fun c hc=>uF n c (h.2 c hc).2.1 (h.2 c hc).2.2;have h2:=zY 5 n hn;have h3:(yD 5).length=243:=by decide
 omega
theorem CsOk.snoc{n:Nat}{cs:ja}{c:gU}(h:CsOk n cs)(hc:ClOk n c)(hm:c∉cs):CsOk n (cs++[c]):=by
 refine⟨?_,fun x hx=>?_⟩
 ·rw[Dt];exact⟨h.1,by simp,fun x hx y hy e=>by simp at hy;subst hy;subst e;exact hm hx⟩
 ·rcases mC.mp hx with hx|hx
  ·exact h.2 x hx
  ·simp at hx;subst hx;exact hc
abbrev lsC(cs:ja):Sl:=some (.lst (cs.map cD),true)
abbrev Pd:FS:=(gy (ic 5 (gA jy [(gh 4),(gk (gz gIx (gh 2) (gh 3)))])) (gy (sIf (fT (gz vp (gh 5) (gh 2))) (gy (lT (jC 2 (ir 5))) gO) gO) gO))
theorem ixc{cs:ja}{i:Nat}(h:i<cs.length):gIx (.lst (cs.map cD)) (.int i)=some (cD (cs.getD i []),false):=by
 have:(i:Int)<cs.length:=by omega
 simp[gIx,atI,ixN,h]
theorem Ht{cs:ja}{i:Nat}(h:i<cs.length):cs.getD i []∈cs:=by
 rw[wA,iO h];exact jL h
theorem ML{n:Nat}(hn:n<=5){t:gU}(ht:TOk n t){cs:ja}(hc:CsOk n cs){i:Nat}(hi:i<cs.length)(c0 c1 x5:Sl): ∃r9 y7,CsOk n r9/\cs.length<=r9.length/\Pd [c0,c1,lsC cs,some (.int i,false),some (enc t),x5]=some (.nx [c0,c1,lsC r9,some (.int i,false),some (enc t),y7]):=by
 obtain⟨c',cN,e⟩:=yR hn ht (hc.2 _ (Ht hi));have hl:=hc.len hn
 have s1: ∀g,gy (ic 5 (gA jy [(gh 4),(gk (gz gIx (gh 2) (gh 3)))])) g [c0,c1,lsC cs,some (.int i,false),some (enc t),x5]=g [c0,c1,lsC cs,some (.int i,false),some (enc t),some (enc c')]:=fun g=>
  gx (iB (i:=5) (δ1:=[c0,c1,lsC cs,some (.int i,false),some (enc t),x5]) (hX (δ1:=[c0,c1,lsC cs,some (.int i,false),some (enc t),x5]) (os:=[.slot 4,.val (enc (cs.getD i []))]) (args:=[enc t,enc (cs.getD i [])]) (sP rfl (gF (il (o1:= .slot 2) (o2:= .slot 3) rfl rfl rfl rfl (ixc hi)))) rfl jV e) (show 5<6 by decide))
 have t1:(fT (gz vp (gh 5) (gh 2))) [c0,c1,lsC cs,some (.int i,false),some (enc t),some (enc c')]=some (!decide (c'∈cs),[c0,c1,lsC cs,some (.int i,false),some (enc t),some (enc c')]):=
  mB (o:=false) (il (o1:= .slot 5) (o2:= .slot 2) rfl rfl rfl rfl (J9 c' cs))
 by_cases h:c'∈cs
 ·refine⟨cs,some (enc c'),hc,hU _,(s1 _).trans ((gx ((qa ?_).trans rfl)).trans rfl)⟩;rw[t1,tE h];rfl
 ·refine⟨cs++[c'],some (enc c'),hc.snoc cN h,by simp,(s1 _).trans ?_⟩;rw[mx h] at t1;refine(gx ((tV t1).trans (sQ (δ1:=[c0,c1,lsC cs,some (.int i,false),some (enc t),some (enc c')]) (r:=enc c') (l0:=cs.map cD) (l:=cs.map cD) rfl rfl rfl (by simp;omega)))).trans ?_;simp[lsC,gO]
theorem Nj{n:Nat}(hn:n<=5)(i:Nat)(c0 c1:Sl): ∀(ts:ja) (cs:ja) (x4 x5:Sl),(∀t∈ts,TOk n t)->CsOk n cs->i<cs.length-> ∃r9 v8 y7,CsOk n r9/\cs.length<=r9.length/\qm (gq 4) Pd (ts.map cD) [c0,c1,lsC cs,some (.int i,false),x4,x5]=some (.nx [c0,c1,lsC r9,some (.int i,false),v8,y7])
 |[],cs,x4,x5,_,hc,hi=>⟨cs,x4,x5,hc,hU _,rfl⟩
 |t::ts,cs,x4,x5,ht,hc,hi=>by
  obtain⟨dW,y5,h1,l1,e1⟩:=ML hn (ht t iR) hc hi c0 c1 x5;obtain⟨r9,v8,y7,h2,l2,e2⟩:=Nj hn i c0 c1 ts dW (some (enc t)) y5 (fun u hu=>ht u (iT _ hu)) h1 (by omega);refine⟨r9,v8,y7,h2,by omega,?_⟩;rw[iQ];unfold qm;rw[show gq 4 (cD t) [c0,c1,lsC cs,some (.int i,false),x4,x5]=some [c0,c1,lsC cs,some (.int i,false),some (enc t),x5] from rfl];simp only[iI];rw[e1];simp only[iI];exact e2
abbrev ftW:FT:=(fT (gz (mI .Lt) (gh 3) (gk (gG (g1 nk) [(gh 2)]))))
abbrev fbW:FS:=(gy (mV (gW (ir 1)) (gq 4) Pd) (gy (ic 3 (gz js (gh 3) (gk (fC (.int 1))))) gO))
theorem Ny{n:Nat}(hn:n<=5)(c0:Sl)(ts:ja)(cv: ∀t∈ts,TOk n t): ∀(m fuel i:Nat) (o:Bool) (cs:ja) (x4 x5:Sl),i+m=243->m<fuel->CsOk n cs-> ∃r9 o' i' v8 y7,CsOk n r9/\cs.length<=r9.length/\nc ftW fbW fuel [c0,some (.lst (ts.map cD),o),lsC cs,some (.int i,false),x4,x5]=some (.nx [c0,some (.lst (ts.map cD),o'),lsC r9,some (.int i',false),v8,y7]):=by
 intro m
 induction m with
 |zero=>
  intro fuel i o cs x4 x5 him hf hc;have hl:=hc.len hn;obtain⟨f,rfl⟩: ∃f,fuel=f+1:=⟨fuel-1,by omega⟩
  refine⟨cs,o,i,x4,x5,hc,hU _,?_⟩;have h: ¬((i:Int)<cs.length):=by omega
  have t1:ftW [c0,some (.lst (ts.map cD),o),lsC cs,some (.int i,false),x4,x5]=some (false,[c0,some (.lst (ts.map cD),o),lsC cs,some (.int i,false),x4,x5]):=
   mB (o:=false) (il (o1:= .slot 3) (o2:= .val (.int cs.length,false)) rfl (gF (iZ (os:=[.slot 2]) rfl rfl (by simp))) rfl rfl (by rw[Qf,mx h]))
  unfold nc;rw[t1];rfl
 |succ m ih=>
  intro fuel i o cs x4 x5 him hf hc;obtain⟨f,rfl⟩: ∃f,fuel=f+1:=⟨fuel-1,by omega⟩
  have t1:ftW [c0,some (.lst (ts.map cD),o),lsC cs,some (.int i,false),x4,x5]=some (decide ((i:Int)<cs.length),[c0,some (.lst (ts.map cD),o),lsC cs,some (.int i,false),x4,x5]):=
   mB (o:=false) (il (o1:= .slot 3) (o2:= .val (.int cs.length,false)) rfl (gF (iZ (os:=[.slot 2]) rfl rfl (by simp))) rfl rfl (by rw[Qf]))
  by_cases h:((i:Int)<cs.length)
  ·rw[tE h] at t1;obtain⟨dW,y4,y5,h1,l1,e1⟩:=Nj hn i c0 (some (.lst (ts.map cD),false)) ts cs x4 x5 cv hc (by omega);obtain⟨r9,o',i',v8,y7,h2,l2,e2⟩:=ih f (i+1) false dW y4 y5 (by omega) (by omega) h1;refine⟨r9,o',i',v8,y7,h2,by omega,?_⟩;unfold nc;rw[t1];simp only[iI,ie]
   have b1:fbW [c0,some (.lst (ts.map cD),o),lsC cs,some (.int i,false),x4,x5]=some (.nx [c0,some (.lst (ts.map cD),false),lsC dW,some (.int (i+1:Nat),false),y4,y5]):=by
    refine(gx ((kT (ds:=ts.map cD) (δ1:=[c0,some (.lst (ts.map cD),false),lsC cs,some (.int i,false),x4,x5]) rfl).trans e1)).trans ?_;refine(gx (iB (i:=3) (δ1:=[c0,some (.lst (ts.map cD),false),lsC dW,some (.int i,false),y4,y5]) (il (o1:= .slot 3) (o2:= .val (.int 1,false)) rfl rfl rfl rfl rfl) (show 3<6 by decide))).trans ?_;simp[gO]
   rw[b1];simp only[iI];exact e2
  ·rw[mx h] at t1;refine⟨cs,o,i,x4,x5,hc,hU _,?_⟩;unfold nc;rw[t1];rfl
theorem Hw{n:Nat}(hn:n<=5){ts cs:ja}(cv: ∀t∈ts,TOk n t)(hc:CsOk n cs)(o:Bool): ∃r9 sl,CsOk n r9/\cs.length<=r9.length/\lM [(.lst (cs.map cD),false),(.lst (ts.map cD),o)]=some ((.lst (r9.map cD),true),[some (.lst (cs.map cD),false),sl]):=by
 obtain⟨r9,o',i',v8,y7,h2,l2,e⟩:=Ny hn (some (.lst (cs.map cD),false)) ts cv 243 Rk 0 o cs none none (by omega) (by decide) hc;refine⟨r9,if o=true then some (.lst (ts.map cD),o') else some (.lst (ts.map cD),o),h2,l2,?_⟩;refine(jI (r:=(.lst (r9.map cD),true)) (δ:=[some (.lst (cs.map cD),false),some (.lst (ts.map cD),o'),none,some (.int i',false),v8,y7]) ⟨rfl,(show 2<=6 by decide),by cases o<;>rfl⟩ ?_).trans ?_
 ·refine(gx (δ1:=[some (.lst (cs.map cD),false),some (.lst (ts.map cD),o),lsC cs,none,none,none]) rfl).trans ?_;refine(gx (δ1:=[some (.lst (cs.map cD),false),some (.lst (ts.map cD),o),lsC cs,some (.int 0,false),none,none]) rfl).trans ?_;exact(gx e).trans (iM rfl)
 ·cases o<;>rfl
def yZ(vs:ja)(c:gU):List (List Int):=if c∈vs then vs else vs++[c]
def dd(cs:ja):List (List Int):=cs.foldl yZ []
theorem MV(vs:ja)(c:gU):qu (vs.map cD) (cD c)=(yZ vs c).map cD:=by
 unfold qu yZ;rw[show(vs.map cD).any (D.eqb · (cD c))=decide (c∈vs) from Fs c vs];by_cases h:c∈vs<;>simp[h]
theorem C3: ∀(cs vs:ja),(cs.map cD).foldl qu (vs.map cD)=(cs.foldl yZ vs).map cD
 |[],vs=>rfl
 |c::cs,vs=>by rw[iQ,rV,rV,MV,C3 cs]
theorem Lf:x∈yZ vs c↔x∈vs\/x=c:=by
 unfold yZ;by_cases h:c∈vs
 ·rw[gu h];constructor
  ·exact .inl
  ·rintro(h1|rfl)
   ·exact h1
   ·exact h
 ·rw[gv h];simp
theorem zE: ∀(cs vs:ja) (x:gU),x∈cs.foldl yZ vs↔x∈vs\/x∈cs
 |[],vs,x=>by simp
 |c::cs,vs,x=>by rw[rV,zE cs,Lf,jg,or_assoc]
theorem MW(h:vs.Nodup):(yZ vs c).Nodup:=by
 unfold yZ;split
 ·exact h
 ·rename_i hm;rw[Dt];exact⟨h,by simp,fun x hx y hy e=>by simp at hy;subst hy;subst e;exact hm hx⟩
theorem CW: ∀(cs vs:ja),vs.Nodup->(cs.foldl yZ vs).Nodup
 |[],vs,h=>h
 |c::cs,vs,h=>by rw[rV];exact CW cs _ (MW h)
theorem xt: ∀l:List Int,D.prL (l.map .int)=true
 |[]=>by simp[D.prL]
 |x::l=>by simp[D.prL,D.pr,xt l]
theorem OQ(c:gU):okS (cD c)=true:=by simp[okS,xt,uy]
theorem J6(cs:ja):(cs.map cD).all okS=true:=by
 rw[nL];intro d hd;obtain⟨c,_,rfl⟩:=oA.mp hd;exact OQ c
theorem zM(op:CmpOp): ∀a b:List Int,(oT op (a.map .int) (b.map .int)).isSome=true
 |[],b=>by simp[oT]
 |x::a,[]=>by simp[oT]
 |x::a,y::b=>by
  simp only[iQ,oT];split
  ·exact zM op a b
  ·simp[lh]
theorem GU(cs:ja)(h: ∀c∈cs,c≠[]):lY (cs.map cD)=true:=by
 have hk: ∀c:List Int,c≠[]->jH (cD c)=some 1:=fun c hc=>by
  cases c with
  |nil=>exact absurd rfl hc
  |cons=>rfl
 unfold lY
 cases cs with
 |nil=>rfl
 |cons c cs=>
  rw[uM];right;simp only[iQ];rw[kQ,kQ,hk c (h c iR)];refine⟨⟨rfl,?_⟩,?_⟩
  ·rw[nL];intro d hd;rw[<-iQ (f:=cD)] at hd;obtain⟨x,hx,rfl⟩:=oA.mp hd;rw[hk x (h x hx),Fb];simp[D.pr,xt]
  ·rw[nL];intro d hd;rw[nL];intro e he;rw[<-iQ (f:=cD)] at hd he;obtain⟨x,hx,rfl⟩:=oA.mp hd;obtain⟨y,hy,rfl⟩:=oA.mp he;simp only[lh];exact zM _ _ _
def unC:D->List Int
 | .tup l=>l.map iOf
 |_=>[]
theorem AL(c:gU):unC (cD c)=c:=by
 simp only[unC,lj];rw[pB (g:=id),rQ];intro x _;rfl
theorem Fd(h:m.Perm (cs.map cD)): ∃ks:List (List Int),m=ks.map cD/\ks.Perm cs:=by
 refine⟨m.map unC,?_,?_⟩
 ·rw[lj]
  symm
  rw[pB (g:=id),rQ];intro d hd;obtain⟨c,_,rfl⟩:=oA.mp (h.mem_iff.mp hd);simp only[Function.comp,AL];rfl
 ·have:=h.map unC;rw[lj] at this;rw[show List.map (unC∘cD) cs=List.map id cs from pB (fun c _=>AL c),rQ] at this;exact this
def SrtC(ks:ja):Prop:=ks.Pairwise fun a b=>ltT (cD b) (cD a)=false
theorem P9{n:Nat}{cs:ja}(hc: ∀c∈cs,ClOk n c)(hl:cs.length<500): ∃vs ks:List (List Int),CsOk n ks/\SrtC ks/\(∀c,c∈ks↔c∈cs)/\ks.length<=cs.length/\EX (.lst (cs.map cD))=some (.oth .set [] (vs.map cD),true)/\jw (.oth .set [] (vs.map cD))=some (.lst (ks.map cD),true):=by
 have hm: ∀c,c∈dd cs↔c∈cs:=fun c=>by unfold dd;rw[zE];simp
 have hnd:(dd cs).Nodup:=CW cs [] (by simp);obtain⟨ks,e,hp⟩:=Fd (jm ltT ((dd cs).map cD));have hlen:(dd cs).length<=cs.length:=xM _ _ hnd fun c h=>(hm c).mp h;refine⟨dd cs,ks,⟨hp.symm.nodup hnd,fun c h=>hc c ((hm c).mp (hp.mem_iff.mp h))⟩,?_,fun c=>hp.mem_iff.trans (hm c),by rw[hp.length_eq];exact hlen,?_,?_⟩
 ·have:=nY ((dd cs).map cD);rw[e,List.pairwise_map] at this;exact this
 ·show(if(cs.map cD).all okS=true/\(cs.map cD).length<500 then some (D.oth .set [] (oS (cs.map cD)),true) else none)=_;rw[gu ⟨J6 cs,by simpa using hl⟩];unfold oS;rw[show([]:List D)=([]:List (List Int)).map cD from rfl,C3];rfl
 ·show(if((dd cs).map cD).all okS=true then jv ((dd cs).map cD) else none)=_;rw[gu (J6 _)];unfold jv;rw[gu ⟨GU _ fun c h=>(hc c ((hm c).mp h)).1,by rw[iu];simp;omega⟩,e]
theorem zp: ∀(k:Nat) (r f t:gU),t∈mW k r f-> ∀x∈t,x∈f\/ ∃y∈r,x=y*1\/x=y* -1
 |0,r,f,t,h,x,hx=>by simp[mW] at h;subst h;exact .inl hx
 |k+1,r,f,t,h,x,hx=>by
  simp only[mW,List.mem_flatMap,mC,uH] at h;obtain⟨v,hv,h⟩:=h
  have key: ∀s:Int,(s=1\/s= -1)->t∈mW k (r.eraseIdx v) (f++[r.getD v 0*s])->x∈f\/ ∃y∈r,x=y*1\/x=y* -1:=by
   intro s hs h;rcases zp k _ _ t h x hx with h1|⟨y,hy,h1⟩
   ·rcases mC.mp h1 with h1|h1
    ·exact .inl h1
    ·simp at h1;refine .inr ⟨r.getD v 0,vo hv,?_⟩;rw[wA];rcases hs with rfl|rfl<;>simp[h1]
   ·exact .inr ⟨y,List.mem_of_mem_eraseIdx hy,h1⟩
  rcases h with h|h
  ·exact key 1 (.inl rfl) h
  ·exact key (-1) (.inr rfl) h
theorem IQ{n:Nat}{t:gU}(h:t∈mW n (st n) []):TOk n t:=by
 refine⟨IM h,fun x hx=>?_⟩;rcases zp n _ _ t h x hx with h1|⟨y,hy,h1⟩
 ·simp at h1
 ·have:=PC.mp hy;unfold ab;rcases h1 with rfl|rfl<;>split<;>omega
theorem TOk.abs(h:TOk n t):TOk n (t.map ab):=by
 refine⟨by simpa using h.1,fun x hx=>?_⟩;obtain⟨y,hy,rfl⟩:=oA.mp hx;have:=h.2 y hy;rw[Fw (i:=ab y) (by omega)];exact this
theorem Dh(ev:EvF)(P:List Int->Prop)(b:Bool)(n:Int)(h: ∀a,∃a' c,P c/\ev [(.lst [.int a,.bl b],true),(.int n,false)]=some (enc c,[stt a' b,some (.int n,false)])): ∀(ds:List D) (acc:ja) (a:Int) (x:Sl),(∀c∈acc,P c)->acc.length+ds.length<=1000->
  ∃(a':Int) (i6:ja) (x':Sl),(∀c∈i6,P c)/\i6.length=acc.length+ds.length/\jM (gq 2) hC (gZ (gA ev [gh 0,gh 1])) ds (acc.map cD) [stt a b,some (.int n,false),x]=some (i6.map cD,[stt a' b,some (.int n,false),x'])
 |[],acc,a,x,hp,_=>⟨a,acc,x,hp,by simp,rfl⟩
 |d::ds,acc,a,x,hp,hl=>by
  obtain⟨a1,z,hz,e1⟩:=h a
  obtain⟨a',i6,x',h',fB,e⟩:=Dh ev P b n h ds (acc++[z]) a1 (some (d,false)) (fun y hy=>by
   rcases mC.mp hy with hy|hy
   ·exact hp y hy
   ·simp at hy;subst hy;exact hz) (by simp at hl ⊢;omega)
  refine⟨a',i6,x',h',by simp at fB ⊢;omega,?_⟩;have hs:(acc.map cD).length<sizeLine:=by rw[iu];simp at hl ⊢;omega
  have e2:gA ev [gh 0,gh 1] [stt a b,some (.int n,false),some (d,false)]=some (enc z,[stt a1 b,some (.int n,false),some (d,false)]):=
   hX (δ1:=[stt a b,some (.int n,false),some (d,false)]) (os:=[.slot 0,.slot 1]) (args:=[(.lst [.int a,.bl b],true),(.int n,false)]) rfl rfl (show([0]:List Nat).Nodup by decide) e1
  rw[jM,show gq 2 d [stt a b,some (.int n,false),x]=some [stt a b,some (.int n,false),some (d,false)] from rfl];simp only[iI,tX,ie,tY];rw[e2];simp only[iI];rw[gu hs];rw[oE] at e;exact e
theorem yk(ev:EvF)(P:List Int->Prop)(b:Bool)(n:Int)(h: ∀a,∃a' c,P c/\ev [(.lst [.int a,.bl b],true),(.int n,false)]=some (enc c,[stt a' b,some (.int n,false)]))(ds:List D)(hd:ds.length<=1000)(a:Int)(c1 c2:Sl)(gJ:Dn)(fi:FIt)(hfi:fi (stt a b::c1::c2::some (.int n,false)::gJ)=some (ds,stt a b::c1::c2::some (.int n,false)::gJ)):
  ∃(a':Int) (cs:ja),(∀c∈cs,P c)/\cs.length=ds.length/\gX [0,3] 1 fi (gq 2) hC (gZ (gA ev [gh 0,gh 1])) (stt a b::c1::c2::some (.int n,false)::gJ)=some ((.lst (cs.map cD),true),stt a' b::c1::c2::some (.int n,false)::gJ):=by
 obtain⟨a',cs,x',h1,h2,e⟩:=Dh ev P b n h ds [] a none (by simp) (by simpa using hd);refine⟨a',cs,h1,by simpa using h2,?_⟩;unfold gX;rw[hfi];simp only[iI,iQ,pF];rw[show jo (stt a b::c1::c2::some (.int n,false)::gJ) [.slot 0,.slot 3]=some [(.lst [.int a,.bl b],true),(.int n,false)] from rfl];simp only[iI];rw[gu (show(gR [Opd.slot 0,Opd.slot 3] [(D.lst [.int a,.bl b],true),(.int n,false)]).Nodup from(show([0]:List Nat).Nodup by decide))];rw[show(List.map some [(D.lst [.int a,.bl b],true),(D.int n,false)]++List.replicate 1 none:Dn)=[stt a b,some (.int n,false),none] from rfl];rw[show([]:List D)=([]:List (List Int)).map cD from rfl,e];rfl
theorem KR(ks:ja)(v:Nat): ∃m,m<=v/\PX.nM (ks.map cD) none (some (v:Int))=(ks.take m).map cD:=by
 refine⟨min v ks.length,by omega,?_⟩;unfold PX.nM;rw[HT.PD,HT.Qd,List.map_take,iX,wD,Nat.sub_zero]
theorem SrtC.take(h:SrtC ks)(m:Nat):SrtC (ks.take m):=List.Pairwise.sublist (mv m ks) h
theorem CsOk.take(h:CsOk n ks)(m:Nat):CsOk n (ks.take m):=⟨List.Nodup.sublist (mv m ks) h.1,fun c hc=>h.2 c (lO hc)⟩
theorem Lh(t:gU)(ht:t.length<=100):gG (g1 lC) [(gk (gX [] 1 (gW (ir 0)) (gq 0) hC (gZ (gG (g1 sN) [(gh 0)]))))] [some (cD t,false)]=some ((cD (t.map ab),false),[some (cD t,false)]):=by
 obtain⟨x',e⟩:=yq (gG (g1 sN) [gh 0]) (fun d=> .int (ab (iOf d))) [] (t.map .int) [] none (by
  intro d hd;obtain⟨i,_,rfl⟩:=oA.mp hd;exact⟨false,rfl⟩) (by rw[iu];simp;omega)
 simp only[List.cons_append,rf,jX,rl,lj] at e;refine iZ (os:=[.val (.lst ((t.map ab).map .int),true)]) (oQ (gF ?_)) rfl rfl;unfold gX;rw[show gW (ir 0) [some (cD t,false)]=some (t.map .int,[some (cD t,false)]) from rfl];simp only[iI,pF,qG,gR,jV,ie,rf,List.replicate_succ,List.replicate_zero];rw[e,lj];rfl
theorem Rc{f:F}{fi:FIt}{δ δ1:Dn}{ds rs:List D}{x':Sl}(h1:fi δ=some (ds,δ1))(h2:jM (gq 0) hC (gZ f) ds [] [none]=some (rs,[x'])):gX [] 1 fi (gq 0) hC (gZ f) δ=some ((.lst rs,true),δ1):=by
 unfold gX;rw[h1];simp only[iI,pF,qG,gR,jV,ie,rf,List.replicate_succ,List.replicate_zero];rw[h2];rfl
theorem HE(ts:ja)(hl:ts.length<=1000)(ht: ∀t∈ts,t.length<=100)(c0 c1 c2 c3 c4 c5 c6:Sl)(o:Bool):gX [] 1 (gW (ir 7)) (gq 0) hC (gZ (gG (g1 lC) [(gk (gX [] 1 (gW (ir 0)) (gq 0) hC (gZ (gG (g1 sN) [(gh 0)]))))])) [c0,c1,c2,c3,c4,c5,c6,some (.lst (ts.map cD),o)]=some ((.lst ((ts.map (List.map ab)).map cD),true),[c0,c1,c2,c3,c4,c5,c6,some (.lst (ts.map cD),false)]):=by
 obtain⟨x',e⟩:=yq (gG (g1 lC) [(gk (gX [] 1 (gW (ir 0)) (gq 0) hC (gZ (gG (g1 sN) [(gh 0)]))))]) (fun d=>cD ((unC d).map ab)) [] (ts.map cD) [] none (by
  intro d hd;obtain⟨t,h,rfl⟩:=oA.mp hd;refine⟨false,?_⟩;rw[AL];exact Lh t (ht t h)) (by rw[iu];simp;omega)
 simp only[List.cons_append,rf,jX,rl,lj] at e;have:(ts.map ((fun d=>cD ((unC d).map ab))∘cD))=ts.map (cD∘List.map ab):=pB fun t _=>by simp only[Function.comp,AL]
 rw[this] at e;rw[lj];exact Rc rfl e
def BB(n:Nat)(ks:ja):Prop:=n<=5/\CsOk n ks/\SrtC ks/\ks.length<=30
abbrev rD'(n:Nat)(ks:ja):D:= .tup [.int n,.tup (ks.map cD)]
abbrev lv(L:List D):Sl:=some (.lst L,true)
abbrev ii(n:Int):Sl:=some (.int n,false)
theorem E6(h:je fs δ=je fW δ'):gA ev fs δ=gA ev fW δ':=by unfold gA;rw[h]
theorem G0(a:Int)(b:Bool)(lo hi:Nat)(h1:lo<=hi)(h5:hi<=5): ∃a' n ks,BB n ks/\lo<=n/\n<=hi/\lL [(.lst [.int a,.bl b],true),(.int lo,false),(.int hi,false)]=some ((rD' n ks,false),[stt a' b,ii lo,ii hi]):=by
 obtain⟨v,a1,v0,v1,e1⟩:=kH a b ((hi:Int)-lo+1) (by omega) (by omega);obtain⟨w,a2,w0,w1,e2⟩:=kH a1 b 4 (by omega) (by omega);obtain⟨n,hn⟩: ∃n:Nat,(lo:Int)+v=n:=⟨(lo+v).toNat,by omega⟩
 have pre: ∀g,gy (ic 3 (gz js (gh 1) (gk (gA gD [(gh 0),(gk (gz js (gk (gz gSub (gh 2) (gh 1))) (gk (fC (.int 1)))))])))) (gy (ic 4 (gA gD [(gh 0),(gk (fC (.int 4)))])) g) [stt a b,ii lo,ii hi,none,none,none,none,none]=g [stt a2 b,ii lo,ii hi,ii n,ii w,none,none,none]:=by
  intro g;refine(gx (δ1:=[stt a1 b,ii lo,ii hi,ii n,none,none,none,none]) ?_).trans ?_
  ·refine iB (i:=3) (δ1:=[stt a1 b,ii lo,ii hi,none,none,none,none,none]) (il (o1:= .slot 1) (o2:= .val (.int v,false)) rfl (gF (e1 _ _ _ rfl rfl)) rfl rfl ?_) (show 3<8 by decide);rw[Qi,hn]
  ·exact gx (iB (i:=4) (δ1:=[stt a2 b,ii lo,ii hi,ii n,none,none,none,none]) (e2 _ [ii lo,ii hi,ii n,none,none,none,none] _ rfl rfl) (show 4<8 by decide))
 by_cases hz:n=0
 ·subst hz;refine⟨a2,0,[],⟨by omega,⟨by simp,by simp⟩,List.Pairwise.nil,by simp⟩,by omega,by omega,?_⟩;refine jI (δ:=[stt a2 b,ii lo,ii hi,ii (0:Nat),ii w,none,none,none]) ⟨rfl,by decide,rfl⟩ ((pre _).trans ?_);refine iM ((tV (δ1:=[stt a2 b,ii lo,ii hi,ii (0:Nat),ii w,none,none,none]) (by simp)).trans (iM (jP ?_)));simp[iu]
 ·have n1:1<=n:=by omega
  have n5:n<=5:=by omega
  obtain⟨u,a3,u0,u1,e3⟩:=kH a2 b 3 (by omega) (by omega)
  let mL:List Int:=[4,8,13]
  let m:=mL.getD u.toNat 0
  have hm:0<m/\m<=13:=by
   rcases(show u=0\/u=1\/u=2 by omega) with rfl|rfl|rfl<;>decide
  obtain⟨c,a4,q0,q1,e4⟩:=kH a3 b m hm.1 (by omega);obtain⟨cn,rfl⟩: ∃cn:Nat,c=cn:=⟨c.toNat,by omega⟩
  have i1:ot (gh 5) [stt a4 b,ii lo,ii hi,ii n,ii w,ii cn,none,none]=some (gY 0 cn,[stt a4 b,ii lo,ii hi,ii n,ii w,ii cn,none,none]):=nF (o:= .slot 5) rfl rfl (by omega);obtain⟨a5,cs,bx,u3,e5⟩:=yk lN (ClOk n) b n (fun a=>Hx a b n n1 n5) (gY 0 cn) (by simp[gY];omega) a4 (ii lo) (ii hi) [ii w,ii cn,none,none] (ot (gh 5)) i1;have l3:cs.length<13:=by simp[gY] at u3;omega
  have mid: ∃(a6:Int) (bY:ja) (sl:Sl),(∀c∈bY,ClOk n c)/\bY.length<500/\(sIf (fT (gz (mI .Gt) (gh 4) (gk (fC (.int 0))))) (gy (ic 7 (gX [0,3] 1 (ot (gk (gz js (gk (fC (.int 1))) (gk (gz uq (gh 4) (gk (fC (.int 2)))))))) (gq 2) hC (gZ (gA kh [(gh 0),(gh 1)])))) (gy (sIf (fT (gz gEq (gh 4) (gk (fC (.int 3))))) (gy (ic 7 (gX [] 1 (gW (ir 7)) (gq 0) hC (gZ (gG (g1 lC) [(gk (gX [] 1 (gW (ir 0)) (gq 0) hC (gZ (gG (g1 sN) [(gh 0)]))))])))) gO) gO) (gy (ic 6 (gA lM [(gk (ng (gk (gG (g1 jw) [(gk (gG (g1 EX) [(gh 6)]))])) (gk (fC (.int 2))))),(gh 7)])) gO))) gO) [stt a5 b,ii lo,ii hi,ii n,ii w,ii cn,lv (cs.map cD),none]=some (.nx [stt a6 b,ii lo,ii hi,ii n,ii w,ii cn,lv (bY.map cD),sl]):=by
   by_cases hw:0<w
   ·obtain⟨k,hk,fH⟩: ∃k:Nat,(1:Int)+w%2=k/\k<=2:=⟨(1+w%2).toNat,by omega,by omega⟩
    have i2:ot (gk (gz js (gk (fC (.int 1))) (gk (gz uq (gh 4) (gk (fC (.int 2))))))) [stt a5 b,ii lo,ii hi,ii n,ii w,ii cn,lv (cs.map cD),none]=some (gY 0 k,[stt a5 b,ii lo,ii hi,ii n,ii w,ii cn,lv (cs.map cD),none]):=by
     refine nF (o:= .val (.int k,false)) (gF ?_) rfl (by omega);rw[<-hk];simp[uq,gI]
    obtain⟨a6,ts,cv,dF,e6⟩:=yk kh (TOk n) b n (fun a=>by
     obtain⟨a',t,ht,e⟩:=Ed a b n n5;exact⟨a',t,IQ ht,e⟩) (gY 0 k) (by simp[gY];omega) a5 (ii lo) (ii hi) [ii w,ii cn,lv (cs.map cD),none] _ i2
    have htl2:ts.length<=1000:=by simp[gY] at dF;omega
    have th: ∃bg:List (List Int),(∀t∈bg,TOk n t)/\ ∀g,gy (sIf (fT (gz gEq (gh 4) (gk (fC (.int 3))))) (gy (ic 7 (gX [] 1 (gW (ir 7)) (gq 0) hC (gZ (gG (g1 lC) [(gk (gX [] 1 (gW (ir 0)) (gq 0) hC (gZ (gG (g1 sN) [(gh 0)]))))])))) gO) gO) g [stt a6 b,ii lo,ii hi,ii n,ii w,ii cn,lv (cs.map cD),lv (ts.map cD)]=g [stt a6 b,ii lo,ii hi,ii n,ii w,ii cn,lv (cs.map cD),lv (bg.map cD)]:=by
     by_cases h3:w=3
     ·refine⟨ts.map (List.map ab),fun t ht=>?_,fun g=>?_⟩
      ·obtain⟨t',ht',rfl⟩:=oA.mp ht;exact(cv t' ht').abs
      ·refine gx ((tV (δ1:=[stt a6 b,ii lo,ii hi,ii n,ii w,ii cn,lv (cs.map cD),lv (ts.map cD)]) (mB (o:=false) (il (o1:= .slot 4) (o2:= .val (.int 3,false)) rfl rfl rfl rfl (by rw[M8,h3];rfl)))).trans ((gx (iB (i:=7) (δ1:=[stt a6 b,ii lo,ii hi,ii n,ii w,ii cn,lv (cs.map cD),some (.lst (ts.map cD),false)]) (HE ts htl2 (fun t ht=>by have:=(cv t ht).1;omega) _ _ _ _ _ _ _ true) (show 7<8 by decide))).trans rfl))
     ·refine⟨ts,cv,fun g=>gx ((qa (δ1:=[stt a6 b,ii lo,ii hi,ii n,ii w,ii cn,lv (cs.map cD),lv (ts.map cD)]) (mB (o:=false) (il (o1:= .slot 4) (o2:= .val (.int 3,false)) rfl rfl rfl rfl (by rw[M8,Bt,mx h3])))).trans rfl)⟩
    obtain⟨bg,hts2,th⟩:=th;obtain⟨vs,ks,aE,fF,hkm,fG,aH,o6⟩:=P9 bx (by omega);obtain⟨mm,hmm,ct⟩:=KR ks 2;obtain⟨bY,sl,y6,_,e7⟩:=Hw n5 hts2 (aE.take mm) true;refine⟨a6,bY,sl,y6.2,by have:=y6.len n5;omega,?_⟩;refine(tV (δ1:=[stt a5 b,ii lo,ii hi,ii n,ii w,ii cn,lv (cs.map cD),none]) (mB (o:=false) (il (o1:= .slot 4) (o2:= .val (.int 0,false)) rfl rfl rfl rfl (by rw[NT,tE (show w>0 from hw)])))).trans ?_;refine(gx (iB (i:=7) e6 (show 7<8 by decide))).trans ((th _).trans ((gx (iB (i:=6) (δ1:=[stt a6 b,ii lo,ii hi,ii n,ii w,ii cn,lv (cs.map cD),sl]) (hX (δ1:=[stt a6 b,ii lo,ii hi,ii n,ii w,ii cn,lv (cs.map cD),lv (bg.map cD)]) (os:=[.val (.lst ((ks.take mm).map cD),true),.slot 7]) (args:=[(.lst ((ks.take mm).map cD),false),(.lst (bg.map cD),true)]) (sP (δ1:=[stt a6 b,ii lo,ii hi,ii n,ii w,ii cn,lv (cs.map cD),lv (bg.map cD)]) (gF ?_) rfl) rfl (show([7]:List Nat).Nodup by decide) e7) (show 6<8 by decide))).trans rfl))
    have f1:gG (g1 jw) [(gk (gG (g1 EX) [(gh 6)]))] [stt a6 b,ii lo,ii hi,ii n,ii w,ii cn,lv (cs.map cD),lv (bg.map cD)]=some ((.lst (ks.map cD),true),[stt a6 b,ii lo,ii hi,ii n,ii w,ii cn,lv (cs.map cD),lv (bg.map cD)]):=
     iZ (os:=[.val (.oth .set [] (vs.map cD),true)]) (oQ (gF (iZ (os:=[.slot 6]) rfl rfl aH))) rfl o6
    unfold ng;rw[gF f1];simp only[iI];rw[show gk (fC (.int 2)) [stt a6 b,ii lo,ii hi,ii n,ii w,ii cn,lv (cs.map cD),lv (bg.map cD)]=some (.val (.int 2,false),[stt a6 b,ii lo,ii hi,ii n,ii w,ii cn,lv (cs.map cD),lv (bg.map cD)]) from rfl];simp only[iI,Ep];rw[show gSl none (some 2) (.lst (ks.map cD))=some (.lst (PX.nM (ks.map cD) none (some 2)),true) from rfl];simp only[iI];rw[show PX.nM (ks.map cD) none (some 2)=(ks.take mm).map cD from ct]
   ·refine⟨a5,cs,none,bx,by omega,?_⟩;exact(qa (δ1:=[stt a5 b,ii lo,ii hi,ii n,ii w,ii cn,lv (cs.map cD),none]) (mB (o:=false) (il (o1:= .slot 4) (o2:= .val (.int 0,false)) rfl rfl rfl rfl (by rw[NT,mx (show ¬w>0 from hw)])))).trans rfl
  obtain⟨a6,bY,sl,y6,aD,mid⟩:=mid;obtain⟨vs,ks,aE,fF,hkm,fG,aH,o6⟩:=P9 y6 aD
  have f1:gG (g1 jw) [(gk (gG (g1 EX) [(gh 6)]))] [stt a6 b,ii lo,ii hi,ii n,ii w,ii cn,lv (bY.map cD),sl]=some ((.lst (ks.map cD),true),[stt a6 b,ii lo,ii hi,ii n,ii w,ii cn,lv (bY.map cD),sl]):=
   iZ (os:=[.val (.oth .set [] (vs.map cD),true)]) (oQ (gF (iZ (os:=[.slot 6]) rfl rfl aH))) rfl o6
  have last: ∃(a7:Int) (ck:ja),CsOk n ck/\SrtC ck/\ck.length<=30/\sIf (fT (gz (mI .Gt) (gk (gG (g1 nk) [(gh 6)])) (gk (fC (.int 30))))) (gy (ic 6 (ng (gh 6) (gk (gA gD [(gh 0),(gk (fC (.int 30)))])))) gO) gO [stt a6 b,ii lo,ii hi,ii n,ii w,ii cn,lv (ks.map cD),sl]=some (.nx [stt a7 b,ii lo,ii hi,ii n,ii w,ii cn,lv (ck.map cD),sl]):=by
   have t1:(fT (gz (mI .Gt) (gk (gG (g1 nk) [(gh 6)])) (gk (fC (.int 30))))) [stt a6 b,ii lo,ii hi,ii n,ii w,ii cn,lv (ks.map cD),sl]=some (decide ((ks.length:Int)>30),[stt a6 b,ii lo,ii hi,ii n,ii w,ii cn,lv (ks.map cD),sl]):=
    mB (o:=false) (il (o1:= .val (.int ks.length,false)) (o2:= .val (.int 30,false)) (gF (iZ (os:=[.slot 6]) rfl rfl (by simp))) rfl rfl rfl (NT _ _))
   by_cases hb:(ks.length:Int)>30
   ·obtain⟨p,a7,p0,p1,e8⟩:=kH a6 b 30 (by omega) (by omega);obtain⟨pn,rfl⟩: ∃pn:Nat,p=pn:=⟨p.toNat,by omega⟩
    obtain⟨mm,hmm,ct⟩:=KR ks pn;refine⟨a7,ks.take mm,aE.take mm,fF.take mm,by rw[nS];omega,?_⟩;rw[tE hb] at t1;refine(tV t1).trans ((gx (iB (i:=6) (δ1:=[stt a7 b,ii lo,ii hi,ii n,ii w,ii cn,lv (ks.map cD),sl]) (r:=(.lst ((ks.take mm).map cD),true)) ?_ (show 6<8 by decide))).trans rfl);unfold ng;rw[show gh 6 [stt a6 b,ii lo,ii hi,ii n,ii w,ii cn,lv (ks.map cD),sl]=some (.slot 6,[stt a6 b,ii lo,ii hi,ii n,ii w,ii cn,lv (ks.map cD),sl]) from rfl];simp only[iI];rw[gF (e8 _ [ii lo,ii hi,ii n,ii w,ii cn,lv (ks.map cD),sl] _ rfl rfl)];simp only[iI,Ep];rw[show res (stt a7 b::[ii lo,ii hi,ii n,ii w,ii cn,lv (ks.map cD),sl]) (.slot 6)=some (.lst (ks.map cD)) from rfl];simp only[iI];rw[show gSl none (some (pn:Int)) (.lst (ks.map cD))=some (.lst (PX.nM (ks.map cD) none (some (pn:Int))),true) from rfl,ct];rfl
   ·rw[mx hb] at t1;exact⟨a6,ks,aE,fF,by omega,(qa t1).trans rfl⟩
  obtain⟨a7,ck,k1,k2,k3,last⟩:=last;refine⟨a7,n,ck,⟨n5,k1,k2,k3⟩,by omega,by omega,?_⟩;refine jI (δ:=[stt a7 b,ii lo,ii hi,ii n,ii w,ii cn,lv (ck.map cD),sl]) ⟨rfl,by decide,rfl⟩ ((pre _).trans ?_);refine(gx ((qa (δ1:=[stt a2 b,ii lo,ii hi,ii n,ii w,none,none,none]) (by simp[hz])).trans rfl)).trans ?_;refine(gx (δ1:=[stt a4 b,ii lo,ii hi,ii n,ii w,ii cn,none,none]) ?_).trans ?_
  ·refine iB (i:=5) (δ1:=[stt a4 b,ii lo,ii hi,ii n,ii w,none,none,none]) ?_ (show 5<8 by decide)
   have em:gk (gz gIx (gk (ky [(fC (.int 4)),(fC (.int 8)),(fC (.int 13))])) (gk (gA gD [(gh 0),(gk (fC (.int 3)))]))) [stt a2 b,ii lo,ii hi,ii n,ii w,none,none,none]=some (.val (.int m,false),[stt a3 b,ii lo,ii hi,ii n,ii w,none,none,none]):=
    gF (il (o1:= .val (.lst (mL.map .int),true)) (o2:= .val (.int u,false)) (gF (δ1:=[stt a2 b,ii lo,ii hi,ii n,ii w,none,none,none]) (by simp[mL,iu])) (gF (e3 _ [ii lo,ii hi,ii n,ii w,none,none,none] _ rfl rfl)) rfl rfl (OX u0 (by simpa[mL] using u1)))
   have e4':=e4 (fun _=>some (.val (.int m,false),[stt a3 b,ii lo,ii hi,ii n,ii w,none,none,none])) [ii lo,ii hi,ii n,ii w,none,none,none] (.val (.int m,false)) rfl rfl
   have hf:je [gh 0,gk (gz gIx (gk (ky [(fC (.int 4)),(fC (.int 8)),(fC (.int 13))])) (gk (gA gD [(gh 0),(gk (fC (.int 3)))])))] [stt a2 b,ii lo,ii hi,ii n,ii w,none,none,none]=je [gh 0,fun _=>some (.val (.int m,false),[stt a3 b,ii lo,ii hi,ii n,ii w,none,none,none])] (stt a3 b::[ii lo,ii hi,ii n,ii w,none,none,none]):=by
    rw[sP (o1:= .slot 0) rfl em];rfl
   exact(E6 hf).trans e4'
  refine(gx (iB (i:=6) e5 (show 6<8 by decide))).trans ?_;refine(gx mid).trans ?_;refine(gx (iB (i:=6) f1 (show 6<8 by decide))).trans ?_;refine(gx last).trans (iM (jP ?_));simp[ir,iu]
abbrev frz(ds:List D):Dn:=ds.map fun d=>some (d,false)
theorem CD: ∀(os:List Opd) (ds:List D),gR os (ds.map fun d=>(d,false))=[]
 |[],_=>by simp[gR]
 |_::_,[]=>by simp[gR]
 |o::os,d::ds=>by cases o<;>simp[gR,CD os ds]
theorem M1: ∀(os:List Opd) (ds:List D) (outs δ:Dn),wb os (ds.map fun d=>(d,false)) outs δ=δ
 |[],_,_,_=>by simp[wb]
 |_::_,[],_,_=>by simp[wb]
 |_::_,_::_,[],_=>by simp[wb]
 |o::os,d::ds,x::xs,δ=>by cases o<;>simp[wb,M1 os ds xs]
theorem Pp{f:F}{ti:FT}{g:D->D}{p:D->Bool}{pre:Dn}: ∀(l acc:List D) (x:Sl),(∀d∈l,ti (pre++[some (d,false)])=some (p d,pre++[some (d,false)])/\(p d=true-> ∃o,f (pre++[some (d,false)])=some ((g d,o),pre++[some (d,false)])))->acc.length+l.length<=sizeLine->
  ∃x',jM (gq pre.length) ti (gZ f) l acc (pre++[x])=some (acc++(l.filter p).map g,pre++[x'])
 |[],acc,x,_,_=>⟨x,by simp[jM]⟩
 |d::l,acc,x,h,hl=>by
  obtain⟨h1,h2⟩:=h d iR;have hs:acc.length<sizeLine:=by simp at hl;omega
  rw[jM,FJ];simp only[iI];rw[h1]
  cases hp:p d with
  |false=>
   obtain⟨x',e⟩:=Pp l acc (some (d,false)) (fun d' h'=>h d' (iT _ h')) (by simp at hl ⊢;omega);exact⟨x',by simp[e,hp]⟩
  |true=>
   obtain⟨o,hd⟩:=h2 hp;obtain⟨x',e⟩:=Pp l (acc++[g d]) (some (d,false)) (fun d' h'=>h d' (iT _ h')) (by simp at hl ⊢;omega);refine⟨x',?_⟩;simp only[iI,ie,tY];rw[hd];simp only[iI];rw[gu hs];simp only[iI];rw[e];simp[hp]
theorem Ff{caps:iA}{fi:FIt}{f:F}{ti:FT}{δ δ1:Dn}{l args:List D}(g:D->D)(p:D->Bool)(h1:fi δ=some (l,δ1))(h2:jo δ1 (caps.map .slot)=some (args.map fun d=>(d,false)))(hc:args.length=caps.length)
  (h: ∀d∈l,ti (frz args++[some (d,false)])=some (p d,frz args++[some (d,false)])/\(p d=true-> ∃o,f (frz args++[some (d,false)])=some ((g d,o),frz args++[some (d,false)])))(hl:l.length<=10000):
  gX caps 1 fi (gq caps.length) ti (gZ f) δ=some ((.lst ((l.filter p).map g),true),δ1):=by
 obtain⟨x',e⟩:=Pp (f:=f) (ti:=ti) (g:=g) (p:=p) (pre:=frz args) l [] none h (by rw[iu];simp;omega);unfold gX;rw[h1];simp only[iI];rw[h2];simp only[iI,CD,jV,ie,lj,M1];rw[show gq caps.length=gq (frz args).length from by rw[iX,hc]];rw[show((args.map (some∘fun d=>(d,false)))++List.replicate 1 none:Dn)=frz args++[none] from rfl,e];simp
theorem Fe{caps:iA}{fi:FIt}{f:F}{δ δ1:Dn}{l args:List D}(g:D->D)(h1:fi δ=some (l,δ1))(h2:jo δ1 (caps.map .slot)=some (args.map fun d=>(d,false)))(hc:args.length=caps.length)
  (h: ∀d∈l,∃o,f (frz args++[some (d,false)])=some ((g d,o),frz args++[some (d,false)]))(hl:l.length<=10000):
  gX caps 1 fi (gq caps.length) hC (gZ f) δ=some ((.lst (l.map g),true),δ1):=by
 rw[Ff g (fun _=>true) h1 h2 hc (fun d hd=>⟨rfl,fun _=>h d hd⟩) hl,PK.mpr fun _ _=>rfl]
theorem uz{caps:iA}{fi:FIt}{f:F}{δ δ1:Dn}{l args:List D}(p:D->Bool)(h1:fi δ=some (l,δ1))(h2:jo δ1 (caps.map .slot)=some (args.map fun d=>(d,false)))(hc:args.length=caps.length)
  (h: ∀d∈l,∃o,f (frz args++[some (d,false)])=some ((.bl (p d),o),frz args++[some (d,false)]))(hl:l.length<=10000):
  gG (g1 vq) [gk (gX caps 1 fi (gq caps.length) hC (gZ f))] δ=some ((.bl (l.all p),false),δ1):=
 iZ (oQ (gF (Fe (fun d=> .bl (p d)) h1 h2 hc h hl))) rfl (BE p l)
theorem KS{caps:iA}{fi:FIt}{f:F}{δ δ1:Dn}{l args:List D}(p:D->Bool)(h1:fi δ=some (l,δ1))(h2:jo δ1 (caps.map .slot)=some (args.map fun d=>(d,false)))(hc:args.length=caps.length)
  (h: ∀d∈l,∃o,f (frz args++[some (d,false)])=some ((.bl (p d),o),frz args++[some (d,false)]))(hl:l.length<=10000):
  gG (g1 EY) [gk (gX caps 1 fi (gq caps.length) hC (gZ f))] δ=some ((.bl (l.any p),false),δ1):=
 iZ (oQ (gF (Fe (fun d=> .bl (p d)) h1 h2 hc h hl))) rfl (K9 p l)
theorem Rg{f:F}{fi:FIt}{g:D->D->D}{m:List D}(hf: ∀d y,fi [some (d,false),y]=some (m,[some (d,false),y])): ∀(l acc:List D) (x y:Sl),(∀d∈l,∀e∈m,∃o,f [some (d,false),some (e,false)]=some ((g d e,o),[some (d,false),some (e,false)]))->acc.length+l.length*m.length<=sizeLine->
  ∃x' y',jM (gq 0) hC (Fp fi (gq 1) hC (gZ f)) l acc [x,y]=some (acc++l.flatMap fun d=>m.map (g d),[x',y'])
 |[],acc,x,y,_,_=>⟨x,y,by simp[jM]⟩
 |d::l,acc,x,y,h,hl=>by
  have fB:acc.length+m.length+l.length*m.length<=sizeLine:=by simp[Nat.add_mul] at hl;omega
  obtain⟨y',e1⟩:=yq f (g d) [some (d,false)] m acc y (fun e he=>h d iR e he) (by omega);obtain⟨x2,y2,e2⟩:=Rg hf l (acc++m.map (g d)) (some (d,false)) y' (fun d' h'=>h d' (iT _ h')) (by simp;omega);refine⟨x2,y2,?_⟩;rw[jM];rw[show gq 0 d [x,y]=some [some (d,false),y] from rfl];simp only[iI,tX,ie];unfold Fp;rw[hf];simp only[iI];rw[show jM (gq 1) hC (gZ f) m acc [some (d,false),y]=_ from e1];simp only[iI];rw[show jM (gq 0) hC (fun acc δ=>(fi δ).bind fun p=>jM (gq 1) hC (gZ f) p.1 acc p.2) l (acc++m.map (g d)) ([some (d,false)]++[y'])=_ from e2];simp
theorem Pn{fi fi2:FIt}{f:F}{δ δ1:Dn}{l m:List D}(g:D->D->D)(h1:fi δ=some (l,δ1))(hf: ∀d y,fi2 [some (d,false),y]=some (m,[some (d,false),y]))(h: ∀d∈l,∀e∈m,∃o,f [some (d,false),some (e,false)]=some ((g d e,o),[some (d,false),some (e,false)]))(hl:l.length*m.length<=10000):
  gX [] 2 fi (gq 0) hC (Fp fi2 (gq 1) hC (gZ f)) δ=some ((.lst (l.flatMap fun d=>m.map (g d)),true),δ1):=by
 obtain⟨x',y',e⟩:=Rg (f:=f) (g:=g) hf l [] none none h (by rw[iu];simp;omega);unfold gX;rw[h1];simp only[iI,pF,qG,gR,jV,ie,rf,List.replicate_succ,List.replicate_zero];rw[e];simp[wb]
theorem nJ{tg:Tg}{fb:FS}(I:List D->Dn->Prop)(step: ∀d ds δ,I (d::ds) δ-> ∃δ1 δ2,tg d δ=some δ1/\fb δ1=some (.nx δ2)/\I ds δ2): ∀(ds:List D) (δ:Dn),I ds δ-> ∃δ',I [] δ'/\qm tg fb ds δ=some (.nx δ')
 |[],δ,h=>⟨δ,h,rfl⟩
 |d::ds,δ,h=>by
  obtain⟨δ1,δ2,h1,h2,h3⟩:=step d ds δ h;obtain⟨δ',h4,h5⟩:=nJ I step ds δ2 h3;refine⟨δ',h4,?_⟩;unfold qm;rw[h1];simp only[iI];rw[h2];exact h5
theorem Fl{tg:Tg}{f:F}(I:List D->List D->Dn->Prop)(step: ∀d ds acc δ,I (d::ds) acc δ-> ∃δ1 r o δ2,tg d δ=some δ1/\f δ1=some ((r,o),δ2)/\acc.length<=10000/\I ds (acc++[r]) δ2): ∀(ds acc:List D) (δ:Dn),I ds acc δ-> ∃i6 δ',I [] i6 δ'/\jM tg hC (gZ f) ds acc δ=some (i6,δ')
 |[],acc,δ,h=>⟨acc,δ,h,rfl⟩
 |d::ds,acc,δ,h=>by
  obtain⟨δ1,r,o,δ2,h1,h2,hs,h3⟩:=step d ds acc δ h;obtain⟨i6,δ',h4,h5⟩:=Fl I step ds _ δ2 h3;refine⟨i6,δ',h4,?_⟩;unfold jM;rw[h1];simp only[iI,tX,ie,tY];rw[h2];simp only[iI];rw[gu (AO hs)];exact h5
theorem CZ{caps:iA}{k:Nat}{fi:FIt}{tg:Tg}{ti:FT}{fb:FB}{δ δ1 δ':Dn}{l acc:List D}{args:List (D×Bool)}(h1:fi δ=some (l,δ1))(h2:jo δ1 (caps.map .slot)=some args)(h3:(gR (caps.map .slot) args).Nodup)(h4:jM tg ti fb l [] (args.map some++List.replicate k none)=some (acc,δ')):
  gX caps k fi tg ti fb δ=some ((.lst acc,true),wb (caps.map .slot) args (ip args δ') δ1):=by
 unfold gX;rw[h1];simp only[iI];rw[h2];simp only[iI];rw[gu h3,h4];rfl
def yV:D->Bool
 | .int i=>decide (0<=i)&&decide (i<=1)
 |_=>false
theorem Pq(d:D):ox [(d,false)]=some ((.bl (yV d),false),[some (d,false)]):=by
 cases d<;>simp[ox,vz,evF,ip,Hh,gR,wb,yV]
theorem CB(d:D)(lo hi:Int):jR [(d,false),(.int lo,false),(.int hi,false)]=some ((.bl (match d with| .int i=>decide (lo<=i)&&decide (i<=hi)|_=>false),false),[some (d,false),some (.int lo,false),some (.int hi,false)]):=by
 cases d with
 |int s=>by_cases h:lo<=s<;>simp[jR,mJ,evF,ip,isT,qp,jk,h]
 |_=>simp[jR,mJ,evF,ip,isT]
def isA(n:Nat):D->Bool
 | .tup l=>decide (l.length=n)&&l.all yV
 |_=>false
theorem vB(h:f δ=some ((.bl true,o),δ1)):qX f g δ=g δ1:=by rw[Jp,h];rfl
theorem KN(h:f δ=some ((.bl false,o),δ1)):qX f g δ=some ((.bl false,false),δ1):=by rw[Jp,h];rfl
theorem HD(n:Nat)(d:D)(hd:OkD d):lb [(.int n,false),(d,false)]=some ((.bl (isA n d),false),[some (.int n,false),some (d,false)]):=by
 cases d with
 |tup l=>
  have c:=uz (caps:=[]) (fi:=gW (ir 1)) (f:=gA ox [(gh 0)]) (δ:=[some (.int n,false),some (.tup l,false)]) (l:=l) (args:=[]) yV rfl rfl rfl (fun d _=>⟨false,by simp[Pq,gR,wb]⟩) (by have:=hd l rfl;omega)
  have e:gz gEq (gk (gG (g1 nk) [(gh 1)])) (gh 0) [some (.int n,false),some (.tup l,false)]=some ((.bl (decide (l.length=n)),false),[some (.int n,false),some (.tup l,false)]):=by
   simp[Bt,Int.natCast_inj]
  refine jI (δ:=[some (.int n,false),some (.tup l,false)]) ⟨rfl,by decide,rfl⟩ (iM (jP ((vB rfl).trans ?_)));rw[isA];by_cases h:l.length=n
  ·rw[tE h] at e ⊢;exact(vB e).trans c
  ·rw[mx h] at e ⊢;exact KN e
 |_=>simp[lb,oP,evF,ip,isT,isA]
def sx:D->List D
 | .tup l=>l
 | .lst l=>l
 |_=>[]
def soB(t:gU)(s:Int):Bool:=t.getD ((ab s).toNat-1) 0==(if s>0 then 1 else 0)
theorem QN(t:gU)(s:Int)(h:1<=ab s/\ab s<=t.length):gIx (.tup (t.map .int)) (.int (ab s-1))=some (.int (t.getD ((ab s).toNat-1) 0),false):=by
 have h1:0<=ab s-1:=by omega
 have h2:ab s-1<((t.map D.int).length:Int):=by simp;omega
 have h3:(ab s-1).toNat=(ab s).toNat-1:=by omega
 have h4:(ab s).toNat-1<t.length:=by omega
 have h5:ixN (t.map D.int).length (ab s-1)=some ((ab s).toNat-1):=by unfold ixN;rw[gu h1,gu h2,h3]
 rw[iX] at h5;simp[gIx,atI,h5,h4]
theorem Qa(t:gU)(s:Int)(h:1<=ab s/\ab s<=t.length):uw [enc t,(.int s,false)]=some ((.bl (soB t s),false),[some (enc t),some (.int s,false)]):=by
 have:=QN t s h;unfold ab at this;by_cases hs:s>0<;>simp[uw,ya,evF,ip,this,hs,soB,ab]
theorem OR(t:gU)(s:Int)(h:1<=ab s/\ab s<=t.length):qN [enc t,(.int s,false)]=some ((.bl (soB t s),false),[some (enc t),some (.int s,false)]):=by
 have:=QN t s h;unfold ab at this;by_cases hs:s>0<;>simp[qN,vt,evF,ip,this,hs,soB,ab]
def kC(t c:gU):Bool:=c.any (soB t)
theorem MS(p:Int->Bool)(c:gU):(c.map D.int).any (fun d=>p (iOf d))=c.any p:=by
 simp[uT,nR,iOf]
theorem Ng(n:Nat)(hn:n<=5)(t c:gU)(ht:t.length=n)(hc:ClOk n c)(ev:EvF)(fO: ∀s,1<=ab s/\ab s<=t.length->ev [enc t,(.int s,false)]=some ((.bl (soB t s),false),[some (enc t),some (.int s,false)])):
  evF 2 2 [] (gy (jQ (gG (g1 EY) [(gk (gX [0] 1 (gW (ir 1)) (gq 1) hC (gZ (gA ev [(gh 0),(gh 1)]))))])) gO) [enc t,enc c]=some ((.bl (kC t c),false),[some (enc t),some (enc c)]):=by
 have c1:=KS (caps:=[0]) (fi:=gW (ir 1)) (f:=gA ev [(gh 0),(gh 1)]) (δ:=[some (enc t),some (enc c)]) (l:=c.map .int) (args:=[cD t]) (fun d=>soB t (iOf d)) rfl rfl rfl (fun d hd=>⟨false,by
  obtain⟨s,hs,rfl⟩:=oA.mp hd;have:=hc.2.2 s hs;simp[fO s (by omega),gR,wb,iOf]⟩) (by have:=ClOk.len hc;simp;omega)
 rw[MS] at c1;exact jI ⟨rfl,by decide,rfl⟩ (iM (jP c1))
theorem OV{n:Nat}(hn:n<=5){t c:gU}(ht:t.length=n)(hc:ClOk n c):mf [enc t,enc c]=some ((.bl (kC t c),false),[some (enc t),some (enc c)]):=Ng n hn t c ht hc _ fun s h=>Qa t s h
theorem Ge{n:Nat}(hn:n<=5){t c:gU}(ht:t.length=n)(hc:ClOk n c):iD [enc t,enc c]=some ((.bl (kC t c),false),[some (enc t),some (enc c)]):=Ng n hn t c ht hc _ fun s h=>OR t s h
def kB(n:Nat)(ks:ja)(d:D):Bool:=isA n d&&ks.all (kC ((sx d).map iOf))
theorem Gj(h:isA n d=true): ∃t:List Int,d=cD t/\t.length=n:=by
 cases d with
 |tup l=>
  rw[isA,kQ,se,nL] at h;refine⟨l.map iOf,?_,by simp[h.1]⟩;rw[cD,lj]
  congr 1
  rw[pB (g:=id),rQ];intro x hx;have:=h.2 x hx;cases x<;>simp[yV,iOf] at this ⊢
 |_=>cases h
theorem GF{n:Nat}(hn:n<=5){ks:ja}(hk: ∀c∈ks,ClOk n c)(hl:ks.length<=30){t:gU}(ht:t.length=n){ev:EvF}(fO: ∀c,ClOk n c->ev [enc t,enc c]=some ((.bl (kC t c),false),[some (enc t),some (enc c)])){fi:FIt}{δ:Dn}{i:Nat}(hi:δ[i]?=some (some (enc t)))(h1:fi δ=some (ks.map cD,δ)):
  gG (g1 vq) [(gk (gX [i] 1 fi (gq 1) hC (gZ (gA ev [(gh 0),(gh 1)]))))] δ=some ((.bl (ks.all (kC t)),false),δ):=by
 have:=uz (caps:=[i]) (fi:=fi) (f:=gA ev [(gh 0),(gh 1)]) (δ:=δ) (l:=ks.map cD) (args:=[cD t]) (fun d=>kC t ((sx d).map iOf)) h1 (by simp[hi]) rfl (fun d hd=>⟨false,by
  obtain⟨c,hc,rfl⟩:=oA.mp hd;simp[fO c (hk c hc),gR,wb,sx,nR,iOf]⟩) (by simp;omega)
 refine this.trans ?_;simp[List.all_map,nR,sx,iOf]
theorem xX{n:Nat}{ks:ja}(h:BB n ks)(d:D)(hd:OkD d):lV [(rD' n ks,false),(d,false)]=some ((.bl (kB n ks d),false),[some (rD' n ks,false),some (d,false)]):=by
 let δ:Dn:=[some (rD' n ks,false),some (d,false),some (.int n,false),some (.tup (ks.map cD),false)]
 have e:gA lb [(gh 2),(gh 1)] δ=some ((.bl (isA n d),false),δ):=hX (os:=[.slot 2,.slot 1]) (args:=[(.int n,false),(d,false)]) rfl rfl jV (HD n d hd);refine jI (δ:=δ) ⟨rfl,by decide,rfl⟩ ((gx (δ1:=δ) rfl).trans (iM (jP ?_)));rw[kB]
 cases hA:isA n d with
 |false=>rw[hA] at e;exact KN e
 |true=>
  rw[hA] at e;refine(vB e).trans ?_;obtain⟨t,rfl,ht⟩:=Gj hA;refine(GF h.1 h.2.1.2 h.2.2.2 ht (fun c hc=>OV h.1 ht hc) (i:=1) rfl rfl).trans ?_;simp[sx,nR,iOf]
def jd:Nat->List (List Int)
 |0=>[[]]
 |n+1=>(jd n).flatMap fun t=>[t++[0],t++[1]]
theorem vF: ∀n:Nat,(jd n).length=2^n
 |0=>rfl
 |n+1=>by
  rw[jd,List.length_flatMap,rd,<-vF n];generalize jd n=L
  induction L with
  |nil=>rfl
  |cons t L ih=>simp at ih ⊢;omega
theorem lg: ∀{n:Nat} {t:gU},t∈jd n->t.length=n/\ ∀x∈t,x=0\/x=1
  |0,t,h=>by simp[jd] at h;simp[h]
  |n+1,t,h=>by
    rw[jd,List.mem_flatMap] at h;obtain⟨u,hu,h⟩:=h;obtain⟨h1,h2⟩:=lg hu;simp only[jg,jF,kL] at h
    rcases h with rfl|rfl<;>
      (refine⟨by simp[h1],fun x hx=>?_⟩
       rcases mC.mp hx with hx|hx
       · exact h2 x hx
       · simp at hx;simp[hx])
theorem vG{n:Nat}(hn:n<=5):(jd n).length<=32:=by
 rw[vF];exact wC (n:=2) (by decide) hn
abbrev HI:List D:=[.int 0,.int 1]
def Fv(d e:D):D:= .tup (sx d++[e])
theorem Lg(L:ja):(L.map cD).flatMap (fun d=>HI.map (Fv d))=(L.flatMap fun t=>[t++[0],t++[1]]).map cD:=by
 simp[List.flatMap_map,List.map_flatMap,Fv,sx,cD]
theorem GG(t:gU)(ht:t.length<=100)(e:D):gz js (gh 0) (gk (iU [(ir 1)])) [some (cD t,false),some (e,false)]=some ((Fv (cD t) e,false),[some (cD t,false),some (e,false)]):=by
 have:=iu;have h:t.length<=16777215:=by omega
 simp[ir,this,js,Fv,sx,h]
theorem zL(δ:Dn):gW (iU [(fC (.int 0)),(fC (.int 1))]) δ=some (HI,δ):=by simp[iu]
abbrev fbA:FS:=(gy (ic 1 (gX [] 2 (gW (ir 1)) (gq 0) hC (Fp (gW (iU [(fC (.int 0)),(fC (.int 1))])) (gq 1) hC (gZ (gz js (gh 0) (gk (iU [(ir 1)]))))))) gO)
theorem yC{n:Nat}(hn:n<=5):km [(.int n,false)]=some ((.lst ((jd n).map cD),true),[some (.int n,false)]):=by
 let z:Sl:=some (.int n,false)
 obtain⟨δ',⟨j,x,hj,rfl⟩,e⟩:=nJ (tg:=gq 2) (fb:=fbA) (fun ds δ=> ∃j x,j+ds.length=n/\δ=[z,some (.lst ((jd j).map cD),true),x]) (fun d ds δ ⟨j,x,hj,e⟩=>by
  subst e
  have c:=Pn (fi:=gW (ir 1)) (fi2:=gW (iU [(fC (.int 0)),(fC (.int 1))])) (f:=gz js (gh 0) (gk (iU [(ir 1)]))) (δ:=[z,some (.lst ((jd j).map cD),true),some (d,false)]) (δ1:=[z,some (.lst ((jd j).map cD),false),some (d,false)]) (l:=(jd j).map cD) (m:=HI) Fv rfl (fun d y=>zL _) (fun d hd e _=>by
   obtain⟨t,ht,rfl⟩:=oA.mp hd;exact⟨false,GG t (by have:=(lg ht).1;simp at hj;omega) e⟩) (by have:=vG (n:=j) (by omega);simp;omega)
  rw[Lg] at c;exact⟨_,_,rfl,(gx (iB c (show 1<3 by decide))).trans rfl,j+1,_,by simp at hj;omega,rfl⟩) (gY 0 n) [z,some (.lst ((jd 0).map cD),true),none] ⟨0,none,by simp[gY],rfl⟩
 have:j=n:=by simpa using hj
 subst this;exact jI (δ:=[z,none,x]) ⟨rfl,by decide,rfl⟩ ((gx (δ1:=[z,some (.lst ((jd 0).map cD),true),none]) rfl).trans ((gx ((kT (nF (o:= .slot 0) rfl rfl (by omega))).trans e)).trans (iM rfl)))
abbrev Pf:FS:=(gy (lT (qM 3 (gX [4] 1 (gW (iU [(fC (.int 0)),(fC (.int 1))])) (gq 1) hC (gZ (gz js (gh 0) (gk (iU [(ir 1)]))))))) gO)
abbrev Q5:FS:=(gy (ic 3 (ky [])) (gy (mV (gW (ir 1)) (gq 4) Pf) (gy (ic 1 (ir 3)) gO)))
theorem MM(z x1 x2:Sl)(L:ja)(hL:L.length<=100)(t:gU)(ht:t.length<=100):Pf [z,x1,x2,lv (L.map cD),some (cD t,false)]=some (.nx [z,x1,x2,lv ((L++[t++[0],t++[1]]).map cD),some (cD t,false)]):=by
 have c:=Fe (caps:=[4]) (fi:=gW (iU [(fC (.int 0)),(fC (.int 1))])) (f:=gz js (gh 0) (gk (iU [(ir 1)]))) (δ:=[z,x1,x2,lv (L.map cD),some (cD t,false)]) (l:=HI) (args:=[cD t]) (Fv (cD t)) (zL _) rfl rfl (fun e _=>⟨false,GG t ht e⟩) (by simp);have h1:=iu;have h2:L.length+2<=16777216:=by omega
 refine(gx ?_).trans rfl;rw[FZ];unfold qM;simp only[wB,Af];rw[show gX [4] 1 (gW (iU [(fC (.int 0)),(fC (.int 1))])) (gq 1) hC (gZ (gz js (gh 0) (gk (iU [(ir 1)])))) [z,x1,x2,lv (L.map cD),some (cD t,false)]=_ from c];simp[h1,h2,Fv,sx,cD]
abbrev ext(t:gU):List (List Int):=[t++[0],t++[1]]
theorem oZ{n:Nat}(hn:n<=5): ∃o,iW [(.int n,false)]=some ((.lst ((jd n).map cD),o),[some (.int n,false)]):=by
 let z:Sl:=some (.int n,false)
 obtain⟨δ',⟨j,o,x2,x3,x4,hj,rfl⟩,e⟩:=nJ (tg:=gq 2) (fb:=Q5) (fun ds δ=> ∃j o x2 x3 x4,j+ds.length=n/\δ=[z,some (.lst ((jd j).map cD),o),x2,x3,x4]) (fun d ds δ ⟨j,o,x2,x3,x4,hj,e⟩=>by
  subst e;have hj5:j<=5:=by simp at hj;omega
  have h32:=vG hj5
  obtain⟨δ',⟨u4,gJ,y4,h1,h2,rfl⟩,e⟩:=nJ (tg:=gq 4) (fb:=Pf) (fun ds δ=> ∃u4 gJ y4,u4++gJ=jd j/\ds=gJ.map cD/\δ=[z,some (.lst ((jd j).map cD),false),some (d,false),lv ((u4.flatMap ext).map cD),y4]) (fun t ds δ ⟨u4,gJ,y4,h1,h2,h3⟩=>by
   subst h3
   cases gJ with
   |nil=>cases h2
   |cons u gJ=>
    obtain⟨rfl,rfl⟩:=pO h2;have hu:u∈jd j:=by rw[<-h1];simp
    have hd:u4.length<=32:=by have:=rA List.length h1;simp at this;omega
    refine⟨_,_,rfl,MM z _ _ (u4.flatMap ext) ?_ u (by have:=(lg hu).1;omega),u4++[u],gJ,some (cD u,false),by simp[<-h1],rfl,?_⟩
    ·have: ∀L:List (List Int),(L.flatMap ext).length=2*L.length:=fun L=>by
      induction L with
      |nil=>rfl
      |cons t L ih=>simp at ih ⊢;omega
     rw[this];omega
    ·simp[List.flatMap_append]) ((jd j).map cD) [z,some (.lst ((jd j).map cD),false),some (d,false),lv [],x4] ⟨[],jd j,x4,rfl,rfl,rfl⟩
  have hr:gJ=[]:=by simpa using h2.symm
  subst hr;rw[tH] at h1;subst h1;exact⟨_,_,rfl,(gx (δ1:=[z,some (.lst ((jd j).map cD),o),some (d,false),lv [],x4]) rfl).trans ((gx ((kT (mO (o:=false) rfl)).trans e)).trans rfl),j+1,false,_,_,_,by simp at hj;omega,rfl⟩) (gY 0 n) [z,some (.lst ((jd 0).map cD),true),none,none,none] ⟨0,true,none,none,none,by simp[gY],rfl⟩
 have:j=n:=by simpa using hj
 subst this
 have pre: ∀g,gy (ic 1 (ky [(iU [])])) (gy (mV (ot (gh 0)) (gq 2) Q5) g) [z,none,none,none,none]=g [z,some (.lst ((jd j).map cD),o),x2,x3,x4]:=fun g=>
  (gx (δ1:=[z,some (.lst ((jd 0).map cD),true),none,none,none]) rfl).trans (gx ((kT (nF (o:= .slot 0) rfl rfl (by omega))).trans e))
 refine⟨o,?_⟩
 cases o with
 |true=>exact jI (δ:=[z,none,x2,x3,x4]) ⟨rfl,by decide,rfl⟩ ((pre _).trans (iM rfl))
 |false=>exact jI (δ:=[z,some (.lst ((jd j).map cD),false),x2,x3,x4]) ⟨rfl,by decide,rfl⟩ ((pre _).trans (iM rfl))
def oq(n:Nat)(ks:ja):List (List Int):=(jd n).filter fun t=>ks.all (kC t)
theorem MJ{n:Nat}{t:gU}(h:t∈jd n):isA n (cD t)=true:=by
 obtain⟨h1,h2⟩:=lg h;simp only[isA,iX,h1,decide_true,Bool.true_and,List.all_map,nL,Function.comp];intro x hx;rcases h2 x hx with rfl|rfl<;>rfl
theorem OW{n:Nat}{ks:ja}{t:gU}(h:t∈jd n):kB n ks (cD t)=ks.all (kC t):=by
 rw[kB,MJ h];simp[sx,nR,iOf]
theorem J2{t:gU}(h:t.length<=60):OkD (cD t):=fun l e=>by cases e;simpa using h
theorem zF(p:D->Bool)(L:ja):((L.map cD).filter p).map (fun d=>d)=(L.filter fun t=>p (cD t)).map cD:=by
 rw[List.map_id',List.filter_map];rfl
theorem sX{n:Nat}{ks:ja}(h:BB n ks):kj [(rD' n ks,false)]=some ((.lst ((oq n ks).map cD),true),[some (rD' n ks,false)]):=by
 have h1:gW (gA km [(gk (gz gIx (gh 0) (gk (fC (.int 0)))))]) [some (rD' n ks,false)]=some ((jd n).map cD,[some (rD' n ks,false)]):=
  mO (hX (os:=[.val (.int n,false)]) (args:=[(.int n,false)]) rfl rfl jV (yC h.1))
 have c:=Ff (caps:=[0]) (fi:=gW (gA km [(gk (gz gIx (gh 0) (gk (fC (.int 0)))))])) (f:=ir 1) (ti:=fT (gA lV [(gh 0),(gh 1)])) (δ:=[some (rD' n ks,false)]) (l:=(jd n).map cD) (args:=[rD' n ks]) (fun d=>d) (kB n ks) h1 rfl rfl (fun d hd=>by
  obtain⟨t,ht,rfl⟩:=oA.mp hd;have:=(lg ht).1;have h5:=h.1;exact⟨mB (hX (os:=[.slot 0,.slot 1]) (args:=[(rD' n ks,false),(cD t,false)]) rfl rfl jV (xX h _ (J2 (by omega)))),fun _=>⟨false,rfl⟩⟩) (by have:=vG h.1;simp;omega)
 rw[zF,List.filter_congr fun t ht=>OW ht] at c;exact jI ⟨rfl,by decide,rfl⟩ (iM (jP c))
theorem CI{n:Nat}{ks:ja}(h:BB n ks): ∃o,kY [(rD' n ks,false)]=some ((.lst ((oq n ks).map cD),o),[some (rD' n ks,false)]):=by
 obtain⟨o0,e0⟩:=oZ h.1
 let z:Sl:=some (rD' n ks,false)
 let cond (u4:ja):List (List Int):=(jd n).filter fun t=>u4.all (kC t)
 obtain⟨δ',⟨u4,gJ,o,x2,h1,h2,rfl⟩,e⟩:=nJ (tg:=gq 2) (fb:=(gy (ic 1 (gX [2] 1 (gW (ir 1)) (gq 1) (fT (gA iD [(gh 1),(gh 0)])) (gZ (ir 1)))) gO)) (fun ds δ=> ∃u4 gJ o x2,u4++gJ=ks/\ds=gJ.map cD/\δ=[z,some (.lst ((cond u4).map cD),o),x2]) (fun d ds δ ⟨u4,gJ,o,x2,h1,h2,h3⟩=>by
  subst h3
  cases gJ with
  |nil=>cases h2
  |cons u gJ=>
   obtain⟨rfl,rfl⟩:=pO h2;have hu:ClOk n u:=h.2.1.2 u (by rw[<-h1];simp)
   have c:=Ff (caps:=[2]) (fi:=gW (ir 1)) (f:=ir 1) (ti:=fT (gA iD [(gh 1),(gh 0)])) (δ:=[z,some (.lst ((cond u4).map cD),o),some (cD u,false)]) (δ1:=[z,some (.lst ((cond u4).map cD),false),some (cD u,false)]) (l:=(cond u4).map cD) (args:=[cD u]) (fun d=>d) (fun d=>kC ((sx d).map iOf) u) (mO (o:=false) rfl) rfl rfl (fun d hd=>by
    obtain⟨t,ht,rfl⟩:=oA.mp hd;have:=(lg (Nr.mp ht).1).1;refine⟨mB (o:=false) ?_,fun _=>⟨false,rfl⟩⟩;rw[show((sx (cD t)).map iOf)=t by simp[sx,nR,iOf]];exact hX (os:=[.slot 1,.slot 0]) (args:=[enc t,enc u]) rfl rfl jV (Ge h.1 this hu)) (by rw[iX];exact kM (kM (HJ _ _) (vG h.1)) (by decide))
   rw[zF] at c;refine⟨_,_,rfl,(gx (iB c (show 1<3 by decide))).trans rfl,u4++[u],gJ,true,some (cD u,false),by simp[<-h1],rfl,?_⟩
   simp[cond,List.filter_filter,sx,nR,iOf,Bool.and_comm]) (ks.map cD) [z,some (.lst ((jd n).map cD),o0),none] ⟨[],ks,o0,none,rfl,rfl,by
    rw[show cond []=jd n from PK.mpr fun _ _=>rfl]⟩
 have hr:gJ=[]:=by simpa using h2.symm
 subst hr;rw[tH] at h1;subst h1
 have pre: ∀g,gy (ic 1 (gA iW [(gk (gz gIx (gh 0) (gk (fC (.int 0)))))])) (gy (mV (gW (gz gIx (gh 0) (gk (fC (.int 1))))) (gq 2) (gy (ic 1 (gX [2] 1 (gW (ir 1)) (gq 1) (fT (gA iD [(gh 1),(gh 0)])) (gZ (ir 1)))) gO)) g) [z,none,none]=g [z,some (.lst ((oq n u4).map cD),o),x2]:=fun g=>
  (gx (δ1:=[z,some (.lst ((jd n).map cD),o0),none]) (iB (i:=1) (δ1:=[z,none,none]) (hX (os:=[.val (.int n,false)]) (args:=[(.int n,false)]) rfl rfl jV e0) (show 1<3 by decide))).trans (gx ((kT rfl).trans e))
 refine⟨o,?_⟩
 cases o with
 |true=>exact jI (δ:=[z,none,x2]) ⟨rfl,by decide,rfl⟩ ((pre _).trans (iM rfl))
 |false=>exact jI (δ:=[z,some (.lst ((oq n u4).map cD),false),x2]) ⟨rfl,by decide,rfl⟩ ((pre _).trans (iM rfl))
def Dp(ev:EvF)(d:D):Prop:= ∀b c,ev [(d,b),(d,c)]=some ((.bl true,false),[some (d,b),some (d,c)])
theorem Gz{ev:EvF}: ∀(l acc:List D) (x y:Sl),(∀d∈l,Dp ev d)->acc.length+l.length<=10000-> ∃x' y',jM (vI [(gq 0),(gq 1)]) hC (gZ (gA ev [(gh 0),(gh 1)])) ((l.zip l).map fun p=> .tup [p.1,p.2]) acc [x,y]=some (acc++l.map fun _=> .bl true,[x',y'])
 |[],acc,x,y,_,_=>⟨x,y,by simp[jM]⟩
 |d::l,acc,x,y,h,hl=>by
  obtain⟨x',y',e⟩:=Gz l (acc++[.bl true]) (some (d,false)) (some (d,false)) (fun d' h'=>h d' (iT _ h')) (by simp at hl ⊢;omega);refine⟨x',y',?_⟩;have hs:acc.length<sizeLine:=by rw[iu];simp at hl;omega
  simp only[rT,iQ,jM];rw[show vI [(gq 0),(gq 1)] (.tup [d,d]) [x,y]=some [some (d,false),some (d,false)] from rfl];simp only[iI,tX,ie,tY];rw[hX (os:=[.slot 0,.slot 1]) (args:=[(d,false),(d,false)]) rfl rfl jV (h d iR false false)];simp only[iI];rw[gu hs];simp only[iI];rw[show wb [.slot 0,.slot 1] [(d,false),(d,false)] [some (d,false),some (d,false)] [some (d,false),some (d,false)]=[some (d,false),some (d,false)] from rfl,e];simp
theorem Cc{ev:EvF}{l:List D}{d:D}(hd:d= .lst l\/d= .tup l)(h: ∀d∈l,Dp ev d)(hl:l.length<=1000):Dp (evF 2 2 [] (kg ev)) d:=fun b c=>by
 obtain⟨x',y',e⟩:=Gz (ev:=ev) l [] none none h (by simp;omega)
 have hc:gX [] 2 (vn (gh 0) (gh 1)) (vI [(gq 0),(gq 1)]) hC (gZ (gA ev [(gh 0),(gh 1)])) [some (d,b),some (d,c)]=some ((.lst (l.map fun _=> .bl true),true),[some (d,b),some (d,c)]):=by
  unfold gX;rw[show vn (gh 0) (gh 1) [some (d,b),some (d,c)]=some ((l.zip l).map fun p=> .tup [p.1,p.2],[some (d,b),some (d,c)]) from by rcases hd with rfl|rfl<;>rfl];simp only[iI,pF,qG,gR,jV,ie,rf,List.replicate_succ,List.replicate_zero];rw[e];rfl
 have ha:gG (g1 vq) [(gk (gX [] 2 (vn (gh 0) (gh 1)) (vI [(gq 0),(gq 1)]) hC (gZ (gA ev [(gh 0),(gh 1)]))))] [some (d,b),some (d,c)]=some ((.bl true,false),[some (d,b),some (d,c)]):=
  iZ (oQ (gF hc)) rfl (by rw[show g1 vq [.lst (l.map fun _=> .bl true)]=vq (.lst (l.map fun _=> .bl true)) from rfl,BE (fun _=>true)];simp)
 have hL:gz gEq (gk (gG (g1 nk) [(gh 0)])) (gk (gG (g1 nk) [(gh 1)])) [some (d,b),some (d,c)]=some ((.bl true,false),[some (d,b),some (d,c)]):=by
  rcases hd with rfl|rfl<;>simp
 have ho:ip [(d,b),(d,c)] [some (d,b),some (d,c)]=[some (d,b),some (d,c)]:=by cases b<;>cases c<;>rfl
 have:=jI (args:=[(d,b),(d,c)]) (np:=2) (n:=2) (asg:=[]) (f:=kg ev) (δ:=[some (d,b),some (d,c)]) (r:=(.bl true,false)) ⟨rfl,by decide,by simp⟩ (by
  refine iM ((tV (δ1:=[some (d,b),some (d,c)]) (by rcases hd with rfl|rfl<;>rfl)).trans ?_);refine(gx ((qa (δ1:=[some (d,b),some (d,c)]) ?_).trans rfl)).trans (iM (jP ((vB hL).trans ha)));rcases hd with rfl|rfl<;>simp[isT])
 rwa [ho] at this
theorem Qc(ev:EvF)(i:Int):Dp (evF 2 2 [] (kg ev)) (.int i):=fun b c=>by
 cases b<;>cases c<;>simp[kg,evF,ip,isT]
theorem LF(L:ja)(hL:L.length<=1000)(h: ∀t∈L,t.length<=1000):Dp (jx RD) (.lst (L.map cD)):=
 Cc (ev:=jx 5) (.inl rfl) (fun d hd=>by
  obtain⟨t,ht,rfl⟩:=oA.mp hd
  exact Cc (ev:=jx 4) (.inr rfl) (fun d hd=>by
   obtain⟨i,_,rfl⟩:=oA.mp hd;exact Qc (jx 3) i) (by simpa using h t ht)) (by simpa using hL)
theorem Pk{n:Nat}{ks:ja}(h:BB n ks)(d:D)(hd:OkD d):kX [(rD' n ks,false),(d,false)]=some ((.bl (kB n ks d),false),[some (rD' n ks,false),some (d,false)]):=by
 let δ:Dn:=[some (rD' n ks,false),some (d,false)]
 refine jI (δ:=δ) ⟨rfl,by decide,rfl⟩ ?_;rw[kB]
 cases hT:isA n d with
 |true=>
  obtain⟨t,rfl,ht⟩:=Gj hT;have c:=uz (caps:=[]) (fi:=gW (ir 1)) (f:=gA jR [(gh 0),(gk (fC (.int 0))),(gk (fC (.int 1)))]) (δ:=δ) (l:=t.map .int) (args:=[]) yV rfl rfl rfl (fun d _=>⟨false,by cases d<;>simp[CB,gR,wb,yV]⟩) (by have:=h.1;simp;omega);have hb:(t.map D.int).all yV=true:=by rw[cD,isA,kQ] at hT;exact hT.2
  rw[hb] at c;refine(gx ((qa (δ1:=δ) ((vA (δ1:=δ) rfl).trans ((vA ?_).trans (uv (mB c))))).trans rfl)).trans (iM (jP ?_))
  ·simp[δ,gIx,atI,ixN,ht]
  ·refine(GF h.1 h.2.1.2 h.2.2.2 ht (fun c hc=>Ge h.1 ht hc) (i:=1) rfl rfl).trans ?_;simp[sx,nR,iOf,δ]
 |false=>
  refine iM ((tV (δ1:=δ) ?_).trans (iM (jP rfl)))
  cases d with
  |tup l=>
   have c:=uz (caps:=[]) (fi:=gW (ir 1)) (f:=gA jR [(gh 0),(gk (fC (.int 0))),(gk (fC (.int 1)))]) (δ:=δ) (l:=l) (args:=[]) yV rfl rfl rfl (fun d _=>⟨false,by cases d<;>simp[CB,gR,wb,yV]⟩) (by have:=hd l rfl;omega);rw[isA] at hT;by_cases hl:l.length=n
   ·rw[tE hl,Bool.true_and] at hT;rw[hT] at c;refine(vA (δ1:=δ) rfl).trans ((vA ?_).trans (uv (mB c)));simp[δ,gIx,atI,ixN,hl]
   ·refine(vA (δ1:=δ) rfl).trans (KI ?_);simp[δ,gIx,atI,ixN];omega
  |_=>exact KI (by simp[isT,δ])
def nbL:List D:=[.int 2,.int (-1),.bl true,.bl false,.non,.str "0",.tup [.int 0],.int 100000000000000000000000000000,.int 0,.int 1]
def baL(t:gU)(i:Int)(x:D):List D:=
  [.tup (nM (t.map .int) none (some i)++[x]++nM (t.map .int) (some (i+1)) none),.tup (nM (t.map .int) none (some i)++[x]++nM (t.map .int) (some i) none),.tup (nM (t.map .int) none (some i)++nM (t.map .int) (some (i+1)) none),
   .lst (t.map .int),.tup (t.map D.int).reverse,.non,.oth .dct [] [],.tup (t.map .int++nM (t.map .int) none (some 1)),x,.tup [.tup (t.map .int)]]
theorem ON(t:gU)(ht:t.length<=5)(i:Int)(x:D)(hx:x∈nbL): ∀d∈baL t i x,OkD d:=by
 intro d hd;have hc: ∀lo hi,(nM (t.map D.int) lo hi).length<=5:=fun lo hi=>kM (Bl _ _ _) (by simpa using ht);have c1:=hc none (some i);have c2:=hc (some (i+1)) none;have c3:=hc (some i) none;have c4:=hc none (some 1);simp only[baL,jg,jF,kL] at hd;rcases hd with rfl|rfl|rfl|rfl|rfl|rfl|rfl|rfl|rfl|rfl
 case inr.inr.inr.inr.inr.inr.inr.inr.inl=>
  simp only[nbL,jg,jF,kL] at hx;rcases hx with rfl|rfl|rfl|rfl|rfl|rfl|rfl|rfl|rfl|rfl<;>intro l h<;>cases h<;>simp
 all_goals (intro l h<;>cases h<;>simp<;>try omega)
theorem K6(a:Int)(b:Bool)(t:gU)(ht:t.length<=5): ∃a' d,OkD d/\jt [(.lst [.int a,.bl b],true),enc t]=some ((d,false),[stt a' b,some (enc t)]):=by
 obtain⟨i,a1,i0,i1,e1⟩:=kH a b (t.length+1) (by omega) (by omega);obtain⟨w,a2,w0,w1,e2⟩:=kH a1 b 10 (by omega) (by omega);obtain⟨v,a3,v0,v1,e3⟩:=kH a2 b 14 (by omega) (by omega)
 let x:=nbL.getD w.toNat .non
 have hx:x∈nbL:=by
  have:w.toNat<nbL.length:=by simp[nbL];omega
  show nbL.getD w.toNat .non∈nbL;rw[wA,iO this];exact jL this
 let pL:List Int:=[0,0,0,0,1,1,2,3,4,5,6,7,8,9]
 let q:=pL.getD v.toNat 0
 have hq:0<=q/\q<10:=by
  have:v.toNat<14:=by omega
  have key: ∀m,m<14->0<=pL.getD m 0/\pL.getD m 0<10:=by decide
  exact key _ this
 have hc: ∀lo hi,(nM (t.map D.int) lo hi).length<=1000:=fun lo hi=>kM (Bl _ _ _) (by simp;omega);have y6: ∀lo hi,(nM (t.map D.int) lo hi).length<=999:=fun lo hi=>kM (Bl _ _ _) (by simp;omega);have ht2:t.length<=1000:=by omega
 refine⟨a3,(baL t i x).getD q.toNat .non,Lc Mx (ON t ht i x hx) _,?_⟩;refine jI (δ:=[stt a3 b,some (enc t),ii i,some (x,false),some (.lst (baL t i x),true)]) ⟨rfl,by decide,rfl⟩ ?_;refine(gx (δ1:=[stt a1 b,some (enc t),ii i,none,none]) ?_).trans ?_
 ·exact iB (i:=2) (δ1:=[stt a1 b,some (enc t),none,none,none]) (e1 _ [some (enc t),none,none,none] (.val (.int (t.length+1),false)) (by simp) rfl) (show 2<5 by decide)
 refine(gx (δ1:=[stt a2 b,some (enc t),ii i,some (x,false),none]) ?_).trans ?_
 ·refine iB (i:=3) (δ1:=[stt a2 b,some (enc t),ii i,none,none]) (il (o1:= .val (.lst nbL,true)) (o2:= .val (.int w,false)) (gF (δ1:=[stt a1 b,some (enc t),ii i,none,none]) ?_) (gF (e2 _ [some (enc t),ii i,none,none] _ rfl rfl)) rfl rfl (ixl (L:=nbL) w0 (by simpa[nbL] using w1))) (show 3<5 by decide);simp[iu,nbL,Qt]
 refine(gx (δ1:=[stt a2 b,some (enc t),ii i,some (x,false),some (.lst ((baL t i x).take 3),true)]) ?_).trans ?_
 ·generalize x=y;simp[ng,vR,gSl,Ri,hc,y6,ht2,iu,baL,ir]
 refine(gx (δ1:=[stt a2 b,some (enc t),ii i,some (x,false),some (.lst (baL t i x),true)]) ?_).trans ?_
 ·generalize x=y;simp[ng,vR,gSl,Ri,Rj,hc,y6,ht2,iu,baL,ir,KH,Q1,CY]
 refine iM (jP (il (o1:= .slot 4) (o2:= .val (.int q,false)) rfl (gF (il (o1:= .val (.lst (pL.map .int),true)) (o2:= .val (.int v,false)) (gF (δ1:=[stt a2 b,some (enc t),ii i,some (x,false),some (.lst (baL t i x),true)]) ?_) (gF (e3 _ _ _ rfl rfl)) rfl rfl ?_)) rfl rfl (ixl hq.1 (by simpa[baL] using hq.2))))
 ·simp[iu,pL]
 ·exact OX v0 (by simpa[pL] using v1)
theorem zA{n:Nat}(hn:n<=5)(ks:ja):(oq n ks).length<=32:=kM (HJ _ _) (vG hn)
theorem MD{n:Nat}{ks:ja}{t:gU}(h:t∈oq n ks):t.length=n:=(lg (Nr.mp h).1).1
abbrev fb2:FS:=(gy (ic 6 (gA kj [(gh 3)])) (gy (sIf (qo (fT (gA (jx RD) [(gh 6),(gh 4)]))) (gy (jQ (fC (.bl false))) gO) gO) (gy (lT (jC 6 (iU []))) gO)))
theorem Ph{n:Nat}{ks:ja}(h:BB n ks)(c0 c1 c2 c5 c6 c7 c8 c9:Sl)(o:Bool): ∃c6',fb2 [c0,c1,c2,some (rD' n ks,false),some (.lst ((oq n ks).map cD),o),c5,c6,c7,c8,c9]=some (.nx [c0,c1,c2,some (rD' n ks,false),some (.lst ((oq n ks).map cD),o),c5,c6',c7,c8,c9]):=by
 have hs:=LF (oq n ks) (by have:=zA h.1 ks;omega) (fun t ht=>by have:=MD ht;have:=h.1;omega) true o
 let R:Sl:=some (rD' n ks,false)
 let M:D:= .lst ((oq n ks).map cD)
 refine⟨lv ((oq n ks).map cD++[.tup []]),?_⟩;refine(gx (δ1:=[c0,c1,c2,R,some (M,o),c5,some (M,true),c7,c8,c9]) (iB (i:=6) (δ1:=[c0,c1,c2,R,some (M,o),c5,c6,c7,c8,c9]) (hX (os:=[.slot 3]) (args:=[(rD' n ks,false)]) rfl rfl jV (sX h)) (show 6<10 by decide))).trans ?_;refine(gx ((qa (δ1:=[c0,c1,c2,R,some (M,o),c5,some (M,true),c7,c8,c9]) (uv (b:=true) (mB (o:=false) ?_))).trans rfl)).trans ?_
 ·refine(hX (os:=[.slot 6,.slot 4]) (args:=[(M,true),(M,o)]) rfl rfl ?_ hs).trans ?_
  ·cases o
   ·exact(show([6]:List Nat).Nodup by decide)
   ·exact(show([6,4]:List Nat).Nodup by decide)
  ·cases o<;>rfl
 ·have hz:((oq n ks).map cD).length<sizeLine:=AO (by have:=zA h.1 ks;simp;omega);refine(gx ?_).trans rfl;rw[FZ];unfold jC;simp[M,iu] at hz ⊢;simp[hz,R]
abbrev K0:FS:=(gy (ic 6 (gA lV [(gh 3),(gh 9)])) (gy (sIf (wc (qo (fT (kd (ou [.bool]) (gh 6)))) (fT (gz gNe (gh 6) (gk (gA kX [(gh 3),(gh 9)]))))) (gy (jQ (fC (.bl false))) gO) gO) gO))
theorem KZ{n:Nat}{ks:ja}(h:BB n ks)(d:D)(hd:OkD d)(c0 c1 c2 c4 c5 c6 c7 c8:Sl):K0 [c0,c1,c2,some (rD' n ks,false),c4,c5,c6,c7,c8,some (d,false)]=some (.nx [c0,c1,c2,some (rD' n ks,false),c4,c5,some (.bl (kB n ks d),false),c7,c8,some (d,false)]):=by
 let R:Sl:=some (rD' n ks,false)
 let B:Sl:=some (.bl (kB n ks d),false)
 refine(gx (δ1:=[c0,c1,c2,R,c4,c5,B,c7,c8,some (d,false)]) (iB (i:=6) (δ1:=[c0,c1,c2,R,c4,c5,c6,c7,c8,some (d,false)]) (hX (os:=[.slot 3,.slot 9]) (args:=[(rD' n ks,false),(d,false)]) rfl rfl jV (xX h d hd)) (show 6<10 by decide))).trans ?_;refine(gx ((qa (δ1:=[c0,c1,c2,R,c4,c5,B,c7,c8,some (d,false)]) ((vA (uv (b:=true) rfl)).trans (mB (o:=false) ?_))).trans rfl)).trans rfl;refine il (o1:= .slot 6) (y:= .bl (kB n ks d)) rfl (gF (hX (δ1:=[c0,c1,c2,R,c4,c5,B,c7,c8,some (d,false)]) (os:=[.slot 3,.slot 9]) (args:=[(rD' n ks,false),(d,false)]) rfl rfl jV (Pk h d hd))) rfl rfl ?_;rw[Qe];simp
theorem IW(a:Int)(b:Bool)(m:Int)(hm:0<m)(bJ:m<1073741824): ∃v a',0<=v/\v<m/\ ∀(fo:FO) (c0:Sl) (δ:Dn) (o:Opd),fo (c0::stt a b::δ)=some (o,c0::stt a b::δ)->yB (c0::stt a b::δ) o=some (.int m,false)->gA gD [gh 1,fo] (c0::stt a b::δ)=some ((.int v,false),c0::stt a' b::δ):=by
 obtain⟨v,a',h0,h1,e⟩:=qB a b m hm bJ;refine⟨v,a',h0,h1,fun fo c0 δ o h2 h3=>?_⟩;refine(hX (os:=[.slot 1,o]) (args:=[(.lst [.int a,.bl b],true),(.int m,false)]) (sP rfl h2) ?_ ?_ e).trans ?_
 ·simp[h3]
 ·cases o<;>simp[gR]
 ·cases o<;>simp[wb]
abbrev fE:F:=gz gIx (gh 0) (gk (gA gD [(gh 1),(gk (gG (g1 nk) [(gh 0)]))]))
theorem LB{n:Nat}(hn:n<=5)(b o:Bool)(a:Int)(c0 c1 c3 c4 c5 c6 c8 c9:Sl): ∃(a':Int) (L:ja) (o':Bool),(∀t∈L,t∈jd n)/\L.length=3/\gX [7,2] 1 (ot (gk (fC (.int 3)))) (gq 2) hC (gZ fE) [c0,c1,stt a b,c3,c4,c5,c6,some (.lst ((jd n).map cD),o),c8,c9]=some ((.lst (L.map cD),true),[c0,c1,stt a' b,c3,c4,c5,c6,some (.lst ((jd n).map cD),o'),c8,c9]):=by
 let E:D:= .lst ((jd n).map cD)
 have h32:=vG hn;have hp:0<(jd n).length:=by rw[vF];exact Nat.pow_pos (by decide)
 obtain⟨acc,δ',⟨a',L,x,h1,h2,h3,rfl⟩,e⟩:=Fl (tg:=gq 2) (f:=fE) (fun ds acc δ=> ∃(a':Int) (L:ja) (x:Sl),acc=L.map cD/\(∀t∈L,t∈jd n)/\L.length+ds.length=3/\δ=[some (E,o),stt a' b,x]) (fun d ds acc δ ⟨a',L,x,h1,h2,h3,h4⟩=>by
  subst h4;obtain⟨v,a2,v0,v1,ev⟩:=IW a' b (jd n).length (by omega) (by omega);have hv:v.toNat<(jd n).length:=by omega
  refine⟨[some (E,o),stt a' b,some (d,false)],cD (jd n)[v.toNat],false,[some (E,o),stt a2 b,some (d,false)],rfl,?_,by subst h1;simp;simp at h3;omega,a2,L++[(jd n)[v.toNat]],some (d,false),by simp[h1],fun t ht=>?_,by simp at h3 ⊢;omega,rfl⟩
  ·refine il (o1:= .slot 0) (o2:= .val (.int v,false)) (x:=E) rfl (gF (ev _ (some (E,o)) [some (d,false)] (.val (.int (jd n).length,false)) (by simp[E]) rfl)) rfl rfl ?_;rw[ixl v0 (by simp;omega)];simp[hv]
  ·rcases mC.mp ht with ht|ht
   ·exact h2 t ht
   ·simp at ht;rw[ht];exact jL hv) (gY 0 3) [] [some (E,o),stt a b,none] ⟨a,[],none,rfl,by simp,by simp[gY],rfl⟩
 subst h1;refine⟨a',L,o,h2,by simpa using h3,?_⟩;refine(CZ (caps:=[7,2]) (args:=[(E,o),(.lst [.int a,.bl b],true)]) (nF (n:=3) (o:= .val (.int 3,false)) rfl rfl (by omega)) rfl ?_ e).trans ?_
 ·cases o
  ·exact(show([2]:List Nat).Nodup by decide)
  ·exact(show([7,2]:List Nat).Nodup by decide)
 ·cases o<;>rfl
theorem K5{n:Nat}(hn:n<=5)(b:Bool)(a:Int)(L:ja)(hL: ∀t∈L,t∈jd n)(h3:L.length=3)(c0 c1 c3 c4 c5 c6 c7 c9:Sl)(o:Bool): ∃(a':Int) (ds:List D),(∀d∈ds,OkD d)/\ds.length=3/\gX [2] 1 (gW (ir 8)) (gq 1) hC (gZ (gA jt [(gh 0),(gh 1)])) [c0,c1,stt a b,c3,c4,c5,c6,c7,some (.lst (L.map cD),o),c9]=some ((.lst ds,true),[c0,c1,stt a' b,c3,c4,c5,c6,c7,some (.lst (L.map cD),false),c9]):=by
 obtain⟨acc,δ',⟨a',gJ,x,h1,h2,h3,h4,rfl⟩,e⟩:=Fl (tg:=gq 1) (f:=gA jt [(gh 0),(gh 1)]) (fun ds acc δ=> ∃(a':Int) (gJ:ja) (x:Sl),(∀d∈acc,OkD d)/\acc.length+gJ.length=3/\ds=gJ.map cD/\(∀t∈gJ,t∈jd n)/\δ=[stt a' b,x]) (fun d ds acc δ ⟨a',gJ,x,h1,h2,h3,h4,h5⟩=>by
  subst h5
  cases gJ with
  |nil=>cases h3
  |cons u gJ=>
   obtain⟨rfl,rfl⟩:=pO h3;obtain⟨a2,d,hd,ed⟩:=K6 a' b u (by have:=(lg (h4 u iR)).1;omega);refine⟨[stt a' b,some (enc u)],d,false,[stt a2 b,some (enc u)],rfl,(hX (δ1:=[stt a' b,some (enc u)]) (os:=[.slot 0,.slot 1]) (args:=[(.lst [.int a',.bl b],true),enc u]) rfl rfl (show([0]:List Nat).Nodup by decide) ed).trans rfl,by simp at h2;omega,a2,gJ,_,fun y hy=>?_,by simp at h2 ⊢;omega,rfl,fun t ht=>h4 t (iT _ ht),rfl⟩;rcases mC.mp hy with hy|hy
   ·exact h1 y hy
   ·simp at hy;subst hy;exact hd) (L.map cD) [] [stt a b,none] ⟨a,L,none,by simp,by simpa using h3,rfl,hL,rfl⟩
 have hr:gJ=[]:=by simpa using h3.symm
 subst hr;refine⟨a',acc,h1,by simpa using h2,?_⟩;exact(CZ (caps:=[2]) (k:=1) (δ1:=[c0,c1,stt a b,c3,c4,c5,c6,c7,some (.lst (L.map cD),false),c9]) (l:=L.map cD) (args:=[(.lst [.int a,.bl b],true)]) (mO (o:=false) rfl) rfl (show([2]:List Nat).Nodup by decide) e).trans rfl
abbrev Nm:FS:=(gy (ic 2 (gA ku [(gh 0),(gh 1)])) (gy (ic 3 (gA lL [(gh 2),(gk (fC (.int 0))),(gk (fC (.int 5)))])) (gy (ic 4 (gA kY [(gh 3)])) (gy (mV (ot (gk (fC (.int 2)))) (gq 5) fb2) (gy (ic 7 (gA iW [(gk (gz gIx (gh 3) (gk (fC (.int 0)))))])) (gy (ic 8 (gX [7,2] 1 (ot (gk (fC (.int 3)))) (gq 2) hC (gZ fE))) (gy (mV (gW (gz js (gh 8) (gk (gX [2] 1 (gW (ir 8)) (gq 1) hC (gZ (gA jt [(gh 0),(gh 1)])))))) (gq 9) K0) gO)))))))
theorem KG(ns:gU)(k:Nat)(c2 c3 c4 c5 c6 c7 c8 c9:Sl): ∃d2 d3 d4 d5 d6 d7 d8 d9,Nm [some (.lst (ns.map .int),false),ii k,c2,c3,c4,c5,c6,c7,c8,c9]=some (.nx [some (.lst (ns.map .int),false),ii k,d2,d3,d4,d5,d6,d7,d8,d9]):=by
 let z0:Sl:=some (.lst (ns.map .int),false)
 let z1:Sl:=ii k
 obtain⟨a,b,e0⟩:=Ja ns k;obtain⟨a1,n,ks,hr,_,_,e1⟩:=G0 a b 0 5 (by omega) (by omega);obtain⟨o,e2⟩:=CI hr
 let R:Sl:=some (rD' n ks,false)
 let M:Sl:=some (.lst ((oq n ks).map cD),o)
 obtain⟨_,⟨d5,d6,rfl⟩,e3⟩:=nJ (tg:=gq 5) (fb:=fb2) (fun ds δ=> ∃d5 d6,δ=[z0,z1,stt a1 b,R,M,d5,d6,c7,c8,c9]) (fun d ds δ ⟨d5,d6,h⟩=>by
  subst h;obtain⟨c6',e⟩:=Ph hr z0 z1 (stt a1 b) (some (d,false)) d6 c7 c8 c9 o;exact⟨_,_,rfl,e,_,_,rfl⟩) (gY 0 2) _ ⟨c5,c6,rfl⟩
 obtain⟨o2,e4⟩:=oZ hr.1
 let V:D:= .lst ((jd n).map cD)
 obtain⟨a2,L,o3,hL,hL3,e5⟩:=LB hr.1 b o2 a1 z0 z1 R M d5 d6 c8 c9;obtain⟨a3,ds,aF,hds3,e6⟩:=K5 hr.1 b a2 L hL hL3 z0 z1 R M d5 d6 (some (V,o3)) c9 true
 let W:Sl:=some (.lst (L.map cD),false)
 obtain⟨_,⟨gJ,f6,f9,_,rfl⟩,e7⟩:=nJ (tg:=gq 9) (fb:=K0) (fun ds δ=> ∃(gJ:List D) (f6 f9:Sl),(∀d∈ds,OkD d)/\δ=[z0,z1,stt a3 b,R,M,d5,f6,some (V,o3),W,f9]) (fun d ds δ ⟨_,f6,f9,h1,h⟩=>by
  subst h
  exact⟨_,_,rfl,KZ hr d (h1 d iR) _ _ _ _ _ _ _ _,[],_,_,fun x hx=>h1 x (iT _ hx),rfl⟩) (L.map cD++ds) [z0,z1,stt a3 b,R,M,d5,d6,some (V,o3),W,c9] ⟨[],d6,c9,fun d hd=>by
   rcases mC.mp hd with hd|hd
   ·obtain⟨t,ht,rfl⟩:=oA.mp hd;exact J2 (by have:=(lg (hL t ht)).1;have:=hr.1;omega)
   ·exact aF d hd,rfl⟩
 refine⟨stt a3 b,R,M,d5,f6,some (V,o3),W,f9,?_⟩;refine(gx (δ1:=[z0,z1,stt a b,c3,c4,c5,c6,c7,c8,c9]) (iB (i:=2) (δ1:=[z0,z1,c2,c3,c4,c5,c6,c7,c8,c9]) (hX (os:=[.slot 0,.slot 1]) (args:=[(.lst (ns.map .int),false),(.int k,false)]) rfl rfl jV e0) (show 2<10 by decide))).trans ?_;refine(gx (δ1:=[z0,z1,stt a1 b,R,c4,c5,c6,c7,c8,c9]) (iB (i:=3) (δ1:=[z0,z1,stt a1 b,c3,c4,c5,c6,c7,c8,c9]) (hX (δ1:=[z0,z1,stt a b,c3,c4,c5,c6,c7,c8,c9]) (os:=[.slot 2,.val (.int 0,false),.val (.int 5,false)]) (args:=[(.lst [.int a,.bl b],true),(.int 0,false),(.int 5,false)]) rfl rfl (show([2]:List Nat).Nodup by decide) e1) (show 3<10 by decide))).trans ?_;refine(gx (δ1:=[z0,z1,stt a1 b,R,M,c5,c6,c7,c8,c9]) (iB (i:=4) (δ1:=[z0,z1,stt a1 b,R,c4,c5,c6,c7,c8,c9]) (hX (os:=[.slot 3]) (args:=[(rD' n ks,false)]) rfl rfl jV e2) (show 4<10 by decide))).trans ?_;refine(gx ((kT (nF (n:=2) (o:= .val (.int 2,false)) rfl rfl (by omega))).trans e3)).trans ?_;refine(gx (δ1:=[z0,z1,stt a1 b,R,M,d5,d6,some (V,o2),c8,c9]) (iB (i:=7) (δ1:=[z0,z1,stt a1 b,R,M,d5,d6,c7,c8,c9]) (hX (os:=[.val (.int n,false)]) (args:=[(.int n,false)]) rfl rfl jV e4) (show 7<10 by decide))).trans ?_;refine(gx (iB e5 (show 8<10 by decide))).trans ?_;refine(gx ((kT (mO (o:=true) (il (o1:= .slot 8) (x:= .lst (L.map cD)) rfl (gF e6) rfl rfl (Rj (by simp;omega) (by omega))))).trans e7)).trans rfl
theorem PF(ns:gU)(hl:ns.length<=63): ∃o outs,rM [(.lst (ns.map .int),false)]=some ((.bl true,o),outs):=by
 let z0:Sl:=some (.lst (ns.map .int),false)
 let N:Nat:=if 1<min ns.length 8 then min ns.length 8 else 1
 obtain⟨_,⟨d1,d2,d3,d4,d5,d6,d7,d8,d9,_,rfl⟩,e⟩:=nJ (tg:=gq 1) (fb:=Nm) (fun ds δ=> ∃d1 d2 d3 d4 d5 d6 d7 d8 d9,(∀d∈ds,∃k:Nat,d= .int k)/\δ=[z0,d1,d2,d3,d4,d5,d6,d7,d8,d9]) (fun d ds δ ⟨d1,d2,d3,d4,d5,d6,d7,d8,d9,h1,h⟩=>by
  subst h;obtain⟨k,rfl⟩:=h1 d iR;obtain⟨g2,g3,g4,g5,g6,g7,g8,g9,e⟩:=KG ns k d2 d3 d4 d5 d6 d7 d8 d9
  exact⟨_,_,rfl,e,_,_,_,_,_,_,_,_,_,fun x hx=>h1 x (iT _ hx),rfl⟩) (gY 0 N) [z0,none,none,none,none,none,none,none,none,none] ⟨none,none,none,none,none,none,none,none,none,fun d hd=>by
   obtain⟨k,_,rfl⟩:=oA.mp hd;exact⟨k,by simp⟩,rfl⟩
 have r0:BB 0 []:=⟨by decide,⟨by simp,by simp⟩,by simp[SrtC],by simp⟩
 have r1:BB 1 [[-1],[1]]:=⟨by decide,⟨by decide,by intro c hc;simp at hc;rcases hc with rfl|rfl<;>exact⟨by simp,by simp,by simp[ab]⟩⟩,by simp[SrtC];decide,by simp⟩
 refine⟨false,_,jI (δ:=[z0,d1,d2,d3,d4,d5,d6,d7,d8,d9]) ⟨rfl,by decide,rfl⟩ ?_⟩;refine(gx ((kT (ds:=gY 0 N) (δ1:=[z0,none,none,none,none,none,none,none,none,none]) ?_).trans e)).trans (iM (jP ?_))
 ·refine nF (o:= .val (.int N,false)) (gF ?_) rfl (by simp only[N];split<;>omega)
  have hN:(N:Int)=if(if(8:Int)<ns.length then 8 else(ns.length:Int))>1 then(if(8:Int)<ns.length then 8 else(ns.length:Int)) else 1:=by
   simp only[N];split<;>split<;>split<;>omega
  rw[hN];simp[z0]
 ·generalize ([z0,d1,d2,d3,d4,d5,d6,d7,d8,d9]:Dn)=δ;have t0:iU [(fC (.int 0)),(iU [])] δ=some ((rD' 0 [],false),δ):=by simp[iu]
  have t1:iU [(fC (.int 1)),(iU [(iU [(kd qW (gk (fC (.int 1))))]),(iU [(fC (.int 1))])])] δ=some ((rD' 1 [[-1],[1]],false),δ):=by simp[iu]
  have g0:gA kj [(gk (iU [(fC (.int 0)),(iU [])]))] δ=some ((.lst [.tup []],true),δ):=hX (os:=[.val (rD' 0 [],false)]) (args:=[(rD' 0 [],false)]) (oQ (gF t0)) rfl jV (sX r0);have aH:gA kj [(gk (iU [(fC (.int 1)),(iU [(iU [(kd qW (gk (fC (.int 1))))]),(iU [(fC (.int 1))])])]))] δ=some ((.lst [],true),δ):=hX (os:=[.val (rD' 1 [[-1],[1]],false)]) (args:=[(rD' 1 [[-1],[1]],false)]) (oQ (gF t1)) rfl jV (sX r1);have o6:gA lV [(gk (iU [(fC (.int 0)),(iU [])])),(gk (iU []))] δ=some ((.bl true,false),δ):=hX (os:=[.val (rD' 0 [],false),.val (.tup [],false)]) (args:=[(rD' 0 [],false),(.tup [],false)]) (sP (gF t0) (gF (by simp[iu]))) rfl jV (xX r0 (.tup []) (J2 (t:=[]) (by simp)));refine(vB (o:=false) (il (o2:= .val (.lst [.tup []],true)) (gF g0) (gF (by simp[iu])) rfl rfl ?_)).trans ((vB (o:=false) (il (gF o6) (o2:= .val (.bl true,false)) rfl rfl rfl rfl)).trans (il (o2:= .val (.lst [],true)) (gF aH) (gF (by simp[iu])) rfl rfl ?_))
  ·simp[gEq,D.dep,D.depL,D.eqb,D.eqbL]
  ·simp[gEq,D.dep,D.depL,D.eqb,D.eqbL]
end PV
theorem K12.main(ns:gU)(hl:ns.length<=63): ∃o outs,PV.rM [(.lst (ns.map .int),false)]=some ((.bl true,o),outs):=PV.PF ns hl
namespace PySem.W.Fast
def tw1836760721846167837:=()
def tw30359066881423904:=()
def tw2622586548702229304:=()
def tw9293031348525470278:=()
def tw17199726544188658414:=()
def tw3091573236710848082:=()
def tw4775156497744188091:=()
def tw5103369136016577756:=()
def tw12754660542702682984:=()
def tw6589795681441546257:=()
def tw16806802986615791388:=()
def tw9701911870989706880:=()
def tw11257021528104896390:=()
def tw14114148769903872986:=()
def tw16193908499886631018:=()
def tw7604145318881028973:=()
def tw3157371430156232635:=()
def tw13120905707452381650:=()
def tw15980383582362222852:=()
def tw218398816937918208:=()
def tw2571707301255354945:=()
def tw6968865252662180998:=()
def tw17060635971528767274:=()
def tw10732886075191923584:=()
def tw12951269624448125534:=()
def tw12690569962842703877:=()
def tw11392537184590442459:=()
def tw4857206263284328911:=()
def tw11857221224373670776:=()
def tw6558976098165037480:=()
def tw9463585647997279696:=()
def tw12736025017476745769:=()
def tw6605240899488643188:=()
def tw1153695674259301777:=()
def tw2928361749853760647:=()
def tw17378854873862679604:=()
def tw11053130955373960236:=()
def tw2718236170037450249:=()
def tw15537300015211358494:=()
def tw4802806128408024912:=()
def tw8250566102729941296:=()
def tw10573432954620966033:=()
def tw9655612266374388827:=()
def tw6696166939654113204:=()
def tw4943465038852851340:=()
def tw6252078824083299792:=()
def tw11175199345624304508:=()
def tw16587835527369845576:=()
def tw337777956835509171:=()
def tw10148628403473132462:=()
def tw13677213376642289329:=()
def tw9203766890916465555:=()
def tw2015078468559960494:=()
def tw14944991269520020389:=()
def tw11211310188959241907:=()
def tw12965261280506468238:=()
def tw3081697895147522710:=()
def tw7775163848722520432:=()
def tw1881031601337689677:=()
def tw3853805380939986509:=()
def tw3511437505272796121:=()
def tw13274498757051809675:=()
def tw4909881235715396332:=()
def tw17472396234172471231:=()
end PySem.W.Fast
open PySem PySem.W PyProof.Rows PX
set_option maxRecDepth 100000 in
set_option maxHeartbeats 0 in
theorem PySem.Challenge.cw_twinriddles_k12_answers_holds : PySem.Challenge.rw_twinriddles_k12_answers.Holds := by
  w_on; o_law; k_head; (case hw => w_witness2)
  k_fill
  refine walkG (l := PySem.Challenge.rw_twinriddles_k12_answers) (LV := 9) (x := "_law_script") ⟨rfl, by decide, by decide⟩ rfl rfl (fun w h Y => PySem.W.kIn_of Y) ?F K12.main
  case F =>
   intro w mg fa h KX G hmg
   refine' K12.all_mk hmg (txK KX G ?_ ?_ ?_ ?_ ?_ ?_ ?_ ?_ ?_ ?_ ?_ ?_ ?_ ?_ ?_ ?_) ?_ ?_ ?_ ?_ ?_ ?_ ?_ ?_ ?_ ?_ ?_ ?_ ?_ ?_ ?_ ?_ ?_ ?_ ?_ ?_ ?_ ?_ ?_ ?_ ?_ ?_ ?_
   all_goals first|k_is|(refine' fz KX G ?_ ?_ ?_ ?_<;>try k_is)
