import PyProof.Rows.All
import Wide.All
import OpenK.AllK
import Wide.FinOn
import PyProof.EqAt
import PyProof.EqKinds
import PyProof.TupleCall
import Lean
import PySem.Challenge.RW_twinriddles_k13_riddles_narrowed
set_option Elab.async false
set_option linter.all false
set_option maxRecDepth 100000
set_option maxHeartbeats 8000000
noncomputable section
section
open PySem PySem.Spec PyProof.Rows
abbrev ip:=Value->Shared->Prop
abbrev ig:=List (Addr×Obj)
abbrev gW:=PySem.W.Frag
abbrev jD:=List (List Int)
abbrev ik:=List Int
abbrev iF:=List Value
abbrev jY:=Str->Option Value
abbrev iP:=List Nat
abbrev qz:=Array (Int×Value)
abbrev lU:=Array Value
abbrev hG:=List Str
abbrev jh:=List Expr
abbrev pk:=Bool->Shared->Prop
abbrev Hf:=Option Value->Shared->Prop
abbrev uX:=Value->Value->Sem Value
abbrev rX:=Array (Option Nat)
abbrev pj:=Array (Option Value)
abbrev jL:=List (Str×Addr)
abbrev qD:=List Comprehension
abbrev yH:=Array Keyed
abbrev iI:=Nat->Prop
abbrev jx:=List Addr
abbrev gA:=Shared
abbrev gY:=Program
abbrev gS:=Around
abbrev gP:=World
abbrev ph:=SortSt
abbrev kT:=SetTable
abbrev gD:=Value
abbrev qC:=Comprehension
abbrev kS:=FuncData
abbrev iG:=Scope
abbrev gG:=Expr
abbrev gR:=Heap
abbrev gw:=Addr
end
section
open PySem PySem.Spec PyProof.Rows PySem.SeqAt
def gy:=@wpAny_bind
def gK:=@wpAny_pure
theorem gO:type_of% @if_pos:=@if_pos
theorem gZ:type_of% @if_neg:=@if_neg
theorem iJ:type_of% @Option.bind_some:=@Option.bind_some
theorem iR:type_of% @Nat.le_refl:=@Nat.le_refl
theorem iT:type_of% @List.map_cons:=@List.map_cons
def iV:=@Heap.lt_size
def jd:=@Heap.get?_push_of_some
theorem jm:type_of% @List.getElem?_eq_getElem:=@List.getElem?_eq_getElem
theorem js:type_of% @List.mem_cons:=@List.mem_cons
theorem iB:type_of% @Bool.false_eq_true:=@Bool.false_eq_true
def iC:=@Nat.ne_of_lt
theorem iE:type_of% @List.size_toArray:=@List.size_toArray
theorem iM:type_of% @sizeLine_eq:=@sizeLine_eq
theorem iK:type_of% @if_false:=@if_false
theorem nv:type_of% @List.mem_map:=@List.mem_map
def ja:=@List.mem_cons_self
theorem iZ:type_of% @List.mem_cons_of_mem:=@List.mem_cons_of_mem
def ji:=@Option.some.inj
theorem ju:type_of% @Array.length_toList:=@Array.length_toList
theorem jt:type_of% @List.length_map:=@List.length_map
def jA:=@Bool.false_ne_true
def jz:=@Heap.get?_push_size
theorem jy:type_of% @if_true:=@if_true
def qM:=@List.getElem?_eq_some_iff
theorem jJ:type_of% @List.getElem?_map:=@List.getElem?_map
theorem ke:type_of% @List.not_mem_nil:=@List.not_mem_nil
theorem pE:type_of% @List.mem_append:=@List.mem_append
theorem kh:type_of% @List.map_map:=@List.map_map
theorem ko:type_of% @Bool.and_eq_true:=@Bool.and_eq_true
theorem kO:type_of% @List.length_cons:=@List.length_cons
def kW:=@Array.getElem?_toList
theorem kU:type_of% @or_false:=@or_false
theorem lb:type_of% @decide_eq_false:=@decide_eq_false
theorem nu:type_of% @List.all_eq_true:=@List.all_eq_true
theorem la:type_of% @List.nodup_nil:=@List.nodup_nil
def lj:=@Nat.zero_le
def lG:=@Nat.lt_of_lt_of_le
theorem lF:type_of% @Ne.symm:=@Ne.symm
def lE:=@List.mem_of_getElem?
def lD:=@wpAny_newObj_type
def lV:=@wpAny_holding
def my:=@List.getElem?_set_self
theorem mx:type_of% @List.length_append:=@List.length_append
theorem mw:type_of% @List.lookup_cons:=@List.lookup_cons
def mq:=@PySem.W.mg_none_of
def mQ:=@Nat.le_trans
def mP:=@List.getElem?_set_ne
def mO:=@wpAny_mono
def mM:=@congrArg
def qY:=@List.pairwise_append
def nD:=@Nat.ne_of_gt
def nC:=@Array.getElem?_eq_getElem
theorem nB:type_of% @Bool.not_true:=@Bool.not_true
theorem oi:type_of% @Nat.lt_irrefl:=@Nat.lt_irrefl
def oh:=@List.mem_append_right
def og:=@PySem.mem_of_lookup
def nZ:=@List.getElem?_append_right
def nY:=@wpAny_call_entry
theorem nX:type_of% @not_or:=@not_or
theorem rW:type_of% @List.mem_range:=@List.mem_range
theorem oX:type_of% @decide_eq_true:=@decide_eq_true
theorem oW:type_of% @List.append_assoc:=@List.append_assoc
def oV:=@Heap.size_push
def oU:=@codeAny_builtin
theorem pD:type_of% @List.length_take:=@List.length_take
theorem pB:type_of% @Int.toNat_natCast:=@Int.toNat_natCast
theorem pA:type_of% @List.map_nil:=@List.map_nil
def pz:=@wpAny_of_eq
def pv:=@List.map_congr_left
def qL:=@List.filterMap_cons
def Hd:=@Option.isSome_iff_exists
def qK:=@List.getElem?_append_left
def qJ:=@eq_of_beq
def qI:=@Heap.get?_update_self
theorem qH:type_of% @List.length_nil:=@List.length_nil
def qG:=@Around.under_plainId
def qF:=@Obj.data_mapFields
def EY:=@List.pairwise_cons
def qE:=@wpAny_setState_of
def sD:=@codeAny_mono
theorem sA:type_of% @List.getElem?_replicate:=@List.getElem?_replicate
def sy:=@wpAny_field
def sx:=@wpAny_typeOf
theorem sv:type_of% @List.length_set:=@List.length_set
theorem sj:type_of% @bne_self_eq_false:=@bne_self_eq_false
def si:=@List.getElem?_of_mem
def sh:=@Nat.lt_succ_self
def sg:=@PySem.W.kia_one
def sf:=@PySem.W.kia_tup
def se:=@Heap.SameBut.update
def Hg:=@Array.getElem?_eq_some_iff
def sd:=@wpAny_forIn_list
def rZ:=@Nat.pow_succ
def rY:=@Nat.mul_assoc
def vb:=@Nat.le_of_lt
def va:=@wpAny_callSpecial?_slot
theorem uZ:type_of% @bind_assoc:=@bind_assoc
def uY:=@wpAny_rule
def pL:=@Nat.lt_succ_of_lt
theorem pK:type_of% @List.any_cons:=@List.any_cons
def pJ:=@plainId_quiet
def pI:=@wpAny_seqItems
def pH:=@wpAny_attempt
def pG:=@List.exists_cons_of_length_pos
theorem pF:type_of% @List.map_append:=@List.map_append
def HX:=@PySem.F.called_set
theorem vI:type_of% @beq_eq_false_iff_ne:=@beq_eq_false_iff_ne
def rC:=@wpAny_passesOwn
def rB:=@List.append_nil
def rA:=@wpAny_Call_Name_kw
def Gd:=@List.mem_singleton
def rq:=@Prod.mk.inj
theorem rp:type_of% @decide_eq_true_eq:=@decide_eq_true_eq
def rn:=@wpAny_setField
def K0:=@Nat.not_lt
theorem rm:type_of% @List.foldl_cons:=@List.foldl_cons
theorem rl:type_of% @List.zip_cons_cons:=@List.zip_cons_cons
def rk:=@Nat.mul_add
theorem rh:type_of% @Array.getD_eq_getD_getElem?:=@Array.getD_eq_getD_getElem?
def rg:=@wpAny_specialOf
theorem rd:type_of% @List.nil_append:=@List.nil_append
def qZ:=@List.map_id
def uD:=@wpAny_truthy_bool
def uC:=@wpAny_load
def DY:=@List.nodup_cons
def uB:=@List.take_sublist
def yi:=@PyProof.Rows.slot_tuple_getitem
def uA:=@Heap.get?_update_other
def uz:=@wpAny_askSetting
theorem uy:type_of% @List.find?_cons:=@List.find?_cons
def ux:=@wpAny_isInstance
theorem DX:type_of% @List.pairwise_reverse:=@List.pairwise_reverse
def uw:=@List.take_append_drop
def uv:=@List.mem_of_mem_take
theorem ur:type_of% @Nat.add_assoc:=@Nat.add_assoc
def uq:=@List.Perm.refl
def uo:=@Bool.or_eq_true
def um:=@Nat.mul_comm
def uk:=@Nat.mul_one
def uj:=@Nat.mod_lt
def wz:=@wpAny_execs_nil
def wy:=@wpAny_call
def wx:=@List.length_singleton
def wu:=@codeAny_of_tree
def wt:=@List.getElem?_set
theorem wq:type_of% @Function.comp_def:=@Function.comp_def
def wo:=@List.drop_eq_getElem_cons
def wm:=@List.drop_eq_nil_of_le
def wk:=@wpAny_setField_rec
def wj:=@wpAny_onRaise
def wg:=@List.eq_nil_of_length_eq_zero
theorem we:type_of% @List.getD_eq_getElem?_getD:=@List.getD_eq_getElem?_getD
def M3:=@List.length_pos_iff
def wd:=@List.cons.inj
def Bx:=@List.pairwise_map
def yI:=@PySem.F.slot_dict_keyiterator_next
def EZ:=@PySem.F.slot_tuple_hash
def Au:=@Paired.length
def Gb:=@List.mem_filter
def As:=@Array.append_assoc
def Ar:=@List.mem_append_left
def Aq:=@wpAny_standAt
def Ap:=@wpAny_pyIter_list
def Ao:=@boot_range
def An:=@PyProof.Rows.callWith_type1
def Am:=@List.of_mem_zip
def Al:=@PySem.W.cellsFrom_some
def Ak:=@concat_meets
def Aj:=@IsTup.new
def Ai:=@Nat.le_succ
def Ah:=@call_meets
def Ag:=@Nat.lt_trans
def Af:=@Heap.SameBut.refl
theorem Dd:type_of% @List.getElem?_zip_eq_some:=@List.getElem?_zip_eq_some
def Ae:=@List.any_map
def Ad:=@List.ext_getElem?
def Ac:=@wpAny_runValue
def Ab:=@Obj.isFreed_of_fields
def Aa:=@Obj.cls_mapFields
def zZ:=@List.reverse_perm
theorem zY:type_of% @List.extract_eq_take_drop:=@List.extract_eq_take_drop
def zW:=@List.mem_of_mem_drop
def zV:=@AutoSeq1.sub_tuple_tuple
def zU:=@richCompare_meets_room
def zT:=@Nat.mul_left_comm
def zS:=@Nat.pow_le_pow_right
theorem zQ:type_of% @List.getElem?_cons_succ:=@List.getElem?_cons_succ
theorem zP:type_of% @Array.getElem?_setIfInBounds:=@Array.getElem?_setIfInBounds
theorem zO:type_of% @Array.getElem?_eq_none:=@Array.getElem?_eq_none
def zM:=@wpAny_isSame_ref_self
def zL:=@isSubtype_type
def zK:=@List.length_eraseIdx
def zJ:=@PySem.F.plain_list_iadd
def zH:=@wpAny_updateSeq
def zG:=@wpAny_typeNameOfWhole_keyiter
def zF:=@Array.forIn_toList
def zE:=@List.mem_map_of_mem
def zD:=@List.getElem_mem
def DV:=@wpAny_pyHash_int
def DU:=@Int.mul_one
def DT:=@wpAny_pyIter_tuple
def DS:=@Calls.spliced_nil
def DR:=@Calls.spliced_cons
def DQ:=@noFill_tuple_add
def DP:=@seq_tuple_add
def DO:=@PySem.F.slot_tuple_add
def DN:=@PySem.F.entry_tuple_add
def DM:=@PySem.F.args_tuple_add_2
def DL:=@seqIndex_of
def DK:=@seqIndex_neg
def DJ:=@Nat.lt_asymm
def DI:=@List.ext_getElem
def DH:=@PySem.F.plainAttrs_list
def K9:=@F.called_tuple
def DG:=@wpAny_handled
def DF:=@wpAny_throw
def DE:=@isSubtype_stop
def DD:=@Nat.add_sub_cancel_left
def K8:=@List.perm_middle
def K7:=@List.pairwise_iff_getElem
def DC:=@List.getElem_of_mem
def DA:=@List.drop_sublist
def Dz:=@List.take_succ
def Dy:=@listUpdate_at
def Dx:=@get?_update_seq
def Dw:=@seqEpoch_at
def Dv:=@Nat.add_mul
def Du:=@Nat.one_mul
def Dt:=@Nat.mul_zero
def Ds:=@Int.emod_lt_of_pos
def Dr:=@Int.emod_nonneg
def Qd:=@List.length_eq_zero_iff
def Dq:=@wpAny_pyIter_slot
def Dp:=@wpAny_setEntries_of
def Dm:=@PyProof.Rows.F.plain_set_update_loop
def Dl:=@codeAny_call_builtin
def Dk:=@wpAny_dictEntries
def Dj:=@wpAny_dictEpoch
def Di:=@Nat.lt_of_le_of_lt
def Dh:=@List.nodup_append
def Dg:=@List.filter_map
def Df:=@List.length_filter_le
def HW:=@wpAny_storeName_local
def HV:=@Calls.Name_function_global
def HU:=@Around.frames_deeper
def HS:=@List.getElem?_take_of_lt
def HR:=@List.length_replicate
def HQ:=@codeAny_call_function
def HP:=@wpAny_newFunctionEnv_cells
def HN:=@entry_tuple_getitem
def HM:=@subscriptTail_builtinR
def HL:=@Calls.evalArgs_plain
def HK:=@F.entry_list_append
def HJ:=@F.args_list_append_2
def HI:=@wpAny_comprehension_free
def HH:=@List.getElem?_zipIdx
def HG:=@F.slot_tuple_iterator_next
def HF:=@wpAny_updateSeq_pair
def HE:=@List.pairwise_singleton
def HD:=@List.eq_nil_or_concat
def HC:=@List.concat_eq_append
def M1:=@List.perm_append_comm
def HB:=@Heap.get?_update_ne
def HA:=@List.mem_erase_of_ne
def Hz:=@List.filterMap_append
def Hy:=@List.perm_append_singleton
def Hx:=@Array.getElem?_replicate
def Qn:=@Array.mem_toList_iff
def Hw:=@builtinLookup_eq_fast
def Hv:=@PySem.F.slot_set_iter
def Hu:=@PySem.F.entry_proto_collect
def Ht:=@PySem.F.plain_proto_collect
def Hs:=@PySem.F.entry_list_iadd
def Hr:=@PySem.F.plain_extend_loop
def Hq:=@codeAny_extend_loopS
def Ho:=@PyProof.Rows.F.entry_set_update_loop
def Hn:=@PySem.F.plain_set_new
def Hm:=@PySem.F.slot_dict_iter
def Hl:=@PySem.F.entry_dict_keyiterator_next
def Hk:=@PySem.F.args_dict_keyiterator_next_1
def Hj:=@wpAny_isOneOf_keyiter
def Qm:=@Array.toList_eq_nil_iff
def Hh:=@Array.toList_append
def Ql:=@PySem.F.attr_TypeError
def Qk:=@List.map_eq_nil_iff
end
namespace TT
open PySem
noncomputable def adv(mask:Nat)(p:SetTable.Probe):SetTable.Probe:=
 if p.more>0 then {p with j:=p.j+1,more:=p.more-1} else
 {p with j:=(SetTable.leap mask p.i p.perturb).1,more:=SetTable.runEnd mask (SetTable.leap mask p.i p.perturb).1-(SetTable.leap mask p.i p.perturb).1,i:=(SetTable.leap mask p.i p.perturb).1,perturb:=(SetTable.leap mask p.i p.perturb).2}
noncomputable def stt(mask:Nat)(h:Int):SetTable.Probe:={j:=SetTable.bits h%(mask+1),more:=SetTable.runEnd mask (SetTable.bits h%(mask+1))-SetTable.bits h%(mask+1),i:=SetTable.bits h%(mask+1),perturb:=SetTable.bits h,dummy:=none}
noncomputable def pr(mask:Nat)(h:Int):Nat->SetTable.Probe
 |0=>stt mask h
 |n+1=>adv mask (pr mask h n)
structure TabOk(hs:ik)(t:kT):Prop where
 pow: ∃k,3<=k/\k<=11/\t.mask+1=2^k
 dum:t.dummies= #[]
 len:t.place.size=hs.length
 room:5*hs.length<3*t.mask
 ris:t.place.toList.Pairwise (· < ·)
 bd: ∀j∈t.place.toList,j<=t.mask
 road: ∀(i:Nat) (h:Int) (j:Nat),hs[i]?=some h->t.place[i]?=some j-> ∃n,(pr t.mask h n).j=j/\ ∀m,m<n->(pr t.mask h m).j∈t.place.toList
end TT
namespace L2
open PySem PySem.Spec PyProof.Rows
abbrev Key:=Sum Int Str
noncomputable def xv:Key->Value->Bool
 | .inl k,v=>Value.isInt k v
 | .inr x,v=>Value.isStrOf x v
noncomputable def TR(w:gP):Key->Int
 | .inl k=>hashInt k
 | .inr x=>hashStr w x
def jB: ∀{k:Key} {v:gD},xv k v=true->(∃i t,k=Sum.inl i/\v=Value.int i t)\/(∃x t,k=Sum.inr x/\v=Value.str x t)
 | .inl i,v,h=>by
  obtain⟨t,e⟩:=Value.isInt_shape (k:=i) (v:=v) h;exact .inl ⟨i,t,rfl,e⟩
 | .inr x,v,h=>by
  obtain⟨t,e⟩:=Value.isStrOf_shape (x:=x) (v:=v) h;exact .inr ⟨x,t,rfl,e⟩
def GQ(i:Int)(t:Tok):xv (.inl i) (.int i t)=true:=by simp[xv,Value.isInt]
def GP(x:Str)(t:Tok):xv (.inr x) (.str x t)=true:=by simp[xv,Value.isStrOf]
theorem J5(a b:Int):decide ((Sum.inl a:Key)=Sum.inl b)=(a==b):=by
 by_cases e:a=b
 ·subst e;simp
 ·have h: ¬(Sum.inl a:Key)=Sum.inl b:=λq=>e (Sum.inl.inj q);rw[lb h];exact(vI.mpr e).symm
theorem J1(a b:Str):decide ((Sum.inr a:Key)=Sum.inr b)=decide (a=b):=by
 by_cases e:a=b
 ·subst e;simp
 ·have h: ¬(Sum.inr a:Key)=Sum.inr b:=λq=>e (Sum.inr.inj q);rw[lb h,lb e]
theorem J3(a:Int)(b:Str):decide ((Sum.inl a:Key)=Sum.inr b)=false:=lb (λq=>nomatch q)
theorem J2(a:Str)(b:Int):decide ((Sum.inr a:Key)=Sum.inl b)=false:=lb (λq=>nomatch q)
noncomputable def kx(d:gY)(w:gP):PySem.KeyKind d w Key where
 is:=xv
 hash:=TR w
 inj:=λv a b g f=>by
  rcases jB g with⟨i,t,rfl,rfl⟩|⟨x,t,rfl,rfl⟩
  ·rcases jB f with⟨j,u,rfl,e⟩|⟨y,u,rfl,e⟩
   ·injection e with c _;rw[c]
   ·exact nomatch e
  ·rcases jB f with⟨j,u,rfl,e⟩|⟨y,u,rfl,e⟩
   ·exact nomatch e
   ·injection e with c _;rw[c]
 byValue:=λk v h=>by
  rcases jB h with⟨i,t,rfl,rfl⟩|⟨x,t,rfl,rfl⟩<;>rfl
 pyHash:=λhv h=>by
  rcases jB hv with⟨i,t,rfl,rfl⟩|⟨x,t,rfl,rfl⟩
  ·exact DV h
  ·exact wpAny_pyHash_str h
 eqBool:=λl hv h=>by
  rcases jB l with⟨i,t,rfl,rfl⟩|⟨x,t,rfl,rfl⟩
  ·rcases jB hv with⟨j,u,rfl,rfl⟩|⟨y,u,rfl,rfl⟩
   ·rw[J5] at h;exact wpAny_eqBool_int h
   ·rw[J3] at h;exact SeqAt.EqAt.int_str i t y u _ _ _ _ h
  ·rcases jB hv with⟨j,u,rfl,rfl⟩|⟨y,u,rfl,rfl⟩
   ·rw[J2] at h;exact SeqAt.EqAt.str_int x t j u _ _ _ _ h
   ·rw[J1] at h;exact wpAny_eqBool_str h
 «strs»:=λk x t v h=>by
  rcases jB h with⟨i,u,rfl,e⟩|⟨y,u,rfl,e⟩
  ·exact nomatch e
  ·injection e with c _
   subst c;cases v<;>rfl
def Cm(a:gY)(w:gP)(i:Int)(t:Tok):(kx a w).is (.inl i) (.int i t)=true:=GQ i t
def Ck(a:gY)(w:gP)(x:Str)(t:Tok):(kx a w).is (.inr x) (.str x t)=true:=GP x t
inductive V where
 |non|bl(b:Bool)|int(i:Int)|str(x:Str)|byt(b:Array UInt8)|flt(b:UInt64)|ref(a:gw)|ty(n:String)
 deriving DecidableEq
def RelV:V->Value->Prop
 | .non,u=>u=Value.none
 | .bl b,u=>u=Value.bool b
 | .int i,u=> ∃t,u=Value.int i t
 | .str x,u=> ∃t,u=Value.str x t
 | .byt b,u=> ∃t,u=Value.bytes b t
 | .flt b,u=> ∃t,u=Value.float b t
 | .ref a,u=>u=Value.ref a
 | .ty n,u=>u=Value.type n
abbrev Vals:List V->List Value->Prop:=Paired RelV
theorem Vals.length{a:List V}{us:iF}(r:Vals a us):a.length=us.length:=Au r
theorem Vals.get: ∀{b:List V} {a:iF} {i:Nat} {x:V},Vals b a->b[i]?=some x-> ∃u,a[i]?=some u/\RelV x u
 |_,_,_,_,.nil,e=>by simp at e
 |_,_,0,_,.cons r _,e=>by simp at e;subst e;exact⟨_,rfl,r⟩
 |_,_,i+1,x,.cons _ t,e=>by
  obtain⟨u,h1,c⟩:=Vals.get (i:=i) (x:=x) t (by simpa using e);exact⟨u,by simpa using h1,c⟩
theorem Vals.set{x:V}{u:gD}(r:RelV x u): ∀{a:List V} {us:iF} (i:Nat),Vals a us->Vals (a.set i x) (us.set i u)
 |_,_,_,.nil=> .nil
 |_,_,0,.cons _ t=> .cons r t
 |_,_,i+1,.cons q t=> .cons q (Vals.set r i t)
theorem Vals.append: ∀{c d:List V} {a b:iF},Vals c a->Vals d b->Vals (c++d) (a++b)
 |_,_,_,_,.nil,s=>s
 |_,_,_,_,.cons r t,s=> .cons r (Vals.append t s)
theorem Vals.take: ∀{b:List V} {a:iF} (n:Nat),Vals b a->Vals (b.take n) (a.take n)
 |_,_,0,_=> .nil
 |_,_,_+1,.nil=> .nil
 |_,_,n+1,.cons r t=> .cons r (Vals.take n t)
theorem Vals.drop: ∀{b:List V} {a:iF} (n:Nat),Vals b a->Vals (b.drop n) (a.drop n)
 |_,_,0,r=>r
 |_,_,_+1,.nil=> .nil
 |_,_,n+1,.cons _ t=>Vals.drop n t
def RelO:Option V->Option Value->Prop
 |some v,some u=>RelV v u
 |none,none=>True
 |_,_=>False
def KV{a:Type}:List (a×V)->List (a×Value)->Prop:=Paired λ(p:a×V) (q:a×Value)=>p.1=q.1/\RelV p.2 q.2
noncomputable def kV:Key->V
 | .inl i=> .int i
 | .inr x=> .str x
inductive HO where
 /-- a list -/
 |lst(xs:List V)
 /-- a tuple(never changes) -/
 |tup(xs:List V)
 /-- a dict whose keys are ints and texts;one whose keys are tuples of ints and texts(the empty one is both) -/
 |dK(kvs:List (Key×V))|dT(kvs:List (List Key×V))
 /-- a set of ints:b6 members,b6 size -/
 |set (S:Int->Bool) (n:Nat)
 |stt (zs:List (Int×V))
 /-- an instance of the class at C,b6 dict at dx,b6 attributes -/
 |ins (C dx:gw) (fs:List (Str×V))
 /-- the dict of the instance at x -/
 |own (x:gw)
 /-- the dict of an exception -/
 |xd (fs:List (Str×V))
 /-- a bound method,f of x -/
 |met (f x:gw)
 /-- a range object lo,lo+1,.. below hi -/
 |rng (lo hi:Int)
 /-- a thing that is known to the object (the script;a dict while a loop walks it):read,never written while it is so -/
 |frz (o:Obj) (u:HO)
 /-- a code object's table -/
 |tbl (ps:lU)
 /-- any other thing,by what is true of b6 one object (a def of one's own:SetO a S n:=HO.ext λh=> ..) -/
 |ext (φ:Heap->Prop)
abbrev Hp:=Addr->Option HO
noncomputable def upd(H:Hp)(a:gw)(o:HO):Hp:=λb=>if b=a then some o else H b
theorem ie{H:Hp}{a:gw}{o:HO}:upd H a o a=some o:=by unfold upd;rw[gO rfl]
theorem hU{H:Hp}{a b:gw}{o:HO}(h:b≠a):upd H a o b=H b:=by unfold upd;rw[gZ h]
theorem Fd{H:Hp}{a:gw}{o u:HO}:upd (upd H a o) a u=upd H a u:=by
 funext b;unfold upd;split<;>rfl
theorem Nq{H:Hp}{a b:gw}{o u:HO}(h:H a=some o)(c:H b=some u)(d:o≠u):a≠b:=by
 intro e;subst e;rw[h] at c;exact d (ji c)
theorem jT{H:Hp}{a b:gw}{o:HO}(h:H a=some o)(c:H b=none):a≠b:=by
 intro e;subst e;rw[h] at c;cases c
section
variable(P:gY)(w:gP)
def ObjOk(H:Hp)(h:gR)(a:gw):HO->Prop
 | .lst d=>d.length<=sizeLine/\ ∃(i:iF) (n:Nat),Vals d i/\h.get? a=some {cls:= .type "list",data:= .seq i.toArray n}
 | .tup d=>d.length<=sizeLine/\ ∃i:List Value,Vals d i/\IsTup h a i.toArray
 | .dK b=>b.length<=sizeLine/\(a==sysModules)=false/\ ∃k,KV b k/\h.DictOf (kx P w) a k
 | .dT b=>b.length<=sizeLine/\(a==sysModules)=false/\ ∃d:List (List Key×Addr×Value),
   Paired (λ(p:List Key×V) (q:List Key×Addr×Value)=>p.1=q.1/\H q.2.1=some (.tup (p.1.map kV))/\RelV p.2 q.2.2) b d/\
   ∃o j G,h.get? a=some o/\o.ExactDict/\o.data= .dict j G/\j.toList=d.map (entryOfKey (tupleKind (kx P w)))/\(d.map (·.1)).Nodup
 | .set S n=>h.SetOf (intKind P w) a S n
 | .stt E=> ∃(j:qz) (n:Nat) (t:kT),h.get? a=some {cls:= .type "set",data:= .set j n t}/\Paired (λ(z:Int×V) (e:Int×Value)=>z.1=e.1/\RelV z.2 e.2) E j.toList/\
   TT.TabOk (E.map (·.1)) t/\t.plain=true/\t.led=!w.params.followText "set-order"
 | .ins C l fs=>H l=some (.own a)/\fs.length<=1000/\l≠a/\h.get? a=some (PySem.W.instObj C l)/\
   ∃g,h.Ns1 l g/\(∀f,RelO (fs.lookup f) (g f))/\PySem.Within g (fs.map (·.1))
 | .own _=> ∃o,h.get? a=some o
 | .xd fs=> ∃g,h.Ns1 a g/\ ∀f,RelO (fs.lookup f) (g f)
 | .rng lo I=> ∃t u v,h.get? a=some {cls:= .type "range",data:= .fields #[.int lo t,.int I u,.int 1 v]}
 | .frz o u=>h.get? a=some o/\ObjOk H h a u
 | .tbl J=> ∃q t r,J[0]?=some (.str q t)/\h.get? a=some {cls:= .none,data:= .fields r}/\TriplesOk r.toList/\ ∀m y,codeAmong m r.toList=some y-> ∃c B u k t,y= .ref c/\H c=some (.frz B u)/\B.data= .fields k/\k[1]?=some (.str q t)
 | .met f x=>h.get? a=some (PySem.W.methodObj (.ref f) (.ref x))
 | .ext s=>s h/\(∃o,h.get? a=some o)/\ ∀h1 A:Heap,s h1->(∀o,h1.get? a=some o->A.get? a=some o)->s A
def HOk(H:Hp)(h:gR):Prop:= ∀a o,H a=some o->ObjOk P w H h a o
end
section
variable {P:gY}{w:gP}{H g:Hp}{h h':gR}{a:gw}{o:HO}
def ObjOk.lt(x:ObjOk P w H h a o):a<h.objs.size:=by
 cases o with
 |lst c=>obtain⟨_,_,_,_,e⟩:=x;exact iV e
 |tup c=>obtain⟨_,_,_,p⟩:=x;exact p.lt
 |dK b=>obtain⟨_,_,_,_,o,_,_,e,_⟩:=x;exact iV e
 |dT b=>obtain⟨_,_,_,_,o,_,_,e,_⟩:=x;exact iV e
 |set S n=>obtain⟨o,_,_,_,e,_⟩:=x;exact iV e
 |stt l=>obtain⟨_,_,_,e,_⟩:=x;exact iV e
 |ins C d fs=>obtain⟨_,_,_,e,_⟩:=x;exact iV e
 |own y=>obtain⟨_,e⟩:=x;exact iV e
 |xd fs=>obtain⟨_,⟨_,_,_,e,_⟩,_⟩:=x;exact iV e
 |rng lo i=>obtain⟨_,_,_,e⟩:=x;exact iV e
 |frz j u=>obtain⟨e,_⟩:=x;exact iV e
 |tbl k=>obtain⟨_,_,_,_,e,_⟩:=x;exact iV e
 |met f y=>exact iV (show h.get? a=some _ from x)
 |ext m=>obtain⟨_,⟨_,e⟩,_⟩:=x;exact iV e
theorem Paired.mapP{e i:Type}{F G:e->i->Prop}: ∀{c:List e} {d:List i},Paired F c d->(∀a b,F a b->G a b)->Paired G c d
 |_,_,.nil,_=> .nil
 |_,_,.cons r t,f=> .cons (f _ _ r) (Paired.mapP t f)
def ObjOk.stay(x:ObjOk P w H h a o)(k: ∀b u,(b=a\/H b=some (.own a))->h.get? b=some u->h'.get? b=some u)
  (T: ∀b,H b=some (.own a)->g b=some (.own a))(U: ∀b s,H b=some (.tup s)->g b=some (.tup s))(Y: ∀b i u,H b=some (.frz i u)->g b=some (.frz i u):=by exact λ_ _ _ q=>q):ObjOk P w g h' a o:=by
 induction o with
 |lst s=>obtain⟨z,A,n,r,e⟩:=x;exact⟨z,A,n,r,k _ _ (.inl rfl) e⟩
 |tup s=>obtain⟨z,A,r,i,e,c⟩:=x;exact⟨z,A,r,i,k _ _ (.inl rfl) e,c⟩
 |dK B=>obtain⟨z,y,J,r,i,j,l,e,c⟩:=x;exact⟨z,y,J,r,i,j,l,k _ _ (.inl rfl) e,c⟩
 |dT B=>
  obtain⟨z,y,s,r,i,j,l,e,c⟩:=x;exact⟨z,y,s,Paired.mapP r λp q z=>⟨z.1,U _ _ z.2.1,z.2.2⟩,i,j,l,k _ _ (.inl rfl) e,c⟩
 |set S n=>obtain⟨i,j,l,t,e,c⟩:=x;exact⟨i,j,l,t,k _ _ (.inl rfl) e,c⟩
 |stt zs=>obtain⟨j,n,t,e,c⟩:=x;exact⟨j,n,t,k _ _ (.inl rfl) e,c⟩
 |ins C dx fs=>
  obtain⟨d,z,ne,e,E,⟨G,j,l,N,c⟩,r⟩:=x;exact⟨T _ d,z,ne,k _ _ (.inl rfl) e,E,⟨G,j,l,k _ _ (.inr d) N,c⟩,r⟩
 |own y=>obtain⟨i,e⟩:=x;exact⟨i,k _ _ (.inl rfl) e⟩
 |xd fs=>obtain⟨E,⟨G,j,l,e,c⟩,r⟩:=x;exact⟨E,⟨G,j,l,k _ _ (.inl rfl) e,c⟩,r⟩
 |rng lo hi=>obtain⟨t,u,v,e⟩:=x;exact⟨t,u,v,k _ _ (.inl rfl) e⟩
 |frz i u ih=>obtain⟨e,q⟩:=x;exact⟨k _ _ (.inl rfl) e,ih q⟩
 |tbl ps=>obtain⟨q,t,D,M,e,F,m⟩:=x;exact⟨q,t,D,M,k _ _ (.inl rfl) e,F,λI L z=>let⟨c,i,u,J,t,h1,O,Q⟩:=m I L z;⟨c,i,u,J,t,h1,Y _ _ _ O,Q⟩⟩
 |met f y=>
  have e:h.get? a=some (PySem.W.methodObj (.ref f) (.ref y)):=x;show h'.get? a=some (PySem.W.methodObj (.ref f) (.ref y));exact k a _ (.inl rfl) e
 |ext φ=>obtain⟨p,⟨o,e⟩,st⟩:=x;exact⟨st _ _ p λo q=>k _ _ (.inl rfl) q,⟨o,k _ _ (.inl rfl) e⟩,st⟩
def HOk.lt(x:HOk P w H h)(e:H a=some o):a<h.objs.size:=(x a o e).lt
theorem HOk.fresh(x:HOk P w H h)(e:h.objs.size<=a):H a=none:=by
 cases q:H a with
 |none=>rfl
 |some u=>exact absurd (lG (x.lt q) e) (oi _)
def HOk.kept(x:HOk P w H h)(k: ∀b u,h.get? b=some u->h'.get? b=some u):HOk P w H h':=λa o e=>
 (x a o e).stay (λb u _ q=>k b u q) (λ_ q=>q) λ_ _ q=>q
def HOk.laid(x:HOk P w H h)(k: ∀b u,h.get? b=some u->h'.get? b=some u)(i:h.objs.size<=a)(new:ObjOk P w (upd H a o) h' a o):HOk P w (upd H a o) h':=λb u e=>by
 have d:=x.fresh i;by_cases f:b=a
 ·subst f;rw[ie] at e;cases e;exact new
 ·rw[hU f] at e;exact(x b u e).stay (λc v _ q=>k c v q) (λc q=>by rw[hU (jT q d)];exact q) (λc j q=>by rw[hU (jT q d)];exact q) λc _ _ q=>by rw[hU (jT q d)];exact q
end
def Rd(H:Hp)(a:gw)(u:HO):Prop:=H a=some u\/ ∃o,H a=some (.frz o u)
theorem Rd.ok{P:gY}{w:gP}{H:Hp}{h:gR}{a:gw}{u:HO}(r:Rd H a u)(x:HOk P w H h):ObjOk P w H h a u:=by
 rcases r with r|⟨o,r⟩
 ·exact x a u r
 ·obtain⟨_,q⟩:=x a _ r;exact q
def Mut:Option HO->Prop
 |some (.lst _)=>True
 |some (.dK _)=>True
 |some (.dT _)=>True
 |some (.set _ _)=>True
 |some (.stt _)=>True
 |some (.ins _ _ _)=>True
 |some (.ext _)=>True
 |_=>False
section
variable {P:gY}{w:gP}{H:Hp}{h a:gR}{x e:gw}{d:HO}
def HOk.write(ok:HOk P w H h)(g:Mut (H x))(o:e=x\/H e=some (.own x))(k: ∀b u,b≠e->h.get? b=some u->a.get? b=some u)(s: ∃u,a.get? e=some u)
  (new:ObjOk P w (upd H x d) a x d):HOk P w (upd H x d) a:=λb u q=>by
 have f: ∀c y,H c=some (.own y)->c≠x:=λc y r z=>by subst z;rw[r] at g;exact g
 have i: ∀c n,H c=some (.tup n)->c≠x:=λc n r z=>by subst z;rw[r] at g;exact g
 by_cases l:b=x
 ·subst l;rw[ie] at q;cases q;exact new
 ·rw[hU l] at q;by_cases j:b=e
  ·have p:H b=some (.own x):=by
    rcases o with z|z
    ·exact absurd (j.trans z) l
    ·rw[j];exact z
   rw[q] at p;cases p;obtain⟨v,hv⟩:=s;exact⟨v,by rw[j];exact hv⟩
  ·refine(ok b u q).stay (λc v m r=>k c v ?_ r) (λc r=>by rw[hU (f c b r)];exact r) (λc n r=>by rw[hU (i c n r)];exact r) λc _ _ r=>by rw[hU (λz=>by subst z;rw[r] at g;exact g)];exact r
   rcases m with rfl|m
   ·exact j
   ·rintro rfl;rcases o with z|z
    ·exact f c b m z
    ·rw[m] at z;cases z;exact l rfl
end
structure Un(fs ex:jx)(H H':Hp)(h h':gR):Prop where
 keep: ∀b o,h.get? b=some o->H b=none->b∉fs->b∉ex->h'.get? b=some o
 slot: ∀b o,h.get? b=some o->H b=none->b∈fs->b∉ex-> ∃sl,h'.get? b=some {o with slots:=sl}
 free: ∀b o,h.get? b=some o->H b=none->b∉ex->H' b=none
 there: ∀b o,h.get? b=some o->b∉ex-> ∃o',h'.get? b=some o'
 tups: ∀b xs,H b=some (.tup xs)->H' b=some (.tup xs)
 frzs: ∀b o u,H b=some (.frz o u)->H' b=some (.frz o u)
 tbls: ∀b ps,H b=some (.tbl ps)-> ∃more,H' b=some (.tbl (ps++more))
section
variable {fs g ex c:jx}{H d i:Hp}{h h1 f h':gR}{a x e:gw}{o:HO}
theorem Un.any(u:Un fs ex H d h h1){b:gw}{j:Obj}(q:h.get? b=some j)(n:H b=none)(l:b∉ex): ∃m,h1.get? b=some {j with slots:=m}:=by
 by_cases k:b∈fs
 ·exact u.slot b j q n k l
 ·exact⟨j.slots,u.keep b j q n k l⟩
def Un.kept(k: ∀b u,h.get? b=some u->h'.get? b=some u):Un fs ex H H h h':=
 ⟨λb j q _ _ _=>k b j q,λb j q _ _ _=>⟨j.slots,k b j q⟩,λ_ _ _ n _=>n,λb j q _=>⟨j,k b j q⟩,λ_ _ q=>q,λ_ _ _ q=>q,λ_ l q=>⟨#[],by rw[q];simp⟩⟩
def Un.refl:Un fs ex H H h h:=Un.kept λ_ _ q=>q
def Un.laid(k: ∀b u,h.get? b=some u->h'.get? b=some u)(r:h.objs.size<=a)(j:H a=none):Un fs ex H (upd H a o) h h' where
 keep:=λb u q _ _ _=>k b u q
 slot:=λb u q _ _ _=>⟨u.slots,k b u q⟩
 free:=λb u q n _=>by rw[hU (iC (lG (iV q) r))];exact n
 there:=λb u q _=>⟨u,k b u q⟩
 tups:=λb s q=>by rw[hU (jT q j)];exact q
 frzs:=λb u s q=>by rw[hU (jT q j)];exact q
 tbls:=λb t q=>⟨#[],by rw[hU (jT q j),q];simp⟩
def Un.write(j:Mut (H x))(v:e=x\/H e=some (.own x))(k: ∀b u,b≠e->h.get? b=some u->h'.get? b=some u)(t: ∃u,h'.get? e=some u):Un fs ex H (upd H x o) h h':=by
 have s: ∀b,H b=none->b≠x:=λb n z=>by subst z;rw[n] at j;exact j
 have p: ∀b,H b=none->b≠e:=λb n z=>by
  subst z;rcases v with r|r
  ·exact s b n r
  ·rw[n] at r;cases r
 have l: ∀b u,H b=some u-> ¬Mut (some u)->b≠x:=λb u q w z=>by subst z;rw[q] at j;exact w j
 refine⟨λb u q n _ _=>k b u (p b n) q,λb u q n _ _=>⟨u.slots,k b u (p b n) q⟩,λb u q n _=>by rw[hU (s b n)];exact n,λb u q _=>?_,
  λb y q=>by rw[hU (l b _ q λz=>z)];exact q,λb u y q=>by rw[hU (l b _ q λz=>z)];exact q,λb A q=>⟨#[],by rw[hU (l b _ q λz=>z),q];simp⟩⟩
 by_cases m:b=e
 ·subst m;exact t
 ·exact⟨u,k b u m q⟩
end
noncomputable def trk(h:gR)(H:Hp):List Addr:=(List.range h.objs.size).filter λa=>(H a).isSome
noncomputable def yx(h:gR)(H:Hp):Heap:=PySem.W.hideAll h (trk h H)
def GV(h:gR)(H:Hp):(yx h H).objs.size=h.objs.size:=PySem.W.hideAll_size _ _
def Kd{h:gR}{H:Hp}{b:gw}{o:Obj}(e:h.get? b=some o)(n:H b=none):(yx h H).get? b=some o:=
 PySem.W.hideAll_get _ e λa=>by
  have q:(H b).isSome=true:=(Gb.mp a).2;rw[n] at q;simp at q
def Mm{h:gR}{H:Hp}{b:gw}{o:Obj}(e:(yx h H).get? b=some o):h.get? b=some o/\H b=none:=by
 have a:h.get? b=some o:=PySem.W.of_hideAll (trk h H) e;refine⟨a,?_⟩
 cases q:H b with
 |none=>rfl
 |some x=>
  have c:b∈trk h H:=Gb.mpr ⟨rW.mpr (iV a),by simp[q]⟩;have z:(yx h H).get? b=none:=PySem.W.hideAll_none (trk h H) c;rw[z] at e;cases e
noncomputable def MT(g h:gR)(L:gw):List (Addr×Obj):=(List.range h.objs.size).filterMap λa=>if a=L\/(g.get? a).isSome=true then none else(h.get? a).map λo=>(a,o)
noncomputable def iq(g h:gR)(L d:gw):List (Addr×Obj):=(MT g h L).filter λp=>decide (p.1≠d)
structure Mod(K:gW)(mg:jY)(base:gR):Prop where
 kin:K.In base
 glob:base.Ns mainGlobals mg
 blt: ∃mb,base.Ns builtinsNs mb/\ ∀x:Str,x≠"__name__"->mb x=bootBuiltins x
 nolimit:base.NoLimit
structure Cx where
 prog:Program
 w:World
 K:PySem.W.Frag
 mg:Str->Option Value
 base:Heap
 A:Around
 N:List Str
 s₀:Shared
 H₀:Hp
 env:Env
 outer:List Env
 stack:List Env
 ex:List Addr
 fn:Str->Bool
 calm:Bool
 pn:List (Addr×Obj)
 xe:Value->Shared->Prop
noncomputable def frs(l:List Env):List Addr:=l.filterMap (·.frame)
abbrev Cx.fs(X:Cx):List Addr:=frs X.outer
def Vis(a:iG)(x:Str):Prop:=a.names.lookup x=some .local\/a.names.lookup x=some .cell\/a.names.lookup x=some .free
def Loc(a:iG)(x:Str):Prop:=a.names.lookup x=some .local\/a.names.lookup x=some .cell
def Ua(a:Env)(h:gR)(m:jY)(x:Str)(u:gD):Prop:=
 (a.kindOf x=some .local/\m x=some u)\/((a.kindOf x=some .cell\/a.kindOf x=some .free)/\ ∃c,a.cells.lookup x=some c/\h.IsCell c (some u))
structure Cx.Ok(X:Cx):Prop where
 mod:Mod X.K X.mg X.base
 kind:X.env.scope.kind= .function
 glob:X.env.globals=mainGlobals
 blt:X.env.builtins=builtinsNs
 above:X.s₀.heap.objs.size<=X.env.locals
 inj: ∀x y c,X.env.cells.lookup x=some c->X.env.cells.lookup y=some c->x=y
 has: ∀x,(X.env.kindOf x=some .cell\/X.env.kindOf x=some .free)-> ∃c,X.env.cells.lookup x=some c
 cab: ∀x c,X.fn x=true->X.env.cells.lookup x=some c->X.s₀.heap.objs.size<=c
 hd:X.calm=true->X.A.handled=none
 frames:X.A.frames=some X.stack
 stk:X.stack=X.outer\/(X.stack=X.env::X.outer/\X.env.frame=some X.env.locals)
 exf: ∀b∈X.ex,b≠X.env.locals/\ ∀x c,X.env.cells.lookup x=some c->c≠b
 bs: ∀b o,X.base.get? b=some o->X.s₀.heap.get? b=some o/\X.H₀ b=none
 bsz:X.base.objs.size<=X.s₀.heap.objs.size
 noex: ∀b o,X.base.get? b=some o->b∉X.ex
 exfs: ∀b∈X.ex,b∉X.fs
 funs:X.s₀.heap.FunFrames X.base X.outer
 frf: ∀b∈X.fs,X.H₀ b=none
structure Inv(X:Cx)(pins:ig)(σ:List (Option V))(H:Hp)(s:gA):Prop where
 ok:X.Ok
 os:s.os=X.s₀.os
 bare:AllBare s.gens
 base:Un X.fs X.ex X.H₀ H X.s₀.heap s.heap
 loc: ∃m,s.heap.Ns X.env.locals m/\ ∀(i:Nat) (x:Str) (v:V),X.N[i]?=some x->σ[i]?=some (some v)->Vis X.env.scope x-> ∃u,RelV v u/\Ua X.env s.heap m x u
 cell: ∀x c,X.env.cells.lookup x=some c-> ∃v,s.heap.IsCell c v
 free:H X.env.locals=none
 freeC: ∀x c,X.env.cells.lookup x=some c->H c=none
 pin: ∀p∈X.pn++pins,s.heap.get? p.1=some p.2/\H p.1=none/\p.1≠X.env.locals/\p.1∉X.fs/\ ∀v,p.2.data≠ .cell v
 hok:HOk X.prog X.w H s.heap
 len:σ.length=X.N.length
section
variable {X:Cx}{f:ig}{g:List (Option V)}{H B:Hp}{s:gA}{h':gR}
def Cx.Ok.nofr(ok:X.Ok){b:gw}{o:Obj}(e:X.base.get? b=some o):b∉X.fs:=λa=>by
 have:=(ok.funs.mem a).1;rw[e] at this;cases this
def Inv.bs(I:Inv X f g H s): ∀b o,X.base.get? b=some o->s.heap.get? b=some o/\H b=none:=λb o e=>
 ⟨I.base.keep b o (I.ok.bs b o e).1 (I.ok.bs b o e).2 (I.ok.nofr e) (I.ok.noex b o e),I.base.free b o (I.ok.bs b o e).1 (I.ok.bs b o e).2 (I.ok.noex b o e)⟩
def Inv.bk(I:Inv X f g H s): ∀b o,X.base.get? b=some o->s.heap.get? b=some o:=λb o e=>(I.bs b o e).1
def Inv.mod(I:Inv X f g H s):Mod X.K X.mg X.base:=I.ok.mod
def Inv.kIn(I:Inv X f g H s):X.K.In s.heap:=I.ok.mod.kin.keeps I.bk
def Inv.lt(I:Inv X f g H s):X.env.locals<s.heap.objs.size:=let⟨_,a,_⟩:=I.loc;a.lt
theorem Inv.sz(I:Inv X f g H s):X.s₀.heap.objs.size<=s.heap.objs.size:=mQ I.ok.above (vb I.lt)
def Inv.nofs(I:Inv X f g H s){a:gw}(h:s.heap.objs.size<=a):a∉X.fs:=λb=>by
 obtain⟨_,o,c,_⟩:=I.ok.funs.mem b;exact absurd (lG (iV c) (mQ I.sz h)) (oi _)
def Inv.cne(I:Inv X f g H s): ∀x c,X.env.cells.lookup x=some c->c≠X.env.locals:=λx c e z=>by
 obtain⟨v,o,a,hd⟩:=I.cell x c e;obtain⟨m,⟨j,i,h,b,d,_⟩,_⟩:=I.loc;rw[z,b] at a;cases a;rw[d] at hd;cases hd
def Inv.funs(I:Inv X f g H s):s.heap.FunFrames X.base X.outer:=by
 have all: ∀(l:List Env),(∀b∈frs l,b∈X.fs)->X.s₀.heap.FunFrames X.base l->s.heap.FunFrames X.base l:=by
  intro l
  induction l with
  |nil=>intro _ _;trivial
  |cons i r p=>
   intro h j;obtain⟨hk,⟨L,o,d,k,m,hd⟩,n⟩:=j;have a:L∈X.fs:=h L (by unfold frs;rw[qL,d];exact ja);obtain⟨q,e⟩:=I.base.slot L o m (I.ok.frf L a) a λz=>I.ok.exfs L z a;exact⟨hk,⟨L,_,d,k,e,hd⟩,p (λb c=>h b (by unfold frs;rw[qL,d];exact iZ _ c)) n⟩
 exact all X.outer (λ_ c=>c) I.ok.funs
def Inv.stack(I:Inv X f g H s):s.heap.FunFrames X.base X.stack:=by
 rcases I.ok.stk with e|⟨e,hf⟩
 ·rw[e];exact I.funs
 ·rw[e];obtain⟨m,a,_⟩:=I.loc;refine .cons (by rw[I.ok.kind];decide) hf a ?_ I.funs;exact Heap.get?_none_of_le (mQ I.ok.bsz I.ok.above)
def Inv.stkSub(I:Inv X f g H s): ∀b∈frs X.stack,b∈X.env.locals::X.fs:=λb a=>by
 rcases I.ok.stk with e|⟨e,hf⟩
 ·rw[e] at a;exact iZ _ a
 ·rw[e] at a;unfold frs at a;rw[qL,hf] at a;exact a
def Inv.stkFree(I:Inv X f g H s): ∀b∈frs X.stack,H b=none:=λb a=>by
 rcases js.mp (I.stkSub b a) with e|a
 ·rw[e];exact I.free
 ·obtain⟨_,o,c,_⟩:=I.ok.funs.mem a;exact I.base.free b o c (I.ok.frf b a) λz=>I.ok.exfs b z a
def Inv.step{g':Array GenState}{t':Nat}{d':Drawn}{ch:jx}(I:Inv X f g H s)
  (C: ∀b∈ch,(b∈X.ex\/X.s₀.heap.objs.size<=b)/\b≠X.env.locals/\(∀x c,X.env.cells.lookup x=some c->c≠b)/\ ∀p∈X.pn++f,p.1≠b)
  (keep: ∀b o,b≠X.env.locals->b∉X.fs->b∉ch->s.heap.get? b=some o->H b=none->h'.get? b=some o)
  (slot: ∀b o,b≠X.env.locals->b∈X.fs->b∉ch->s.heap.get? b=some o->H b=none-> ∃Y,h'.get? b=some {o with slots:=Y})(free: ∀b o,b∉ch->s.heap.get? b=some o->H b=none->B b=none)
  (there: ∀b o,b∉ch->s.heap.get? b=some o-> ∃M,h'.get? b=some M)
  (O: ∀b t,H b=some (.tup t)->B b=some (.tup t))(J: ∀b o u,H b=some (.frz o u)->B b=some (.frz o u))(N: ∀b T,H b=some (.tbl T)-> ∃more,B b=some (.tbl (T++more)))
  (ns: ∀m,s.heap.Ns X.env.locals m->h'.Ns X.env.locals m)(U:HOk X.prog X.w B h')(hg:AllBare g'):
  Inv X f g B {s with heap:=h',gens:=g',drawn:=d',toks:=t'}:=by
 have L: ∀b o,X.s₀.heap.get? b=some o->b≠X.env.locals:=λb o e=>iC (lG (iV e) I.ok.above)
 have Q: ∀b o,X.s₀.heap.get? b=some o->b∉X.ex->b∉ch:=λb o e a y=>by
  rcases(C b y).1 with z|z
  ·exact a z
  ·exact absurd (lG (iV e) z) (oi _)
 have h: ∀x c,X.env.cells.lookup x=some c-> ∀v,s.heap.IsCell c v->h'.IsCell c v:=λx c e v ⟨o,A,hd⟩=>by
  have E:c∉ch:=λz=>(C c z).2.2.1 x c e rfl;by_cases D:c∈X.fs
  ·obtain⟨Y,q⟩:=slot c o (I.cne x c e) D E A (I.freeC x c e);exact⟨_,q,hd⟩
  ·exact⟨o,keep c o (I.cne x c e) D E A (I.freeC x c e),hd⟩
 refine⟨I.ok,I.os,hg,⟨λb o e n y a=>?_,λb o e n y a=>?_,λb o e n a=>?_,λb o e a=>?_,λb t e=>O b t (I.base.tups b t e),λb o t e=>J b o t (I.base.frzs b o t e),λb T e=>?_⟩,?_,λx c e=>?_,?_,λx c e=>?_,λp F=>?_,U,I.len⟩
 ·exact keep b o (L b o e) y (Q b o e a) (I.base.keep b o e n y a) (I.base.free b o e n a)
 ·obtain⟨Y,j⟩:=I.base.slot b o e n y a;obtain⟨P,G⟩:=slot b _ (L b o e) y (Q b o e a) j (I.base.free b o e n a);exact⟨P,G⟩
 ·obtain⟨M,j⟩:=I.base.there b o e a;exact free b M (Q b o e a) j (I.base.free b o e n a)
 ·obtain⟨M,j⟩:=I.base.there b o e a;exact there b M (Q b o e a) j
 ·obtain⟨W,j⟩:=I.base.tbls b T e;obtain⟨Z,G⟩:=N b _ j;exact⟨W++Z,by rw[G,As]⟩
 ·obtain⟨m,V,S⟩:=I.loc;refine⟨m,ns m V,λi x v j G R=>?_⟩;obtain⟨u,r,l⟩:=S i x v j G R;refine⟨u,r,?_⟩;rcases l with l|⟨k,c,e,z⟩
  ·exact .inl l
  ·exact .inr ⟨k,c,e,h x c e _ z⟩
 ·obtain⟨v,z⟩:=I.cell x c e;exact⟨v,h x c e v z⟩
 ·obtain⟨m,⟨o,_,_,A,_⟩,_⟩:=I.loc;exact free _ o (λz=>(C _ z).2.1 rfl) A I.free
 ·obtain⟨v,o,A,hd⟩:=I.cell x c e;exact free c o (λz=>(C c z).2.2.1 x c e rfl) A (I.freeC x c e)
 ·obtain⟨e,n,ne,K,d⟩:=I.pin p F;have E:p.1∉ch:=λz=>(C p.1 z).2.2.2 p F rfl;exact⟨keep p.1 p.2 ne K E e n,free p.1 p.2 E e n,ne,K,d⟩
def Inv.un{t':Nat}(I:Inv X f g H s)(u:Un X.fs [] H B s.heap h')(d:HOk X.prog X.w B h'):Inv X f g B {s with heap:=h',toks:=t'}:=by
 obtain⟨m,⟨o,t,q,i,r⟩,_⟩:=id I.loc;obtain⟨y,k⟩:=u.any i I.free (by simp)
 exact I.step (g':=s.gens) (d':=s.drawn) (ch:=[]) (λ_ z=>nomatch z) (λb o _ c _ e n=>u.keep b o e n c (by simp)) (λb o _ c _ e n=>u.slot b o e n c (by simp)) (λb o _ e n=>u.free b o e n (by simp)) (λb o _ e=>u.there b o e (by simp)) u.tups u.frzs u.tbls (λv l=>by
  obtain⟨x,a,j,h,p⟩:=l;rw[i] at h;cases h;exact⟨_,a,j,k,p⟩) d I.bare
def Inv.call{g':Array GenState}{t':Nat}{d':Drawn}{ch:jx}(I:Inv X f g H s)(u:Un (frs X.stack) ch H B s.heap h')(i:HOk X.prog X.w B h')(v:AllBare g')
  (j: ∀b∈ch,(b∈X.ex\/X.s₀.heap.objs.size<=b)/\b≠X.env.locals/\(∀x c,X.env.cells.lookup x=some c->c≠b)/\ ∀p∈X.pn++f,p.1≠b):
  Inv X f g B {s with heap:=h',gens:=g',drawn:=d',toks:=t'}:=by
 obtain⟨m,⟨o,E,C,l,r⟩,_⟩:=id I.loc;obtain⟨L,h⟩:=u.any l I.free λz=>(j _ z).2.1 rfl
 exact I.step (ch:=ch) j (λb o h t a e n=>u.keep b o e n (λz=>(js.mp (I.stkSub b z)).elim h t) a) (λb o _ _ a e n=>u.any e n a) (λb o a e n=>u.free b o e n a) (λb o a e=>u.there b o e a) u.tups u.frzs u.tbls (λG y=>by
  obtain⟨J,d,q,k,A⟩:=y;rw[l] at k;cases k;exact⟨_,d,q,h,A⟩) i v
def Inv.turned{t':Nat}{it:gw}(I:Inv X f g H s)(k: ∀b o,b≠it->s.heap.get? b=some o->h'.get? b=some o)(A:H it=none)(h:it≠X.env.locals)
  (h1:it∈X.ex\/X.s₀.heap.objs.size<=it)(l: ∀x c,X.env.cells.lookup x=some c->c≠it)(t: ∀p∈X.pn++f,p.1≠it):Inv X f g H {s with heap:=h',toks:=t'}:=by
 have d: ∀b u,H b=some u->b≠it:=λb u e z=>by rw[z,A] at e;cases e
 refine I.step (g':=s.gens) (d':=s.drawn) (ch:=[it]) (λb w=>?_) (λb o _ _ a e _=>k b o (λz=>a (by simp[z])) e) (λb o _ _ a e _=>⟨o.slots,k b o (λz=>a (by simp[z])) e⟩) (λ_ _ _ _ n=>n)
  (λb o a e=>⟨o,k b o (λz=>a (by simp[z])) e⟩) (λ_ _ e=>e) (λ_ _ _ e=>e) (λb E e=>⟨#[],by rw[e];simp⟩) (λm y=>?_) (λb u e=>?_) I.bare
 ·have e:b=it:=by simpa using w
  subst e;exact⟨h1,h,l,t⟩
 ·obtain⟨o,j,i,C,r⟩:=y;exact⟨o,j,i,k _ o (lF h) C,r⟩
 ·refine(I.hok b u e).stay (λc v a q=>k c v ?_ q) (λ_ q=>q) λ_ _ q=>q;rcases a with z|z
  ·rw[z];exact d b u e
  ·exact d c _ z
def Inv.tok(I:Inv X f g H s)(t:Nat):Inv X f g H {s with toks:=t}:=I.un (h':=s.heap) (t':=t) Un.refl I.hok
def Inv.kept{t':Nat}(I:Inv X f g H s)(k: ∀b u,s.heap.get? b=some u->h'.get? b=some u):Inv X f g H {s with heap:=h',toks:=t'}:=I.un (Un.kept k) (I.hok.kept k)
def Inv.laid{a:gw}{o:HO}{t':Nat}(I:Inv X f g H s)(k: ∀b u,s.heap.get? b=some u->h'.get? b=some u)(c:s.heap.objs.size<=a)(new:ObjOk X.prog X.w (upd H a o) h' a o):
  Inv X f g (upd H a o) {s with heap:=h',toks:=t'}:=I.un (Un.laid k c (I.hok.fresh c)) (I.hok.laid k c new)
def Inv.write{x e:gw}{o:HO}{h:Nat}(I:Inv X f g H s)(d:Mut (H x))(c:e=x\/H e=some (.own x))(k: ∀b u,b≠e->s.heap.get? b=some u->h'.get? b=some u)(a: ∃u,h'.get? e=some u)
  (new:ObjOk X.prog X.w (upd H x o) h' x o):Inv X f g (upd H x o) {s with heap:=h',toks:=h}:=I.un (Un.write d c k a) (I.hok.write d c k a new)
def Inv.pins_of{a:ig}(I:Inv X f g H s)(h: ∀p∈a,s.heap.get? p.1=some p.2/\H p.1=none/\p.1≠X.env.locals/\p.1∉X.fs/\ ∀v,p.2.data≠ .cell v):Inv X a g H s:=
 ⟨I.ok,I.os,I.bare,I.base,I.loc,I.cell,I.free,I.freeC,λp b=>(pE.mp b).elim (λz=>I.pin p (Ar _ z)) (h p),I.hok,I.len⟩
def xo{N:hG}(e:N.Nodup){i j:Nat}{x:Str}(a:N[i]?=some x)(b:N[j]?=some x):i=j:=by
 obtain⟨h1,c⟩:=qM.mp a;obtain⟨h,d⟩:=qM.mp b;exact(List.getElem_inj e).mp (c.trans d.symm)
def Gk{M:Model}{A:gS}{E:ip}{i:Nat}{x:Str}{v:V}{u:gD}{Q:Unit->Shared->Prop}(I:Inv X f g H s)(hN:X.N.Nodup)(U:X.N[i]?=some x)(J:Loc X.env.scope x)(r:RelV v u)
  (h: ∀s',Inv X f (g.set i (some v)) H s'->(∃a,Heap.SameBut a s.heap s'.heap/\(a=X.env.locals\/X.env.cells.lookup x=some a))->Q () s')(hf:X.fn x=true\/X.env.scope.names.lookup x=some .local:=by first|exact .inl rfl|exact .inr rfl|assumption):wpAny M A (storeName X.env x u) Q E s:=by
 obtain⟨m,R,hl⟩:=id I.loc;have bu:(X.env.scope.kind== .class||(X.env.scope.kind== .module&&X.env.locals !=X.env.globals))=false:=by rw[I.ok.kind];rfl
 have eI:i<g.length:=by rw[I.len];exact(qM.mp U).1
 have cne:=I.cne
 have C: ∀{a:gw} {h':gR},(∃o,s.heap.get? a=some o/\H a=none)->Heap.SameBut a s.heap h'->HOk X.prog X.w H h':=λ{a h'} ha l b ob e=>by
  obtain⟨_,_,j1⟩:=ha;refine(I.hok b ob e).stay (λc F G q=>(l.2 c ?_).trans q) (λ_ q=>q) λ_ _ q=>q;rintro rfl;rcases G with rfl|G
  ·rw[j1] at e;cases e
  ·rw[j1] at G;cases G
 rcases J with hk|hk
 ·refine HW hk R (λh' cc l=>?_) bu;obtain⟨oL,_,_,S,_⟩:=id R;refine h _ ⟨I.ok,I.os,I.bare,⟨λb o e n O J=>?_,λb o e n O J=>?_,I.base.free,λb o e J=>?_,I.base.tups,I.base.frzs,I.base.tbls⟩,⟨_,cc,λj y v' t L P=>?_⟩,λy c e=>?_,I.free,I.freeC,λp W=>?_,C ⟨oL,S,I.free⟩ l,by simpa using I.len⟩ ⟨_,l,.inl rfl⟩
  ·exact(l.2 b (iC (lG (iV e) I.ok.above))).trans (I.base.keep b o e n O J)
  ·obtain⟨sl,t⟩:=I.base.slot b o e n O J;exact⟨sl,(l.2 b (iC (lG (iV e) I.ok.above))).trans t⟩
  ·obtain⟨o',t⟩:=I.base.there b o e J;exact⟨o',(l.2 b (iC (lG (iV e) I.ok.above))).trans t⟩
  ·by_cases T:j=i
   ·subst T;rw[U] at t;cases t;rw[my eI] at L;cases L;exact⟨u,r,.inl ⟨hk,by simp⟩⟩
   ·rw[mP (lF T)] at L;obtain⟨u',r',q⟩:=hl j y v' t L P;refine⟨u',r',?_⟩;rcases q with⟨k,e⟩|⟨k,c,e,z⟩
    ·refine .inl ⟨k,?_⟩;have:y≠x:=λe=>T (xo hN t (e▸U));simp[this,e]
    ·exact .inr ⟨k,c,e,z.sameBut l (cne y c e)⟩
  ·obtain⟨F,z⟩:=I.cell y c e;exact⟨F,z.sameBut l (cne y c e)⟩
  ·obtain⟨e,n,ne,Z,d⟩:=I.pin p W;exact⟨(l.2 p.1 ne).trans e,n,ne,Z,d⟩
 ·have K:X.fn x=true:=by
   rcases hf with z|z
   ·exact z
   ·rw[z] at hk;cases hk
  obtain⟨c,G⟩:=I.ok.has x (.inl hk);obtain⟨F,z⟩:=I.cell x c G;refine wpAny_storeName_cell I.ok.kind hk G z (λh' aX l=>?_);obtain⟨oc,dh,Y⟩:=id z;refine h {s with heap:=h'} ⟨I.ok,I.os,I.bare,⟨λb o e n O J=>?_,λb o e n O J=>?_,I.base.free,λb o e J=>?_,I.base.tups,I.base.frzs,I.base.tbls⟩,⟨m,R.sameBut l (lF (cne x c G)),λj y v' t L P=>?_⟩,λy D e=>?_,I.free,I.freeC,λp W=>?_,C ⟨oc,dh,I.freeC x c G⟩ l,by simpa using I.len⟩ ⟨c,l,.inr G⟩
  ·exact(l.2 b (iC (lG (iV e) (I.ok.cab x c K G)))).trans (I.base.keep b o e n O J)
  ·obtain⟨sl,t⟩:=I.base.slot b o e n O J;exact⟨sl,(l.2 b (iC (lG (iV e) (I.ok.cab x c K G)))).trans t⟩
  ·obtain⟨o',t⟩:=I.base.there b o e J;exact⟨o',(l.2 b (iC (lG (iV e) (I.ok.cab x c K G)))).trans t⟩
  ·by_cases T:j=i
   ·subst T;rw[U] at t;cases t;rw[my eI] at L;cases L;exact⟨u,r,.inr ⟨.inl hk,c,G,aX⟩⟩
   ·rw[mP (lF T)] at L;obtain⟨u',r',q⟩:=hl j y v' t L P;refine⟨u',r',?_⟩;rcases q with q|⟨k,D,e,z'⟩
    ·exact .inl q
    ·refine .inr ⟨k,D,e,z'.sameBut l ?_⟩;rintro rfl;exact T (xo hN t (I.ok.inj _ _ _ e G▸U))
  ·by_cases eK:D=c
   ·subst eK;exact⟨_,aX⟩
   ·obtain⟨w2,z2⟩:=I.cell y D e;exact⟨w2,z2.sameBut l eK⟩
  ·obtain⟨e,n,ne,Z,d⟩:=I.pin p W;refine⟨(l.2 p.1 ?_).trans e,n,ne,Z,d⟩;intro q;rw[q,dh] at e;have q':oc=p.2:=ji e;exact d F (by rw[<-q'];exact Y)
def wG{M:Model}{A:gS}{E:ip}{i:Nat}{x:Str}{v:V}{u:gD}{Q:Unit->Shared->Prop}(I:Inv X f g H s)(c:X.N.Nodup)(e:X.N[i]?=some x)(j:Loc X.env.scope x)(r:RelV v u)
  (h: ∀a,Inv X f (g.set i (some v)) H a->Q () a)(d:X.fn x=true\/X.env.scope.names.lookup x=some .local:=by first|exact .inl rfl|exact .inr rfl|assumption):wpAny M A (storeName X.env x u) Q E s:=
 Gk I c e j r (λa b _=>h a b) d
def Inv.call'{s':gA}{ch:jx}(I:Inv X f g H s)(i:s'.os=s.os)(u:Un (frs X.stack) ch H B s.heap s'.heap)(a:HOk X.prog X.w B s'.heap)(h:AllBare s'.gens)
  (d: ∀b∈ch,(b∈X.ex\/X.s₀.heap.objs.size<=b)/\b≠X.env.locals/\(∀x c,X.env.cells.lookup x=some c->c≠b)/\ ∀p∈X.pn++f,p.1≠b):Inv X f g B s':=by
 obtain⟨h',g',d',t',j⟩:=s';have e:j=s.os:=i;subst e;exact I.call (g':=g') (t':=t') (d':=d') u a h d
end
abbrev XK:=Value->Option Addr->Hp->Prop
abbrev St:=List (Option V)
abbrev VK:=V->Hp->Prop
abbrev TE:=St->Hp->VK->Prop
abbrev TT:=St->Hp->(Bool->Hp->Prop)->Prop
abbrev TA:=St->Hp->(List V->Hp->Prop)->Prop
structure Ends where
 nx:St->Hp->Prop
 rt:VK
 bk:St->Hp->Prop:=λ_ _=>False
 ct:St->Hp->Prop:=λ_ _=>False
abbrev TS:=Ends->St->Hp->Prop
def EP(X:Cx)(a:ig)(d:St)(Q:VK)(u:gD)(c:gA):Prop:= ∃v b,Inv X a d b c/\RelV v u/\Q v b
def TP(X:Cx)(a:ig)(e:St)(Q:Bool->Hp->Prop)(b:Bool)(d:gA):Prop:= ∃c,Inv X a e c d/\Q b c
def AP(X:Cx)(a:ig)(f:St)(Q:List V->Hp->Prop)(e:iF)(d:gA):Prop:= ∃c b,Inv X a f b d/\Vals c e/\Q c b
def SP(X:Cx)(b:ig)(D:Ends)(f:Flow)(d:gA):Prop:=
 match f with
 | .next=> ∃a c,Inv X b a c d/\D.nx a c
 | .brk=> ∃a c,Inv X b a c d/\D.bk a c
 | .cont=> ∃a c,Inv X b a c d/\D.ct a c
 | .ret u=> ∃v a c,Inv X b a c d/\RelV v u/\D.rt v c
def PE(X:Cx)(e:gG)(t:TE):Prop:=
 ∀(a:ig) (s:gA) (b:St) (H:Hp) (Q:VK),Inv X a b H s->t b H Q->wpAny (model X.prog X.w) X.A (eval e X.env) (EP X a b Q) X.xe s
def PT(X:Cx)(e:gG)(t:TT):Prop:=
 ∀(a:ig) (s:gA) (b:St) (H:Hp) (Q:Bool->Hp->Prop),Inv X a b H s->t b H Q->wpAny (model X.prog X.w) X.A (isTrue e X.env (eval e X.env)) (TP X a b Q) X.xe s
def PW(X:Cx)(e:gG)(t:TT):Prop:=
 ∀(b:Sem Value) (a:ig) (s:gA) (c:St) (H:Hp) (Q:Bool->Hp->Prop),Inv X a c H s->t c H Q->wpAny (model X.prog X.w) X.A (isTrue e X.env b) (TP X a c Q) X.xe s
def PW.pt{X:Cx}{e:gG}{t:TT}(h:PW X e t):PT X e t:=h _
def PA(X:Cx)(d:jh)(t:TA):Prop:=
 ∀(b:Pos) (a:ig) (s:gA) (c:St) (H:Hp) (Q:List V->Hp->Prop),Inv X a c H s->t c H Q->wpAny (model X.prog X.w) X.A (spliced (backTo b (starEach d X.env))) (AP X a c Q) X.xe s
def PS(X:Cx)(st:Stmt)(t:TS):Prop:=
 ∀(a:ig) (s:gA) (b:St) (H:Hp) (D:Ends),Inv X a b H s->t D b H->wpAny (model X.prog X.w) X.A (exec st X.env) (SP X a D) X.xe s
def PSs(X:Cx)(st:List Stmt)(t:TS):Prop:=
 ∀(a:ig) (s:gA) (b:St) (H:Hp) (D:Ends),Inv X a b H s->t D b H->wpAny (model X.prog X.w) X.A (execs st X.env) (SP X a D) X.xe s
def thn{c:Type}{t:Sem c}{Q b:c->Shared->Prop}{M:Model}{A:gS}{E:ip}{s:gA}(h:wpAny M A t Q E s)(d: ∀a s,Q a s->b a s):wpAny M A t b E s:=mO h d λ_ _ x=>x
section
variable {X:Cx}
def So(i:Nat):TE:=λa H Q=> ∃v,a[i]?=some (some v)/\Q v H
noncomputable def tC(v:V):TE:=λ_ H Q=>Q v H
def wY{i:Nat}{x:Str}{f:Pos}(g:X.N[i]?=some x)(hv:Vis X.env.scope x)(hd:(x==("__debug__":Str))=false:=by decide)(n:(x==("__classdict__":Str))=false:=by decide):PE X (.Name x f) (So i):=by
 intro a s o H Q I h;obtain⟨v,e,h⟩:=h;obtain⟨m,k,j⟩:=I.loc;obtain⟨u,r,l⟩:=j i x v g e hv;have fin:EP X a o Q u s:=⟨v,H,I,r,h⟩
 rcases l with⟨hk,hm⟩|⟨hk,c,b,d⟩
 ·exact wpAny_Name (wpAny_loadName_local I.ok.kind hk k hm fin) hd
 ·rcases hk with hk|hk
  ·exact wpAny_Name (wpAny_loadName_cell I.ok.kind hk b d fin) hd
  ·exact wpAny_Name (wpAny_loadName_free I.ok.kind hk b d fin n) hd
def OV{i j f}:PE X (.Constant (.int i) j f) (tC (.int i)):=λ_ _ _ H _ I h=>wpAny_Constant_int ⟨.int i,H,I.tok _,⟨_,rfl⟩,h⟩
def Q9{b j f}:PE X (.Constant (.bool b) j f) (tC (.bl b)):=λ_ _ _ H _ I h=>Constant_bool ⟨.bl b,H,I,rfl,h⟩
def OT{j f}:PE X (.Constant .none j f) (tC .non):=λ_ _ _ H _ I h=>Constant_none ⟨.non,H,I,rfl,h⟩
def OQ{x j f}:PE X (.Constant (.str x) j f) (tC (.str x)):=λ_ _ _ H _ I h=>Calls.Constant_str ⟨.str x,H,I.tok _,⟨_,rfl⟩,h⟩
def Gl(X:Cx)(x:Str):Prop:=X.env.kindOf x=some .globalImplicit
def qu{E:ip}{a:ig}{s:gA}{d:St}{H:Hp}{x:Str}{u:gD}{f:Pos}{Q:ip}(I:Inv X a d H s)(b:Gl X x)(c:X.mg x=some u)(h:Q u s)
  (hd:(x==("__debug__":Str))=false:=by decide):wpAny (model X.prog X.w) X.A (eval (.Name x f) X.env) Q E s:=
 HV I.ok.kind b (Calls.loadGlobal_global (by rw[I.ok.glob];exact I.mod.glob.keeps I.bk) c h) hd
def uO{E:ip}{a:ig}{s:gA}{g:St}{H:Hp}{x:Str}{u:gD}{f:Pos}{Q:ip}(I:Inv X a g H s)(c:Gl X x)(d:X.mg x=none)(hv:bootBuiltins x=some u)(h:Q u s)
  (e:x≠"__name__":=by decide)(hd:(x==("__debug__":Str))=false:=by decide):wpAny (model X.prog X.w) X.A (eval (.Name x f) X.env) Q E s:=by
 obtain⟨i,h1,b⟩:=I.mod.blt;exact HV I.ok.kind c (Calls.loadGlobal_builtin (by rw[I.ok.glob];exact I.mod.glob.keeps I.bk) d (by rw[I.ok.blt];exact h1.keeps I.bk) ((b x e).trans hv) h) hd
def Fw{x:Str}{v:V}{u:gD}{f:Pos}(a:Gl X x)(b:X.mg x=some u)(r:RelV v u)(hd:(x==("__debug__":Str))=false:=by decide):PE X (.Name x f) (tC v):=
 λ_ _ _ H _ I h=>qu I a b ⟨v,H,I,r,h⟩ hd
def vV{x:Str}{v:V}{u:gD}{f:Pos}(a:Gl X x)(b:X.mg x=none)(hv:bootBuiltins x=some u)(r:RelV v u)(c:x≠"__name__":=by decide)(hd:(x==("__debug__":Str))=false:=by decide):PE X (.Name x f) (tC v):=
 λ_ _ _ H _ I h=>uO I a b hv ⟨v,H,I,r,h⟩ c hd
def t2I(g tb:TE)(k:Int->Int->Hp->Prop):St->Hp->Prop:=λa H=>g a H λx b=>tb a b λy c=> ∃i j,x= .int i/\y= .int j/\k i j c
variable {a b:gG}{g tb:TE}{f:Pos}
noncomputable def tCmp(p:Int->Int->Bool)(g tb:TE):TE:=λd H Q=>t2I g tb (λi j c=>Q (.bl (p i j)) c) d H
def tB(t:TE):TT:=λe H Q=>t e H λx d=> ∃c,x= .bl c/\Q c d
def OD{e:gG}{t:TE}(h:PE X e t)(l: ∀c,isTrue e X.env c=(do let v <-c;standAt e.pos;holding [v] (truthy v)):=by intro _;rfl):PT X e (tB t):=by
 intro i s p H Q I m;refine isTrue_plain (thn (h i s p H _ I m) λv s1 ⟨x,j,k,o,n⟩=>?_) (l _);obtain⟨d,rfl,q⟩:=n;cases o;exact uD ⟨j,k,q⟩
variable {tA n:TT}{iq:jh}
noncomputable def SD(t u:TT):TT:=λe H Q=>t e H λc d=>if c=true then u e d Q else Q false d
noncomputable def tOr(t u:TT):TT:=λe H Q=>t e H λc d=>if c=true then Q true d else u e d Q
noncomputable def tNot(t:TT):TT:=λe H Q=>t e H λc d=>Q (!c) d
def LN(i:PT X a tA):PW X (.BoolOp .And [a] f) tA:=by
 intro wh d s j H Q I h;refine isTrue_and (thn (i d s j H Q I h) λc s1 e=>?_)
 cases c with
 |true=>exact isTrue_and_nil e
 |false=>exact e
def OA(i:PT X a tA):PW X (.BoolOp .Or [a] f) tA:=by
 intro wh d s j H Q I h;refine isTrue_or (thn (i d s j H Q I h) λc s1 e=>?_)
 cases c with
 |false=>exact isTrue_or_nil e
 |true=>exact e
def OB(l:PT X a tA)(m:PW X (.BoolOp .And (b::iq) f) n):PW X (.BoolOp .And (a::b::iq) f) (SD tA n):=by
 intro wh d s k H Q I h;refine isTrue_and (thn (l d s k H _ I h) λc s1 ⟨e,i,j⟩=>?_)
 cases c with
 |true=>exact m wh d s1 k e Q i j
 |false=>exact⟨e,i,j⟩
def Q5(l:PT X a tA)(m:PW X (.BoolOp .Or (b::iq) f) n):PW X (.BoolOp .Or (a::b::iq) f) (tOr tA n):=by
 intro wh d s k H Q I h;refine isTrue_or (thn (l d s k H _ I h) λc s1 ⟨e,i,j⟩=>?_)
 cases c with
 |true=>exact⟨e,i,j⟩
 |false=>exact m wh d s1 k e Q i j
def OE(i:PT X a tA):PT X (.UnaryOp .Not a f) (tNot tA):=by
 intro d s j H Q I h;exact isTrue_not (i d s j H (λc e=>Q (!c) e) I h)
def QJ(g tb:TE):TE:=λe H Q=>g e H λx d=> ∃c,x= .bl c/\if c=true then tb e d Q else Q (.bl false) d
def Qy(g:TE):TE:=λe H Q=>g e H λx d=> ∃c,x= .bl c/\Q (.bl (!c)) d
def OR{op}{t:TE}(h:PE X a t):PE X (.BoolOp op [a] f) t:=λc s e H Q I d=>BoolOp_one (h c s e H Q I d)
def OW(l:PE X a g)(m:PE X (.BoolOp .And (b::iq) f) tb):PE X (.BoolOp .And (a::b::iq) f) (QJ g tb):=by
 intro d s k H Q I h;refine BoolOp_and (thn (l d s k H _ I h) λv s1 ⟨x,i,j,o,e⟩=>?_);obtain⟨c,rfl,e⟩:=e;cases o;refine uD ?_
 cases c with
 |true=>exact m d s1 k i Q j e
 |false=>exact⟨.bl false,i,j,rfl,e⟩
def OS(k:PE X a g):PE X (.UnaryOp .Not a f) (Qy g):=by
 intro d s m H Q I h;refine UnaryOp_ (thn (k d s m H _ I h) λv s1 ⟨x,i,j,l,e⟩=>?_);obtain⟨c,rfl,e⟩:=e;cases l;exact not_of (uD ⟨.bl (!c),i,j,rfl,e⟩)
noncomputable def tIf(t:TT)(g tb:TE):TE:=λd H Q=>t d H λc e=>if c=true then g d e Q else tb d e Q
def Jw{c:gG}(p:PT X c tA)(m:PE X a g)(o:PE X b tb):PE X (.IfExp c a b f) (tIf tA g tb):=by
 intro e s i H Q I h;refine wpAny_IfExp (thn (p e s i H _ I h) λd s1 ⟨j,k,l⟩=>?_)
 cases d with
 |true=>exact m e s1 i j Q k l
 |false=>exact o e s1 i j Q k l
end
def SqL(K:gW)(H:Hp)(a:gw)(xs:List V):Prop:=
 Rd H a (.lst xs)\/
  ∃(o:Obj) (b:lU) (n:Nat),K.lookup a=some o/\o.cls= .type "list"/\o.dict=none/\o.data= .seq b n/\b.size<=sizeLine/\Vals xs b.toList
def SqT(K:gW)(H:Hp)(a:gw)(c:List V):Prop:=
 Rd H a (.tup c)\/
  ∃(o:Obj) (b:lU) (n:Nat),K.lookup a=some o/\o.cls= .type "tuple"/\o.data= .seq b n/\b.size<=sizeLine/\Vals c b.toList
noncomputable def T7:Value->Option V
 | .none=>some .non
 | .bool b=>some (.bl b)
 | .int i _=>some (.int i)
 | .str x _=>some (.str x)
 | .bytes b _=>some (.byt b)
 | .float b _=>some (.flt b)
 | .ref a=>some (.ref a)
 | .type n=>some (.ty n)
 |_=>none
def RelV.abs{x:V}{u:gD}(r:RelV x u):T7 u=some x:=by
 cases x with
 |non=>cases r;rfl
 |bl _=>cases r;rfl
 |int _=>obtain⟨t,rfl⟩:=r;rfl
 |str _=>obtain⟨t,rfl⟩:=r;rfl
 |byt _=>obtain⟨t,rfl⟩:=r;rfl
 |flt _=>obtain⟨t,rfl⟩:=r;rfl
 |ref _=>cases r;rfl
 |ty _=>cases r;rfl
theorem RelV.inj{x y:V}{u:gD}(r:RelV x u)(q:RelV y u):x=y:=ji (r.abs.symm.trans q.abs)
theorem Vals.inj: ∀{a b:List V} {us:iF},Vals a us->Vals b us->a=b
 |_,_,_,.nil,.nil=>rfl
 |_,_,_,.cons r t,.cons c d=>by rw[r.inj c,Vals.inj t d]
section
variable {X:Cx}{b:ig}{f:St}{H:Hp}{s:gA}{a:gw}{c g:List V}
def SqL.of{K:gW}(h:H a=some (.lst c)):SqL K H a c:= .inl (.inl h)
def Inv.list(I:Inv X b f H s)(h:SqL X.K H a c): ∃d:List Value,Vals c d/\PlainL s.heap a d.toArray/\c.length<=sizeLine:=by
 rcases h with h|⟨o,d,n,hk,i,hd,j,k,r⟩
 ·obtain⟨z,d,n,r,e⟩:=h.ok I.hok;exact⟨d,r,⟨_,n,e,rfl,rfl,rfl⟩,z⟩
 ·refine⟨d.toList,r,⟨o,n,I.kIn a o hk,i,hd,by simpa using j⟩,?_⟩;have e:=r.length;simp only[ju] at e
  lia
def Inv.tuple(I:Inv X b f H s)(h:SqT X.K H a c): ∃d:List Value,Vals c d/\IsTup s.heap a d.toArray/\c.length<=sizeLine:=by
 rcases h with h|⟨o,d,n,hk,i,j,k,r⟩
 ·obtain⟨z,d,r,p⟩:=h.ok I.hok;exact⟨d,r,p,z⟩
 ·refine⟨d.toList,r,⟨o,I.kIn a o hk,i,n,by simpa using j⟩,?_⟩;have e:=r.length;simp only[ju] at e
  lia
theorem Inv.list_inj(I:Inv X b f H s)(h:SqL X.K H a c)(p:SqL X.K H a g):c=g:=by
 obtain⟨l,r,⟨o,n,e,_,_,d⟩,_⟩:=I.list h;obtain⟨i,q,⟨u,t,k,_,_,j⟩,_⟩:=I.list p;rw[e] at k;cases k;rw[d] at j;injection j with m _
 have:l=i:=by simpa using mM Array.toList m
 subst this;exact r.inj q
theorem Inv.tuple_inj(I:Inv X b f H s)(h:SqT X.K H a c)(p:SqT X.K H a g):c=g:=by
 obtain⟨l,r,⟨o,e,_,n,d⟩,_⟩:=I.tuple h;obtain⟨i,q,⟨u,k,_,t,j⟩,_⟩:=I.tuple p;rw[e] at k;cases k;rw[d] at j;injection j with m _
 have:l=i:=by simpa using mM Array.toList m
 subst this;exact r.inj q
end
abbrev Cx.wish(X:Cx)(E:ip):Cx:={X with xe:=E}
abbrev Cx.nox(X:Cx):Cx:=X.wish λ_ _=>False
def Cx.Ok.wish{X:Cx}(ok:X.Ok)(E:ip):(X.wish E).Ok:=
 ⟨ok.mod,ok.kind,ok.glob,ok.blt,ok.above,ok.inj,ok.has,ok.cab,ok.hd,ok.frames,ok.stk,ok.exf,ok.bs,ok.bsz,ok.noex,ok.exfs,ok.funs,ok.frf⟩
def Cx.Ok.unwish{X:Cx}{E:ip}(ok:(X.wish E).Ok):X.Ok:=
 ⟨ok.mod,ok.kind,ok.glob,ok.blt,ok.above,ok.inj,ok.has,ok.cab,ok.hd,ok.frames,ok.stk,ok.exf,ok.bs,ok.bsz,ok.noex,ok.exfs,ok.funs,ok.frf⟩
section
variable {X:Cx}{a:ig}{b:St}{H:Hp}{s:gA}{E:ip}
def Inv.wish(I:Inv X a b H s)(E:ip):Inv (X.wish E) a b H s:=⟨I.ok.wish E,I.os,I.bare,I.base,I.loc,I.cell,I.free,I.freeC,I.pin,I.hok,I.len⟩
def Inv.unwish(I:Inv (X.wish E) a b H s):Inv X a b H s:=⟨I.ok.unwish,I.os,I.bare,I.base,I.loc,I.cell,I.free,I.freeC,I.pin,I.hok,I.len⟩
def SP.unwish{D:Ends}{f:Flow}{e:gA}(h:SP (X.wish E) a D f e):SP X a D f e:=by
 cases f with
 |next=>obtain⟨c,d,I,q⟩:=h;exact⟨c,d,I.unwish,q⟩
 |brk=>obtain⟨c,d,I,q⟩:=h;exact⟨c,d,I.unwish,q⟩
 |cont=>obtain⟨c,d,I,q⟩:=h;exact⟨c,d,I.unwish,q⟩
 |ret u=>obtain⟨v,c,d,I,r,q⟩:=h;exact⟨v,c,d,I.unwish,r,q⟩
def PSs.nox{st:List Stmt}{t:TS}(h:PSs X.nox st t):PSs X st t:=λa s b H D I c=>
 mO (h a s b H D (I.wish _) c) (λ_ _ q=>q.unwish) λ_ _ z=>False.elim z
end
section
variable {X:Cx}{st:Stmt}{iq:List Stmt}{t u:TS}{e:gG}{i:TE}{g:Pos}
noncomputable def Qz:TS:=λD a H=>D.nx a H
noncomputable def Su(t u:TS):TS:=λD a H=>t {D with nx:=u D} a H
def Fu:PSs X [] Qz:=λ_ _ a H _ I h=>wz ⟨a,H,I,h⟩
def ox(h1:PS X st t)(j:PSs X iq u):PSs X (st::iq) (Su t u):=by
 intro a s k H D I h;refine wpAny_execs_cons (thn (h1 a s k H {D with nx:=u D} I h) λf s1 q=>?_)
 cases f with
 |next=>
  obtain⟨b,c,d,q⟩:=q;exact j a s1 b c D d q
 |ret v=>exact q
 |brk=>exact q
 |cont=>exact q
def Inv.quiet{a:ig}{b:St}{H:Hp}{s:gA}(I:Inv X a b H s):interactive X.env=false:=by simp[interactive,I.ok.kind]
noncomputable def QE(i:TE):TS:=λD a H=>i a H λ_ b=>D.nx a b
def L0(f:PE X e i)(j:swapsWith e none g.line X.env=pure false:=by rfl):PS X (.Expr e g) (QE i):=by
 intro a s b H D I h;exact wpAny_Expr_any (thn (f a s b H _ I h) λv s1 ⟨x,c,d,l,k⟩=>⟨b,c,d,k⟩) I.quiet j
noncomputable def Sv(i:TE):TS:=λD a H=>i a H D.rt
def Je(f:PE X e i):PS X (.Return (some e) g) (Sv i):=by
 intro a s b H D I h;exact wpAny_Return_some (thn (f a s b H _ I h) λv s1 ⟨x,c,d,k,j⟩=>⟨x,b,c,d,k,j⟩)
noncomputable def Sy(c:TT)(t u:TS):TS:=λD a H=>c a H λb d=>if b=true then t D a d else u D a d
def Nk{c:gG}{a b:List Stmt}{n:TT}(q:PT X c n)(o:PSs X a t)(p:PSs X b u):PS X (.If c a b g) (Sy n t u):=by
 intro f s j H D I h;refine wpAny_If (thn (q f s j H _ I h) λd s1 ⟨k,l,m⟩=>?_)
 cases d with
 |true=>exact o f s1 j k D l m
 |false=>exact p f s1 j k D l m
end
abbrev TG:=V->St->Hp->(St->Hp->Prop)->Prop
abbrev TGs:=List V->St->Hp->(St->Hp->Prop)->Prop
def PG(X:Cx)(a:gG)(t:TG):Prop:=
 ∀(b:ig) (s:gA) (e:St) (H:Hp) (v:V) (u:gD) (Q:St->Hp->Prop),Inv X b e H s->RelV v u->t v e H Q->
  wpAny (model X.prog X.w) X.A (assign a X.env u) (λ_ f=> ∃c d,Inv X b c d f/\Q c d) X.xe s
def PGs(X:Cx)(h:jh)(t:TGs):Prop:=
 ∀(a:ig) (s:gA) (f:St) (H:Hp) (e:List V) (d:iF) (Q:St->Hp->Prop),Inv X a f H s->Vals e d->t e f H Q->
  wpAny (model X.prog X.w) X.A (assignInOrder ((assignEach h X.env).map (·.2)) d) (λ_ g=> ∃b c,Inv X a b c g/\Q b c) X.xe s
abbrev MY:=V->V->V->Hp->(Hp->Prop)->Prop
def Qc(X:Cx)(t:MY):Prop:=
 ∀(a:ig) (s:gA) (e:St) (H:Hp) (o i v:V) (d c u:gD) (Q:Hp->Prop),Inv X a e H s->RelV o d->RelV i c->RelV v u->t o i v H Q->
  wpAny (model X.prog X.w) X.A (setItem d c u) (λ_ f=> ∃b,Inv X a e b f/\Q b) X.xe s
section
variable {X:Cx}{d:Pos}
noncomputable def CF(i:Nat):TG:=λv a H Q=>Q (a.set i (some v)) H
def Fv{i:Nat}{x:Str}(c:X.N.Nodup)(f:X.N[i]?=some x)(g:Loc X.env.scope x)(e:X.fn x=true\/X.env.scope.names.lookup x=some .local:=by first|exact .inl rfl|exact .inr rfl|assumption):PG X (.Name x d) (CF i):=by
 intro a s k H v u Q I r h;exact wpAny_assign_Name (wG I c f g r (λj b=>⟨_,H,b,h⟩) e)
noncomputable def T5:TGs:=λa b H Q=>a=[]/\Q b H
def Rx(t:TG)(u:TGs):TGs:=λc e H Q=> ∃v r,c=v::r/\t v e H λa b=>u r a b Q
def Mb:PGs X [] T5:=by
 intro a s b H f c Q I r h;obtain⟨e,h⟩:=h;subst e;cases r;exact assignInOrder_nil ⟨b,H,I,h⟩
def Jr{e:gG}{b:jh}{t:TG}{u:TGs}(h1:PG X e t)(j:PGs X b u)
  (k:(assignEach (e::b) X.env).map (·.2)=assign e X.env::(assignEach b X.env).map (·.2):=by rfl):PGs X (e::b) (Rx t u):=by
 intro a s n H q o Q I r h;obtain⟨v,p,i,h⟩:=h;subst i
 cases r with
 |cons r m=>
  rw[k];refine assignInOrder_cons (thn (h1 a s n H _ _ _ I r h) λ_ s1 ⟨c,f,g,l⟩=>?_);exact j a s1 c f _ _ Q g m l
def T4(K:gW)(n:Nat)(t:TGs):TG:=λv c H Q=> ∃a b,v= .ref a/\SqT K H a b/\b.length=n/\t b c H Q
def OP{f:jh}{k:Nat}{t:TGs}{n:Nat}(q:X.calm=true)(h:PGs X f t)
  (x:(assignEach f X.env).length=n:=by rfl)(B:(assignEach f X.env).findIdx? (·.1)=none:=by rfl):PG X (.Tuple f k d) (T4 X.K n t):=by
 intro c s j H v u Q I r g;obtain⟨a,C,m,y,w,g⟩:=g;subst m;cases r;obtain⟨E,i,z,G⟩:=I.tuple y;refine assign_Tuple_tuple (I.ok.hd q) z (by simp[x,<-w,i.length]) B λp A=>?_;have l:Inv X c j H {s with heap:=p}:=I.kept (t':=s.toks) λb o e=>A b o (iC (iV e)) e;exact h c _ j H C _ Q l (by simpa using i) g
noncomputable def gSub(f ti:TE)(t:MY):TG:=λv a H Q=>f a H λo b=>ti a b λi c=>t o i v c λe=>Q a e
def Js{o i:gG}{g f:TE}{t:MY}(z:PE X o g)(w:PE X i f)(A:Qc X t)
  (q: ∀v,assign (.Subscript o i d) X.env v=(do
   let b <-holding [v] (eval o X.env)
   let c <-holding [v,b] (eval i X.env)
   standAt d
   holding [v,b,c] (setItem b c v)
   release [v,b,c] []):=by intro _;rfl):PG X (.Subscript o i d) (gSub g f t):=by
 intro a s e H v u Q I r h;rw[q];refine gy (lV (thn (z a s e H _ I h) λb s1 ⟨x,j,m,G,B⟩=>?_));refine gy (lV (thn (w a s1 e j _ m B) λc L ⟨y,k,n,J,C⟩=>?_));refine gy (Aq (gy (lV (thn (A a L e k x y v b c u _ n G J r C) λ_ M ⟨l,p,E⟩=>?_))));exact wpAny_release ⟨e,l,p,E⟩
noncomputable def NV(c:TE)(g:TG):TS:=λD a H=>c a H λx b=>g x a b D.nx
def Eh{b e:gG}{c:TE}{g:TG}(k:PE X e c)(l:PG X b g)(m:swapsWithSole [b] e d.line X.env=pure false:=by rfl)(n:swappedStores [b] e X.env=pure none:=by rfl)
  (h1:(assignEach [b] X.env).map (·.2)=[assign b X.env]:=by rfl):PS X (.Assign [b] e d) (NV c g):=by
 intro a s f H D I h;refine wpAny_Assign_stores (thn (k a s f H _ I h) λv s1 ⟨x,i,j,p,o⟩=>?_) m n;rw[h1];exact thn (l a s1 f i x v _ j p o) λ_ r q=>q
def Jd{i:Nat}{x:Str}{e:gG}{c:TE}{a:Pos}(k:X.N.Nodup)(n:X.N[i]?=some x)(p:Loc X.env.scope x)(l:PE X e c)(o:swapsWith e (some (.Name x a)) d.line X.env=pure false:=by rfl)(m:X.fn x=true\/X.env.scope.names.lookup x=some .local:=by first|exact .inl rfl|exact .inr rfl|assumption):
  PS X (.Assign [.Name x a] e d) (NV c (CF i)):=by
 intro b s t H D I h;refine wpAny_Assign_Name (thn (l b s t H _ I h) λv s1 ⟨y,f,g,r,q⟩=>?_) o;exact wG g k n p r (λu j=>⟨_,f,j,q⟩) m
def NT(c:TT)(tb:TS):TS:=λD a H=> ∃W:Nat->St->Hp->Prop,(∃m,W m a H)/\ ∀m a H,W m a H->
 c a H λb g=>if b=true then ∃N:St->Hp->Prop,(∀e f,N e f-> ∃h,h<m/\W h e f)/\tb {D with nx:=N,ct:=N,bk:=D.nx} a g else D.nx a g
def Jc{c:gG}{i:List Stmt}{E:TT}{tb:TS}(C:PassesOwn (model X.prog X.w) X.A X.env X.xe)(L:PT X c E)(J:PSs X i tb):PS X (.While c i [] d) (NT E tb):=by
 intro a s Y H D I h;obtain⟨W,⟨M,T⟩,k⟩:=h;refine wpAny_While (codeAny_whileLoop (λn O=> ∃l x,Inv X a l x O/\W n l x) ?_ M ⟨Y,H,I,T⟩);rintro n s1 ⟨g,H1,G,U⟩;refine rC C (thn (L a s1 g H1 _ G (k n g H1 U)) λb Q ⟨y,z,m⟩=>?_)
 cases b with
 |true=>
  obtain⟨N,B,m⟩:=m;rw[gO rfl];refine rC C (thn (J a Q g y _ z m) λf F o=>?_)
  cases f with
  |next=>
   obtain⟨e,j,p,t⟩:=o;obtain⟨r,q,u⟩:=B e j t;exact⟨r,q,e,j,p,u⟩
  |cont=>
   obtain⟨e,j,p,t⟩:=o;obtain⟨r,q,u⟩:=B e j t;exact⟨r,q,e,j,p,u⟩
  |brk=>exact o
  |ret v=>exact o
 |false=>
  rw[gZ jA];exact wz ⟨g,y,z,m⟩
end
structure It where
 go:Nat->Hp->Prop
 yld:Nat->Hp->V->Hp->Prop
 stop:Nat->Hp->Prop
def qf(X:Cx)(a:ig)(H:Hp)(b:gw):Prop:=
 H b=none/\b≠X.env.locals/\b∉X.fs/\(b∈X.ex\/X.s₀.heap.objs.size<=b)/\(∀x c,X.env.cells.lookup x=some c->c≠b)/\ ∀p∈X.pn++a,p.1≠b
def Inv.fpOk{X:Cx}{a:ig}{i:St}{H f:Hp}{s:gA}{b:gw}(I:Inv X a i H s)(d:s.heap.objs.size<=b)(g:f b=none):qf X a f b:=by
 refine⟨g,nD (lG I.lt d),I.nofs d,.inr (mQ I.sz d),λx c e z=>?_,λp h z=>?_⟩
 ·obtain⟨v,q⟩:=I.cell x c e;exact absurd (lG q.lt (by rw[z];exact d)) (oi _)
 ·exact absurd (lG (iV (I.pin p h).1) (by rw[z];exact d)) (oi _)
structure Turn(P:gY)(w:gP)(K:gW)(tg:gG)(J:It)(fp:jx)(it:gw)(tn:Nat->Heap->Prop):Prop where
 mem:it∈fp
 obj: ∀i h,tn i h-> ∀b∈fp,∃o,h.get? b=some o/\ ∀v,o.data≠ .cell v
 keep: ∀i h h',tn i h->(∀b∈fp,∀o,h.get? b=some o->h'.get? b=some o)->tn i h'
 item: ∀(X:Cx),X.prog=P->X.w=w->X.K=K->X.calm=true-> ∀(i:Nat) (pins:ig) (s:gA) (σ:St) (H:Hp) (E:ip),Inv X pins σ H s->(∀b∈fp,qf X pins H b)->tn i s.heap->J.go i H->
  wpAny (model P w) X.A (pyNext (.ref it)) (λr s1=> ∃u,r=some u/\
   wpAny (model P w) X.A (letOwnedTupleGo tg (.ref it) u) (λ_ s2=> ∃x H',Inv X pins σ H' s2/\RelV x u/\J.yld i H x H'/\tn (i+1) s2.heap/\ ∀b∈fp,H' b=none) E s1) E s
 done: ∀(X:Cx),X.prog=P->X.w=w->X.K=K->X.calm=true-> ∀(i:Nat) (pins:ig) (s:gA) (σ:St) (H:Hp) (E:ip),Inv X pins σ H s->(∀b∈fp,qf X pins H b)->tn i s.heap->J.stop i H->
  wpAny (model P w) X.A (pyNext (.ref it)) (λr s1=>r=none/\Inv X pins σ H s1) E s
 self: ∀(A:gS) (i:Nat) (s:gA) (Q:ip) (E:ip),tn i s.heap->Q (.ref it) s->wpAny (model P w) A (pyIter (.ref it)) Q E s
abbrev TI:=St->Hp->(It->Hp->Prop)->Prop
def PIE(X:Cx)(a:ig)(j:St)(i:gG)(R:It->Hp->Prop)(h:gD)(f:gA):Prop:=
 ∃(e:gw) (d:jx) (g:Nat->Heap->Prop) (J:It) (c:Hp),h= .ref e/\Inv X a j c f/\Turn X.prog X.w X.K i J d e g/\g 0 f.heap/\(∀b∈d,qf X a c b)/\R J c
def PI(X:Cx)(tg iter:gG)(c:TI):Prop:=
 ∀(a:ig) (s:gA) (b:St) (H:Hp) (R:It->Hp->Prop),Inv X a b H s->c b H R->
  wpAny (model X.prog X.w) X.A (eval iter X.env) (λv s1=>wpAny (model X.prog X.w) X.A (pyIter v) (PIE X a b tg R) X.xe s1) X.xe s
def Ke{M:Model}{A:gS}{E:ip}{s:gA}{c:gG}{b:gw}{u:gD}{o:Obj}{n:String}{d:lU}{Q:Unit->Shared->Prop}(g:s.heap.get? b=some o)(e:o.cls= .type n)(hd:o.data= .fields d)
  (f:["enumerate","zip","dict_itemiterator","dict_reverseitemiterator","odict_iterator","itertools.zip_longest","itertools.pairwise"].contains n=false)(a:Q () s):wpAny M A (letOwnedTupleGo c (.ref b) u) Q E s:=by
 unfold letOwnedTupleGo
 cases c<;>first
  |exact gK a
  |(cases u<;>first
    |exact gK a
    |(
      refine gy (uC g ?_);rw[e,hd];show wpAny M A (if(["enumerate","zip","dict_itemiterator","dict_reverseitemiterator","odict_iterator","itertools.zip_longest","itertools.pairwise"].contains n&&d[0]?==some (rawInt _))=true then _ else _) Q E s;rw[gZ (by intro h;rw[f,Bool.false_and] at h;cases h)];exact gK a))
noncomputable def Itl(K:gW)(a:gw):It:=
 ⟨λi H=> ∃b x,SqL K H a b/\b[i]?=some x,λi H x c=>c=H/\ ∀b,SqL K H a b->b[i]?=some x,λi H=> ∃b,SqL K H a b/\b.length<=i⟩
noncomputable def Itt(K:gW)(a:gw):It:=
 ⟨λi H=> ∃b x,SqT K H a b/\b[i]?=some x,λi H x c=>c=H/\ ∀b,SqT K H a b->b[i]?=some x,λi H=> ∃b,SqT K H a b/\b.length<=i⟩
noncomputable def Itr(lo:Int)(n:Nat):It:=⟨λi _=>i<n,λi H x a=>a=H/\x= .int (lo+i),λi _=>n<=i⟩
def Gj{P:gY}{w:gP}{K:gW}{tg:gG}(a j:gw):Turn P w K tg (Itl K a) [j] j (λi h=>h.IsListIter j a i) where
 mem:=by simp
 obj:=λi h st b g=>by
  have e:b=j:=by simpa using g
  subst e;obtain⟨o,e,c,d⟩:=st;exact⟨o,e,λv z=>by rw[d] at z;cases z⟩
 keep:=λi h l st k=>st.at λo e=>k j (by simp) o e
 item:=by
  intro X A C y M i f s N H E I m st B;subst A C y;obtain⟨S,x,n,G⟩:=B;obtain⟨Q,J,p,D⟩:=I.list n;obtain⟨u,U,F⟩:=J.get G;obtain⟨f0,f1,f2,q,r,t⟩:=m j (by simp);refine wpAny_pyNext_list_item st p.isList (x:=u) (by simpa using U) λl L R=>?_;have O:Inv X f N H {s with heap:=l}:=I.turned (t':=s.toks) (λb o g e=>(R.2 b g).trans e) f0 f1 q r t;obtain⟨o,e,c,d⟩:=id L;exact⟨u,rfl,Ke (s:={s with heap:=l}) e c d (by decide) ⟨x,H,O,F,⟨rfl,λW Y=>by rw[I.list_inj Y n];exact G⟩,L,λb g=>(m b g).1⟩⟩
 done:=by
  intro X A C y M i f s N H E I m st B;subst A C y;obtain⟨S,n,G⟩:=B;obtain⟨Q,J,p,D⟩:=I.list n;obtain⟨f0,f1,f2,q,r,t⟩:=m j (by simp);have V:=J.length;exact wpAny_pyNext_list_end (I.ok.hd M) st p.isList (by simp;lia) λl T=>⟨rfl,I.turned (t':=s.toks) (λb o g e=>T b o g e) f0 f1 q r t⟩
 self:=λ_ _ _ _ _ st h=>wpAny_pyIter_listiter st h
def D3{P:gY}{w:gP}{K:gW}{tg:gG}(a j:gw):Turn P w K tg (Itt K a) [j] j (λi h=>h.IsTupleIter j a i) where
 mem:=by simp
 obj:=λi h st b g=>by
  have e:b=j:=by simpa using g
  subst e;obtain⟨o,e,c,d⟩:=st;exact⟨o,e,λv z=>by rw[d] at z;cases z⟩
 keep:=λi h l st k=>st.at λo e=>k j (by simp) o e
 item:=by
  intro X B G A N i f s O H E I m st C;subst B G A;obtain⟨S,x,n,J⟩:=C;obtain⟨q,L,p,D⟩:=I.tuple n;obtain⟨u,U,F⟩:=L.get J;obtain⟨f0,f1,f2,r,t,y⟩:=m j (by simp);refine wpAny_pyNext_tuple_item st (show s.heap.IsTuple a q.toArray from p) (x:=u) (by simpa using U) λl M R=>?_;have Q:Inv X f O H {s with heap:=l}:=I.turned (t':=s.toks) (λb o g e=>(R.2 b g).trans e) f0 f1 r t y;obtain⟨o,e,c,d⟩:=id M;exact⟨u,rfl,Ke (s:={s with heap:=l}) e c d (by decide) ⟨x,H,Q,F,⟨rfl,λW Y=>by rw[I.tuple_inj Y n];exact J⟩,M,λb g=>(m b g).1⟩⟩
 done:=by
  intro X B G A N i f s O H E I m st C;subst B G A;obtain⟨S,n,J⟩:=C;obtain⟨q,L,p,D⟩:=I.tuple n;obtain⟨f0,f1,f2,r,t,y⟩:=m j (by simp);have V:=L.length;exact wpAny_pyNext_tuple_end (I.ok.hd N) st (show s.heap.IsTuple a q.toArray from p) (by simp;lia) λl T=>⟨rfl,I.turned (t':=s.toks) (λb o g e=>T b o g e) f0 f1 r t y⟩
 self:=λ_ _ _ _ _ st h=>wpAny_pyIter_tupleiter st h
def D4{P:gY}{w:gP}{K:gW}{L:gG}(a:gw)(lo:Int)(n:Nat):Turn P w K L (Itr lo n) [a] a (λi h=>IsRangeIter h a (lo+(i:Nat)*1) ((n:Int)-(i:Nat)) 1) where
 mem:=by simp
 obj:=λi h st b d=>by
  have e:b=a:=by simpa using d
  subst e
  exact⟨_,st,λv z=>by
   have M:Data.fields _=Data.cell v:=z;cases M⟩
 keep:=λi h f st k=>k a (by simp) _ st
 item:=by
  intro X q x p r i c s B H E I g st u;subst q x p;obtain⟨f0,f1,f2,j,l,m⟩:=g a (by simp);have W:=Walks.range (prog:=X.prog) (w:=X.w) (I.ok.hd r) a lo 1 n;refine W.item i s _ _ u st λv f A hv y J=>?_;obtain⟨t,rfl⟩:=hv;have C:Inv X c B H {s with heap:=f,toks:=A}:=I.turned (λb o d e=>J b o (by simpa using d) e) f0 f1 j l m;refine⟨_,rfl,Ke (s:={s with heap:=f,toks:=A}) (n:="range_iterator") y rfl rfl (by decide) ⟨.int (lo+i),H,C,⟨t,?_⟩,⟨rfl,rfl⟩,y,λb d=>(g b d).1⟩⟩;rw[DU]
 done:=by
  intro X q x p r i c s B H E I g st u;subst q x p;obtain⟨f0,f1,f2,j,l,m⟩:=g a (by simp);exact wpAny_pyNext_range_end (I.ok.hd r) st (by have:n<=i:=u;lia) λf G=>⟨rfl,I.turned (t':=s.toks) (λb o d e=>G b o d e) f0 f1 j l m⟩
 self:=λ_ _ _ _ _ st h=>wpAny_pyIter_rangeiter st h
section
variable {X:Cx}{tg:gG}
def Rv(K:gW)(c:TE):TI:=λe H R=>c e H λx b=> ∃a,x= .ref a/\(∃d,SqL K b a d)/\R (Itl K a) b
def T3(K:gW)(c:TE):TI:=λe H R=>c e H λx b=> ∃a,x= .ref a/\(∃d,SqT K b a d)/\R (Itt K a) b
def L9{l:gG}{f:TE}(j:PE X l f):PI X tg l (Rv X.K f):=by
 intro c s r H R I h;refine thn (j c s r H _ I h) λv s1 ⟨x,g,d,n,m⟩=>?_;obtain⟨a,e,⟨y,k⟩,q⟩:=m;subst e;cases n;obtain⟨t,w,p,u⟩:=d.list k;refine Ap p.isList ?_;refine⟨s1.heap.objs.size,[s1.heap.objs.size],_,_,g,rfl,d.kept (t':=s1.toks) λb o e=>jd _ e,Gj a _,⟨_,jz _ rfl,rfl,rfl⟩,λb i=>?_,q⟩;have e:b=s1.heap.objs.size:=by simpa using i
 subst e;exact d.fpOk (iR _) (d.hok.fresh (iR _))
def ON{l:gG}{f:TE}(k:PE X l f):PI X tg l (T3 X.K f):=by
 intro c s t H R I h;refine thn (k c s t H _ I h) λv s1 ⟨x,g,d,r,n⟩=>?_;obtain⟨a,e,⟨y,m⟩,q⟩:=n;subst e;cases r;obtain⟨i,w,p,u⟩:=d.tuple m;refine DT (show s1.heap.IsTuple a i.toArray from p) ?_;refine⟨s1.heap.objs.size,[s1.heap.objs.size],_,_,g,rfl,d.kept (t':=s1.toks) λb o e=>jd _ e,D3 a _,⟨_,jz _ rfl,rfl,rfl⟩,λb j=>?_,q⟩;have e:b=s1.heap.objs.size:=by simpa using j
 subst e;exact d.fpOk (iR _) (d.hok.fresh (iR _))
def B8{c:ig}{g:St}{H:Hp}{s:gA}{R:It->Hp->Prop}{E:ip}{lo a:Int}{t u v:Tok}{f:Nat}(I:Inv X c g H s)(h1: -(2^62)<=lo)(j:lo<2^62)(k: -(2^62)<=a)(l:a<2^62)
  (q:R (Itr lo (a-lo).toNat) H):wpAny (model X.prog X.w) X.A (pyIter (.ref s.heap.objs.size)) (PIE X c g tg R) E {s with heap:=s.heap.push {cls:= .type "range",data:= .fields #[.int lo t,.int a u,.int 1 v]},toks:=f}:=by
 refine wpAny_pyIter_range (IsRange.new ..) (small_one h1 j k l) ?_;have d:Inv X c g H {s with heap:=s.heap.push {cls:= .type "range",data:= .fields #[.int lo t,.int a u,.int 1 v]},toks:=f}:=I.kept λb o e=>jd _ e
 refine⟨(s.heap.push {cls:= .type "range",data:= .fields #[.int lo t,.int a u,.int 1 v]}).objs.size,[(s.heap.push {cls:= .type "range",data:= .fields #[.int lo t,.int a u,.int 1 v]}).objs.size],_,_,H,rfl,
  d.kept (t':=f) λb o e=>jd _ e,D4 _ lo (a-lo).toNat,?_,λb m=>?_,q⟩
 ·have h:lo+((0:Nat):Int)*1=lo:=by simp
  have i:(((a-lo).toNat:Nat):Int)-((0:Nat):Int)=Builtin.Range.rangeSize lo a 1:=by rw[rangeSize_one];split<;>lia
  show IsRangeIter _ _ (lo+((0:Nat):Int)*1) ((((a-lo).toNat:Nat):Int)-((0:Nat):Int)) 1;rw[h,i];exact jz _ rfl
 ·have e:b=(s.heap.push {cls:= .type "range",data:= .fields #[.int lo t,.int a u,.int 1 v]}).objs.size:=by simpa using m
  subst e;exact d.fpOk (iR _) (d.hok.fresh (iR _))
def Ru(b:TA):TI:=λd H R=>b d H λc a=> ∃j:Int,c=[.int j]/\ -(2^62)<=j/\j<2^62/\R (Itr 0 j.toNat) a
def Rt(b:TA):TI:=λd H R=>b d H λc a=> ∃i j:Int,c=[.int i,.int j]/\(-(2^62)<=i/\i<2^62/\ -(2^62)<=j/\j<2^62)/\R (Itr i (j-i).toNat) a
def GG{a:gG}{f:TA}{p c:Pos}(k:Gl X "range")(l:X.mg "range"=none)(i:PA X [a] f)(m:starEach [a] X.env=[(false,eval a X.env)]:=by rfl):PI X tg (.Call (.Name "range" p) [a] [] c) (Ru f):=by
 intro b s v H R I h;refine Call_ (uO I k l Ao (An (thn (i c b s v H _ I h) λx s1 ⟨y,w,g,o,d⟩=>?_) m rfl));obtain⟨j,e,d,n,q⟩:=d;subst e
 cases o with
 |cons r u=>
  cases u;obtain⟨t,rfl⟩:=r;exact call_range_1 (B8 g (by lia) (by lia) d n (by simpa using q))
def GF{a b:gG}{l:TA}{p d:Pos}(o:Gl X "range")(u:X.mg "range"=none)(n:PA X [a,b] l)(v:starEach [a,b] X.env=[(false,eval a X.env),(false,eval b X.env)]:=by rfl)(k:starEach [b] X.env=[(false,eval b X.env)]:=by rfl):
  PI X tg (.Call (.Name "range" p) [a,b] [] d) (Rt l):=by
 intro c s B H R I h;refine Call_ (uO I o u Ao (An (thn (n d c s B H _ I h) λG s1 ⟨J,C,m,A,f⟩=>?_) (by rw[v,k]) (by rw[k];rfl)));obtain⟨i,j,e,⟨f,w,x,y⟩,q⟩:=f;subst e
 cases A with
 |cons r g=>
  cases g with
  |cons z g=>
   cases g;obtain⟨t,rfl⟩:=r;obtain⟨E,rfl⟩:=z;exact call_range_2 (B8 m f w x y q)
def Sz(j:TI)(g:TG)(tb:TS):TS:=λD a H=>j a H λJ f=> ∃W:Nat->Nat->St->Hp->Prop,(∃m,W 0 m a f)/\ ∀i m a H,W i m a H->
 (J.stop i H/\D.nx a H)\/(J.go i H/\ ∃N:St->Hp->Prop,(∀c b,N c b-> ∃e,e<m/\W (i+1) e c b)/\ ∀x b,J.yld i H x b->g x a b λd h=>tb {D with nx:=N,ct:=N,bk:=D.nx} d h)
noncomputable def wW(a:jx)(h:gR):List (Addr×Obj):=a.filterMap λb=>(h.get? b).map λo=>(b,o)
def oM{a:jx}{h:gR}{b:gw}{o:Obj}(c:b∈a)(e:h.get? b=some o):(b,o)∈wW a h:=List.mem_filterMap.mpr ⟨b,c,by rw[e];rfl⟩
def GK{a:jx}{h:gR}{p:Addr×Obj}(f:p∈wW a h):p.1∈a/\h.get? p.1=some p.2:=by
 obtain⟨b,d,e⟩:=List.mem_filterMap.mp f
 cases q:h.get? b with
 |none=>rw[q] at e;cases e
 |some o=>
  rw[q] at e;have c:(b,o)=p:=ji e;subst c;exact⟨d,q⟩
def Inv.pinned{a:ig}{h:St}{H:Hp}{s:gA}{c:jx}(I:Inv X a h H s)(i: ∀b∈c,qf X a H b)(j: ∀b∈c,∃o,s.heap.get? b=some o/\ ∀v,o.data≠ .cell v):Inv X (a++wW c s.heap) h H s:=
 I.pins_of λp k=>(pE.mp k).elim (λz=>I.pin p (oh _ z)) λz=>by
  obtain⟨g,e⟩:=GK z;obtain⟨f0,f1,f2,_⟩:=i p.1 g;obtain⟨o,f,d⟩:=j p.1 g;rw[e] at f;cases f;exact⟨e,f0,f1,f2,d⟩
def Inv.unpinned{a d:ig}{b:St}{H:Hp}{s:gA}(I:Inv X (a++d) b H s):Inv X a b H s:=I.pins_of λp c=>I.pin p (oh _ (Ar _ c))
def OI{iter:gG}{y:List Stmt}{wi:TI}{g:TG}{tb:TS}{Q:Pos}(C:PassesOwn (model X.prog X.w) X.A X.env X.xe)(hc:X.calm=true)(hi:PI X tg iter wi)(hg:PG X tg g)(l:PSs X y tb)
  (hs: ∀x,foldedSetIterable iter X.env x=pure x:=by intro _;rfl):PS X (.For tg iter y [] Q) (Sz wi g tb):=by
 intro a s P H D I h;refine wpAny_For (thn (hi a s P H _ I h) λv s1 h1=>thn h1 λdY s2 h2=>?_) hs;obtain⟨it,B,K,J,R,e,S,T,V,f2,W,⟨m0,w0⟩,G⟩:=h2;subst e;have Y: ∀{t:Hp},(∀b∈B,t b=none)-> ∀b∈B,qf X a t b:=λhn b l=>⟨hn b l,(f2 b l).2⟩
 refine codeAny_forLoop_any (λn F=> ∃i p t,Inv X a p t F/\K i F.heap/\(∀b∈B,t b=none)/\W i n p t) ?_ m0 ⟨0,P,R,S,V,λb l=>(f2 b l).1,w0⟩;rintro n s3 ⟨i,q,L,I3,cX,cP,w3⟩;rcases G i n q L w3 with⟨stop,qn⟩|⟨go,N,hN,step⟩
 ·refine rC C (thn (T.done X rfl rfl rfl hc i a s3 q L X.xe I3 (Y cP) cX stop) λr s4 ⟨O,I4⟩=>?_);subst O;exact wz ⟨q,L,I4,qn⟩
 ·refine rC C (thn (T.item X rfl rfl rfl hc i a s3 q L X.xe I3 (Y cP) cX go) λr s4 ⟨u,O,h4⟩=>?_);subst O;refine rC C (thn h4 λ_ s5 ⟨x,H5,I5,r5,y5,M,gf⟩=>?_);have Z:=I5.pinned (Y gf) (T.obj _ _ M);refine rC C (thn (hg _ s5 q H5 x u _ Z r5 (step x H5 y5)) λ_ s6 ⟨σ6,H6,I6,q6⟩=>?_);refine rC C (thn (l _ s6 σ6 H6 _ I6 q6) λf U z=>?_)
  have again: ∀{c:St} {j:Hp},Inv X (a++wW B s5.heap) c j U->N c j-> ∃m,m<n/\ ∃i p t,Inv X a p t U/\K i U.heap/\(∀b∈B,t b=none)/\W i m p t:=λ{c j} k E=>by
   obtain⟨m',hm,w7⟩:=hN c j E;refine⟨m',hm,i+1,c,j,k.unpinned,T.keep _ _ _ M λb l o e=>(k.pin (b,o) (oh _ (oh _ (oM l e)))).1,λb l=>?_,w7⟩;obtain⟨o,e,d⟩:=T.obj _ _ M b l;exact(k.pin (b,o) (oh _ (oh _ (oM l e)))).2.1
  cases f with
  |next=>obtain⟨c,j,k,E⟩:=z;exact again k E
  |cont=>obtain⟨c,j,k,E⟩:=z;exact again k E
  |brk=>obtain⟨c,j,k,z⟩:=z;exact⟨c,j,k.unpinned,z⟩
  |ret v=>obtain⟨x7,c,j,k,r7,z⟩:=z;exact⟨x7,c,j,k.unpinned,r7,z⟩
end
abbrev R2:=V->V->Hp->VK->Prop
def OpR(X:Cx)(f:uX)(r:R2):Prop:=
 ∀(a:ig) (s:gA) (b:St) (H:Hp) (x y:V) (v u:gD) (Q:VK),Inv X a b H s->RelV x v->RelV y u->r x y H Q->
  wpAny (model X.prog X.w) X.A (f v u) (EP X a b Q) X.xe s
def UnR(X:Cx)(f:Value->Sem Value)(r:V->Hp->VK->Prop):Prop:=
 ∀(a:ig) (s:gA) (b:St) (H:Hp) (x:V) (v:gD) (Q:VK),Inv X a b H s->RelV x v->r x H Q->
  wpAny (model X.prog X.w) X.A (f v) (EP X a b Q) X.xe s
def jq(X:Cx)(f:gD)(r:List V->Hp->VK->Prop):Prop:=
 ∀(a:ig) (s:gA) (d:St) (H:Hp) (c:List V) (b:iF) (Q:VK),Inv X a d H s->Vals c b->r c H Q->
  wpAny (model X.prog X.w) X.A (call f b) (EP X a d Q) X.xe s
noncomputable def tOp(r:R2)(d tb:TE):TE:=λa H Q=>d a H λx b=>tb a b λy c=>r x y c Q
def tUn(r:V->Hp->VK->Prop)(b:TE):TE:=λc H Q=>b c H λx a=>r x a Q
def rI(C:Int->Int->Prop)(g:Int->Int->V):R2:=λx y H Q=> ∃i j,x= .int i/\y= .int j/\C i j/\Q (g i j) H
def rI0(g:Int->Int->V):R2:=λx y H Q=> ∃i j,x= .int i/\y= .int j/\Q (g i j) H
def rU(g:Int->V):V->Hp->VK->Prop:=λx H Q=> ∃i,x= .int i/\Q (g i) H
section
variable {X:Cx}{a b c:gG}{l tb n:TE}{m:Pos}
def P7(r:PE X a l)(t:PE X b tb){d:ig}{s:gA}{g:St}{H:Hp}{R:V->V->Hp->Prop}(I:Inv X d g H s)
  (h:l g H λx o=>tb g o λy e=>R x y e){Q:ip}{f:uX}
  (z: ∀v u k x y e,Inv X d g e k->RelV x v->RelV y u->R x y e->wpAny (model X.prog X.w) X.A (f v u) Q X.xe k):
  wpAny (model X.prog X.w) X.A (eval a X.env) (λv i=>wpAny (model X.prog X.w) X.A (eval b X.env) (λu j=>wpAny (model X.prog X.w) X.A (f v u) Q X.xe j) X.xe i) X.xe s:=by
 refine thn (r d s g H _ I h) λv s1 ⟨x,o,p,E,B⟩=>?_;refine thn (t d s1 g o _ p B) λu k ⟨y,e,q,G,C⟩=>?_;exact z v u k x y e q E G C
def Q8{e:Operator}{r:R2}(k:OpR X (binaryOp e) r)(i:PE X a l)(j:PE X b tb):PE X (.BinOp a e b m) (tOp r l tb):=by
 intro d s w H Q I h;exact wpAny_BinOp (P7 i j I h λv u t x y f g o p q=>k d t w f x y v u Q g o p q)
def Q7{e:UnaryOp}{r:V->Hp->VK->Prop}(k:UnR X (unaryOp e) r)(j:PE X a l):PE X (.UnaryOp e a m) (tUn r l):=by
 intro d s f H Q I h;exact UnaryOp_ (thn (j d s f H _ I h) λv s1 ⟨x,g,i,p,o⟩=>k d s1 f g x v Q i p o)
def opI{f:uX}{C:Int->Int->Prop}{g:Int->Int->Int}
  (rule: ∀(i j:Int) (t u:Tok) (s:gA) (Q:ip) (E:ip),C i j->Q (.int (g i j) s.toks) {s with toks:=s.toks+1}->wpAny (model X.prog X.w) X.A (f (.int i t) (.int j u)) Q E s):
  OpR X f (rI C λi j=> .int (g i j)):=by
 intro d s r H x y v u Q I k o h;obtain⟨i,j,rfl,rfl,e,q⟩:=h;obtain⟨t,rfl⟩:=k;obtain⟨p,rfl⟩:=o;exact rule i j t p s _ _ e ⟨.int (g i j),H,I.tok _,⟨_,rfl⟩,q⟩
def Ri{f:uX}{g:Int->Int->Int}
  (rule: ∀(i j:Int) (t u:Tok) (s:gA) (Q:ip) (E:ip),Q (.int (g i j) s.toks) {s with toks:=s.toks+1}->wpAny (model X.prog X.w) X.A (f (.int i t) (.int j u)) Q E s):
  OpR X f (rI0 λi j=> .int (g i j)):=by
 intro d s p H x y v u Q I e k h;obtain⟨i,j,rfl,rfl,q⟩:=h;obtain⟨t,rfl⟩:=e;obtain⟨o,rfl⟩:=k;exact rule i j t o s _ _ ⟨.int (g i j),H,I.tok _,⟨_,rfl⟩,q⟩
def Mj{f:uX}{g:Int->Int->Bool}
  (rule: ∀(i j:Int) (t u:Tok) (s:gA) (Q:ip) (E:ip),Q (.bool (g i j)) s->wpAny (model X.prog X.w) X.A (f (.int i t) (.int j u)) Q E s):
  OpR X f (rI0 λi j=> .bl (g i j)):=by
 intro d s p H x y v u Q I e k h;obtain⟨i,j,rfl,rfl,q⟩:=h;obtain⟨t,rfl⟩:=e;obtain⟨o,rfl⟩:=k;exact rule i j t o s _ _ ⟨.bl (g i j),H,I,rfl,q⟩
def Hc(i j:Int):Prop:=0<j/\j<1073741824
def Bv(i j:Int):Prop:=0<=j/\j<=1000000/\i.natAbs<2^64
def CMul(i j:Int):Prop:=(-(2^64)<i/\i<2^64)\/(-(2^64)<j/\j<2^64)
theorem CMul.ok{i j:Int}(h:CMul i j):IntMulOk i j:=by
 rcases h with⟨h1,d⟩|⟨h1,d⟩
 ·exact .of_left (intBits_le_64 h1 d)
 ·exact .of_right (intBits_le_64 h1 d)
def Pf:OpR X (binaryOp .Add) (rI0 λi j=> .int (i+j)):=Ri λ_ _ _ _ _ _ _ q=>add_int q
def OY:OpR X (binaryOp .Sub) (rI0 λi j=> .int (i-j)):=Ri λ_ _ _ _ _ _ _ q=>sub_int q
def Pb:OpR X (binaryOp .Mult) (rI CMul λi j=> .int (i*j)):=opI λ_ _ _ _ _ _ _ d q=>mul_int q d.ok
def Mh:OpR X (binaryOp .FloorDiv) (rI Hc λi j=> .int (i / j)):=opI λi j _ _ _ _ _ d q=>by
 have h1:(0:Int)<j:=d.1;have e:j<1073741824:=d.2;exact floordiv_int (by lia) (by rw[Int.fdiv_eq_ediv_of_nonneg i (by lia)];exact q) (.inl (PyProof.noPylong_small (by lia)))
def Pc:OpR X (binaryOp .Mod) (rI (λ_ j=>0<j) λi j=> .int (i%j)):=opI λi j _ _ _ _ _ d q=>by
 have h1:(0:Int)<j:=d;exact mod_int' (by lia) (by rw[Int.fmod_eq_emod_of_nonneg i (by lia)];exact q)
def OZ:OpR X (binaryOp .Pow) (rI Bv λi j=> .int (i^j.toNat)):=opI λ_ _ _ _ _ _ _ d q=>pow_int_small d.1 d.2.1 d.2.2 q
def unI{f:Value->Sem Value}{g:Int->Int}
  (rule: ∀(i:Int) (t:Tok) (s:gA) (Q:ip) (E:ip),Q (.int (g i) s.toks) {s with toks:=s.toks+1}->wpAny (model X.prog X.w) X.A (f (.int i t)) Q E s):
  UnR X f (rU λi=> .int (g i)):=by
 intro d s j H x v Q I e h;obtain⟨i,rfl,q⟩:=h;obtain⟨t,rfl⟩:=e;exact rule i t s _ _ ⟨.int (g i),H,I.tok _,⟨_,rfl⟩,q⟩
def NP:UnR X (unaryOp .USub) (rU λi=> .int (-i)):=unI λ_ _ _ _ _ q=>neg_int q
def Bc{d:ig}{g:St}{H:Hp}{s:gA}{Q:VK}{k f:Bool}(I:Inv X d g H s)(q:Q (.bl k) H)(e:k=f):EP X d g Q (.bool f) s:=by
 subst e;exact⟨.bl k,H,I,rfl,q⟩
def Rb:OpR X (compareOp .Lt) (rI0 λi j=> .bl (decide (i<j))):=Mj λ_ _ _ _ _ _ _ q=>lt_int q
def Rc:OpR X (compareOp .LtE) (rI0 λi j=> .bl (decide (i<=j))):=Mj λ_ _ _ _ _ _ _ q=>le_int q
def Rg:OpR X (compareOp .Gt) (rI0 λi j=> .bl (decide (j<i))):=Mj λ_ _ _ _ _ _ _ q=>gt_int q
def Rh:OpR X (compareOp .GtE) (rI0 λi j=> .bl (decide (j<=i))):=Mj λ_ _ _ _ _ _ _ q=>ge_int q
def JH:OpR X (compareOp .Is) (λx y H Q=>y= .non/\Q (.bl (decide (x= .non))) H):=by
 intro d s g H x y v u Q I e f h;obtain⟨rfl,q⟩:=h;cases f;refine is_none_gen (Bc I q ?_)
 cases x<;>first
  |(cases e;rfl)
  |(obtain⟨t,rfl⟩:=e;rfl)
def FC:OpR X (compareOp .IsNot) (λx y H Q=>y= .non/\Q (.bl (!decide (x= .non))) H):=by
 intro d s g H x y v u Q I e f h;obtain⟨rfl,q⟩:=h;cases f;refine isnot_none_gen (Bc I q ?_)
 cases x<;>first
  |(cases e;rfl)
  |(obtain⟨t,rfl⟩:=e;rfl)
def JL(b:gG){d:CmpOp}(h:d≠ .In:=by decide)(g:d≠ .NotIn:=by decide):behindInMarks d b=false:=by
 have e:(d==CmpOp.In)=false:=by cases d<;>first|rfl|exact absurd rfl h
 have f:(d==CmpOp.NotIn)=false:=by cases d<;>first|rfl|exact absurd rfl g
 cases b<;>simp[behindInMarks,e,f]
def Mc{e:CmpOp}{r:R2}(o:OpR X (compareOp e) r)(i:PE X a l)(j:PE X b tb)(k:behindInMarks e b=false):PE X (.Compare a [e] [b] m) (tOp r l tb):=by
 intro d s z H Q I h;exact wpAny_Compare1 (P7 i j I h λv u w x y f g p t q=>o d w z f x y v u Q g p t q) k
def Qw(t:TE):TT:=λe H Q=>t e H λx d=> ∃k,x= .bl k/\Q k d
def LU{f:CmpOp}{r:R2}(C:OpR X (compareOp f) r)(w:PE X a l)(A:PE X b tb)(B:behindInMarks f b=false):PT X (.Compare a [f] [b] m) (Qw (tOp r l tb)):=by
 intro d s g H Q I h
 refine wpAny_isTrue_Compare1 (thn (w d s g H _ I h) λv s1 ⟨x,i,p,L,E⟩=>thn (A d s1 g i _ p E) λu O ⟨y,j,q,M,G⟩=>
  thn (C d O g j x y v u _ q L M G) λc T ⟨z,o,t,N,k,e,J⟩=>?_) B
 subst e;cases N;exact uD ⟨o,t,J⟩
def Iv(r i:R2)(l tb n:TE):TE:=λd H Q=>l d H λx f=>tb d f λy g=>r x y g λz e=> ∃k,z= .bl k/\
 (if k=true then n d e λj h=>i y j h Q else Q (.bl false) e)
def Jy{i j:CmpOp}{r t:R2}(U:OpR X (compareOp i) r)(L:OpR X (compareOp j) t)(M:PE X a l)(N:PE X b tb)(O:PE X c n)
  (T:lastMarks [i,j] [b,c]=false:=by with_unfolding_all rfl):PE X (.Compare a [i,j] [b,c] m) (Iv r t l tb n):=by
 intro f s g H Q I h
 refine Compare_chain (thn (M f s g H _ I h) λv s1 ⟨x,A,E,r1,Y⟩=>chain_link (thn (N f s1 g A _ E Y) λu s2 ⟨y,B,G,w,q2⟩=>
  thn (U f s2 g B x y v u _ G r1 w q2) λd s3 ⟨z,o,p,r3,k,e,q⟩=>?_)) T
 subst e;cases r3;refine uD ?_
 cases k with
 |false=>exact ite_ff ⟨.bl false,o,p,rfl,q⟩
 |true=>exact ite_tt (chain_last (thn (O f s3 g o _ p q) λw' s4 ⟨z',C,J,r4,q4⟩=>L f s4 g C y z' u w' Q J w r4 q4))
def AY:(sizeLine:Nat)<2^63:=by rw[iM];decide
def El:OpR X (binaryOp .Add) (λx y H Q=> ∃i j,x= .str i/\y= .str j/\i.length+j.length<=sizeLine/\Q (.str (i++j)) H):=by
 intro d s o H x y v u Q I f g h;obtain⟨i,j,rfl,rfl,e,q⟩:=h;obtain⟨t,rfl⟩:=f;obtain⟨t',rfl⟩:=g;exact add_str (λt' k=>⟨.str (i++j),H,I.tok _,⟨_,rfl⟩,q⟩) e
def sH{x:V}{d:iF}(r:Vals [x] d): ∃u,d=[u]/\RelV x u:=by
 cases r with
 |cons e f=>cases f;exact⟨_,rfl,e⟩
def vf{x y:V}{d:iF}(r:Vals [x,y] d): ∃u e,d=[u,e]/\RelV x u/\RelV y e:=by
 cases r with
 |cons f g=>
  cases g with
  |cons h i=>cases i;exact⟨_,_,rfl,f,h⟩
def KG:jq X (.builtin "abs") (λe H Q=> ∃i,e=[.int i]/\Q (.int (if i<0 then -i else i)) H):=by
 intro d s j H e g Q I r h;obtain⟨i,rfl,q⟩:=h;obtain⟨u,rfl,t,rfl⟩:=sH r;exact call_abs_int λu f=>⟨.int (if i<0 then -i else i),H,I.tok _,⟨_,rfl⟩,q⟩
def G7(g:X.calm=true):jq X (.builtin "max") (λf H Q=> ∃i j,f=[.int i,.int j]/\Q (.int (if j>i then j else i)) H):=by
 intro e s y H f w Q I r h;obtain⟨i,j,rfl,q⟩:=h;obtain⟨u,x,rfl,⟨t,rfl⟩,⟨p,rfl⟩⟩:=vf r;refine max_two_ints (I.ok.hd g) λo v k=>⟨_,H,I.kept k,?_,q⟩
 by_cases d:j>i
 ·rw[gO d,gO d];exact⟨_,rfl⟩
 ·rw[gZ d,gZ d];exact⟨_,rfl⟩
def G6(g:X.calm=true):jq X (.builtin "min") (λf H Q=> ∃i j,f=[.int i,.int j]/\Q (.int (if j<i then j else i)) H):=by
 intro e s y H f w Q I r h;obtain⟨i,j,rfl,q⟩:=h;obtain⟨u,x,rfl,⟨t,rfl⟩,⟨p,rfl⟩⟩:=vf r;refine min_two_ints (I.ok.hd g) λo v k=>⟨_,H,I.kept k,?_,q⟩
 by_cases d:j<i
 ·rw[gO d,gO d];exact⟨_,rfl⟩
 ·rw[gZ d,gZ d];exact⟨_,rfl⟩
def zq:jq X (.type "int") (λd H Q=>(∃i,d=[.int i]/\Q (.int i) H)\/ ∃k,d=[.bl k]/\Q (.int (if k then 1 else 0)) H):=by
 intro e s j H d g Q I r h;rcases h with⟨i,rfl,q⟩|⟨k,rfl,q⟩
 ·obtain⟨u,rfl,t,rfl⟩:=sH r;exact call_int_int ⟨.int i,H,I,⟨_,rfl⟩,q⟩
 ·obtain⟨u,rfl,f⟩:=sH r;cases f;exact call_int_bool ⟨.int (if k then 1 else 0),H,I.tok _,⟨_,rfl⟩,q⟩
end
section
variable {a:gY}{w:gP}{A:gS}{E:ip}{s:gA}{K:gW}{x d C f:gw}{c:jY}{b:Str}{v:gD}
end
def RelO.some_of{v:V}{o:Option Value}(r:RelO (some v) o): ∃u,o=some u/\RelV v u:=by
 cases o with
 |none=>exact(show False from r).elim
 |some u=>exact⟨u,rfl,r⟩
section
variable {P:gY}{w:gP}{H e:Hp}{h b:gR}{a C d:gw}{fs c:List (Str×V)}
end
section
variable {X:Cx}{b:ig}{c:St}{H:Hp}{s:gA}{a C d:gw}{fs:List (Str×V)}{f:Str}{v:V}{A:gS}{E:ip}
end
section
variable {X:Cx}{o e a:gG}{f:Str}{c b d:Pos}{h g:TE}
end
section
variable {X:Cx}{a:ig}{d:St}{H:Hp}{s:gA}{A:gS}{E:ip}{Q:ip}{c:gD}{b:Bool}
end
structure Room(k:Nat)(A:gS):Prop where
 hd:A.handled=none
 dp:A.depth+3*k+5<recursionLimit
 un:A.units+16*k+200<cLine
 gd:A.guards=some []:=by rfl
def Room.mono{j k:Nat}{A:gS}(r:Room k A)(h:j<=k):Room j A:=⟨r.hd,by have:=r.dp;lia,by have:=r.un;lia,r.gd⟩
def Room.deeper{k:Nat}{A:gS}(r:Room (k+1) A)(a:Env):Room k (A.deeper a):=
 ⟨r.hd,by have:=r.dp;show A.depth+1+3*k+5<_;lia,by have:=r.un;show A.units+3+16*k+200<_;lia,r.gd⟩
theorem Room.depth{k:Nat}{A:gS}(r:Room k A):A.depth<recursionLimit:=by have:=r.dp;lia
noncomputable def Sw:TA:=λ_ H Q=>Q [] H
noncomputable def QH(d:TE)(e:TA):TA:=λa H Q=>d a H λx b=>e a b λf c=>Q (x::f) c
section
variable {X:Cx}{e:gG}{c:jh}{d:TE}{t:TA}{a:Pos}
def nR:PA X [] Sw:=λ_ _ _ _ H Q I h=>DS ⟨[],H,I,.nil,h⟩
def ku(l:PE X e d)(m:PA X c t)(n:starEach (e::c) X.env=(false,eval e X.env)::starEach c X.env:=by rfl):PA X (e::c) (QH d t):=by
 intro a b s f H Q I h;rw[n];show wpAny _ _ (spliced ((false,eval e X.env)::backTo a (starEach c X.env))) _ _ s;refine DR (thn (l b s f H _ I h) λu s1 ⟨x,g,j,q,o⟩=>?_);exact thn (m a b s1 f g _ j o) λy w ⟨v,i,k,r,p⟩=>⟨x::v,i,k,.cons q r,p⟩
noncomputable def Sq(t:TA):TE:=λg H Q=>t g H λf b=>f.length<=sizeLine/\ ∀p,b p=none->Q (.ref p) (upd b p (.tup f))
noncomputable def Sx(t:TA):TE:=λg H Q=>t g H λf b=>f.length<=sizeLine/\ ∀p,b p=none->Q (.ref p) (upd b p (.lst f))
def Jt{x1}(h:PA X c t):PE X (.Tuple c x1 a) (Sq t):=by
 intro f s n H Q I k;refine wpAny_Tuple_spliced (thn (h a f s n H _ I k) λl s1 ⟨m,g,i,r,z,q⟩=>⟨by rw[<-r.length];exact z,?_⟩);have j:g s1.heap.objs.size=none:=i.hok.fresh (iR _);refine⟨.ref s1.heap.objs.size,upd g s1.heap.objs.size (.tup m),i.laid (t':=s1.toks) (λb u e=>jd _ e) (iR _) ?_,rfl,q _ j⟩;exact⟨z,l,r,⟨_,jz _ rfl,rfl,_,rfl⟩⟩
def OU(h:PA X c t):PE X (.List c a) (Sx t):=by
 intro f s n H Q I k;refine wpAny_List_spliced (thn (h a f s n H _ I k) λl s1 ⟨m,g,i,r,z,q⟩=>⟨by rw[<-r.length];exact z,?_⟩);have j:g s1.heap.objs.size=none:=i.hok.fresh (iR _);refine⟨.ref s1.heap.objs.size,upd g s1.heap.objs.size (.lst m),i.laid (t':=s1.toks) (λb u e=>jd _ e) (iR _) ?_,rfl,q _ j⟩;exact⟨z,l,0,r,jz _ rfl⟩
end
abbrev Sp:=List V->Hp->VK->XK->Prop
abbrev CXT:=List Env->Hp->Shared->XK->Value->Shared->Prop
structure Env0(P:gY)(w:gP)(K:gW)(mg:jY)(base:gR)(A:gS)(outer:List Env)(s:gA)(H:Hp):Prop where
 frames:A.frames=some outer
 mod:Mod K mg base
 bs: ∀b o,base.get? b=some o->s.heap.get? b=some o/\H b=none
 bsz:base.objs.size<=s.heap.objs.size
 funs:s.heap.FunFrames base outer
 frf: ∀b∈frs outer,H b=none
 hok:HOk P w H s.heap
 bare:AllBare s.gens
def CE(a:List Env)(P:gY)(w:gP)(H:Hp)(s:gA)(Q:VK)(u:gD)(b:gA):Prop:=
 ∃v c,b.os=s.os/\AllBare b.gens/\Un (frs a) [] H c s.heap b.heap/\HOk P w c b.heap/\RelV v u/\Q v c
def CR(CX:CXT)(a:List Env)(P:gY)(w:gP)(H:Hp)(s:gA)(Q:VK)(E:XK)(r:Result)(b:gA):Prop:=
 match r with
 | .ok (.ret u)=>CE a P w H s Q u b
 | .ok _=>False
 | .error e=>CX a H s E e b
structure FnOk(P:gY)(w:gP)(K:gW)(mg:jY)(base:gR)(CX:CXT)(k:Nat)(f:gw)(fd:kS)(ps:hG)(sp:Sp):Prop where
 len: ∀vs H Q E,sp vs H Q E->vs.length=ps.length
 run: ∀(A:gS) (outer:List Env) (s:gA) (H:Hp) (args:Args) (us:iF) (vs:List V) (Q:VK) (E:XK),Room k A->Env0 P w K mg base A outer s H->BindsTo s fd args (ps.zip us)->Vals vs us->sp vs H Q E->
  codeAny (model P w) A (.call (.ref f) args) (CR CX outer P w H s Q E) s
def FnOk.mono{P:gY}{w:gP}{K:gW}{d:jY}{base:gR}{CX:CXT}{j k:Nat}{f:gw}{c:kS}{e:hG}{g:Sp}(F:FnOk P w K d base CX j f c e g)(h:j<=k):
  FnOk P w K d base CX k f c e g:=⟨F.len,λA a s H b us vs Q E i=>F.run A a s H b us vs Q E (i.mono h)⟩
section
variable {X:Cx}{a:ig}{c:St}{H:Hp}{s e:gA}
def Inv.env0(I:Inv X a c H s):Env0 X.prog X.w X.K X.mg X.base X.A X.stack s H:=
 ⟨I.ok.frames,I.ok.mod,I.bs,mQ I.ok.bsz I.sz,I.stack,I.stkFree,I.hok,I.bare⟩
def Inv.after{Q:VK}{u:gD}(I:Inv X a c H s)(h:CE X.stack X.prog X.w H s Q u e):EP X a c Q u e:=by
 obtain⟨v,j,os,f,un,i,r,q⟩:=h;obtain⟨l,g,d,t,k⟩:=e;obtain rfl:k=s.os:=os;exact⟨v,j,I.call (h':=l) (g':=g) (d':=d) (t':=t) (ch:=[]) un i f (λb z=>absurd z (by simp)),r,q⟩
end
noncomputable def Nb(c:Sp)(b:List V)(E:XK)(t:TA):TE:=λe H Q=>t e H λd a=>c (d++b) a Q E
def Binds(K:gW)(c:kS)(b:hG)(a:iF):Prop:=
 ∀(s:gA) (us:iF),K.In s.heap->(us++a).length=b.length->BindsTo s c ⟨us,[]⟩ (b.zip (us++a))
theorem Binds.all{K:gW}{c:kS}{b:hG}(h: ∀a:List Value,a.length=b.length->bindArgs c ⟨a,[]⟩=pure (b.zip a)):Binds K c b []:=λs a _ d=>by
 rw[rB] at d ⊢;exact .of_eq (h a d)
def Bu(c:CXT)(X:Cx)(E:XK):Prop:= ∀(a:ig) (d:St) (H:Hp) (s:gA) (e:gD) (b:gA),Inv X a d H s->c X.stack H s E e b->X.xe e b
section
variable {X:Cx}{l:CXT}{k:Nat}{f C:gw}{j:kS}{d:hG}{i:Sp}{c:List V}{b:iF}{E:XK}{x m:Str}{p a n:Pos}{e o:gG}{g:jh}{v:TE}{t:TA}
def IF{q:ig}{G:St}{H:Hp}{s:gA}{Q:VK}{y:iF}{B:List V}(F:FnOk X.prog X.w X.K X.mg X.base l k f j d i)(O:Room k X.A)(M:Binds X.K j d b)(hd:Vals c b)(T:Bu l X E)
  (I:Inv X q G H s)(r:Vals B y)(h:i (B++c) H Q E):wpAny (model X.prog X.w) X.A (call (.ref f) y) (EP X q G Q) X.xe s:=by
 have J:Vals (B++c) (y++b):=r.append hd;have N:(y++b).length=d.length:=by rw[<-J.length];exact F.len _ _ _ _ h
 refine wy (sD (F.run X.A X.stack s H ⟨y,[]⟩ (y++b) (B++c) Q E O I.env0 (M s y I.kIn N) J h) λr U z=>?_)
 cases r with
 |error e=>exact T q G H s e U I z
 |ok L=>
  cases L with
  |ret u=>exact I.after z
  |next=>exact False.elim z
  |brk=>exact False.elim z
  |cont=>exact False.elim z
def Fx(F:FnOk X.prog X.w X.K X.mg X.base l k f j d i)(N:Room k X.A)(L:Gl X x)(M:X.mg x=some (.ref f))(hk:PySem.W.keepIn X.K (.ref f)=true)(G:Binds X.K j d b)(hd:Vals c b)(O:Bu l X E)
  (B:PA X (e::g) t)(T:(x==("__debug__":Str))=false:=by decide)(J:starEach (e::g) X.env=(false,eval e X.env)::starEach g X.env:=by rfl)(z:(backTo a (starEach g X.env)).any (·.1)=false:=by rfl):
  PE X (.Call (.Name x p) (e::g) [] a) (Nb i c E t):=by
 intro u s U H Q I h;refine rA (qu I L M ?_ T);refine PySem.W.callWith_K (h₀:=X.base) I.ok.mod.kin hk (thn (B a u s U H _ I h) λus s1 ⟨vs,Y,y,r,q⟩=>⟨y.kIn,?_⟩) J z;exact IF F N G hd O y r q
end
section
variable {X:Cx}{w:CXT}{k:Nat}{f C:gw}{u:kS}{n r:hG}{l:Sp}{E:XK}{x m:Str}{p c b a:Pos}{e o:gG}{v:jh}{d:List Keyword}{i j:TE}{t h:TA}{q:Option Str}
variable {g:List Value->List Value->List Value}{s:List V->List V->List V}
end
structure FnScope(N P:hG)(sc:iG):Prop where
 kind:sc.kind= .function
 co:sc.isCoroutine=false
 gen:sc.isGenerator=false
 nd:N.Nodup
 pre:N.take P.length=P
 par: ∀x∈P,sc.names.lookup x=some .local\/sc.names.lookup x=some .cell
 nofree: ∀y∈sc.names,y.2≠ .free
theorem zu{kindOf:Str->Option NameKind}{x:Str}: ∀{binds:List (Str×Value)} {m:jY},(∀v,(x,v)∉binds)->bindL kindOf binds m x=m x
 |[],_,_=>rfl
 |(n,v)::r,m,h=>by
  unfold bindL;rw[zu λw a=>h w (iZ _ a)];split
  ·have:x≠n:=by rintro rfl;exact h v ja
   simp[this]
  ·rfl
theorem zw{kindOf:Str->Option NameKind}{x:Str}: ∀{binds:List (Str×Value)} {m:jY},(∀v,(x,v)∉binds)->bindC kindOf binds m x=m x
 |[],_,_=>rfl
 |(n,v)::r,m,h=>by
  unfold bindC;rw[zw λw a=>h w (iZ _ a)];split
  ·rfl
  ·have:x≠n:=by rintro rfl;exact h v ja
   simp[this]
theorem zv{kindOf:Str->Option NameKind}{x:Str}{v:gD}: ∀{P:hG} {a:iF} {i:Nat} {m:jY},P.Nodup->P[i]?=some x->a[i]?=some v->kindOf x=some .local->
  bindL kindOf (P.zip a) m x=some v
 |[],_,_,_,_,h,_,_=>by simp at h
 |_::_,[],_,_,_,_,h,_=>by simp at h
 |p::P,w::a,0,m,c,h1,b,hk=>by
  simp at h1 b;subst h1;subst b;show bindL kindOf ((p,w)::P.zip a) m p=_;unfold bindL;rw[zu λv hv=>(DY.mp c).1 (Am hv).1,gO hk];simp
 |p::P,w::a,i+1,m,c,h1,b,hk=>by
  show bindL kindOf ((p,w)::P.zip a) m x=_;unfold bindL;exact zv (i:=i) (DY.mp c).2 (by simpa using h1) (by simpa using b) hk
theorem zy{kindOf:Str->Option NameKind}{x:Str}{v:gD}: ∀{P:hG} {a:iF} {i:Nat} {m:jY},P.Nodup->P[i]?=some x->a[i]?=some v->kindOf x≠some .local->
  bindC kindOf (P.zip a) m x=some v
 |[],_,_,_,_,h,_,_=>by simp at h
 |_::_,[],_,_,_,_,h,_=>by simp at h
 |p::P,w::a,0,m,c,h1,b,hk=>by
  simp at h1 b;subst h1;subst b;show bindC kindOf ((p,w)::P.zip a) m p=_;unfold bindC;rw[zw λv hv=>(DY.mp c).1 (Am hv).1,gZ hk];simp
 |p::P,w::a,i+1,m,c,h1,b,hk=>by
  show bindC kindOf ((p,w)::P.zip a) m x=_;unfold bindC;exact zy (i:=i) (DY.mp c).2 (by simpa using h1) (by simpa using b) hk
noncomputable def mz(N:hG)(vs:List V):St:=vs.map some++List.replicate (N.length-vs.length) none
noncomputable def nk(CX:CXT)(P:gY)(w:gP)(K:gW)(c:jY)(base:gR)(N:hG)(qual:Str)(scope:iG)(f:gw)(cd:gD)(A:gS)(a:List Env)(s:gA)(H:Hp)(E:XK):Cx where
 prog:=P
 w:=w
 K:=K
 mg:=c
 base:=base
 A:=A.deeper (envOfC qual scope s.heap.objs.size f cd)
 N:=N
 s₀:=s
 H₀:=H
 env:=envOfC qual scope s.heap.objs.size f cd
 outer:=a
 stack:=envOfC qual scope s.heap.objs.size f cd::a
 ex:=[]
 calm:=true
 fn:=λ_=>true
 pn:=[]
 xe:=λe h=>wpAny (model P w) (A.deeper (envOfC qual scope s.heap.objs.size f cd)) (leaving (envOfC qual scope s.heap.objs.size f cd) e) (λ_ b=>CX a H s E e b) (λg b=>CX a H s E g b) h
def C3{a:iG}{n:Nat}{x:Str}(h:a.names.lookup x=some .cell): ∃c,(cellsFrom n a.names []).lookup x=some c:=by
 have q:=Al a.names n [] (.inl h);exact Hd.mp q
def zc{L:CXT}{P:gY}{w:gP}{K:gW}{I:jY}{base:gR}{N m:hG}{qual:Str}{scope:iG}{f:gw}{cd:gD}{A:gS}{d:List Env}{s s1:gA}{H:Hp}{E:XK}{J:iF}{o:List V}
  (S:FnScope N m scope)(hd:A.handled=none)(j:Env0 P w K I base A d s H)(Y:o.length=m.length)(r:Vals o J)
  (x:InCallC s s.heap.objs.size (bindL (envOfC qual scope s.heap.objs.size f cd).kindOf (m.zip J) λ_=>none) (cellsFrom (s.heap.objs.size+1) scope.names []) (bindC (envOfC qual scope s.heap.objs.size f cd).kindOf (m.zip J) λ_=>none) s1):
  Inv (nk L P w K I base N qual scope f cd A d s H E) [] (mz N o) H s1:=by
 have U:m.length<=N.length:=by have:=mM List.length S.pre;rw[pD] at this;lia
 obtain⟨h1,D,rfl,hk⟩:=x.done;have G: ∀b:Addr,b∉(nk L P w K I base N qual scope f cd A d s H E).ex:=λb z=>absurd (show b∈([]:List Addr) from z) (by simp)
 refine⟨⟨j.mod,S.kind,rfl,rfl,iR _,λy z c h1 g=>?_,λy l=>?_,λy c _ h=>?_,λ_=>hd,HU j.frames,.inr ⟨rfl,rfl⟩,λb z=>absurd z (G b),j.bs,j.bsz,λb _ _=>G b,λb z=>absurd z (G b),j.funs,j.frf⟩,
  rfl,j.bare,Un.kept hk,⟨_,x.toInCall.ns,λi y v h1 g T=>?_⟩,λy c h=>⟨_,x.cell y c h⟩,j.hok.fresh (iR _),λy c h=>?_,λp t=>absurd (show p∈([]:List (Addr×Obj)) from t) (by simp),j.hok.kept hk,?_⟩
 ·exact name_of_addr x.apart (og h1) (og g)
 ·have l:scope.names.lookup y=some .cell\/scope.names.lookup y=some .free:=l;rcases l with l|l
  ·exact C3 l
  ·exact absurd rfl (S.nofree _ (og l))
 ·exact vb (x.above y c (og h))
 ·have C:i<o.length:=by
   unfold mz at g;by_cases C:i<o.length
   ·exact C
   ·rw[nZ (by simpa using C)] at g;rw[sA] at g;split at g<;>cases g
  have O:o[i]?=some v:=by
   unfold mz at g;rw[qK (by simpa using C),jJ] at g
   cases e:o[i]? with
   |none=>rw[e] at g;cases g
   |some a=>rw[e] at g;cases g;rfl
  obtain⟨u,M,Q⟩:=r.get O
  have t:m[i]?=some y:=by
   rw[<-S.pre,HS (by lia)];exact h1
  have B:m.Nodup:=by rw[<-S.pre];exact S.nd.sublist (uB _ _)
  refine⟨u,Q,?_⟩;rcases S.par y (lE t) with k|k
  ·exact .inl ⟨k,zv B t M k⟩
  ·obtain⟨c,e⟩:=C3 (n:=s.heap.objs.size+1) k;refine .inr ⟨.inl k,c,e,?_⟩;have q:=x.cell y c e;rw[zy B t M (by show scope.names.lookup y≠_;rw[k];decide)] at q;exact q
 ·exact j.hok.fresh (vb (x.above y c (og h)))
 ·unfold mz;show _=N.length;rw[mx,jt,HR]
  lia
def Kj{B:CXT}{P:gY}{w:gP}{K:gW}{C:jY}{base:gR}{k:Nat}{f:gw}{j qual:Str}{c:Arguments}{d:List Stmt}{scope:iG}{dV kV p pm l ct oc:gD}{an od:Option Addr}
  {r9:pj}{N G:hG}{U:Sp}(lk:K.lookup f=some ⟨oc,od,.func (PySem.W.fnOf j qual c d scope dV kV p pm an l ct),r9⟩)(k7:PySem.W.codeIn K l qual=true)(S:FnScope N G scope)
  (len: ∀g H Q E,U g H Q E->g.length=G.length)
  (j7: ∀(A:gS) (a:List Env) (s:gA) (H:Hp) (g:List V) (Q:VK) (E:XK),Room k (A.deeper (envOfC qual scope s.heap.objs.size f l))->U g H Q E->
   ∃t,PSs (nk B P w K C base N qual scope f l A a s H E) d t/\t {nx:=λ_ i=>Q .non i,rt:=Q} (mz N g) H):
  FnOk P w K C base B (k+1) f (PySem.W.fnOf j qual c d scope dV kV p pm an l ct) G U:=by
 refine⟨len,λA a s H D us g Q E L z hb r F=>?_⟩;have hl:=len _ _ _ _ F;have Y:K.In s.heap:=z.mod.kin.keeps λb o e=>(z.bs b o e).1;have M:s.heap.NoLimit:=z.mod.nolimit.keeps λb o e=>(z.bs b o e).1
 have R: ∀y∈G.zip us,scope.names.lookup y.1=some .local\/(scope.names.lookup y.1=some .cell/\((cellsFrom (s.heap.objs.size+1) scope.names []).lookup y.1).isSome=true):=λ⟨n,v⟩ hy=>by
  rcases S.par n (Am hy).1 with q|q
  ·exact .inl q
  ·exact .inr ⟨q,Al _ _ _ (.inl q)⟩
 refine HQ L.depth (Y _ _ lk) rfl S.co S.gen rfl (PySem.W.codeRec_of Y k7) (hb _ _ _ _ ?_);refine HP S.kind R λX he s1 x=>?_;subst he;refine⟨M.keeps x.toInCall.keep,codeAny_func ?_⟩;obtain⟨t,ht,hq⟩:=j7 A a s H g Q E (L.deeper _) F;have I:Inv (nk B P w K C base N qual scope f l A a s H E) [] (mz N g) H s1:=zc S L.hd z hl r x;refine mO (ht [] s1 (mz N g) H _ I hq) (λZ T m=>?_) λe T m=>m
 have fin: ∀{h:St} {i:Hp} {v:V} {u:gD},Inv (nk B P w K C base N qual scope f l A a s H E) [] h i T->RelV v u->Q v i->CE a P w H s Q u T:=
  λ{h i v u} J O q=>⟨v,i,J.os,J.bare,J.base,J.hok,O,q⟩
 cases Z with
 |ret u=>
  obtain⟨v,h,i,J,O,q⟩:=m;exact fin J O q
 |next=>
  obtain⟨h,i,J,q⟩:=m;exact fin (v:=V.non) (u:=Value.none) J rfl q
 |brk=>
  obtain⟨_,_,_,q⟩:=m;exact False.elim q
 |cont=>
  obtain⟨_,_,_,q⟩:=m;exact False.elim q
section
variable {X:Cx}{x:Str}{p a:Pos}{e:gG}{b:jh}{t:TA}{id T:String}{r:List V->Hp->VK->Prop}
def tCB(r:List V->Hp->VK->Prop)(t:TA):TE:=λf H Q=>t f H λd c=>r d c Q
def sV(k:jq X (.builtin id) r)(m:Gl X x)(n:X.mg x=none)(hv:bootBuiltins x=some (.builtin id))(j:PA X (e::b) t)(o:x≠"__name__":=by decide)(q:(x==("__debug__":Str))=false:=by decide)
  (l:starEach (e::b) X.env=(false,eval e X.env)::starEach b X.env:=by rfl)(i:(backTo a (starEach b X.env)).any (·.1)=false:=by rfl):PE X (.Call (.Name x p) (e::b) [] a) (tCB r t):=by
 intro c s d H Q I h;refine rA (uO I m n hv ?_ o q);exact PyProof.Rows.callWith_builtin1 (thn (j a c s d H _ I h) λw s1 ⟨y,f,g,v,u⟩=>k c s1 d f y w Q g v u) l i
def oy(k:jq X (.type T) r)(m:Gl X x)(n:X.mg x=none)(hv:bootBuiltins x=some (.type T))(j:PA X (e::b) t)(o:x≠"__name__":=by decide)(q:(x==("__debug__":Str))=false:=by decide)
  (l:starEach (e::b) X.env=(false,eval e X.env)::starEach b X.env:=by rfl)(i:(backTo a (starEach b X.env)).any (·.1)=false:=by rfl):PE X (.Call (.Name x p) (e::b) [] a) (tCB r t):=by
 intro c s d H Q I h;refine rA (uO I m n hv ?_ o q);exact An (thn (j a c s d H _ I h) λw s1 ⟨y,f,g,v,u⟩=>k c s1 d f y w Q g v u) l i
end
end L2
namespace HT
open PySem PyProof.Rows
section
open PySem.SeqAt
open PySem.AutoSeq1 (wpAny_loadPart')
open PySem.MeetsSeq PySem.MeetsSeq2 PySem.MeetsSeq3
end
section
variable {a:gY}{w:gP}{A:gS}{E:ip}{s:gA}
def RL{t b:gw}{d c:iF}{Q:ip}(y:IsTup s.heap t d.toArray)(x:IsTup s.heap b c.toArray)(hv:d≠[])
  (h1:c=[]->Q (.ref t) s)(v:c≠[]->Q (.ref s.heap.objs.size) {s with heap:=s.heap.push {cls:= .type "tuple",data:= .seq (d++c).toArray}})
  (l:d.length+c.length<=sizeLine):wpAny (model a w) A (binaryOp .Add (.ref t) (.ref b)) Q E s:=by
 obtain⟨⟨k,dd,f,r⟩,h,m,n,hd⟩:=id y;obtain⟨⟨z,q,data2,o⟩,j,u,p,g⟩:=id x;simp only at m hd u g;subst m hd u g;have e:d.toArray++c.toArray=(d++c).toArray:=by simp
 by_cases i:c=[]
 ·exact Ak ⟨_,h,rfl⟩ ⟨_,j,rfl⟩ DQ DP DO DN (DM _ _)
   (tuple_addW1 t b d.toArray c.toArray n p dd q r o (by simpa using hv) (by simp[i])) ⟨h,j,h1 i⟩
 ·refine Ak ⟨_,h,rfl⟩ ⟨_,j,rfl⟩ DQ DP DO DN (DM _ _)
   (tuple_addW2 t b d.toArray c.toArray n p dd q r o (by simpa using hv) (by simpa using i) (by rw[iE,iE];exact l)) ⟨h,j,?_⟩
  rw[e];exact v i
noncomputable def sIx(n d:Nat):Option Int->Nat
 |none=>d
 |some v=>if v<0 then(v+(n:Int)).toNat else min v.toNat n
theorem Qf(n d:Nat):sIx n d none=d:=rfl
theorem QM(n d k:Nat):sIx n d (some (k:Int))=min k n:=by
 show(if(k:Int)<0 then((k:Int)+(n:Int)).toNat else min (k:Int).toNat n)=min k n;rw[gZ (by lia),pB]
def N1(n d:Nat)(hd:d<=n)(o:Option Int):sIx n d o<=n:=by
 cases o with
 |none=>exact hd
 |some v=>
  show(if v<0 then(v+(n:Int)).toNat else min v.toNat n)<=n;by_cases hv:v<0
  ·rw[gO hv];lia
  ·rw[gZ hv];exact Nat.min_le_right _ _
def F1(v:Int)(n d:Nat):(if v<0 then max (v+(n:Int)) 0 else min v (n:Int))=((sIx n d (some v):Nat):Int):=by
 show(if v<0 then max (v+(n:Int)) 0 else min v (n:Int))=(((if v<0 then(v+(n:Int)).toNat else min v.toNat n):Nat):Int)
 by_cases hv:v<0
 ·simp only[gO hv];lia
 ·simp only[gZ hv];lia
theorem EV(lo b:Option Int)(n:Nat):Builtin.Slice.sliceAdjust lo b 1 (n:Int)=(((sIx n 0 lo:Nat):Int),((sIx n n b:Nat):Int)):=by
 have h1: ¬((1:Int)<0):=by lia
 unfold Builtin.Slice.sliceAdjust;simp only[h1,iK];refine Prod.ext ?_ ?_
 ·cases lo with
  |none=>rfl
  |some v=>exact F1 v n 0
 ·cases b with
  |none=>rfl
  |some v=>exact F1 v n n
theorem Ei(i j:Nat):Builtin.Slice.slicePlaces (i:Int) (j:Int) 1=j-i:=by
 unfold Builtin.Slice.slicePlaces;have h1:(1:Int)>0:=by lia
 simp only[h1,jy,Int.ediv_one];split<;>lia
def wI{v:gD}{o:Option Int}{Q:Option Int->Shared->Prop}(p:IsPart v o)(h:Q o s):wpAny (model a w) A (Builtin.Slice.slicePartIndex v) Q E s:=by
 cases p with
 |none=>exact slicePart_none h
 |int i t=>exact slicePart_int h
def ou{g:gw}{e f:gD}{lo b:Option Int}{n:Nat}{Q:Int×Int×Nat->Shared->Prop}(i:s.heap.IsSliceOf g e f .none)(j:IsPart e lo)(k:IsPart f b)
  (h:Q (((sIx n 0 lo:Nat):Int),1,sIx n n b-sIx n 0 lo) s):wpAny (model a w) A (Builtin.Slice.sliceApplied (.ref g) (pure (n:Int))) Q E s:=by
 obtain⟨os,c,l,d⟩:=id i;unfold Builtin.Slice.sliceApplied Builtin.Slice.sliceFields;refine gy (gy (sy c d (x:=e) rfl (gy (sy c d (x:=f) rfl (gy (sy c d (x:= .none) rfl (gK ?_)))))));refine gy (slicePart_none ?_);show wpAny _ _ (if((1:Int)==0)=true then _ else _) _ _ s;rw[gZ (by decide)];refine gy (wI j (gy (wI k (gy (gK ?_)))));show wpAny _ _ (match Builtin.Slice.sliceAdjust lo b 1 (n:Int) with|(lo,b)=>pure (lo,(1:Int),Builtin.Slice.slicePlaces lo b 1)) _ _ s;rw[EV lo b n];show wpAny _ _ (pure (((sIx n 0 lo:Nat):Int),(1:Int),Builtin.Slice.slicePlaces ((sIx n 0 lo:Nat):Int) ((sIx n n b:Nat):Int) 1)) _ _ s;rw[Ei];exact gK h
theorem Jn(b:lU)(i k:Nat):((List.range k).filterMap λ(m:Nat)=>b[((i:Int)+(m:Int)*1).toNat]?).toArray=((b.toList.drop i).take k).toArray:=by
 have e:(λ(m:Nat)=>b[((i:Int)+(m:Int)*1).toNat]?)=λm=>b[i+m]?:=by
  funext m;have:((i:Int)+(m:Int)*1).toNat=i+m:=by lia
  rw[this]
 rw[e];have:=pick_run b i k;rw[List.filterMap_map] at this;have c:((λx=>b[x]?)∘λx=>i+x)=λm=>b[i+m]?:=rfl;rw[c] at this;rw[this]
def Ew{t f:gw}{b:lU}{i j:gD}{lo c:Option Int}{Q:ip}(d:IsTup s.heap t b)(g:s.heap.IsSliceOf f i j .none)(u:IsPart i lo)(v:IsPart j c)
  (r: ¬(sIx b.size 0 lo=0/\sIx b.size b.size c=b.size))
  (h:Q (.ref s.heap.objs.size) {s with heap:=s.heap.push {cls:= .type "tuple",data:= .seq ((b.toList.drop (sIx b.size 0 lo)).take (sIx b.size b.size c-sIx b.size 0 lo)).toArray}})
  (p:b.size<=sizeLine):wpAny (model a w) A (getItem (.ref t) (.ref f)) Q E s:=by
 have e:sizeOk (.seq ((b.toList.drop (sIx b.size 0 lo)).take (sIx b.size b.size c-sIx b.size 0 lo)).toArray):=by
  show((b.toList.drop (sIx b.size 0 lo)).take (sIx b.size b.size c-sIx b.size 0 lo)).toArray.size<=sizeLine;rw[iE,pD,List.length_drop,ju]
  lia
 have y:sIx b.size b.size c<=b.size:=N1 _ _ (iR _) c;obtain⟨os,k,l,x⟩:=id g;have o:s.TypeIs (.ref f) "slice":=⟨os,k,l⟩
 unfold getItem
 try with_reducible refine lV ?_
 first|refine gy (gK ?_)|skip
 refine gy (wpAny_sequenceKey d.typeIs (by decide) ?_)
 refine gy (va (name:=Str.ofString "__getitem__") d.typeIs yi
  (nY yi d.typeIs HN ?_ (args_tuple_getitem _ _)))
 show wpAny _ _ (Builtin.Tuple.tupleItemsOf (.ref t)>>=_) _ _ s;refine gy (tupleItemsOf_ d ?_);refine gy (sx o ?_);rw[gO (by decide)];refine gy (ou g u v ?_)
 have n: ¬((((sIx b.size 0 lo:Nat):Int)==0&&(1:Int)==1&&(sIx b.size b.size c-sIx b.size 0 lo)==b.size)=true):=by
  intro q;rw[ko,ko] at q;have z:((sIx b.size 0 lo:Nat):Int)=0:=qJ q.1.1;have B:sIx b.size b.size c-sIx b.size 0 lo=b.size:=qJ q.2;exact r ⟨by lia,by lia⟩
 show wpAny _ _ (if(((sIx b.size 0 lo:Nat):Int)==0&&(1:Int)==1&&(sIx b.size b.size c-sIx b.size 0 lo)==b.size)=true then _ else _) _ _ s;rw[gZ n,Jn]
 first
  |exact gy (m:=Builtin.Tuple.tupleExact _) (lD (gK ⟨_,rfl,gK h⟩) e)
  |exact gy (m:=Builtin.Tuple.tupleExact _) (lD (gy (gK (gK ⟨_,rfl,gK h⟩))) e)
  |exact gy (gy (m:=Builtin.Tuple.tupleExact _) (lD (gK (gK ⟨_,rfl,gK h⟩)) e))
  |exact gy (gy (m:=Builtin.Tuple.tupleExact _) (lD (gK ⟨_,rfl,gK h⟩) e))
end
end HT
namespace L2
open PySem PySem.Spec PyProof.Rows
abbrev TO:=St->Hp->(Option Int->Hp->Prop)->Prop
def PO(X:Cx)(e:Option Expr)(t:TO):Prop:=
 ∀(a:ig) (s:gA) (b:St) (H:Hp) (Q:Option Int->Hp->Prop),Inv X a b H s->t b H Q->
  wpAny (model X.prog X.w) X.A (evalPart e X.env) (λu d=> ∃o c,Inv X a b c d/\IsPart u o/\Q o c) X.xe s
noncomputable def Lg:TO:=λ_ H Q=>Q none H
def Qx(t:TE):TO:=λb H Q=>t b H λx a=> ∃i,x= .int i/\Q (some i) a
section
variable {X:Cx}{e:gG}{d:TE}{lo c:Option Expr}{f g:TO}{k j:Pos}
def L5:PO X none Lg:=by
 intro a s b H Q I h;rw[evalPart_none];exact gK ⟨none,H,I,.none,h⟩
def L4(h:PE X e d):PO X (some e) (Qx d):=by
 intro a s p H Q I m;rw[evalPart_some];refine thn (h a s p H _ I m) λu s1 ⟨x,b,l,o,n⟩=>?_;obtain⟨i,rfl,q⟩:=n;obtain⟨t,rfl⟩:=o;exact⟨some i,b,l,.int i t,q⟩
def SlR(X:Cx)(r:V->Option Int->Option Int->Hp->VK->Prop):Prop:=
 ∀(a:ig) (s:gA) (l:St) (H:Hp) (x:V) (v h i:gD) (lo c:Option Int) (b:gw) (Q:VK),Inv X a l H s->RelV x v->s.heap.IsSliceOf b h i .none->IsPart h lo->IsPart i c->r x lo c H Q->
  ∃T id,typeLookup (.type T) "__getitem__"=pure (some (.builtin id))/\s.TypeIs v T/\wpAny (model X.prog X.w) X.A (getItem v (.ref b)) (EP X a l Q) X.xe s
def tSl(r:V->Option Int->Option Int->Hp->VK->Prop)(d:TE)(f g:TO):TE:=λa H Q=>d a H λx b=>f a b λl h=>g a h λu i=>r x l u i Q
def Ju{r:V->Option Int->Option Int->Hp->VK->Prop}(N:SlR X r)(J:PE X e d)(M:PO X lo f)(U:PO X c g):PE X (.Subscript e (.Slice lo c none j) k) (tSl r d f g):=by
 intro a s m H Q I h;refine Subscript_ (thn (J a s m H _ I h) λv s1 ⟨x,t,z,r1,q1⟩=>?_);refine wpAny_Slice (thn (M a s1 m t _ z q1) λn s2 ⟨l,y,B,Y,q2⟩=>thn (U a s2 m y _ B q2) λo i ⟨u,p,C,pu,q3⟩=>?_);rw[evalPart_none];refine gK ?_;have E:Inv X a m p {i with heap:=i.heap.push {cls:= .type "slice",data:= .fields #[n,o,.none]}}:=C.kept (t':=i.toks) λb D q=>jd _ q;obtain⟨T,id,G,O,L⟩:=N a {i with heap:=i.heap.push {cls:= .type "slice",data:= .fields #[n,o,.none]}} m p x v n o l u i.heap.objs.size Q E r1 (Heap.IsSliceOf.new ..) Y pu q3;show wpAny (model X.prog X.w) X.A (subscriptTail e (.Slice lo c none j) v (.ref i.heap.objs.size)) (EP X a m Q) X.xe {i with heap:=i.heap.push {cls:= .type "slice",data:= .fields #[n,o,.none]}};exact tail_any (ops:=[.ref i.heap.objs.size,v]) O G L (by with_unfolding_all rfl)
noncomputable def CW(a:List V)(lo c:Option Int):List V:=(a.drop (HT.sIx a.length 0 lo)).take (HT.sIx a.length a.length c-HT.sIx a.length 0 lo)
def vC(a:List V)(lo c:Option Int):(CW a lo c).length<=a.length:=by
 unfold CW;rw[pD,List.length_drop]
 lia
def TC(K:gW):V->Option Int->Option Int->Hp->VK->Prop:=λx lo c H Q=> ∃a b,x= .ref a/\SqT K H a b/\
 ¬(HT.sIx b.length 0 lo=0/\HT.sIx b.length b.length c=b.length)/\ ∀p,H p=none->Q (.ref p) (upd H p (.tup (CW b lo c)))
def NY:SlR X (TC X.K):=by
 intro p s L H x v G J lo c E Q I B u z A h;obtain⟨a,l,rfl,y,w,q⟩:=h;cases B;obtain⟨t,r,m,n⟩:=I.tuple y;have i:t.toArray.size=l.length:=by rw[iE];exact r.length.symm
 refine⟨"tuple",_,yi.lookup,m.typeIs,?_⟩;refine HT.Ew m u z A (by rw[i];exact w) ?_ (by rw[i];exact n);rw[i];refine⟨.ref s.heap.objs.size,_,I.laid (t':=s.toks) (o:= .tup (CW l lo c)) (λb C q=>jd _ q) (iR _) ?_,rfl,q _ (I.hok.fresh (iR _))⟩;exact⟨mQ (vC l lo c) n,_,(r.drop (HT.sIx l.length 0 lo)).take (HT.sIx l.length l.length c-HT.sIx l.length 0 lo),Aj _ _⟩
def Q2(K:gW):R2:=λx y H Q=> ∃a b i h,x= .ref a/\y= .ref b/\SqT K H a i/\SqT K H b h/\i≠[]/\i.length+h.length<=sizeLine/\
 (h=[]->Q (.ref a) H)/\(h≠[]-> ∀p,H p=none->Q (.ref p) (upd H p (.tup (i++h))))
def Vals.nil_iff{b:List V}{a:iF}(r:Vals b a):a=[]↔b=[]:=by
 cases r with
 |nil=>simp
 |cons _ _=>simp
def Mi:OpR X (binaryOp .Add) (Q2 X.K):=by
 intro n s T H x y v u Q I E G h;obtain⟨a,b,J,L,rfl,rfl,p,r,t,m,B,C⟩:=h;cases E;cases G;obtain⟨M,l,A,_⟩:=I.tuple p;obtain⟨N,i,j,_⟩:=I.tuple r;refine HT.RL A j (λz=>t (l.nil_iff.mp z)) (λz=>⟨.ref a,H,I,rfl,B (i.nil_iff.mp z)⟩) (λz=>?_) (by rw[<-l.length,<-i.length];exact m);refine⟨.ref s.heap.objs.size,_,I.laid (t':=s.toks) (o:= .tup (J++L)) (λb O q=>jd _ q) (iR _) ?_,rfl,C (λw=>z (i.nil_iff.mpr w)) _ (I.hok.fresh (iR _))⟩;exact⟨by rw[mx];exact m,_,l.append i,Aj _ _⟩
end
noncomputable def ixN(n:Nat)(i:Int):Option Nat:=if 0<=i then(if i<n then some i.toNat else none) else if -(n:Int)<=i then some (i+n).toNat else none
noncomputable def atI{b:Type}(a:List b)(i:Int):Option b:=(ixN a.length i).bind λj=>a[j]?
def A4{n:Nat}{i:Int}{j:Nat}(h:ixN n i=some j):seqIndex? i n=some j/\j<n/\ -(n:Int)<=i/\i<n:=by
 unfold ixN at h;by_cases a:0<=i
 ·rw[gO a] at h;by_cases h1:i<n
  ·rw[gO h1] at h;have e:i.toNat=j:=ji h;exact⟨by rw[DL a h1,e],by lia,by lia,h1⟩
  ·rw[gZ h1] at h;cases h
 ·rw[gZ a] at h;by_cases h1: -(n:Int)<=i
  ·rw[gO h1] at h;have e:(i+n).toNat=j:=ji h;exact⟨by rw[DK (by lia) h1,e],by lia,h1,by lia⟩
  ·rw[gZ h1] at h;cases h
def F9{b:Type}{a:List b}{i:Int}{v:b}(h:atI a i=some v): ∃j,seqIndex? i a.length=some j/\a[j]?=some v/\j<a.length/\ -(a.length:Int)<=i/\i<a.length:=by
 unfold atI at h
 cases e:ixN a.length i with
 |none=>rw[e] at h;cases h
 |some j=>
  rw[e] at h;obtain⟨h1,c,d,f⟩:=A4 e;exact⟨j,h1,h,c,d,f⟩
def ui(b:gG):Prop:= ∀o i,subscripted b false o i=operate [o,i] (getItem o i)
def IxR(X:Cx)(r:R2):Prop:=
 ∀(b slice:gG) (a:ig) (s:gA) (c:St) (H:Hp) (x y:V) (v u:gD) (Q:VK),Inv X a c H s->RelV x v->RelV y u->r x y H Q->
  subscripted slice false v u=operate [v,u] (getItem v u)->wpAny (model X.prog X.w) X.A (subscriptTail b slice v u) (EP X a c Q) X.xe s
def MtR(X:Cx)(id:String)(r:V->List V->Hp->VK->Prop):Prop:=
 ∀(a:ig) (s:gA) (d:St) (H:Hp) (x:V) (c:List V) (v:gD) (b:iF) (Q:VK),Inv X a d H s->RelV x v->Vals c b->r x c H Q->
  wpAny (model X.prog X.w) X.A (call (.builtin id) (v::b)) (EP X a d Q) X.xe s
section
variable {X:Cx}{a b:gG}{G tb:TE}{E:Pos}
def Nm{r:R2}(i:IxR X r)(f:PE X a G)(g:PE X b tb)(j:ui b):PE X (.Subscript a b E) (tOp r G tb):=by
 intro c s n H Q I h;exact Subscript_ (P7 f g I h λv u m x y d e k l q=>i a b c m n d x y v u Q e k l q (j _ _))
def TK(K:gW):R2:=λx y H Q=> ∃p c i v,x= .ref p/\y= .int i/\SqL K H p c/\atI c i=some v/\Q v H
def TJ(K:gW):R2:=λx y H Q=> ∃p c i v,x= .ref p/\y= .int i/\SqT K H p c/\atI c i=some v/\Q v H
def MA:IxR X (TK X.K):=by
 intro f slice c s m H x y v u Q I N O h l;obtain⟨p,F,i,z,rfl,rfl,L,C,q⟩:=h;cases N;obtain⟨t,rfl⟩:=O;obtain⟨n,r,e,D⟩:=I.list L;obtain⟨j,h1,o,U,A,B⟩:=F9 C;obtain⟨w,g,M⟩:=r.get o;have J:=r.length;have Y:=AY;have fin:EP X c m Q w s:=⟨z,H,I,M,q⟩
 by_cases k:0<=i
 ·have d:i.toNat=j:=by
   rw[DL k B] at h1;exact ji h1
  exact item_listR e.isList k (by lia) (by rw[d];simpa using g) fin l
 ·have d:(i+(n.toArray.size:Int)).toNat=j:=by
   rw[DK (by lia) A] at h1;rw[iE,<-J];exact ji h1
  exact HM (x:=w) e.isList.typeIs slot_list_getitem.lookup
   (wpAny_getItem_list_neg (Q:=λr T=>r=w/\EP X c m Q r T) e.isList (by lia) (by rw[iE]<;>lia) (by lia) (by rw[d];simpa using g) ⟨rfl,fin⟩) l
def Pp:IxR X (TJ X.K):=by
 intro d slice c s f H x y v u Q I B C h o;obtain⟨p,Y,i,z,rfl,rfl,n,l,q⟩:=h;cases B;obtain⟨t,rfl⟩:=C;obtain⟨L,r,e,U⟩:=I.tuple n;obtain⟨j,h1,k,M,N,O⟩:=F9 l;obtain⟨w,g,A⟩:=r.get k;have m:=r.length;have T:=AY;have fin:EP X c f Q w s:=⟨z,H,I,A,q⟩
 exact HM (x:=w) e.typeIs slot_tuple_getitem.lookup
  (getItem_tuple (j:=j) (Q:=λr J=>r=w/\EP X c f Q r J) e (by lia) (by lia) (by rw[iE,<-m];exact h1) (by simpa using g) ⟨rfl,fin⟩) o
def Ep(c:iF)(n j:Nat)(u:gD):Obj.mapSeq (·.setIfInBounds j u) {cls:= .type "list",data:= .seq c.toArray n}={cls:= .type "list",data:= .seq (c.set j u).toArray n}:=by
 simp[Obj.mapSeq]
theorem Inv.lst{c:ig}{f:St}{H:Hp}{s:gA}{p:gw}{xs:List V}(I:Inv X c f H s)(h:H p=some (.lst xs)):
  ∃(d:iF) (n:Nat),Vals xs d/\s.heap.get? p=some {cls:= .type "list",data:= .seq d.toArray n}/\xs.length<=sizeLine:=by
 obtain⟨z,d,n,r,e⟩:=I.hok p _ h;exact⟨d,n,r,e,z⟩
def Inv.lstUpd{d:ig}{l:St}{H:Hp}{s:gA}{p:gw}{w i:List V}{j c:iF}{n g:Nat}{f:Obj->Obj}(I:Inv X d l H s)(h:H p=some (.lst w))
  (o:s.heap.get? p=some {cls:= .type "list",data:= .seq j.toArray n})(k:f {cls:= .type "list",data:= .seq j.toArray n}={cls:= .type "list",data:= .seq c.toArray g})(r:Vals i c)(v:i.length<=sizeLine)(t:Nat):
  Inv X d l (upd H p (.lst i)) {s with heap:=s.heap.update p f,toks:=t}:=by
 have e:(s.heap.update p f).get? p=some {cls:= .type "list",data:= .seq c.toArray g}:=by
  rw[qI f o (by rw[k]<;>rfl),k]
 refine I.write (x:=p) (e:=p) (by rw[h];trivial) (.inl rfl) (λb u m q=>(uA _ _ (lF m)).trans q) ⟨_,e⟩ ?_;exact⟨v,c,g,r,e⟩
def QZ:V->V->V->Hp->(Hp->Prop)->Prop:=λo i v H Q=> ∃p c k j,o= .ref p/\i= .int k/\H p=some (.lst c)/\ixN c.length k=some j/\Q (upd H p (.lst (c.set j v)))
def ID:Qc X QZ:=by
 intro c s L H o i v T O u Q I B A C h;obtain⟨p,J,k,j,rfl,rfl,x,y,q⟩:=h;cases B;obtain⟨t,rfl⟩:=A;obtain⟨g,n,r,e,z⟩:=I.lst x;obtain⟨h1,M,m,w⟩:=A4 y;have d:=r.length;have N:=AY
 have f:Inv X c L (upd H p (.lst (J.set j v))) {s with heap:=s.heap.update p (Obj.mapSeq (·.setIfInBounds j u))}:=
  I.lstUpd x e (Ep g n j u) (r.set C j) (by rw[sv];exact z) s.toks
 by_cases l:0<=k
 ·have hk:k.toNat=j:=by
   rw[DL l w] at h1;exact ji h1
  exact PySem.W.ki_setAt e l (by lia) (by rw[iE,<-d];exact w) (by rw[hk];exact⟨_,f,q⟩)
 ·have hk:(k+(g.toArray.size:Int)).toNat=j:=by
   rw[DK (by lia) m] at h1;rw[iE,<-d];exact ji h1
  exact PySem.W.ki_setBack e (by lia) (by rw[iE,<-d];exact m) (by lia) (by rw[hk];exact⟨_,f,q⟩)
def AE(lo c:Option Int)(n:Nat):(sliceBounds lo c none n).1=((HT.sIx n 0 lo:Nat):Int)/\(sliceBounds lo c none n).2.1=((HT.sIx n n c:Nat):Int)/\(sliceBounds lo c none n).2.2=1:=by
 refine⟨?_,?_,rfl⟩
 ·cases lo with
  |none=>simp[sliceBounds,HT.sIx]
  |some i=>
   simp only[sliceBounds,HT.sIx,Option.getD_none,show(1:Int)>0 by decide,jy];by_cases h:i<0
   ·simp only[h,jy]<;>lia
   ·simp only[h,iK]<;>lia
 ·cases c with
  |none=>simp[sliceBounds,HT.sIx]
  |some i=>
   simp only[sliceBounds,HT.sIx,Option.getD_none,show(1:Int)>0 by decide,jy];by_cases h:i<0
   ·simp only[h,jy]<;>lia
   ·simp only[h,iK]<;>lia
theorem yk(c:iF)(lo d:Option Int):slicePick c.toArray lo d none=((c.drop (HT.sIx c.length 0 lo)).take (HT.sIx c.length c.length d-HT.sIx c.length 0 lo)).toArray:=by
 obtain⟨h1,e,f⟩:=AE lo d c.toArray.size;unfold slicePick;rw[h1,e,f];simp only[sliceRange_one,pick_run,iE]<;>rfl
def TF(K:gW):V->Option Int->Option Int->Hp->VK->Prop:=λx lo d H Q=> ∃a c,x= .ref a/\SqL K H a c/\ ∀p,H p=none->Q (.ref p) (upd H p (.lst (CW c lo d)))
def Li:SlR X (TF X.K):=by
 intro g s z H x v w y lo e u Q I n i l m h;obtain⟨a,c,rfl,j,q⟩:=h;cases n;obtain⟨p,r,f,k⟩:=I.list j;have d:=r.length;refine⟨"list",_,slot_list_getitem.lookup,f.isList.typeIs,?_⟩;refine wpAny_getItem_list_slice f.isList i l m .none (by simp) ?_ (by rw[iE]<;>lia);rw[yk,<-d];refine⟨.ref s.heap.objs.size,_,I.laid (t':=s.toks) (o:= .lst (CW c lo e)) (λb t q=>jd _ q) (iR _) ?_,rfl,q _ (I.hok.fresh (iR _))⟩;exact⟨mQ (vC c lo e) k,_,0,(r.drop (HT.sIx c.length 0 lo)).take (HT.sIx c.length c.length e-HT.sIx c.length 0 lo),jz _ rfl⟩
noncomputable def Ny:V->Bool
 | .non=>true
 | .bl _=>true
 | .int _=>true
 | .str _=>true
 |_=>false
noncomputable def eqV:V->V->Bool
 | .non,.non=>true
 | .bl a,.bl b=>a==b
 | .bl a,.int b=>(if a then 1 else 0)==b
 | .int a,.bl b=>a==(if b then 1 else 0)
 | .int a,.int b=>a==b
 | .str a,.str b=>a==b
 |_,_=>false
def kR{A:gS}{s:gA}{y x:V}{u v:gD}(f:RelV y u)(c:RelV x v)(g:Ny y=true)(e:Ny x=true):SeqAt.EqAt A s u v (eqV y x):=by
 cases y with
 |non=>
  cases f
  cases x with
  |non=>cases c;exact SeqAt.EqAt.same _
  |bl b=>cases c;exact SeqAt.EqAt.none_bool b
  |int b=>obtain⟨t,rfl⟩:=c;exact SeqAt.EqAt.none_int b t
  |str b=>obtain⟨t,rfl⟩:=c;exact SeqAt.EqAt.none_str b t
  |_=>exact absurd (show false=true from e) jA
 |bl a=>
  cases f
  cases x with
  |non=>cases c;exact SeqAt.EqAt.bool_none a
  |bl b=>cases c;exact SeqAt.EqAt.bool_bool a b
  |int b=>obtain⟨t,rfl⟩:=c;exact SeqAt.EqAt.bool_int a b t
  |str b=>obtain⟨t,rfl⟩:=c;exact SeqAt.EqAt.bool_str a b t
  |_=>exact absurd (show false=true from e) jA
 |int a=>
  obtain⟨d,rfl⟩:=f
  cases x with
  |non=>cases c;exact SeqAt.EqAt.int_none a d
  |bl b=>cases c;exact SeqAt.EqAt.int_bool a d b
  |int b=>obtain⟨t,rfl⟩:=c;exact SeqAt.EqAt.int_int a d b t
  |str b=>obtain⟨t,rfl⟩:=c;exact SeqAt.EqAt.int_str a d b t
  |_=>exact absurd (show false=true from e) jA
 |str a=>
  obtain⟨d,rfl⟩:=f
  cases x with
  |non=>cases c;exact SeqAt.EqAt.str_none a d
  |bl b=>cases c;exact SeqAt.EqAt.str_bool a d b
  |int b=>obtain⟨t,rfl⟩:=c;exact SeqAt.EqAt.str_int a d b t
  |str b=>obtain⟨t,rfl⟩:=c;exact SeqAt.EqAt.str_str a d b t
  |_=>exact absurd (show false=true from e) jA
 |_=>exact absurd (show false=true from g) jA
def tX:jq X (.builtin "len") (λj H Q=> ∃p d,j=[.ref p]/\(SqL X.K H p d\/SqT X.K H p d)/\Q (.int d.length) H):=by
 intro i s t H j o Q I r h;obtain⟨p,d,rfl,e,q⟩:=h;obtain⟨u,rfl,m⟩:=sH r;cases m;have n:=AY;rcases e with e|e
 ·obtain⟨k,g,f,l⟩:=I.list e;have c:=g.length;exact Calls.call_len_list f.isList (by simp only[iE]<;>lia) ⟨.int d.length,H,I.tok _,⟨s.toks+1,by rw[iE,c]⟩,q⟩
 ·obtain⟨k,g,f,l⟩:=I.tuple e;have c:=g.length;exact len_tuple f (by simp only[iE]<;>lia) ⟨.int d.length,H,I.tok _,⟨s.toks+1,by rw[iE,c]⟩,q⟩
def tV:jq X (.type "list") (λB H Q=> ∃p i,B=[.ref p]/\(SqL X.K H p i\/SqT X.K H p i)/\ ∀l,H l=none->Q (.ref l) (upd H l (.lst i))):=by
 intro v s J H B L Q I r h;obtain⟨p,i,rfl,k,q⟩:=h;obtain⟨u,rfl,C⟩:=sH r;cases C
 have fin: ∀(d:iF),Vals i d->i.length<=sizeLine-> ∀(c:gR) (f:Nat),(∀b A,s.heap.get? b=some A->c.get? b=some A)->
   c.get? s.heap.objs.size=some {cls:= .type "list",dict:=none,data:= .seq d.toArray f,slots:= #[]}->EP X v J Q (.ref s.heap.objs.size) {s with heap:=c}:=λd g m c f t e=>
  ⟨.ref s.heap.objs.size,_,I.laid (t':=s.toks) t (iR _) (show ObjOk X.prog X.w _ c _ (.lst i) from⟨m,d,f,g,e⟩),rfl,q _ (I.hok.fresh (iR _))⟩
 rcases k with k|k
 ·obtain⟨d,g,z,m⟩:=I.list k;have j:=g.length;obtain⟨o,y,x,n,hd⟩:=z.isList;exact call_list_seq p (.inl rfl) y x hd (λc f t e=>fin d g m c f t e) (by simp only[iE]<;>lia)
 ·obtain⟨d,g,z,m⟩:=I.tuple k;have j:=g.length;obtain⟨o,y,x,n,hd⟩:=z;exact call_list_seq p (.inr rfl) y x hd (λc f t e=>fin d g m c f t e) (by simp only[iE]<;>lia)
def qX:jq X (.type "tuple") (λv H Q=> ∃p d,v=[.ref p]/\((SqL X.K H p d/\ ∀l,H l=none->Q (.ref l) (upd H l (.tup d)))\/(SqT X.K H p d/\Q (.ref p) H))):=by
 intro c s x H v B Q I r h;obtain⟨p,d,rfl,h⟩:=h;obtain⟨u,rfl,A⟩:=sH r;cases A;rcases h with⟨i,q⟩|⟨i,q⟩
 ·obtain⟨g,k,j,t⟩:=I.list i;have n:=k.length;refine call_tuple_list j.isList (λf z=>?_) (by simp only[iE]<;>lia);have m:Inv X c x H {s with heap:=f}:=I.kept (t':=s.toks) z
  have y:Inv X c x (upd H f.objs.size (.tup d)) {s with heap:=f.push {cls:= .type "tuple",data:= .seq g.toArray}}:=
   m.laid (t':=s.toks) (λb o e=>jd _ e) (iR _) (show ObjOk X.prog X.w _ _ _ (.tup d) from⟨t,g,k,Aj _ _⟩)
  exact⟨.ref f.objs.size,_,y,rfl,q _ (m.hok.fresh (iR _))⟩
 ·obtain⟨g,k,j,t⟩:=I.tuple i;exact call_tuple_same j ⟨.ref p,H,I,rfl,q⟩
def tyV(K:gW)(T:String)(x:V)(H:Hp):Prop:=match x with
 | .str _=>T="str"
 | .int _=>T="int"
 | .ref p=>(T="list"/\ ∃d,SqL K H p d)\/(T="tuple"/\ ∃o,K.lookup p=some o/\o.cls= .type "tuple"/\o.dict=none)\/
   (T="dict"/\((∃c,H p=some (.dK c))\/ ∃c,H p=some (.dT c)))\/(T="set"/\ ∃S n,H p=some (.set S n))
 |_=>False
def NQ{d:ig}{m:St}{H:Hp}{s:gA}{T:String}{x:V}{v:gD}(I:Inv X d m H s)(r:RelV x v)(ty:tyV X.K T x H):
  s.TypeIs v T/\ ∀a,v= .ref a-> ∃h,s.heap.get? a=some h/\h.dict=none:=by
 cases x with
 |str z=>
  obtain⟨t,rfl⟩:=r;cases(show T="str" from ty);exact⟨typeIs_str s z t,λ_ e=>nomatch e⟩
 |int i=>
  obtain⟨t,rfl⟩:=r;cases(show T="int" from ty);exact⟨typeIs_int s i t,λ_ e=>nomatch e⟩
 |ref p=>
  cases r;rcases ty with⟨rfl,u,l⟩|⟨rfl,o,hk,k,hd⟩|⟨rfl,hk⟩|⟨rfl,S,n,hk⟩
  ·obtain⟨q,_,j,_⟩:=I.list l;refine⟨j.isList.typeIs,λa e=>?_⟩;cases e;obtain⟨o,n,e,c,hd,_⟩:=j;exact⟨o,e,hd⟩
  ·refine⟨⟨o,I.kIn p o hk,k⟩,λa e=>?_⟩;cases e;exact⟨o,I.kIn _ o hk,hd⟩
  ·have z: ∃o,s.heap.get? p=some o/\o.ExactDict:=by
    rcases hk with⟨g,hk⟩|⟨g,hk⟩
    ·obtain⟨_,_,_,_,o,_,_,e,ex,_⟩:=I.hok p _ hk;exact⟨o,e,ex⟩
    ·obtain⟨_,_,_,_,o,_,_,e,ex,_⟩:=I.hok p _ hk;exact⟨o,e,ex⟩
   obtain⟨o,e,ex⟩:=z;refine⟨⟨o,e,ex.1⟩,λa f=>?_⟩;cases f;exact⟨o,e,ex.2.1⟩
  ·obtain⟨o,_,_,_,e,ex,_⟩:=I.hok p _ hk;refine⟨⟨o,e,ex.1⟩,λa f=>?_⟩;cases f;exact⟨o,e,ex.2.1⟩
 |_=>exact False.elim ty
def tBM(K:gW)(T:String)(r:V->List V->Hp->VK->Prop)(C:TE)(t:TA):TE:=λd H Q=>C d H λx c=>tyV K T x c/\t d c λf e=>r x f e Q
variable {o e:gG}{g:jh}{C:TE}{t:TA}{d:Str}{m B:Pos}{T id:String}{r:V->List V->Hp->VK->Prop}
def JA(O:PlainAttrs T)(slot:Slot T d id)(f:typeOf (.builtin id)=pure (.type "method_descriptor"))(y:MtR X id r)(z:PE X o C)(w:PA X (e::g) t)
  (M:attributeBase o d X.env (eval o X.env)=eval o X.env:=by rfl)
  (N:((backTo B (starEach (e::g) X.env)).all (λx=>!x.1)&&(backToKw B (keywordEach [] X.env)).all (λx=>x.1.isSome)
   &&decide ((e::g).length+([]:List Keyword).length+(if([]:List Keyword).isEmpty then 0 else 1)<30))=true:=by rfl)
  (L:(m.endLine==B.line)=true:=by rfl)(A:starEach (e::g) X.env=(false,eval e X.env)::starEach g X.env:=by rfl)(J:(backTo B (starEach g X.env)).any (·.1)=false:=by rfl):
  PE X (.Call (.Attribute o d m) (e::g) [] B) (tBM X.K T r C t):=by
 intro c s i H Q I h;refine wpAny_Call_method_late M N L rfl (thn (z c s i H _ I h) λv s1 ⟨x,n,j,l,ty,U⟩=>?_);obtain⟨h1,u⟩:=NQ j l ty;refine⟨T,id,O,slot,f,h1,u,?_⟩;have k:=w B c s1 i n _ j U;rw[A] at k ⊢;refine Calls.callWith_builtin (by show(false||(backTo B (starEach g X.env)).any (·.1))=false;rw[J]<;>rfl) (HL ?_);exact thn k λus s2 ⟨vs,p,q,r2,Y⟩=>y c s2 i p x vs v us Q q l r2 Y
end
def MtM(X:Cx)(id:String)(r:V->List V->Hp->VK->Prop):Prop:=
 ∀(a:ig) (s:gA) (d:St) (H:Hp) (x:V) (c:List V) (v:gD) (b:iF) (Q:VK),Inv X a d H s->RelV x v->Vals c b->r x c H Q->
  wpAny (model X.prog X.w) X.A (call (.builtin id) (v::b)) (EP X a d Q) X.xe s
def Vals.one: ∀{x:V} {a:iF},Vals [x] a-> ∃u,a=[u]/\RelV x u
 |_,_,.cons r .nil=>⟨_,rfl,r⟩
theorem Vals.eraseIdx: ∀{b:List V} {a:iF} (i:Nat),Vals b a->Vals (b.eraseIdx i) (a.eraseIdx i)
 |_,_,_,.nil=> .nil
 |_,_,0,.cons _ t=>t
 |_,_,i+1,.cons r t=> .cons r (Vals.eraseIdx i t)
theorem yY{a:Type}: ∀(l:List a) (i:Nat),(l.eraseIdx i).length<=l.length
 |[],_=>iR _
 |_::_,0=>Ai _
 |_::r,i+1=>Nat.succ_le_succ (yY r i)
section
variable {X:Cx}{a:ig}{c:St}{H:Hp}{s:gA}{l b:gw}{g d h:List V}
def Inv.lset{i its':iF}{n:Nat}{f:Array Value->Array Value}{r:Nat}(I:Inv X a c H s)(j:H l=some (.lst g))
  (e:s.heap.get? l=some {cls:= .type "list",data:= .seq i.toArray n})(m:f i.toArray=its'.toArray)(hv:Vals d its')(p:d.length<=sizeLine):
  Inv X a c (upd H l (.lst d)) {s with heap:=s.heap.update l (Obj.mapSeq f),toks:=r}:=by
 have q:=PySem.IsL.update e f;rw[m] at q;refine I.write (x:=l) (e:=l) (by rw[j];exact trivial) (.inl rfl) (λt u k o=>(uA s.heap (Obj.mapSeq f) (lF k)).trans o) ⟨_,q⟩ ?_;exact⟨p,its',_,hv,q⟩
def Inv.lnew{e:iF}{t':Nat}(I:Inv X a c H s)(hv:Vals d e)(f:d.length<=sizeLine):
  Inv X a c (upd H s.heap.objs.size (.lst d)) {s with heap:=s.heap.push {cls:= .type "list",data:= .seq e.toArray},toks:=t'}:=
 I.laid (λ_ _ q=>jd _ q) (iR _) ⟨f,e,0,hv,jz _ rfl⟩
theorem Inv.fresh(I:Inv X a c H s):H s.heap.objs.size=none:=I.hok.fresh (iR _)
def Inv.lstM(I:Inv X a c H s)(i:H l=some (.lst g)):g.length<=sizeLine/\ ∃(f:iF) (n:Nat),Vals g f/\g.length=f.length/\s.heap.get? l=some {cls:= .type "list",data:= .seq f.toArray n}:=by
 obtain⟨z,f,n,r,e⟩:=I.hok l _ i;exact⟨z,f,n,r,r.length,e⟩
end
section
variable {X:Cx}
def Lu:V->List V->Hp->VK->Prop:=λx b H Q=> ∃l a y,x= .ref l/\b=[y]/\H l=some (.lst a)/\a.length<sizeLine/\Q .non (upd H l (.lst (a++[y])))
def GN:MtM X "list.append" Lu:=by
 intro c s p H x m v k Q I g f h;obtain⟨l,o,y,rfl,rfl,b,j,q⟩:=h;cases g;obtain⟨u,rfl,d⟩:=f.one;obtain⟨z,a,n,r,i,e⟩:=I.lstM b;refine Ah F.slot_list_append ⟨_,e,rfl⟩ HK (HJ _ _) (PySem.list_append l a.toArray n u (by rw[iE];lia)) ⟨e,?_⟩;refine⟨.non,_,I.lset (its':=a++[u]) b e (by simp) (r.append (.cons d .nil)) ?_,rfl,q⟩;rw[mx,wx]
 lia
def N8:V->List V->Hp->VK->Prop:=λx b H Q=> ∃l a i k y,x= .ref l/\b=[.int i]/\H l=some (.lst a)/\ -(2^63)<=i/\i<2^63/\seqIndex? i a.length=some k/\a[k]?=some y/\Q y (upd H l (.lst (a.eraseIdx k)))
def JM:MtM X "list.pop" N8:=by
 intro c s G H x E v C Q I A p h;obtain⟨l,B,i,k,y,rfl,rfl,b,h1,d,hk,j,q⟩:=h;cases A;obtain⟨u,rfl,o⟩:=p.one;obtain⟨t,rfl⟩:=o;obtain⟨z,a,n,r,f,e⟩:=I.lstM b;obtain⟨w,g,m⟩:=r.get j
 refine Ah F.slot_list_pop ⟨_,e,rfl⟩ F.entry_list_pop (F.args_list_pop_2 _ _)
  (MeetsSeq.list_pop_at l a.toArray n i t k w (fitsIndex_both h1 d) (by rw[iE,<-f];exact hk) (by rw[<-kW];exact g) (by rw[iE];lia)) ⟨e,?_⟩
 refine⟨y,_,I.lset (its':=a.eraseIdx k) b e ?_ (r.eraseIdx k) ?_,m,q⟩
 ·show a.toArray.eraseIdxIfInBounds k=(a.eraseIdx k).toArray;rw[List.eraseIdxIfInBounds_toArray]
 ·have:=yY B k
  lia
end
section
variable {a:gY}{w:gP}{A:gS}{E:ip}{s:gA}
end
section
variable {X:Cx}
end
end L2
namespace Att
open PySem PySem.W PySem.Calls PyProof.Rows
def vO{P:Params}{h:gR}: ∀(c:ik) (d:iF),WellAll P h d (c.map WData.int)->IntsAre d c:=by
 intro c
 induction c with
 |nil=>
  intro d w;rw[pA] at w;cases w;exact .nil
 |cons n c e=>
  intro d w;rw[iT] at w
  cases w with
  |cons a b=>
   cases a;exact .cons _ _ (e _ b)
def Gu{l:OpenLaw}{n:Nat}(v:l.most=some n){P:Params}{h:gR}{b:List WData}{e:iF}
  (o:l.row.toRowW.claim.pre b=true)(s:WellAll P h e b):
  ∃a m c,e=[Value.ref a]/\b=[WData.list (c.map WData.int)]/\h.get? a=some {cls:= .type "list",data:= .seq m.toArray}/\IntsAre m c/\c.length<=n:=by
 have p:WShape.hasAll [] b [.list .int]=true:=(pre_splitW o).1;have k:l.pre.holds [] {args:=b}=true:=(pre_splitW o).2;obtain⟨d,r,rfl,h1,t⟩:=hasAllW_cons p;obtain rfl:=hasAllW_nil t;obtain⟨A,rfl,u⟩:=hasW_list h1;obtain⟨c,rfl⟩:=items_int u
 have g:c.length<=n:=by
  unfold OpenLaw.pre at k
  have i:(WTm.not (.lt (.lit (.int (n:Int))) (.len (.arg 0)))).holds [] {args:=[.list (c.map .int)]}=true:=by
   have i:=(holds_andW k).1;rw[v] at i;exact i
  have j:=condW_of i (w_not (w_lt w_lit (w_len_list (w_arg rfl))));rw[jt] at j;refine Nat.le_of_not_lt λq=>?_;have x:(n:Int)<((c.length:Nat):Int):=by lia
  first
   |(rw[oX x] at j;exact absurd j (by decide))
   |(simp at j;lia)
 cases s with
 |cons y z=>
  cases z
  cases y with
  |list w f=>exact⟨_,_,c,rfl,rfl,w,vO c _ f,g⟩
def GD(l:OpenLaw)(a:List WData):l.row.toRowW.claim.post a (.bool true) a=true:=
 postW_of (r:=l.row.toRowW) (X:=(true==true))
  (show WShape.has [] (.bool true) .bool=true by first|rfl|decide|simp[WShape.has,WShape.arms,WShape.armsAll])
  (show(WTm.eq .res (.lit (.bool true))).value [] {args:=a,res:=some (.bool true),after:=a}=some (.bool (true==true)) from w_eq_bool (w_res rfl) w_lit) rfl
def MR{l:OpenLaw}{n:Nat}{q:gY}{c:hG}{x:(Str->Option Value)->Heap->Prop}{y:World->Heap->Prop}{d:DefRec}
  (U:l.most=some n)(H:d.params.defaults=[])
  (call: ∀(w:gP) (e b:gA) (m u:jY) (j:gw) (o:Obj) (v cd g:gD) (a:gw) (i:iF) (p:ik),
   Ground q c [] x w e m u b.heap->y w b.heap->
   b.heap.get? j=some o->o.data= .func (docDef d.name d.params d.body d.scope v cd g)->b.heap.CodeRec cd d.name->m d.name=some (.ref j)->
   b.heap.get? a=some {cls:= .type "list",data:= .seq i.toArray}->IntsAre i p->p.length<=n->b.gens= #[]->
   codeAny (model l.prog w) callerA (.call (.ref j) ⟨[.ref a],[]⟩) (λr s=>r= .ok (.ret (.bool true))/\OldK b.heap s.heap/\s.os=b.os/\AllBare s.gens) b):
  WalkO q c x y l.row.toRowW d [] (λf i=>PySem.call f i):=by
 intro w e b m u G Y j o v cd g I kV D hd P A t O z C S R B K J Q;obtain rfl:I= .none:=Dflts.none A H;obtain rfl:kV= .none:=Dflts.noKw A;obtain⟨a,i,p,rfl,rfl,E,h,k⟩:=Gu U R J;refine enter_call (sD (call w e b m u j o v cd g a i p G Y D (fd_plain hd) P t E h k O) λr s F=>?_);obtain⟨rfl,L,M,N⟩:=F;exact⟨.inl ⟨.bool true,.bool true,[],rfl,λ_=>rfl,.bool true,GD l _,λ_=>⟨List.Pairwise.nil,λ_ T=>(nomatch T)⟩⟩,L,M,N⟩
section
variable {a:gY}{w:gP}{A:gS}{E:ip}{s:gA}{K:Frag}
end
end Att
namespace L2
open PySem PySem.Spec PyProof.Rows
theorem yK: ∀{b:iF} {a:ik},IntsAre b a->Vals (a.map V.int) b
 |_,_,.nil=> .nil
 |_,_,.cons n t h=> .cons ⟨t,rfl⟩ (yK h)
noncomputable def oR(s:Stmt):Arguments:=match s with
 | .FunctionDef _ a _ _ _ _ _ _ _ _=>a
 |_=>{posonlyargs:=[],args:=[],vararg:=none,kwonlyargs:=[],kw_defaults:=[],kwarg:=none,defaults:=[]}
noncomputable def jX(s:Stmt):List Stmt:=match s with
 | .FunctionDef _ _ b _ _ _ _ _ _ _=>b
 |_=>[]
noncomputable def gz(s:Stmt):Scope:=match s with
 | .FunctionDef _ _ _ _ _ _ a _ _ _=>a
 |_=>{kind:= .function,names:=[],isGenerator:=false,isCoroutine:=false}
abbrev CX0:CXT:=λ_ _ _ _ _ _=>False
abbrev E0:XK:=λ_ _ _=>False
def Nn{X:Cx}:Bu CX0 X E0:=λ_ _ _ _ _ _ _ h=>h.elim
structure Fun(K:gW)(x qual:Str)(st:Stmt)(f:gw)(fd:kS):Prop where
 ex: ∃(oc:gD) (od:Option Addr) (kV doc pm:gD) (an:Option Addr) (c9 ct:gD) (r9:pj),
  fd=PySem.W.fnOf x qual (oR st) (jX st) (gz st) .none kV doc pm an c9 ct/\K.lookup f=some ⟨oc,od,.func fd,r9⟩/\PySem.W.codeIn K c9 qual=true
 kp:PySem.W.keepIn K (.ref f)=true
section
variable {P:gY}{w:gP}{K:gW}{a:jY}{base:gR}
theorem Fun.ok{x qual:Str}{st:Stmt}{f:gw}{g:kS}{N d:hG}{k:Nat}{e:Sp}(F:Fun K x qual st f g)(S:FnScope N d (gz st))(len: ∀vs H Q E,e vs H Q E->vs.length=d.length)
  (n: ∀(c:gD) (A:gS) (b:List Env) (s:gA) (H:Hp) (vs:List V) (Q:VK) (E:XK),Room k (A.deeper (envOfC qual (gz st) s.heap.objs.size f c))->e vs H Q E->
   ∃t,PSs (nk CX0 P w K a base N qual (gz st) f c A b s H E).nox (jX st) t/\t {nx:=λ_ i=>Q .non i,rt:=Q} (mz N vs) H):FnOk P w K a base CX0 (k+1) f g d e:=by
 obtain⟨r,u,kV,l,v,p,c,ct,y,rfl,lk,o⟩:=F.ex;refine Kj lk o S len λA b s H vs Q E m j=>?_;obtain⟨t,h,q⟩:=n c A b s H vs Q E m j;exact⟨t,h.nox,q⟩
def Fun.binds{x qual:Str}{st:Stmt}{f:gw}{j:kS}{g:hG}(F:Fun K x qual st f j)
  (h: ∀(kV b e:gD) (c:Option Addr) (d ct:gD) (i:iF),i.length=g.length->bindArgs (PySem.W.fnOf x qual (oR st) (jX st) (gz st) .none kV b e c d ct) ⟨i,[]⟩=pure (g.zip i)):Binds K j g []:=by
 obtain⟨l,m,kV,b,e,c,d,ct,n,rfl,lk,k⟩:=F.ex;exact .all (h kV b e c d ct)
def Ki{x qual:Str}{st:Stmt}{f:gw}{h:gD}{i e:Option Addr}{j:pj}{kV b g d ct:gD}(l:K.lookup f=some ⟨h,i,.func (PySem.W.fnOf x qual (oR st) (jX st) (gz st) .none kV b g e d ct),j⟩)
  (c:PySem.W.codeIn K d qual=true)(k:PySem.W.keepIn K (.ref f)=true):Fun K x qual st f (PySem.W.fnOf x qual (oR st) (jX st) (gz st) .none kV b g e d ct):=⟨⟨h,i,kV,b,g,e,d,ct,j,rfl,l,c⟩,k⟩
end
section
variable {X:Cx}
end
def Pr{A B:Prop}(h:B):if false=true then A else B:=by
 rw[gZ jA];exact h
def Pq{A B:Prop}(h:A):if true=true then A else B:=by
 rw[gO rfl];exact h
theorem rV(b:Env): ∀(l:List (Str×NameKind)) (i:jL),(∀x∈l,x.2= .free-> ∃c,b.cells.lookup x.1=some c)->(∀x c,i.lookup x=some c->b.cells.lookup x=some c)->
  ∃g,(forIn l i λx r=>if x.2==NameKind.free then do let a <-cellOf b x.1;pure (ForInStep.yield ((x.1,a)::r)) else pure (ForInStep.yield r))=(pure g:Sem (List (Str×Addr)))/\
   (∀x c,g.lookup x=some c->b.cells.lookup x=some c)/\(∀x,(x,NameKind.free)∈l-> ∃c,g.lookup x=some c)/\ ∀x c,i.lookup x=some c-> ∃c,g.lookup x=some c
 |[],i,_,o=>⟨i,rfl,o,λx h=>by simp at h,λx c h=>⟨c,h⟩⟩
 |(n,k)::l,i,h,o=>by
  by_cases hk:k= .free
  ·subst hk;obtain⟨c,e⟩:=h (n,.free) ja rfl;have s:b.cells.lookup n=some c:=e
   obtain⟨g,h1,p,q,m⟩:=rV b l ((n,c)::i) (λx f=>h x (iZ _ f)) (λx d f=>by
    rw[mw] at f
    cases j:x==n with
    |true=>rw[j] at f;have:=qJ j;subst this;cases f;exact s
    |false=>rw[j] at f;exact o x d f)
   refine⟨g,?_,p,λx f=>?_,λx d f=>?_⟩
   ·rw[List.forIn_cons];have:cellOf b n=pure c:=by unfold cellOf;rw[s]
    simp only[this,pure_bind,beq_self_eq_true,jy];exact h1
   ·rcases js.mp f with z|z
    ·cases z;exact m n c (by simp[mw])
    ·exact q x z
   ·cases j:x==n with
    |true=>have:=qJ j;subst this;exact m x c (by simp[mw])
    |false=>exact m x d (by rw[mw,j];exact f)
  ·obtain⟨g,h1,p,q,m⟩:=rV b l i (λx f=>h x (iZ _ f)) o;have j:(k==NameKind.free)=false:=by simpa using hk
   refine⟨g,?_,p,λx f=>?_,m⟩
   ·rw[List.forIn_cons];simp only[j,iB,iK,pure_bind];exact h1
   ·rcases js.mp f with z|z
    ·cases z;exact absurd rfl hk
    ·exact q x z
def rT(b:Env)(scope:iG)(h: ∀x∈scope.names,x.2= .free-> ∃c,b.cells.lookup x.1=some c):
  ∃d,closureFor scope b=pure d/\(∀x c,d.lookup x=some c->b.cells.lookup x=some c)/\ ∀x,(x,NameKind.free)∈scope.names-> ∃c,d.lookup x=some c:=by
 obtain⟨d,h1,e,f,_⟩:=rV b scope.names [] h (λx c g=>by simp at g);refine⟨d,?_,e,f⟩;unfold closureFor;have:(forIn scope.names ([]:List (Str×Addr)) λx r=>if x.2==NameKind.free then do let a <-cellOf b x.1;pure (ForInStep.yield ((x.1,a)::r)) else pure (ForInStep.yield r))=(pure d:Sem (List (Str×Addr))):=h1
 first
  |exact(mM (· >>=λr=>pure r) this).trans (pure_bind _ _)
  |(simp only[bind_pure];exact this)
  |exact this
theorem kX: ∀(names:List (Str×NameKind)) (n:Nat) (a:jL),cellsFrom n names a=cellsFrom n names []++a
 |[],_,_=>rfl
 |(x,k)::r,n,a=>by
  unfold cellsFrom;split
  ·rw[kX r (n+1) ((x,n)::a),kX r (n+1) [(x,n)],oW];rfl
  ·exact kX r n a
theorem nW{x:Str}{c:gw}: ∀(names:List (Str×NameKind)) (n:Nat),(x,c)∈cellsFrom n names []->(x,NameKind.cell)∈names
 |[],_,h=>by simp[cellsFrom] at h
 |(y,k)::r,n,h=>by
  unfold cellsFrom at h;split at h
  ·rename_i hk;rw[kX] at h;rcases pE.mp h with z|z
   ·exact iZ _ (nW r _ z)
   ·cases Gd.mp z;rw[qJ hk];exact ja
  ·exact iZ _ (nW r _ h)
structure BCls(cells:jL)(scope:iG)(C:gw)(h:gR)(cl:jL):Prop where
 one: ∀x c,cl.lookup x=some c->(cells.lookup x=some c/\scope.names.lookup x≠some .cell)\/(C<c/\scope.names.lookup x=some .cell/\h.IsCell c none)
 all: ∀x,(x,NameKind.free)∈scope.names\/(x,NameKind.cell)∈scope.names-> ∃c,cl.lookup x=some c
 inj: ∀x y c,C<c->cl.lookup x=some c->cl.lookup y=some c->(∀z d,cells.lookup z=some d->d<C)->x=y
 ex: ∀x c,cl.lookup x=some c->cells.lookup x=some c\/C<c
def Mr{M:Model}{A:gS}{E:ip}{s:gA}{scope:iG}{globals:gw}{a:Env}{g:jL}{qual:Str}{Q:Env->Shared->Prop}(v: ∀y∈scope.names,y.2= .cell->scope.names.lookup y.1=some .cell)
  (n: ∀x c,g.lookup x=some c->a.cells.lookup x=some c)(I: ∀x,(x,NameKind.free)∈scope.names-> ∃c,g.lookup x=some c)
  (C: ∀l t,l.Ns s.heap.objs.size (λ_=>none)->(∀b o,s.heap.get? b=some o->l.get? b=some o)->BCls a.cells scope s.heap.objs.size l t->
   Q {scope,locals:=s.heap.objs.size,globals,cells:=t,qual,func:=none,code:=a.code,frame:=a.frame,builtins:=a.builtins} {s with heap:=l}):
  wpAny M A (newFunctionEnv scope globals g [] qual none .none (some a)) Q E s:=by
 simp only[newFunctionEnv,Option.isSome_some,jy];refine gy (wpAny_alloc ?_);refine gy (wpAny_layCells _ (λw k j=>by cases p:k==NameKind.cell<;>simp[p]) _ _ _ _ ?_);have ok:=cellsFrom_ok scope.names (s.heap.push {cls:= .type "dict",data:= .dict #[]}) (s.heap.objs.size+1) [] ⟨λ_ _ G=>(nomatch G),List.Pairwise.nil⟩ (by rw[oV];exact iR _);rw[oV] at ok;rw[show({s with heap:=s.heap.push {cls:= .type "dict",data:= .dict #[]}}:Shared).heap.objs.size=s.heap.objs.size+1 from oV ..];simp only[List.forIn_nil];have i: ∀x,(cellsFrom (s.heap.objs.size+1) scope.names g).lookup x=((cellsFrom (s.heap.objs.size+1) scope.names []).lookup x).or (g.lookup x):=λx=>by rw[kX,List.lookup_append]
 have f: ∀x c,(cellsFrom (s.heap.objs.size+1) scope.names g).lookup x=some c->(g.lookup x=some c/\(cellsFrom (s.heap.objs.size+1) scope.names []).lookup x=none)\/(x,c)∈cellsFrom (s.heap.objs.size+1) scope.names []:=λx c h=>by
  rw[i] at h
  cases q:(cellsFrom (s.heap.objs.size+1) scope.names []).lookup x with
  |none=>rw[q] at h;exact .inl ⟨h,rfl⟩
  |some d=>rw[q] at h;cases h;exact .inr (og q)
 have lo: ∀{x:Str} {c:gw},(x,c)∈cellsFrom (s.heap.objs.size+1) scope.names []->s.heap.objs.size<c:=λ{x c} h=>(ok.empty x c h).2;refine gy (gK (gK (C _ _ ((Heap.Ns.new s.heap (.type "dict")).keeps (pushCells_keeps _ _)) (λb o e=>pushCells_keeps _ _ b o (jd _ e)) ⟨λx c h=>?_,λx h=>?_,λx y c m h1 B u=>?_,λx c h=>?_⟩)))
 ·rcases f x c h with⟨z,H⟩|z
  ·refine .inl ⟨n x c z,λe=>?_⟩;have:=Al scope.names (s.heap.objs.size+1) [] (.inl e);rw[H] at this;cases this
  ·exact .inr ⟨lo z,v _ (nW _ _ z) rfl,(ok.empty x c z).1⟩
 ·rcases h with h|h
  ·obtain⟨c,m⟩:=I x h;rw[i,m];cases(cellsFrom (s.heap.objs.size+1) scope.names []).lookup x<;>exact⟨_,rfl⟩
  ·have:=Al scope.names (s.heap.objs.size+1) g (.inl (v _ h rfl));exact Hd.mp this
 ·rcases f x c h1 with⟨z,_⟩|z
  ·exact absurd (u x c (n x c z)) (DJ m)
  ·rcases f y c B with⟨r,_⟩|r
   ·exact absurd (u y c (n y c r)) (DJ m)
   ·exact name_of_addr ok.apart z r
 ·rcases f x c h with⟨z,_⟩|z
  ·exact .inl (n x c z)
  ·exact .inr (lo z)
noncomputable def Cx.comp(X:Cx)(d:hG)(scope:iG)(e:jL)(C:gw)(g:gA)(c:Hp)(f:jx)(a:ig):Cx:=
 {X with N:=d,s₀:=g,H₀:=c,env:=compEnvC scope e C X.env,outer:=X.stack,stack:=X.stack,ex:=f,fn:=λx=>scope.names.lookup x==some .cell,pn:=X.pn++a,xe:=λ_ _=>False}
abbrev TB:=St->Hp->(St->Hp->Prop)->Prop
def PB(X:Cx)(code:Sem Unit)(t:TB):Prop:=
 ∀(a:ig) (s:gA) (d:St) (H:Hp) (N:St->Hp->Prop),Inv X a d H s->t d H N->
  wpAny (model X.prog X.w) X.A code (λ_ e=> ∃b c,Inv X a b c e/\N b c) X.xe s
def PIf(X:Cx)(b:jh)(t:TT):Prop:=
 ∀(a:ig) (s:gA) (d:St) (H:Hp) (Q:Bool->Hp->Prop),Inv X a d H s->t d H Q->
  wpAny (model X.prog X.w) X.A (forIn b true λc r=>if r=true then do let ok <-isTrue c X.env (eval c X.env);pure (ForInStep.yield ok) else pure (ForInStep.yield r)) (TP X a d Q) X.xe s
noncomputable def Qv:TT:=λ_ H Q=>Q true H
section
variable {X:Cx}
def L8:PIf X [] Qv:=λa s b H Q I h=>wpAny_tests_nil ⟨H,I,h⟩
def L7{c:gG}{t:TT}(h:PT X c t):PIf X [c] t:=λa s d H Q I b=>wpAny_tests_one (h a s d H Q I b)
noncomputable def jQ(e:gG)(depth:Nat)(acc:gD)(a:Env):Sem Unit:=
 match(clausesOf e)[depth+1]? with
 |some c=>do
  let x <-eval c.iter a
  standAt c.iter.pos
  let x <-foldedSetIterable c.iter a x
  let _ <-runOwn (.compStart e (depth+1) (<-holding [x] (pyIter x)) acc a) a
 |none=>match e with
  | .ListComp b _ _ _=>do let _ <-call (.builtin "list.append") [acc,<-eval b a]
  | .SetComp b _ _ _=>do let v <-eval b a;standAt b.pos;let _ <-call (.builtin "set.add") [acc,v]
  |_=>unsupported "no"
def Ir(J:It)(g:TG)(l:TT)(tb:TB):TB:=λd H N=> ∃W:Nat->Nat->St->Hp->Prop,(∃m,W 0 m d H)/\ ∀i m d H,W i m d H->
 (J.stop i H/\N d H)\/(J.go i H/\ ∀x f,J.yld i H x f->g x d f λa j=>l a j λb h=>if b=true then tb a h λe k=> ∃c,c<m/\W (i+1) c e k else ∃c,c<m/\W (i+1) c a h)
theorem Bf(e:gG)(depth:Nat)(k f:gD)(b:Env)(g:qC)(q:(∃d a i p,e= .ListComp d a i p)\/(∃d a i p,e= .SetComp d a i p))
  (j:(clausesOf e)[depth]?=some g)(o:g.is_async=0)(l: ∀h,(clausesOf e)[depth+1]?=some h->h.is_async=0):
  compTurn e depth k f b=(do
   standAt g.iter.pos
   match <-pyNext k with
   |none=>pure (.done .next)
   |some v=>
    letOwnedTupleGo g.target k v
    assign g.target b v
    let ok <-forIn g.ifs true λc r=>if r=true then do let ok <-isTrue c b (eval c b);pure (ForInStep.yield ok) else pure (ForInStep.yield r)
    if ok=true then jQ e depth f b
    again (.compLoop e depth k f b)):=by
 rcases q with⟨d,a,i,p,rfl⟩|⟨d,a,i,p,rfl⟩
 ·have m:a[depth]?=some g:=j;unfold compTurn jQ;simp only[clausesOf] at j l ⊢;rw[m];simp only[o]
  cases n:a[depth+1]? with
  |none=>rfl
  |some h=>
   have:=l h n;simp only[this,sj,iB,iK]
   congr 1;funext _;congr 1;funext r
   cases r with
   |none=>rfl
   |some v=>
    dsimp only
    congr 1;funext _;congr 1;funext _;congr 1;funext ok
    cases ok with
    |false=>rfl
    |true=>simp only[jy,uZ];rfl
 ·have m:a[depth]?=some g:=j;unfold compTurn jQ;simp only[clausesOf] at j l ⊢;rw[m];simp only[o]
  cases n:a[depth+1]? with
  |none=>rfl
  |some h=>
   have:=l h n;simp only[this,sj,iB,iK]
   congr 1;funext _;congr 1;funext r
   cases r with
   |none=>rfl
   |some v=>
    dsimp only
    congr 1;funext _;congr 1;funext _;congr 1;funext ok
    cases ok with
    |false=>rfl
    |true=>simp only[jy,uZ];rfl
def Ky 
  (d:(∃b a c p,e= .ListComp b a c p)\/(∃b a c p,e= .SetComp b a c p))
  (h:wpAny (model prog w) A ((compTurn e depth it acc env).onRaise (λx=>do noteFrame x env;theTreesLotGoes x)) Q E s):
  wpAny (model prog w) (A.under (.compLoop e depth it acc env)) ((model prog w).den (.compLoop e depth it acc env)) Q E s:=by
 rcases d with⟨b,a,c,p,rfl⟩|⟨b,a,c,p,rfl⟩
 ·exact h
 ·exact h
def Mv{e:gG}{depth:Nat}{acc:gD}{c:qC}{g:TG}{ti:TT}{tb:TB}{J:It}{y:jx}{it:gw}{tn:Nat->Heap->Prop}(de:X.xe=λ_ _=>False)(hc:X.calm=true)
  (hl:(∃B k sc p,e= .ListComp B k sc p)\/(∃B k sc p,e= .SetComp B k sc p))(hg:(clausesOf e)[depth]?=some c)(ha:c.is_async=0)(o7: ∀g',(clausesOf e)[depth+1]?=some g'->g'.is_async=0)
  (T:Turn X.prog X.w X.K c.target J y it tn)(pg:PG X c.target g)(eX:PIf X c.ifs ti)(pb:PB X (jQ e depth acc X.env) tb)
  {a:ig}{s:gA}{σ:St}{H:Hp}{N:St->Hp->Prop}(I:Inv X a σ H s)(f2: ∀b∈y,qf X a H b)(st:tn 0 s.heap)(h:Ir J g ti tb σ H N):
  codeAny (model X.prog X.w) X.A (.compLoop e depth (.ref it) acc X.env) (λr s'=>r= .ok .next/\ ∃f j,Inv X a f j s'/\(∀b∈y,j b=none)/\N f j) s:=by
 obtain⟨W,⟨m0,w0⟩,M⟩:=h;have P: ∀{j:Hp},(∀b∈y,j b=none)-> ∀b∈y,qf X a j b:=λhn b v=>⟨hn b v,(f2 b v).2⟩
 have D: ∀{Z:Type} {t:Sem Z} {Q:Z->Shared->Prop} {E:ip} {s:gA},wpAny (model X.prog X.w) X.A t Q X.xe s->wpAny (model X.prog X.w) X.A t Q E s:=λh=>mO h (λ_ _ x=>x) λ_ _ z=>by rw[de] at z;exact z.elim
 refine codeAny_loop rfl (λn s'=> ∃i f j,Inv X a f j s'/\tn i s'.heap/\(∀b∈y,j b=none)/\W i n f j) (λn V hI=>?_) m0 ⟨0,σ,H,I,st,λb v=>(f2 b v).1,w0⟩;refine Ky hl ?_;refine wpAny_noted ?_;rw[Bf e depth (.ref it) acc X.env c hl hg ha o7];obtain⟨i,l,U,R,S,F,w3⟩:=hI;refine gy (Aq ?_);rcases M i n l U w3 with⟨stop,qn⟩|⟨go,step⟩
 ·refine gy (thn (T.done X rfl rfl rfl hc i a V l U _ R (P F) S stop) λr s4 ⟨hr,I4⟩=>?_);subst hr;exact gK ⟨rfl,l,U,I4,F,qn⟩
 ·refine gy (thn (T.item X rfl rfl rfl hc i a V l U _ R (P F) S go) λr s4 ⟨u,hr,h4⟩=>?_);subst hr;refine gy (thn h4 λ_ s5 ⟨x,H5,I5,r5,y5,bL,gf⟩=>?_);have gr:=I5.pinned (P gf) (T.obj _ _ bL);refine gy (thn (D (pg _ s5 l H5 x u _ gr r5 (step x H5 y5))) λ_ s6 ⟨O,H6,I6,q6⟩=>?_);refine gy (thn (D (eX _ s6 O H6 _ I6 q6)) λok s7 ⟨H7,I7,q7⟩=>?_)
  have again: ∀{L:gA} {q:St} {C:Hp},Inv X (a++wW y s5.heap) q C L->(∃Y,Y<n/\W (i+1) Y q C)-> ∃m,m<n/\ ∃i f j,Inv X a f j L/\tn i L.heap/\(∀b∈y,j b=none)/\W i m f j:=λ{L q C} G ⟨Y,hm,w8⟩=>by
   refine⟨Y,hm,i+1,q,C,G.unpinned,T.keep _ _ _ bL λb v o e=>(G.pin (b,o) (oh _ (oh _ (oM v e)))).1,λb v=>?_,w8⟩;obtain⟨o,e,d⟩:=T.obj _ _ bL b v;exact(G.pin (b,o) (oh _ (oh _ (oM v e)))).2.1
  cases ok with
  |false=>
   rw[gZ jA] at q7;exact gK ⟨rfl,again I7 q7⟩
  |true=>
   rw[gO rfl] at q7;simp only[jy];refine gy (thn (D (pb _ s7 O H7 _ I7 q7)) λ_ L ⟨q,C,G,q8⟩=>?_);exact gK ⟨rfl,again G q8⟩
def QD(d:gw)(e:TE):TB:=λc H N=>e c H λy b=> ∃a,b d=some (.lst a)/\a.length<sizeLine/\N c (upd b d (.lst (a++[y])))
def Md{b:gG}{a:qD}{i:iG}{p:Pos}{depth:Nat}{d:gw}{j:TE}(o:a[depth+1]?=none)(m:PE X b j):PB X (jQ (.ListComp b a i p) depth (.ref d) X.env) (QD d j):=by
 intro c s k H N I h
 have l:jQ (.ListComp b a i p) depth (.ref d) X.env=(do let _ <-call (.builtin "list.append") [.ref d,<-eval b X.env]):=by
  unfold jQ;simp only[clausesOf];rw[o]
 rw[l];refine gy (thn (m c s k H _ I h) λu s1 ⟨y,v,f,t,A,hd,x,q⟩=>?_);obtain⟨z,g,n,r,w,e⟩:=f.lstM hd;refine gy (Ah F.slot_list_append ⟨_,e,rfl⟩ HK (HJ _ _) (PySem.list_append d g.toArray n u (by rw[iE];omega)) ⟨e,?_⟩);refine gK ⟨k,_,f.lset (its':=g++[u]) hd e (by simp) (r.append (.cons t .nil)) ?_,q⟩;rw[mx,wx];omega
def Iz{b:gY}{w:gP}{A:gS}{e:gG}{depth:Nat}{i acc:gD}{d:Env}{R:Result->Shared->Prop}{s:gA}{c:qC}
  (r:(∃g a j p,e= .ListComp g a j p)\/(∃g a j p,e= .SetComp g a j p))(q:(clausesOf e)[depth]?=some c)(o:c.is_async=0)
  (m:codeAny (model b w) A (.compLoop e depth i acc d) R s)
  (k: ∀(Q:ip) (E:ip),Q i s->wpAny (model b w) A (pyIter i) Q E s):
  codeAny (model b w) A (.compStart e depth i acc d) R s:=by
 have h:wpAny (model b w) A (compStart e depth i acc d) (λfin l=>match fin with| .done f=>R (.ok f) l| .again n=>n.quiet=true/\codeAny (model b w) A n R l) (notedBy (model b w) A d λx l=>R (.error x) l) s:=by
  unfold compStart;rw[q];simp only[Option.elim,o,sj,iB,iK];refine gy (uz (wpAny_ite ?_));split
  ·first
    |exact gy (gK (gK (And.intro rfl m)))
    |exact gK (And.intro rfl m)
  ·exact gy (uY (gy (Aq (gy (k _ _ (gK (And.intro rfl m)))))))
 rcases r with⟨g,a,j,p,rfl⟩|⟨g,a,j,p,rfl⟩
 ·refine wu ?_;show wpAny _ A ((compStart (.ListComp g a j p) depth i acc d).onRaise (λx=>do noteFrame x d;standAt theWindowsPlace)) _ _ s;exact wpAny_notedAt h
 ·refine wu ?_;show wpAny _ A ((compStart (.SetComp g a j p) depth i acc d).onRaise (λx=>do noteFrame x d;standAt theWindowsPlace)) _ _ s;exact wpAny_notedAt h
end
theorem mC{a:Env}: ∀{names:List (Str×NameKind)} {x:Str},names.lookup x=some .free->
  (names.map λ(n,k)=>if(k==NameKind.free&&a.scope.kind== .function&&a.kindOf n==some .cell) then(n,NameKind.cell) else(n,k)).lookup x=some .cell\/
  (names.map λ(n,k)=>if(k==NameKind.free&&a.scope.kind== .function&&a.kindOf n==some .cell) then(n,NameKind.cell) else(n,k)).lookup x=some .free
 |[],_,h=>by simp at h
 |(n,k)::r,x,h=>by
  have d:= @mC a r x;rw[iT]
  cases b:x==n with
  |true=>
   simp only[mw,b] at h;cases h;by_cases c:(NameKind.free==NameKind.free&&a.scope.kind== .function&&a.kindOf n==some .cell)=true
   ·left;simp only[c,jy,mw,b]
   ·right;simp only[c,iK,mw,b,iB]
  |false=>
   simp only[mw,b] at h;by_cases c:(k==NameKind.free&&a.scope.kind== .function&&a.kindOf n==some .cell)=true
   ·simp only[c,jy,mw,b];exact d h
   ·simp only[c,iK,mw,b,iB];exact d h
theorem jU{a:Env}: ∀{names:List (Str×NameKind)} {x:Str} {f:NameKind},
  (names.map λ(n,k)=>if(k==NameKind.free&&a.scope.kind== .function&&a.kindOf n==some .cell) then(n,NameKind.cell) else(n,k)).lookup x=some f-> ∃k,(x,k)∈names/\(k=f\/k= .free)
 |[],_,_,h=>by simp at h
 |(n,k)::r,x,f,h=>by
  rw[iT] at h
  cases c:x==n with
  |true=>
   have e:=qJ c;subst e;by_cases b:(k==NameKind.free&&a.scope.kind== .function&&a.kindOf x==some .cell)=true
   ·refine⟨k,ja,.inr ?_⟩
    have h1:(k==NameKind.free)=true:=by
     cases hk:(k==NameKind.free) with
     |true=>rfl
     |false=>rw[hk] at b;simp at b
    exact qJ h1
   ·simp only[b,iK,mw,c,iB] at h;exact⟨k,ja,.inl (by simpa using h)⟩
  |false=>
   by_cases b:(k==NameKind.free&&a.scope.kind== .function&&a.kindOf n==some .cell)=true
   ·simp only[b,jy,mw,c] at h;obtain⟨g,h1,d⟩:=jU h;exact⟨g,iZ _ h1,d⟩
   ·simp only[b,iK,mw,c,iB] at h;obtain⟨g,h1,d⟩:=jU h;exact⟨g,iZ _ h1,d⟩
structure CompScope(X:Cx)(N':hG)(scope:iG)(pre:St->St):Prop where
 cell: ∀y∈scope.names,y.2= .cell->scope.names.lookup y.1=some .cell
 kind:scope.kind= .function
 names: ∀y∈scope.names,y.2= .local->scope.names.lookup y.1=some .local
 free: ∀y∈scope.names,y.2= .free->X.env.scope.names.lookup y.1=some .cell\/X.env.scope.names.lookup y.1=some .free
 len: ∀σ:St,(pre σ).length=N'.length
 pre: ∀(σ:St) (i:Nat) (v:V) (x:Str),(pre σ)[i]?=some (some v)->N'[i]?=some x->scope.names.lookup x=some .free/\ ∃j:Nat,X.N[j]?=some x/\σ[j]?=some (some v)
section
variable {X:Cx}
def MM{J:hG}{scope:iG}{pre:St->St}(S:CompScope X J scope pre){d:ig}{f:gA}{H:St}{t:Hp}{E:jx}{M:jL}{G:gR}{t':Nat}(I:Inv X d H t f)
  (B:BCls X.env.cells scope f.heap.objs.size G M)
  (C: ∀b∈E,qf X d t b)(N: ∀b∈E,b<f.heap.objs.size)
  (T:G.Ns f.heap.objs.size (λ_=>none))(hk: ∀b o,f.heap.get? b=some o->G.get? b=some o):
  Inv (X.comp J scope M f.heap.objs.size f t E d) [] (pre H) t {f with heap:=G,toks:=t'}:=by
 have K: ∀b∈frs X.stack,t b=none:=I.stkFree;have w: ∀b,b≠X.env.locals->b∉X.fs->b∉frs X.stack:=λb h1 a z=>(js.mp (I.stkSub b z)).elim h1 a;have A: ∀x c,X.env.cells.lookup x=some c->c<f.heap.objs.size:=λx c e=>(I.cell x c e).elim λ_ z=>z.lt
 refine⟨⟨I.ok.mod,?_,I.ok.glob,I.ok.blt,iR _,λx y c h1 a=>?_,λx h=>?_,λx c q e=>?_,I.ok.hd,I.ok.frames,.inl rfl,λb g=>?_,
  I.bs,mQ I.ok.bsz I.sz,λb o e g=>?_,λb g=>w b (C b g).2.1 (C b g).2.2.1,I.stack,K⟩,rfl,I.bare,Un.kept hk,⟨_,T,λi x v h1 a O=>?_⟩,λx c h=>?_,I.hok.fresh (iR _),λx c h=>?_,λp W=>?_,I.hok.kept hk,S.len H⟩
 ·show(relabel scope X.env).kind= .function;simp[relabel,S.kind]
 ·rcases B.ex x c h1 with z|z
  ·rcases B.ex y c a with s|s
   ·exact I.ok.inj x y c z s
   ·exact absurd (A x c z) (DJ s)
  ·exact B.inj x y c z h1 a A
 ·
  have F:(relabel scope X.env).names.lookup x=some .cell\/(relabel scope X.env).names.lookup x=some .free:=h;refine B.all x ?_;rcases F with z|z
  ·obtain⟨k,h1,a⟩:=jU z;rcases a with a|a<;>subst a
   ·exact .inr h1
   ·exact .inl h1
  ·obtain⟨k,h1,a⟩:=jU z;rcases a with a|a<;>(subst a;exact .inl h1)
 ·rcases B.one x c e with⟨_,z⟩|⟨z,_⟩
  ·exact absurd (qJ q) z
  ·exact vb z
 ·refine⟨iC (N b g),λx c h=>?_⟩;rcases B.ex x c h with z|z
  ·exact(C b g).2.2.2.2.1 x c z
  ·exact nD (Ag (N b g) z)
 ·
  have l5:b∈E:=g;rcases(C b l5).2.2.2.1 with z|z
  ·exact I.ok.noex b o e z
  ·exact absurd (lG (iV e) (mQ I.ok.bsz z)) (oi _)
 ·obtain⟨q,j,R,hv⟩:=S.pre H i v x a h1;obtain⟨m,hn,V⟩:=I.loc;have Q:=S.free (x,.free) (og q) rfl;obtain⟨u,r,l⟩:=V j x v R hv (by rcases Q with z|z;exact .inr (.inl z);exact .inr (.inr z));refine⟨u,r,.inr ⟨mC q,?_⟩⟩;rcases l with⟨dv,_⟩|⟨_,c,P,Z⟩
  ·have Y:X.env.scope.names.lookup x=some .local:=dv;rcases Q with z|z<;>(have s:X.env.scope.names.lookup x=_:=z;rw[Y] at s;cases s)
  ·obtain⟨D,L⟩:=B.all x (.inl (og q));rcases B.one x D L with⟨this,_⟩|⟨_,z,_⟩
   ·rw[P] at this;cases this;exact⟨c,L,Z.keeps hk⟩
   ·rw[q] at z;cases z
 ·rcases B.one x c h with⟨z,_⟩|⟨_,_,z⟩
  ·obtain⟨v,hv⟩:=I.cell x c z;exact⟨v,hv.keeps hk⟩
  ·exact⟨_,z⟩
 ·rcases B.ex x c h with z|z
  ·exact I.freeC x c z
  ·exact I.hok.fresh (vb z)
 ·have U:p∈X.pn++d:=by simpa[Cx.comp] using W
  obtain⟨e,n,h1,a,O⟩:=I.pin p U;exact⟨hk _ _ e,n,iC (iV e),w _ h1 a,O⟩
def CY{q:hG}{scope:iG}{a:ig}{f g:gA}{n k:St}{i l:Hp}{j:jx}{r:jL}{m:gR}(I:Inv X a n i f)(h: ∀b∈j,qf X a i b)
  (J:Inv (X.comp q scope r f.heap.objs.size f i j a) [] k l g)(u:Heap.SameBut f.heap.objs.size g.heap m):Inv X a n l {g with heap:=m}:=by
 have K:=I.call' (s':=g) (ch:=j) J.os J.base J.hok J.bare λb d=>⟨(h b d).2.2.2.1,(h b d).2.1,(h b d).2.2.2.2.1,(h b d).2.2.2.2.2⟩
 have s:X.env.locals<f.heap.objs.size:=I.lt;refine K.turned (it:=f.heap.objs.size) (t':=g.toks) (λb o d e=>by rw[u.2 b d];exact e) J.free (nD s) (.inr I.sz) (λx c w z=>?_) (λp t z=>?_)
 ·obtain⟨v,o,e,_⟩:=I.cell x c w;exact absurd (iV e) (by rw[z];exact oi _)
 ·obtain⟨e,_⟩:=I.pin p t;exact absurd (iV e) (by rw[z];exact oi _)
def Iw(o:HO)(J:It)(g:TG)(b:TT)(tb:Addr->TB)(pre:St->St)(c:St)(H:Hp)(Q:VK):Prop:=
 ∀d,H d=none->Ir J g b (tb d) (pre c) (upd H d o) λ_ a=>Q (.ref d) a
def SA(J:It)(g:TG)(a:TT)(tb:Addr->TB)(pre:St->St)(b:St)(H:Hp)(Q:VK):Prop:=Iw (.lst []) J g a tb pre b H Q
def zm{e:gG}{o:HO}{l:Obj}{c:qC}{iq:qD}{scope:iG}{v:hG}{pre:St->St}{g:TG}{ti:TT}{tb:Addr->TB}{O:jL}{J:It}{i:jx}{it:gw}{tn:Nat->Heap->Prop}
  (hl:(∃U k sc p,e= .ListComp U k sc p)\/ ∃U k sc p,e= .SetComp U k sc p)(hg:clausesOf e=c::iq)
  (S:CompScope X v scope pre)(hc:X.calm=true)(ha:c.is_async=0)(o7: ∀I,iq[0]?=some I->I.is_async=0)
  (x9: ∀(s:jL) (C:gw) (t:gA) (u:Hp) (i:jx) (a:ig),let H:=X.comp v scope s C t u i a
   PG H c.target g/\PIf H c.ifs ti/\ ∀d,PB H (jQ e 0 (.ref d) H.env) (tb d))
  (j2: ∀x c,O.lookup x=some c->X.env.cells.lookup x=some c)(j3: ∀x,(x,NameKind.free)∈scope.names-> ∃c,O.lookup x=some c)
  {a:ig}{f:gA}{L:St}{m:Hp}{Q:VK}{E:ip}{RR:Value->Addr->Result->Shared->Prop}(I2:Inv X a L m f)(T:Turn X.prog X.w X.K c.target J i it tn)(bC:tn 0 f.heap)(f2: ∀b∈i,qf X a m b)
  (N:Inv X a L (upd m f.heap.objs.size o) {f with heap:=f.heap.push l})
  (h:Iw o J g ti tb pre L m Q)
  (hRR: ∀(d:gw) (s:jL) (t:gA) (u M:Hp) (σ':St) (s4:gA),Inv X a L u t->(∀b∈i,qf X a u b)->Inv (X.comp v scope s t.heap.objs.size t u i a) [] σ' M s4->Q (.ref d) M->RR (.ref d) t.heap.objs.size (.ok .next) s4):
  wpAny (model X.prog X.w) X.A (newFunctionEnv scope X.env.globals O [] X.env.qual none .none (some X.env)) (λn G=>
   codeAny (model X.prog X.w) X.A (.compStart e 0 (.ref it) (.ref f.heap.objs.size) {n with scope:=relabel scope X.env}) (RR (.ref f.heap.objs.size) n.locals) G) E {f with heap:=f.heap.push l}:=by
 have R: ∀b∈i,b<f.heap.objs.size:=λb j=>by obtain⟨o,e,_⟩:=T.obj _ _ bC b j;exact iV e
 have D: ∀b∈i,qf X a (upd m f.heap.objs.size o) b:=λb j=>⟨by rw[hU (iC (R b j))];exact(f2 b j).1,(f2 b j).2⟩
 refine Mr S.cell j2 j3 λh1 s aR P B=>?_;have hk: ∀b o,(f.heap.push l).get? b=some o->h1.get? b=some o:=P;have Y: ∀b∈i,b<(f.heap.push l).objs.size:=λb j=>by rw[oV];exact pL (R b j)
 have J0:=MM (t':=f.toks) S N B D Y aR hk;obtain⟨pg,eX,pb⟩:=x9 s (f.heap.push l).objs.size {f with heap:=f.heap.push l} (upd m f.heap.objs.size o) i a;have y:tn 0 h1:=T.keep _ _ _ bC λb j o e=>hk b o (jd _ e);have hw:=h f.heap.objs.size (I2.hok.fresh (iR _))
 have F: ∀b∈i,qf (X.comp v scope s (f.heap.push l).objs.size {f with heap:=f.heap.push l} (upd m f.heap.objs.size o) i a) []
   (upd m f.heap.objs.size o) b:=λb j=>by
  obtain⟨z1,z2,z3,z4,z5,z6⟩:=D b j;refine⟨z1,iC (Y b j),λz=>(js.mp (N.stkSub b z)).elim z2 z3,.inl j,λx c hx=>(B.ex x c hx).elim (z5 x c) λz=>nD (Ag (Y b j) z),λp hp=>z6 p (by simpa[Cx.comp] using hp)⟩
 have V:(clausesOf e)[0]?=some c:=by rw[hg];rfl
 refine Iz hl V ha ?_ (λQ' Z hq=>T.self X.A 0 _ Q' Z y hq)
 refine sD (Mv (X:=X.comp v scope s (f.heap.push l).objs.size {f with heap:=f.heap.push l} (upd m f.heap.objs.size o) i a)
  (depth:=0) (acc:= .ref f.heap.objs.size) rfl hc hl V ha (λI W=>o7 I (by rw[hg] at W;exact W)) T pg eX (pb _) J0 F y hw) λr s4 hr=>?_
 obtain⟨rfl,σ4,M,I4,_,q⟩:=hr;exact hRR _ _ _ _ _ _ _ N D I4 q
noncomputable def Iu(d:TI)(g:TG)(c:TT)(tb:Addr->TB)(pre:St->St):TE:=λa H Q=>d a H λJ b=>SA J g c tb pre a b Q
def Jv{b:gG}{c:qC}{iq:qD}{scope:iG}{e:Pos}{o:hG}{pre:St->St}{z:TI}{g:TG}{ti:TT}{tb:Addr->TB}
  (S:CompScope X o scope pre)(hc:X.calm=true)(ha:c.is_async=0)(o7: ∀u,iq[0]?=some u->u.is_async=0)
  (hs: ∀x,foldedSetIterable c.iter X.env x=pure x)(pi:PI X c.target c.iter z)
  (x9: ∀(r:jL) (C:gw) (y:gA) (k:Hp) (t:jx) (a:ig),let f:=X.comp o scope r C y k t a
   PG f c.target g/\PIf f c.ifs ti/\ ∀d,PB f (jQ (.ListComp b (c::iq) scope e) 0 (.ref d) f.env) (tb d)):
  PE X (.ListComp b (c::iq) scope e) (Iu z g ti tb pre):=by
 intro a s B H Q I h;obtain⟨tg,p,j,L⟩:=c;obtain rfl:L=0:=ha;obtain⟨r,W,R,V⟩:=rT X.env scope λx P D=>I.ok.has x.1 (S.free x P D);rw[eval_ListComp];show wpAny _ X.A (comprehension _ scope X.env _ (newList []) false (eval p X.env)) _ _ s;refine HI (use:=none) (g:=⟨tg,p,j,0⟩) (gs:=iq) rfl hs W S.kind S.names (thn (pi a s B H _ I h) λv s1 h1=>thn h1 λdY Z Y=>?_);obtain⟨it,t,tn,J,H2,rfl,l,T,M,f2,K⟩:=Y;refine lD (zm (RR:=λi C=>compPost (model X.prog X.w) X.A X.xe none (EP X a B Q) i C) (.inl ⟨_,_,_,_,rfl⟩) rfl S hc rfl o7 x9 R V l T M f2 (l.lnew (t':=Z.toks) .nil (by simp)) K λd O y k E σ' s4 G U n q=>?_);obtain⟨m,F,_⟩:=id n.loc;exact⟨m,F,λh' N=>⟨.ref d,E,CY G U n N,rfl,q⟩⟩
def Jg{f:gG}{c:qC}{iq:qD}{scope:iG}{j f9 k:Pos}{N':hG}{pre:St->St}{wi:TI}{g:TG}{ti:TT}{tb:Addr->TB}{y:Str}{i:Nat}
  (bg:swapsWith (.ListComp f (c::iq) scope j) (some (.Name y k)) f9.line X.env=pure true)
  (S:CompScope X N' scope pre)(hc:X.calm=true)(ha:c.is_async=0)(o7: ∀g',iq[0]?=some g'->g'.is_async=0)
  (hs: ∀x,foldedSetIterable c.iter X.env x=pure x)(pi:PI X c.target c.iter wi)(eV:PG X (.Name y k) (CF i))
  (x9: ∀(cl:jL) (C:gw) (l:gA) (H3:Hp) (fp:jx) (a:ig),let u:=X.comp N' scope cl C l H3 fp a
   PG u c.target g/\PIf u c.ifs ti/\ ∀d,PB u (jQ (.ListComp f (c::iq) scope j) 0 (.ref d) u.env) (tb d)):
  PS X (.Assign [.Name y k] (.ListComp f (c::iq) scope j) f9) (NV (Iu wi g ti tb pre) (CF i)):=by
 intro a s E H D I h;obtain⟨W,N,t,az⟩:=c;obtain rfl:az=0:=ha;obtain⟨cl,l8,j2,j3⟩:=rT X.env scope λx Y hf=>I.ok.has x.1 (S.free x Y hf);rw[exec_Assign_Name_used _ _ _ _ bg];refine gy (Aq (gy ?_));show wpAny _ X.A (do let _ <-comprehension (.ListComp f (⟨W,N,t,0⟩::iq) scope j) scope X.env _ (newList []) false (eval N X.env) (some (assign (.Name y k) X.env))) _ _ s
 refine gy (mO (HI (use:=some (assign (.Name y k) X.env)) (g:=⟨W,N,t,0⟩) (gs:=iq) (Q:=λ_ B=>SP X a D .next B) rfl hs l8 S.kind S.names
  (thn (pi a s E H _ I h) λv s1 h1=>thn h1 λdY s2 h2=>?_)) (λ_ B hq=>gK (gK hq)) λ_ _ e=>e)
 obtain⟨it,fp,tn,J,H2,rfl,P,T,bC,f2,hw⟩:=h2;refine lD (zm (RR:=λM C=>compPost (model X.prog X.w) X.A X.xe (some (assign (.Name y k) X.env)) (λ_ B=>SP X a D .next B) M C) (.inl ⟨_,_,_,_,rfl⟩) rfl S hc rfl o7 x9 j2 j3 P T bC f2 (P.lnew (t':=s2.toks) .nil (by simp)) hw λd cl' l H3 G σ' K n ff L q=>?_);obtain⟨m,hn,_⟩:=id L.loc;obtain⟨F,es,ep,ho,hd,hr⟩:=id hn;have R:Inv X a E G K:=CY n ff L (Af ..);have r:l.heap.objs.size≠X.env.locals:=nD n.lt;have O:l.heap.objs.size∉X.fs:=λz=>n.nofs (iR _) z
 have Z:Inv X (a++[(l.heap.objs.size,F)]) E G K:=R.pins_of λp U=>by
  rcases pE.mp U with z|z
  ·exact R.pin p (oh _ z)
  ·rcases Gd.mp z with rfl
   exact⟨ho,L.free,r,O,λv z=>by rw[hd] at z;cases z⟩
 show wpAny _ X.A (assign (.Name y k) X.env (.ref d)) _ _ _;refine thn (eV _ K E G (.ref d) (.ref d) _ Z rfl q) λ_ s5 ⟨σ5,H5,I5,q5⟩=>?_;have V:=I5.pin (l.heap.objs.size,F) (by simp);refine⟨m,⟨F,es,ep,V.1,hd,hr⟩,λh' bh=>⟨σ5,H5,?_,q5⟩⟩;refine I5.unpinned.turned (it:=l.heap.objs.size) (t':=s5.toks) (λb o hb e=>by rw[bh.2 b hb];exact e) V.2.1 r (.inr n.sz) (λx c Y z=>?_) (λp U z=>?_)
 ·obtain⟨v,o,e,_⟩:=n.cell x c Y;exact absurd (iV e) (by rw[z];exact oi _)
 ·obtain⟨e,_⟩:=n.pin p U;exact absurd (iV e) (by rw[z];exact oi _)
end
section
variable {κ:Type}[DecidableEq κ]
noncomputable def qA(a:List (κ×V))(k:κ):Option V:=(a.find? λb=>decide (b.1=k)).map (·.2)
noncomputable def pd(a:List (κ×V))(k:κ)(v:V):List (κ×V):=
 if(a.any λb=>decide (b.1=k))=true then a.map (λb=>if b.1=k then(b.1,v) else b) else a++[(k,v)]
theorem pN{p:κ×V}{r:List (κ×V)}{k:κ}(e:p.1=k):qA (p::r) k=some p.2:=by simp[qA,uy,e]
theorem mU{p:κ×V}{r:List (κ×V)}{k:κ}(e: ¬p.1=k):qA (p::r) k=qA r k:=by simp[qA,uy,e]
theorem BJ(k:κ): ∀a:List (κ×V),(a.any λb=>decide (b.1=k))=(qA a k).isSome
 |[]=>rfl
 |p::r=>by
  rw[pK];by_cases e:p.1=k
  ·simp only[pN e,oX e,Bool.true_or,Option.isSome_some]
  ·rw[mU e,lb e,Bool.false_or];exact BJ k r
theorem vz(a:List (κ×V))(k:κ)(v:V):(pd a k v).length<=a.length+1:=by
 unfold pd;split
 ·rw[jt];omega
 ·rw[mx,kO,qH];omega
theorem RelO.isSome_eq{o:Option V}{u:Option Value}(r:RelO o u):o.isSome=u.isSome:=by
 cases o with
 |none=>cases u with
  |none=>rfl
  |some _=>exact(show False from r).elim
 |some _=>cases u with
  |none=>exact(show False from r).elim
  |some _=>rfl
theorem KV.val{kvs:List (κ×V)}{vs:List (κ×Value)}(r:KV kvs vs)(k:κ):RelO (qA kvs k) (valueAt vs k):=by
 unfold KV at r
 induction r with
 |nil=>exact True.intro
 | @cons p q g c h t f=>
  obtain⟨h1,d⟩:=h;by_cases e:p.1=k
  ·have a:q.1=k:=h1.symm.trans e;have b:valueAt (q::c) k=some q.2:=by simp[valueAt,uy,a]
   rw[pN e,b];exact d
  ·have a: ¬q.1=k:=λz=>e (h1.trans z);have b:valueAt (q::c) k=valueAt c k:=by simp[valueAt,uy,a]
   rw[mU e,b];exact f
theorem KV.any{a:List (κ×V)}{vs:List (κ×Value)}(r:KV a vs)(k:κ):(a.any λb=>decide (b.1=k))=vs.any λb=>decide (b.1=k):=by
 unfold KV at r
 induction r with
 |nil=>rfl
 |cons h t c=>rw[pK,pK,c,h.1]
theorem KV.repl{b:List (κ×V)}{c:List (κ×Value)}(r:KV b c)(k:κ){y:V}{u:gD}(g:RelV y u):
  KV (b.map λa=>if a.1=k then(a.1,y) else a) (c.map λa=>if a.1=k then(a.1,u) else a):=by
 unfold KV at r ⊢
 induction r with
 |nil=>exact .nil
 | @cons p q i j h t f=>
  rw[iT,iT];refine .cons ?_ f;obtain⟨h1,d⟩:=h;by_cases e:p.1=k
  ·rw[gO e,gO (h1.symm.trans e)];exact⟨h1,g⟩
  ·rw[gZ e,gZ (λz=>e (h1.trans z))];exact⟨h1,d⟩
theorem KV.put{a:List (κ×V)}{b:List (κ×Value)}(r:KV a b)(k:κ){y:V}{u:gD}(c:RelV y u):KV (pd a k y) (stored b k u):=by
 unfold pd stored;rw[r.any k];by_cases e:(b.any λd=>decide (d.1=k))=true
 ·rw[gO e,gO e];exact r.repl k c
 ·rw[gZ e,gZ e];exact Paired.snoc r ⟨rfl,c⟩
theorem KV.length{a:List (κ×V)}{vs:List (κ×Value)}(r:KV a vs):a.length=vs.length:=Au r
end
def J7{P:gY}{w:gP}{k:Key}{u:gD}(r:RelV (kV k) u):(kx P w).is k u=true:=by
 cases k with
 |inl i=>obtain⟨t,e⟩:=(show ∃t,u=Value.int i t from r);subst e;exact Cm P w i t
 |inr x=>obtain⟨t,e⟩:=(show ∃t,u=Value.str x t from r);subst e;exact Ck P w x t
theorem za{P:gY}{w:gP}: ∀{a:List Key} {b:iF},Vals (a.map kV) b->ItemsAre (kx P w) a b
 |[],_,r=>by rw[pA] at r;cases r;exact .nil
 |k::a,_,r=>by
  rw[iT] at r
  cases r with
  |cons h t=>exact .cons (J7 h) (za t)
abbrev KT(H:Hp):List (List Key×V)->List (List Key×Addr×Value)->Prop:=Paired λp q=>p.1=q.1/\H q.2.1=some (.tup (p.1.map kV))/\RelV p.2 q.2.2
theorem KT.val{H:Hp}{kvs:List (List Key×V)}{d:List (List Key×Addr×Value)}(r:KT H kvs d)(k:List Key):RelO (qA kvs k) ((atKey d k).map (·.2)):=by
 induction r with
 |nil=>exact True.intro
 | @cons p q i c h t g=>
  obtain⟨h1,_,f⟩:=h;by_cases e:p.1=k
  ·have a:q.1=k:=h1.symm.trans e;have b:atKey (q::c) k=some q.2:=by simp[atKey,uy,a]
   rw[pN e,b];exact f
  ·have a: ¬q.1=k:=λz=>e (h1.trans z);have b:atKey (q::c) k=atKey c k:=by simp[atKey,uy,a]
   rw[mU e,b];exact g
def KT.repl{H:Hp}{a:List (List Key×V)}{d:List (List Key×Addr×Value)}(r:KT H a d)(k:List Key){y:V}{u:gD}(i:RelV y u):
  KT H (a.map λb=>if b.1=k then(b.1,y) else b) (d.map (putAt k u)):=by
 induction r with
 |nil=>exact .nil
 | @cons p q j l h t g=>
  rw[iT,iT];refine .cons ?_ g;obtain⟨h1,c,f⟩:=h;unfold putAt;by_cases e:p.1=k
  ·rw[gO e,gO (h1.symm.trans e)];exact⟨h1,c,i⟩
  ·rw[gZ e,gZ (λz=>e (h1.trans z))];exact⟨h1,c,f⟩
def KT.put{H:Hp}{a:List (List Key×V)}{c:List (List Key×Addr×Value)}(r:KT H a c)(k:List Key){b:gw}{y:V}{u:gD}(f:H b=some (.tup (k.map kV)))(d:RelV y u):
  KT H (pd a k y) (storedH c k b u):=by
 have e:(a.any λg=>decide (g.1=k))=(atKey c k).isSome:=by
  rw[BJ,(r.val k).isSome_eq,Option.isSome_map]
 unfold pd storedH;rw[e];by_cases q:(atKey c k).isSome=true
 ·rw[gO q,gO q];exact r.repl k d
 ·rw[gZ q,gZ q];exact Paired.snoc r ⟨rfl,f,d⟩
def KT.keeps{H c:Hp}{a:List (List Key×V)}{d:List (List Key×Addr×Value)}(r:KT H a d)(f: ∀b e,H b=some (.tup e)->c b=some (.tup e)):KT c a d:=
 Paired.mapP r λ_ _ z=>⟨z.1,f _ _ z.2.1,z.2.2⟩
section
variable {P:gY}{w:gP}{H:Hp}{h:gR}{a:gw}
def Nd{u:HO}(ok:HOk P w H h)(e:Rd H a u):ObjOk P w H h a u:=e.ok ok
def NC{b:List (Key×V)}(ok:HOk P w H h)(e:Rd H a (.dK b)):b.length<=sizeLine/\(a==sysModules)=false/\ ∃c,KV b c/\h.DictOf (kx P w) a c:=
 show ObjOk P w H h a (.dK b) from Nd ok e
def ND{b:List (Key×V)}(ok:HOk P w H h)(e:H a=some (.dK b)):b.length<=sizeLine/\(a==sysModules)=false/\ ∃c,KV b c/\h.DictOf (kx P w) a c:=NC ok (.inl e)
def Et{b:List Key}(ok:HOk P w H h)(e:H a=some (.tup (b.map kV))):(tupleKind (kx P w)).is h b a:=by
 obtain⟨_,c,r,o,h1,d,n,f⟩:=(show ObjOk P w H h a (.tup (b.map kV)) from ok a _ e)
 exact⟨o,c.toArray,n,h1,d,f,by simpa using za r⟩
def NB{b:List (List Key×V)}(ok:HOk P w H h)(e:Rd H a (.dT b)):b.length<=sizeLine/\(a==sysModules)=false/\
  ∃d,KT H b d/\h.DictOfH (tupleKind (kx P w)) a d:=by
 obtain⟨z,y,d,r,o,i,g,h1,j,k,n,s⟩:=(show ObjOk P w H h a (.dT b) from Nd ok e)
 refine⟨z,y,d,r,o,i,g,h1,j,k,n,λx c=>?_,s⟩
 have all: ∀{l:List (List Key×V)} {m:List (List Key×Addr×Value)},KT H l m-> ∀x∈m,(tupleKind (kx P w)).is h x.1 x.2.1:=by
  intro l m q
  induction q with
  |nil=>intro x c;exact nomatch c
  | @cons p q v A f t u=>
   intro x c;rcases js.mp c with e|c
   ·subst e;exact Et ok (by rw[<-f.1];exact f.2.1)
   ·exact u x c
 exact all r x c
def RG{b:List (List Key×V)}(ok:HOk P w H h)(e:H a=some (.dT b)):b.length<=sizeLine/\(a==sysModules)=false/\
  ∃c,KT H b c/\h.DictOfH (tupleKind (kx P w)) a c:=NB ok (.inl e)
end
def DGet(H:Hp)(a:gw)(y:V)(r:Option V):Prop:=
 (∃c k,Rd H a (.dK c)/\y=kV k/\r=qA c k)\/ ∃c k b,Rd H a (.dT c)/\y= .ref b/\H b=some (.tup (k.map kV))/\r=qA c k
def DPut(H:Hp)(a:gw)(y v:V)(c:Hp):Prop:=
 (∃kvs k,H a=some (.dK kvs)/\y=kV k/\kvs.length<sizeLine/\c=upd H a (.dK (pd kvs k v)))\/
 ∃kvs k b,H a=some (.dT kvs)/\y= .ref b/\H b=some (.tup (k.map kV))/\kvs.length<sizeLine/\c=upd H a (.dT (pd kvs k v))
theorem DGet.k{H:Hp}{a:gw}{kvs:List (Key×V)}{k:Key}(e:H a=some (.dK kvs)):DGet H a (kV k) (qA kvs k):= .inl ⟨kvs,k,.inl e,rfl,rfl⟩
theorem DGet.t{H:Hp}{a b:gw}{kvs:List (List Key×V)}{k:List Key}(e:H a=some (.dT kvs))(c:H b=some (.tup (k.map kV))):DGet H a (.ref b) (qA kvs k):= .inr ⟨kvs,k,b,.inl e,rfl,c,rfl⟩
theorem DPut.k{H:Hp}{a:gw}{kvs:List (Key×V)}{k:Key}{v:V}(e:H a=some (.dK kvs))(b:kvs.length<sizeLine):DPut H a (kV k) v (upd H a (.dK (pd kvs k v))):= .inl ⟨kvs,k,e,rfl,b,rfl⟩
theorem DPut.t{H:Hp}{a b:gw}{kvs:List (List Key×V)}{k:List Key}{v:V}(e:H a=some (.dT kvs))(c:H b=some (.tup (k.map kV)))(d:kvs.length<sizeLine):
  DPut H a (.ref b) v (upd H a (.dT (pd kvs k v))):= .inr ⟨kvs,k,b,e,rfl,c,d,rfl⟩
section
variable {X:Cx}{d:ig}{f:St}{H:Hp}{s:gA}{a:gw}{y v:V}{u r:gD}{o:Option V}{A:gS}{E:ip}
def Inv.big(I:Inv X d f H s):sysModules<s.heap.objs.size:=by
 have h:mainGlobals<s.heap.objs.size:=(I.mod.glob.keeps I.bk).lt;exact Ag (by decide) h
def zj{Q:ip}(J:A.units+1<cLine)(I:Inv X d f H s)(g:DGet H a y (some v))(t:RelV y u)(h: ∀i x,Inv X d f H x->RelV v i->Q i x):
  wpAny (model X.prog X.w) A (getItem (.ref a) u) Q E s:=by
 rcases g with⟨n,k,e,j,l⟩|⟨n,k,b,e,j,C,l⟩
 ·subst j;obtain⟨z,hd,L,c,dd⟩:=NC I.hok e;obtain⟨i,m,q⟩:=RelO.some_of (v:=v) (o:=valueAt L k) (by rw[l];exact c.val k);exact wpAny_getItem_of (J7 t) dd.mapOf m (h i _ (I.tok _) q)
 ·subst j;cases(show u=Value.ref b from t);obtain⟨z,hd,M,c,dd⟩:=NB I.hok e;obtain⟨i,m,q⟩:=RelO.some_of (v:=v) (o:=(atKey M k).map (·.2)) (by rw[l];exact c.val k);obtain⟨p,G,B⟩:=Option.map_eq_some_iff.mp m;refine wpAny_getItem_heap (tupleKind_room_in1 J) (Et I.hok C) dd G ?_;rw[B];exact h i _ (I.tok _) q
def wc{h':gR}{t':Nat}{c:HO}(I:Inv X d f H s)(j:Mut (H a))(i:Heap.SameBut a s.heap h')(h: ∃q,h'.get? a=some q)(new:ObjOk X.prog X.w (upd H a c) h' a c):
  Inv X d f (upd H a c) {s with heap:=h',toks:=t'}:=
 I.write (x:=a) (e:=a) j (.inl rfl) (λb q g z=>(i.2 b g).trans z) h new
def PY{P:gY}{w:gP}{h:Hp}{g:gR}{b:List (Key×V)}{e:List (Key×Value)}(z:b.length<=sizeLine)(hd:(a==sysModules)=false)(c:KV b e)(dd:g.DictOf (kx P w) a e):
  ObjOk P w h g a (.dK b):=⟨z,hd,e,c,dd⟩
def uV{G:Hp}{Q:Unit->Shared->Prop}(hu:A.units+1<cLine)(I:Inv X d f H s)(g:DPut H a y v G)(O:RelV y u)(N:RelV v r)(h: ∀T,Inv X d f G T->Q () T):
  wpAny (model X.prog X.w) A (setItem (.ref a) u r) Q E s:=by
 rcases g with⟨i,k,e,t,l,p⟩|⟨i,k,b,e,t,J,l,p⟩
 ·subst t p;obtain⟨z,hd,S,j,dd⟩:=ND I.hok e;have C:S.length<=sizeLine:=by rw[<-j.length];exact z
  have x:(pd i k v).length<=sizeLine:=by have:=vz i k v;omega
  refine wpAny_setItem_pairs (hsz:=C) (J7 O) dd λM m B=>h _ ?_;have R: ∃q,M.get? a=some q:=let⟨q,_,_,n,_⟩:=m;⟨q,n⟩
  exact wc I (by rw[e];exact True.intro) B R (PY x hd (j.put k N) m)
 ·subst t p;cases(show u=Value.ref b from O);obtain⟨z,hd,V,j,dd⟩:=RG I.hok e;have C:V.length<=sizeLine:=by rw[<-Au j];exact z
  have x:(pd i k v).length<=sizeLine:=by have:=vz i k v;omega
  refine wpAny_setItem_heap (hsz:=C) (tupleKind_room_in1 hu) (Et I.hok J) dd λM m B=>h _ ?_;obtain⟨q,Y,U,n,D,F,K,_,P⟩:=m;refine wc I (by rw[e];exact True.intro) B ⟨q,n⟩ ⟨x,hd,_,(j.put k J N).keeps λc W L=>?_,q,Y,U,n,D,F,K,P⟩;rw[hU (Nq L e (λz=>nomatch z))];exact L
end
def Kx{P:gY}{w:gP}{H:Hp}(h:gR)(a:sysModules<h.objs.size):ObjOk P w H (h.push {cls:= .type "dict",data:= .dict #[]}) h.objs.size (.dK []):=
 ⟨lj _,vI.mpr (lF (iC a)),[],.nil,Heap.DictOf.new h⟩
noncomputable def NU:TE:=λ_ H Q=> ∀p,H p=none->Q (.ref p) (upd H p (.dK []))
section
variable {X:Cx}{b:Pos}
def Jx:PE X (.Dict [] [] b) NU:=λc s d H Q I h=>
 wpAny_Dict_empty ⟨.ref s.heap.objs.size,_,I.laid (a:=s.heap.objs.size) (o:= .dK []) (t':=s.toks) (λ_ _ q=>jd _ q) (iR _) (Kx s.heap I.big),rfl,h _ (I.hok.fresh (iR _))⟩
end
end L2
namespace PX
open PySem PySem.Spec PyProof.Rows L2
inductive OK where
 |dct|set|fn(i:Nat)|exc(c:Nat)
 deriving DecidableEq
inductive D where
 |non|bl(b:Bool)|int(i:Int)|str(x:Str)|tup(l:List D)|lst(l:List D)|oth(k:OK)(ks vs:List D)
mutual
/-- the hash of ints and of tuples of such -/
noncomputable def D.hash:D->Int
 | .int i=>hashInt i
 | .tup l=>reduceHash (Builtin.Tuple.tupleHashOf (D.hashL l))
 |_=>0
noncomputable def D.hashL:List D->List Int
 |[]=>[]
 |d::l=>D.hash d::D.hashL l
end
noncomputable def jv:Key->D
 | .inl i=> .int i
 | .inr x=> .str x
def Ub(K:gW)(o:Obj)(C:Nat):Prop:=o.cls= .ref C/\(∀a:Addr,PySem.W.KitX K (.ref a) (.ref C) λh=>h.get? a=some o)/\ ∀n∈["int","bool","str","tuple","list","dict"],PySem.W.kitOne K (.ref C) (.type n)=some false
def OthB(K:gW)(h:Option HO)(k:OK)(a c:List D)(b:List V):Prop:=
 match k with
 | .dct=>(∃kvs:List (Key×V),h=some (.dK kvs)/\a=kvs.map (λp=>jv p.1)/\b=kvs.map (·.2))\/
   (∃kvs:List (List Key×V),h=some (.dT kvs)/\a=kvs.map (λp=> .tup (p.1.map jv))/\b=kvs.map (·.2))
 | .set=>a=[]/\ ∃d:List (Int×V),h=some (.stt d)/\d.Perm ((D.hashL c).zip b)
 | .exc C=>(a=[]/\c=[]/\b=[])/\ ∃o,h=some (.frz o (.own 0))/\Ub K o C
 |_=>False
def OthB.ex{K h k a vs us}(x:OthB K h k a vs us): ∃o,h=some o:=by
 cases k with
 |dct=>rcases x with⟨_,e,_⟩|⟨_,e,_⟩<;>exact⟨_,e⟩
 |set=>obtain⟨_,_,e,_⟩:=x;exact⟨_,e⟩
 |exc C=>obtain⟨_,_,e,_⟩:=x;exact⟨_,e⟩
 |_=>exact x.elim
def OthB.keep{K k a b us}(x:OthB K h k a b us)(c: ∀o,h=some o->h'=some o):OthB K h' k a b us:=by
 obtain⟨o,e⟩:=x.ex;rw[c o e,<-e];exact x
abbrev AP':=Addr->Prop
def KL(K:gW)(a:gw)(c:List V):Prop:= ∃(o:Obj) (b:lU) (n:Nat),K.lookup a=some o/\o.cls= .type "list"/\o.dict=none/\o.data= .seq b n/\b.size<=sizeLine/\Vals c b.toList
def SqTO(K:gW)(H:Hp)(O:AP')(a:gw)(b:List V):Prop:=H a=some (.tup b)/\ ¬O a
def SqLO(K:gW)(H:Hp)(O:AP')(a:gw)(b:List V):Prop:=(Rd H a (.lst b)/\ ¬O a)\/KL K a b
theorem SqTO.sq{K H O a xs}(h:SqTO K H O a xs):SqT K H a xs:= .inl (.inl h.1)
theorem SqLO.sq{K H O a xs}(h:SqLO K H O a xs):SqL K H a xs:=h.elim (λz=> .inl z.1) .inr
def Rd.mono{a u}(h:Rd H a u)(k: ∀o,H a=some o->b a=some o):Rd b a u:=by
 rcases h with h|⟨o,h⟩
 ·exact .inl (k _ h)
 ·exact .inr ⟨o,k _ h⟩
def SqTO.mono{K H c}{a xs}(h:SqTO K H O a xs)(k: ∀b o,H b=some o-> ¬O b->c b=some o)(e: ∀b,H b≠none->d b->O b):SqTO K c d a xs:=
 ⟨k a _ h.1 h.2,λz=>h.2 (e a (by rw[h.1];simp) z)⟩
def SqLO.mono{K H c}{a xs}(h:SqLO K H O a xs)(k: ∀b o,H b=some o-> ¬O b->c b=some o)(f: ∀b,H b≠none->d b->O b):SqLO K c d a xs:=by
 rcases h with⟨r,n⟩|h
 ·refine .inl ⟨Rd.mono r λo e=>k a o e n,λz=>n (f a ?_ z)⟩;rcases r with r|⟨_,r⟩<;>(rw[r];simp)
 ·exact .inr h
mutual
/-- v is the datum,in H;nothing of it stands at an address of O -/
def Rep(K:gW)(H:Hp)(O:AP'):D->V->Prop
 | .non,v=>v= .non
 | .bl b,v=>v= .bl b
 | .int i,v=>v= .int i
 | .str x,v=>v= .str x
 | .tup l,v=> ∃a xs,v= .ref a/\SqTO K H O a xs/\RepL K H O l xs
 | .lst l,v=> ∃a xs,v= .ref a/\SqLO K H O a xs/\RepL K H O l xs
 | .oth k c vs,v=> ∃a us,v= .ref a/\(¬O a/\OthB K (H a) k c vs us)/\RepL K H O vs us
def RepL(K:gW)(H:Hp)(O:AP'):List D->List V->Prop
 |[],vs=>vs=[]
 |d::l,vs=> ∃v r,vs=v::r/\Rep K H O d v/\RepL K H O l r
end
mutual
theorem Rep.mono{K H g}{O i:AP'}(k: ∀b o,H b=some o-> ¬O b->g b=some o)(c: ∀b,H b≠none->i b->O b): ∀{d:D} {v:V},Rep K H O d v->Rep K g i d v
 | .non,_,h=>h
 | .bl _,_,h=>h
 | .int _,_,h=>h
 | .str _,_,h=>h
 | .tup l,_,h=>by
  rw[Rep] at h ⊢;obtain⟨a,f,e,s,r⟩:=h;exact⟨a,f,e,s.mono k c,RepL.mono k c r⟩
 | .lst l,_,h=>by
  rw[Rep] at h ⊢;obtain⟨a,f,e,s,r⟩:=h;exact⟨a,f,e,s.mono k c,RepL.mono k c r⟩
 | .oth j m vs,_,h=>by
  rw[Rep] at h ⊢;obtain⟨a,us,e,s,r⟩:=h;exact⟨a,us,e,⟨λz=>s.1 (c a (by obtain⟨o,q⟩:=s.2.ex;rw[q];simp) z),s.2.keep λo q=>k a o q s.1⟩,RepL.mono k c r⟩
theorem RepL.mono{K H a}{O c:AP'}(k: ∀b o,H b=some o-> ¬O b->a b=some o)(f: ∀b,H b≠none->c b->O b): ∀{l:List D} {vs:List V},RepL K H O l vs->RepL K a c l vs
 |[],_,h=>h
 |d::l,_,h=>by
  rw[RepL] at h ⊢;obtain⟨v,r,e,h1,g⟩:=h;exact⟨v,r,e,Rep.mono k f h1,RepL.mono k f g⟩
end
def Rep.mkInt{K H O i}:Rep K H O (.int i) (.int i):=by rw[Rep]
def Rep.mkBl{K H O i}:Rep K H O (.bl i) (.bl i):=by rw[Rep]
def Rep.mkNon{K H O}:Rep K H O .non .non:=by rw[Rep]
def Rep.mkStr{K H O i}:Rep K H O (.str i) (.str i):=by rw[Rep]
theorem Rep.int{K H O i v}(h:Rep K H O (.int i) v):v= .int i:=by rwa [Rep] at h
theorem Rep.bl{K H O i v}(h:Rep K H O (.bl i) v):v= .bl i:=by rwa [Rep] at h
def Rep.non{K H O v}(h:Rep K H O .non v):v= .non:=by rwa [Rep] at h
theorem Rep.str{K H O i v}(h:Rep K H O (.str i) v):v= .str i:=by rwa [Rep] at h
def Rep.tup{K H O l v}(h:Rep K H O (.tup l) v): ∃a b,v= .ref a/\SqTO K H O a b/\RepL K H O l b:=by rwa [Rep] at h
theorem Rep.lst{K H O l v}(h:Rep K H O (.lst l) v): ∃a xs,v= .ref a/\SqLO K H O a xs/\RepL K H O l xs:=by rwa [Rep] at h
def Rep.oth{K H O k ks vs v}(h:Rep K H O (.oth k ks vs) v): ∃a us,v= .ref a/\(¬O a/\OthB K (H a) k ks vs us)/\RepL K H O vs us:=by rwa [Rep] at h
def Rep.mkOth{K H O k b vs a us}(n: ¬O a)(h:OthB K (H a) k b vs us)(r:RepL K H O vs us):Rep K H O (.oth k b vs) (.ref a):=by rw[Rep];exact⟨a,us,rfl,⟨n,h⟩,r⟩
def Rep.mkTup{K H O l a xs}(h:SqTO K H O a xs)(r:RepL K H O l xs):Rep K H O (.tup l) (.ref a):=by rw[Rep];exact⟨a,xs,rfl,h,r⟩
def Rep.mkLst{K H O l a xs}(h:SqLO K H O a xs)(r:RepL K H O l xs):Rep K H O (.lst l) (.ref a):=by rw[Rep];exact⟨a,xs,rfl,h,r⟩
theorem RepL.length{K H O}: ∀{l:List D} {vs:List V},RepL K H O l vs->vs.length=l.length
 |[],vs,h=>by rw[RepL] at h;rw[h];rfl
 |d::l,vs,h=>by
  rw[RepL] at h;obtain⟨v,r,rfl,_,a⟩:=h;simp[RepL.length a]
theorem RepL.get{K H O}: ∀{l:List D} {a:List V} {i:Nat} {d:D},RepL K H O l a->l[i]?=some d-> ∃v,a[i]?=some v/\Rep K H O d v
 |[],_,_,_,_,e=>by simp at e
 |d::l,a,0,b,h,e=>by
  rw[RepL] at h;obtain⟨v,r,rfl,h1,_⟩:=h;simp at e;subst e;exact⟨v,rfl,h1⟩
 |d::l,a,i+1,b,h,e=>by
  rw[RepL] at h;obtain⟨v,r,rfl,_,c⟩:=h;obtain⟨w,f,g⟩:=RepL.get (i:=i) c (by simpa using e);exact⟨w,by simpa using f,g⟩
theorem RepL.append{K H O}: ∀{l m:List D} {a c:List V},RepL K H O l a->RepL K H O m c->RepL K H O (l++m) (a++c)
 |[],_,a,_,h,b=>by rw[RepL] at h;subst h;exact b
 |d::l,_,a,_,h,b=>by
  rw[RepL] at h;obtain⟨v,r,rfl,h1,e⟩:=h;show RepL K H O (d::(l++_)) _;rw[RepL];exact⟨v,_,rfl,h1,RepL.append e b⟩
def RepL.one{K H O}{d:D}{v:V}(h:Rep K H O d v):RepL K H O [d] [v]:=by
 rw[RepL];exact⟨v,[],rfl,h,by rw[RepL]⟩
theorem RepL.nil{K H O}:RepL K H O [] []:=by rw[RepL]
theorem RepL.cons{K H O}{l vs}(h:Rep K H O d v)(h':RepL K H O l vs):RepL K H O (d::l) (v::vs):=by
 rw[RepL];exact⟨v,vs,rfl,h,h'⟩
theorem RepL.take{K H O}: ∀{l:List D} {a:List V} (n:Nat),RepL K H O l a->RepL K H O (l.take n) (a.take n)
 |_,_,0,_=>by simp[RepL]
 |[],a,n+1,h=>by rw[RepL] at h;subst h;simp[RepL]
 |d::l,a,n+1,h=>by
  rw[RepL] at h;obtain⟨v,r,rfl,h1,b⟩:=h;exact RepL.cons h1 (RepL.take n b)
theorem RepL.drop{K H O}: ∀{l:List D} {a:List V} (n:Nat),RepL K H O l a->RepL K H O (l.drop n) (a.drop n)
 |_,_,0,h=>h
 |[],a,n+1,h=>by rw[RepL] at h;subst h;simp[RepL]
 |d::l,a,n+1,h=>by
  rw[RepL] at h;obtain⟨v,r,rfl,h1,b⟩:=h;exact RepL.drop n b
theorem RepL.set{K H O}{d:D}{v:V}(hv:Rep K H O d v): ∀{l:List D} {vs:List V} (i:Nat),RepL K H O l vs->RepL K H O (l.set i d) (vs.set i v)
 |[],vs,i,h=>by rw[RepL] at h;subst h;simp[RepL]
 |e::l,vs,0,h=>by
  rw[RepL] at h;obtain⟨w,r,rfl,h1,a⟩:=h;exact RepL.cons hv a
 |e::l,vs,i+1,h=>by
  rw[RepL] at h;obtain⟨w,r,rfl,h1,a⟩:=h;exact RepL.cons h1 (RepL.set hv i a)
abbrev Sl:=Option (D×Bool)
abbrev Dn:=List Sl
def OwnA(b:L2.St)(δ:Dn)(a:gw):Prop:= ∃(i:Nat) (d:D),δ[i]?=some (some (d,true))/\b[i]?=some (some (V.ref a))
def OwnOk(K:gW)(H:Hp)(O:AP'):D->Addr->Prop
 | .lst l,a=> ∃d,H a=some (.lst d)/\RepL K H O l d
 | .oth k e c,a=> ∃b,OthB K (H a) k e c b/\RepL K H O c b
 |_,_=>False
def OwnOk.mono{K H c}(h:OwnOk K H O d a)(k: ∀b o,H b=some o-> ¬O b->c b=some o)(f: ∀b,H b≠none->i b->O b)(g: ∀o,H a=some o->c a=some o):OwnOk K c i d a:=by
 cases d with
 |lst l=>obtain⟨j,e,r⟩:=h;exact⟨j,g _ e,RepL.mono k f r⟩
 |oth m n vs=>obtain⟨us,e,r⟩:=h;exact⟨us,e.keep g,RepL.mono k f r⟩
 |_=>exact h
def OwnOk.rep{K H}(h:OwnOk K H O d a)(g: ¬c a)(f: ∀b,H b≠none->c b->O b):Rep K H c d (.ref a):=by
 cases d with
 |lst l=>
  obtain⟨i,e,r⟩:=h;rw[Rep];exact⟨a,i,rfl,.inl ⟨.inl e,g⟩,RepL.mono (λb o e _=>e) f r⟩
 |oth j k n=>
  obtain⟨m,e,r⟩:=h;exact Rep.mkOth g e (RepL.mono (λb o e _=>e) f r)
 |_=>exact h.elim
def Ow:Option HO->Prop
 |none=>False
 |some (.tup _)=>False
 |_=>True
theorem Ow.ne{o:Option HO}(h:Ow o):o≠none:=λe=>by rw[e] at h;exact h
theorem Ow.up{o a:Option HO}(h:Ow o)(k: ∀x,o=some x->a=some x):Ow a:=by
 cases o with
 |none=>exact h.elim
 |some x=>rw[k x rfl];exact h
def nOw{o:Option HO}(h:o=none): ¬Ow o:=λz=>z.ne h
theorem OwnOk.ow{K H}{O:AP'}{d:D}{a:gw}(h:OwnOk K H O d a):Ow (H a):=by
 cases d with
 |lst l=>obtain⟨g,e,_⟩:=h;rw[e];trivial
 |oth k b f=>
  obtain⟨c,e,_⟩:=h
  cases k with
  |dct=>rcases e with⟨_,e,_⟩|⟨_,e,_⟩<;>(rw[e];trivial)
  |set=>obtain⟨_,_,e,_⟩:=e;rw[e];trivial
  |exc C=>obtain⟨_,_,e,_⟩:=e;rw[e];trivial
  |_=>exact e.elim
 |_=>exact h.elim
structure ER(K:gW)(H:Hp)(T:AP')(σ:L2.St)(δ:Dn):Prop where
 len:σ.length=δ.length
 val: ∀(i:Nat) (d:D),δ[i]?=some (some (d,false))-> ∃v,σ[i]?=some (some v)/\Rep K H (λa=>OwnA σ δ a\/T a) d v
 own: ∀(i:Nat) (d:D),δ[i]?=some (some (d,true))-> ∃a,σ[i]?=some (some (V.ref a))/\OwnOk K H (λa=>OwnA σ δ a\/T a) d a
 inj: ∀(i j:Nat) (d e:D) (a:gw),δ[i]?=some (some (d,true))->δ[j]?=some (some (e,true))->σ[i]?=some (some (V.ref a))->σ[j]?=some (some (V.ref a))->i=j
 nT: ∀a,OwnA σ δ a-> ¬T a
 dom: ∀a,T a->Ow (H a)
def ER.ownOw{K H T σ e}(E:ER K H T σ e)(h:OwnA σ e a):Ow (H a):=by
 obtain⟨i,d,h1,f⟩:=h;obtain⟨b,c,g⟩:=E.own i d h1;rw[f] at c;cases c;exact g.ow
def ER.ownDom{K H T σ δ}(E:ER K H T σ δ)(h:OwnA σ δ a):H a≠none:=(E.ownOw h).ne
def ER.mono{K H c σ δ}(E:ER K H T σ δ)(k: ∀b o,H b=some o-> ¬T b->c b=some o)(g: ∀b,H b≠none->T' b->T b)(hd: ∀a,T' a->Ow (c a)):ER K c T' σ δ where
 len:=E.len
 val:=λi d h=>by
  obtain⟨v,h1,f⟩:=E.val i d h;exact⟨v,h1,Rep.mono (λb o e n=>k b o e λz=>n (.inr z)) (λb j z=>z.elim .inl λz=> .inr (g b j z)) f⟩
 own:=λi d h=>by
  obtain⟨a,h1,f⟩:=E.own i d h;exact⟨a,h1,f.mono (λb o e n=>k b o e λz=>n (.inr z)) (λb j z=>z.elim .inl λz=> .inr (g b j z)) λo e=>k a o e (E.nT a ⟨i,d,h,h1⟩)⟩
 inj:=E.inj
 nT:=λa h z=>E.nT a h (g a (E.ownDom h) z)
 dom:=hd
def OwnA.set(h:OwnA σ (δ.set i (some (d,false))) a):OwnA σ δ a:=by
 obtain⟨j,e,h1,b⟩:=h;rw[wt] at h1;split at h1
 ·split at h1<;>simp at h1
 ·exact⟨j,e,h1,b⟩
def ER.freeze{K H T σ m}(E:ER K H T σ m){i:Nat}{d:D}{b:Bool}(h:m[i]?=some (some (d,b))):ER K H T σ (m.set i (some (d,false)))/\ ∃v,σ[i]?=some (some v)/\Rep K H (λa=>OwnA σ (m.set i (some (d,false))) a\/T a) d v:=by
 have o:i<m.length:=(qM.mp h).1
 have p: ∃v,σ[i]?=some (some v)/\Rep K H (λa=>OwnA σ (m.set i (some (d,false))) a\/T a) d v:=by
  cases b with
  |false=>
   obtain⟨v,h1,l⟩:=E.val i d h;exact⟨v,h1,Rep.mono (λ_ _ e _=>e) (λb _ z=>z.elim (λz=> .inl z.set) .inr) l⟩
  |true=>
   obtain⟨a,h1,l⟩:=E.own i d h;refine⟨.ref a,h1,l.rep (λz=>?_) λb _ z=>z.elim (λz=> .inl z.set) .inr⟩;rcases z with⟨j,e,n,q⟩|z
   ·rw[wt] at n;split at n
    ·first
      |(split at n<;>simp at n)
      |simp at n
    ·rename_i r;exact r (E.inj i j d e a h n h1 q)
   ·exact E.nT a ⟨i,d,h,h1⟩ z
 refine⟨⟨by rw[sv];exact E.len,λj e c=>?_,λj e c=>?_,λj k e f a c hk h1 l=>?_,λa z=>E.nT a z.set,E.dom⟩,p⟩
 ·by_cases g:i=j
  ·subst g;rw[my o] at c;cases c;exact p
  ·rw[mP g] at c;obtain⟨v,h1,l⟩:=E.val j e c;exact⟨v,h1,Rep.mono (λ_ _ e _=>e) (λb _ z=>z.elim (λz=> .inl z.set) .inr) l⟩
 ·by_cases g:i=j
  ·subst g;rw[my o] at c;cases c
  ·rw[mP g] at c;obtain⟨a,h1,l⟩:=E.own j e c;exact⟨a,h1,l.mono (λ_ _ e _=>e) (λb _ z=>z.elim (λz=> .inl z.set) .inr) λ_ e=>e⟩
 ·have g1:m[j]?=some (some (e,true)):=by
   by_cases g:i=j
   ·subst g;rw[my o] at c;cases c
   ·rwa [mP g] at c
  have g2:m[k]?=some (some (f,true)):=by
   by_cases g:i=k
   ·subst g;rw[my o] at hk;cases hk
   ·rwa [mP g] at hk
  exact E.inj j k e f a g1 g2 h1 l
def OwnI(b:L2.St)(δ:Dn)(i:Nat)(a:gw):Prop:= ∃d:D,δ[i]?=some (some (d,true))/\b[i]?=some (some (V.ref a))
structure Keep(σ:L2.St)(δ:Dn)(H:Hp)(δ':Dn)(H':Hp):Prop where
 kp: ∀a o,H a=some o-> ¬OwnA σ δ a->H' a=some o
 owi: ∀i a,OwnI σ δ' i a->OwnI σ δ i a
 dm: ∀a,H a≠none->H' a≠none
theorem Keep.ow{σ c H b f}(k:Keep σ c H b f)(a:gw)(h:OwnA σ b a):OwnA σ c a:=by
 obtain⟨i,d,h1,g⟩:=h;obtain⟨e,j,l⟩:=k.owi i a ⟨d,h1,g⟩;exact⟨i,e,j,l⟩
def Keep.refl{σ a H}:Keep σ a H a H:=⟨λ_ _ e _=>e,λ_ _ z=>z,λ_ z=>z⟩
theorem Keep.trans{σ δ δ1 δ2 H H1 b}(x:Keep σ δ H δ1 H1)(y:Keep σ δ1 H1 δ2 b):Keep σ δ H δ2 b:=
 ⟨λa o e n=>y.kp a o (x.kp a o e n) λz=>n (x.ow a z),λi a z=>x.owi i a (y.owi i a z),λa z=>y.dm a (x.dm a z)⟩
def Keep.ext{σ b H H1}(k: ∀a o,H a=some o->H1 a=some o):Keep σ b H b H1:=⟨λa o e _=>k a o e,λ_ _ z=>z,λa z=>by
 cases h:H a with
 |none=>exact absurd h z
 |some o=>rw[k a o h];simp⟩
def OwnI.set(h:OwnI σ (δ.set i (some (d,false))) j a):OwnI σ δ j a:=by
 obtain⟨e,h1,b⟩:=h;rw[wt] at h1;split at h1
 ·split at h1<;>simp at h1
 ·exact⟨e,h1,b⟩
def Keep.set{σ δ H i d}:Keep σ δ H (δ.set i (some (d,false))) H:=⟨λ_ _ e _=>e,λ_ _ z=>z.set,λ_ z=>z⟩
def Post(K:gW)(T:AP')(e:L2.St)(f:Dn)(H:Hp)(r:D×Bool)(b:Dn)(v:V)(c:Hp):Prop:=
 Keep e f H b c/\
 match r with
 |(d,false)=>ER K c T e b/\Rep K c (λa=>OwnA e b a\/T a) d v
 |(d,true)=> ∃p,v= .ref p/\H p=none/\ER K c (λa=>T a\/a=p) e b/\OwnOk K c (λa=>OwnA e b a\/T a\/a=p) d p
abbrev F:=Dn->Option ((D×Bool)×Dn)
def tF(K:gW)(f:F):TE:=λd H Q=> ∃b T r a,ER K H T d b/\f b=some (r,a)/\ ∀v c,Post K T d b H r a v c->Q v c
def PX(X:Cx)(e:gG)(f:F):Prop:=PE X e (tF X.K f)
noncomputable def Tmp(T:AP')(r:D×Bool)(v:V):AP':=λa=>T a\/(r.2=true/\v= .ref a)
section
variable {K:gW}{T:AP'}{c:L2.St}{δ δ1 δ2:Dn}{H f g:Hp}{x y:D×Bool}{v u:V}
def Post.er(E:ER K H T c δ)(P:Post K T c δ H x δ1 v f):ER K f (Tmp T x v) c δ1:=by
 obtain⟨d,b⟩:=x
 cases b with
 |false=>
  refine P.2.1.mono (λ_ _ e _=>e) (λb _ z=>z.elim id λz=>absurd z.1 (by simp)) (λa z=>?_);rcases z with z|z
  ·exact P.2.1.dom a z
  ·exact absurd z.1 (by simp)
 |true=>
  obtain⟨p,rfl,i,h,j⟩:=P.2;refine h.mono (λ_ _ e _=>e) (λb _ z=>z.elim .inl λz=> .inr (by have:=z.2;cases this;rfl)) (λa z=>?_);rcases z with z|z
  ·exact h.dom a (.inl z)
  ·have:=z.2;cases this;exact h.dom _ (.inr rfl)
def Post.rep(E:ER K H T c δ)(P:Post K T c δ H x δ1 v f):ER K f T c δ1/\Rep K f (λa=>OwnA c δ1 a\/T a) x.1 v:=by
 obtain⟨d,b⟩:=x
 cases b with
 |false=>exact P.2
 |true=>
  obtain⟨p,rfl,i,h,j⟩:=P.2;refine⟨h.mono (λ_ _ e _=>e) (λb _ z=> .inl z) (λa z=>h.dom a (.inl z)),j.rep (λz=>?_) λb _ z=>z.elim .inl λz=> .inr (.inl z)⟩;rcases z with z|z
  ·exact h.nT p z (.inr rfl)
  ·exact(E.dom p z).ne i
theorem Post.val(k:Keep c δ H δ2 g)(E:ER K g T c δ2)(r:Rep K g (λa=>OwnA c δ2 a\/T a) d w):Post K T c δ H (d,false) δ2 w g:=⟨k,E,r⟩
end
def gX{e f:Type}{a c:e}{b d:f}(h:some (a,b)=some (c,d)):a=c/\b=d:=by cases h;exact⟨rfl,rfl⟩
noncomputable def fC(d:D):F:=λδ=>some ((d,false),δ)
noncomputable def iH(i:Nat):F:=λδ=>match δ[i]? with
 |some (some (d,_))=>some ((d,false),δ.set i (some (d,false)))
 |_=>none
section
variable {X:Cx}{a b c:gG}{g:Pos}{n m l:F}
def PX.imp(h:PE X e t)(k: ∀i H Q,tF X.K f i H Q->t i H Q):PX X e f:=λd s i H Q I j=>h d s i H Q I (k i H Q j)
def Oo{i j}:PX X (.Constant (.int i) j g) (fC (.int i)):=PX.imp OV λo H Q h=>by
 obtain⟨f,T,r,d,E,e,k⟩:=h;cases e;exact k _ _ (Post.val .refl E (by first|exact Rep.mkInt|exact Rep.mkBl|exact Rep.mkNon|exact Rep.mkStr))
def Nh{i j}:PX X (.Constant (.bool i) j g) (fC (.bl i)):=PX.imp Q9 λo H Q h=>by
 obtain⟨f,T,r,d,E,e,k⟩:=h;cases e;exact k _ _ (Post.val .refl E (by first|exact Rep.mkInt|exact Rep.mkBl|exact Rep.mkNon|exact Rep.mkStr))
def Oh{j}:PX X (.Constant .none j g) (fC .non):=PX.imp OT λi H Q h=>by
 obtain⟨f,T,r,d,E,e,k⟩:=h;cases e;exact k _ _ (Post.val .refl E (by first|exact Rep.mkInt|exact Rep.mkBl|exact Rep.mkNon|exact Rep.mkStr))
def Ob{i j}:PX X (.Constant (.str i) j g) (fC (.str i)):=PX.imp OQ λo H Q h=>by
 obtain⟨f,T,r,d,E,e,k⟩:=h;cases e;exact k _ _ (Post.val .refl E (by first|exact Rep.mkInt|exact Rep.mkBl|exact Rep.mkNon|exact Rep.mkStr))
def N9{i:Nat}{x:Str}(s:X.N[i]?=some x)(hv:Vis X.env.scope x)(hd:(x==("__debug__":Str))=false)(t:(x==("__classdict__":Str))=false):PX X (.Name x g) (iH i):=PX.imp (wY s hv hd t) λy H Q h=>by
 obtain⟨u,T,r,w,E,e,k⟩:=h;unfold iH at e
 cases f:u[i]? with
 |none=>rw[f] at e;cases e
 |some o=>
  cases o with
  |none=>rw[f] at e;cases e
  |some p=>
   obtain⟨d,b⟩:=p;rw[f] at e;cases e;obtain⟨j,v,h1,q⟩:=E.freeze f;exact⟨v,h1,k v H (Post.val .set j q)⟩
end
inductive Opd where
 |val(r:D×Bool)|slot(i:Nat)
noncomputable def res(δ:Dn):Opd->Option D
 | .val r=>some r.1
 | .slot i=>match δ[i]? with
  |some (some (d,_))=>some d
  |_=>none
def iU(K:gW)(H:Hp)(O:AP')(d:D)(v:V):Prop:=Rep K H O d v\/ ∃a,v= .ref a/\OwnOk K H O d a
abbrev FO:=Dn->Option (Opd×Dn)
def PostO(K:gW)(T:AP')(b:L2.St)(d:Dn)(H:Hp)(o:Opd)(a:Dn)(v:V)(c:Hp):Prop:=
 match o with
 | .val r=>Post K T b d H r a v c
 | .slot i=>Keep b d H a c/\ER K c T b a/\b[i]?=some (some v)
noncomputable def Bs(T:AP')(o:Opd)(v:V):AP':=match o with
 | .val r=>Tmp T r v
 | .slot _=>T
def tO(K:gW)(f:FO):TE:=λd H Q=> ∃b T o a,ER K H T d b/\f b=some (o,a)/\ ∀v c,PostO K T d b H o a v c->Q v c
def PO(X:Cx)(e:gG)(f:FO):Prop:=PE X e (tO X.K f)
noncomputable def gx(f:F):FO:=λδ=>(f δ).bind λp=>some (.val p.1,p.2)
noncomputable def gv(i:Nat):FO:=λδ=>match δ[i]? with
 |some (some _)=>some (.slot i,δ)
 |_=>none
def PE.imp'(h:PE X e t)(k: ∀b H Q,d b H Q->t b H Q):PE X e d:=λa s b H Q I c=>h a s b H Q I (k b H Q c)
section
variable {X:Cx}{a:Pos}
def PX.po(h:PX X e f):PO X e (gx f):=PE.imp' h λj H Q g=>by
 obtain⟨c,T,o,i,E,e,k⟩:=g;unfold gx at e
 cases h1:f c with
 |none=>rw[h1] at e;cases e
 |some p=>
  obtain⟨r,b⟩:=p;rw[h1] at e;obtain⟨rfl,rfl⟩:=gX e;exact⟨c,T,r,b,E,h1,λv d P=>k v d P⟩
def OL{i:Nat}{x:Str}(f:X.N[i]?=some x)(hv:Vis X.env.scope x)(hd:(x==("__debug__":Str))=false)(g:(x==("__classdict__":Str))=false):PO X (.Name x a) (gv i):=PE.imp' (wY f hv hd g) λr H Q h=>by
 obtain⟨j,T,o,l,E,e,k⟩:=h;unfold gv at e
 cases c:j[i]? with
 |none=>rw[c] at e;cases e
 |some q=>
  cases q with
  |none=>rw[c] at e;cases e
  |some p=>
   obtain⟨d,b⟩:=p;rw[c] at e;obtain⟨rfl,rfl⟩:=gX e;obtain⟨m,v,h1,n⟩:=E.freeze c;exact⟨v,h1,k v H ⟨.refl,E,h1⟩⟩
end
structure Ops(K:gW)(T:AP')(σ:L2.St)(δ:Dn)(H:Hp)(os:List Opd)(vs:List V)(δ':Dn)(H':Hp)(T':AP'):Prop where
 len:os.length=vs.length
 keep:Keep σ δ H δ' H'
 er:ER K H' T' σ δ'
 tt: ∀a,T a->T' a
 val: ∀(j:Nat) (d:D) (v:V),os[j]?=some (.val (d,false))->vs[j]?=some v->Rep K H' (λa=>OwnA σ δ' a\/T a) d v
 tmp: ∀(j:Nat) (d:D) (v:V),os[j]?=some (.val (d,true))->vs[j]?=some v-> ∃p,v= .ref p/\T' p/\H p=none/\OwnOk K H' (λa=>OwnA σ δ' a\/T a) d p
 slt: ∀(j i:Nat) (v:V),os[j]?=some (.slot i)->vs[j]?=some v->σ[i]?=some (some v)
section
variable {K:gW}{T T':AP'}{b:L2.St}{δ a e:Dn}{H c f:Hp}{os:List Opd}{vs:List V}{o:Opd}{v:V}
theorem Ops.nil(E:ER K H T b δ):Ops K T b δ H [] [] δ H T:=⟨rfl,.refl,E,λ_ z=>z,λj d v h=>by simp at h,λj d v h=>by simp at h,λj i v h=>by simp at h⟩
def PostO.keep(P:PostO K T b δ H o a v c):Keep b δ H a c:=by
 cases o with
 |val r=>exact P.1
 |slot i=>exact P.1
def PostO.er(E:ER K H T b δ)(P:PostO K T b δ H o a v c):ER K c (Bs T o v) b a:=by
 cases o with
 |val r=>exact Post.er E P
 |slot i=>exact P.2.1
end
def Gen(K:gW)(H:Hp)(O:AP')(z:D×Bool)(Q:VK):Prop:=
 match z with
 |(d,false)=> ∀w b,(∀a o,H a=some o->b a=some o)->Rep K b O d w->Q w b
 |(d,true)=> ∀p b,H p=none->(∀a o,H a=some o->b a=some o)->OwnOk K b (λa=>O a\/a=p) d p->Q (.ref p) b
section
variable {K:gW}{T s:AP'}{f:L2.St}{δ δ1 c δ2:Dn}{H t m h:Hp}{os:List Opd}{vs:List V}{o:Opd}{v:V}{z:D×Bool}{Q:VK}
theorem Ops.cons(E:ER K H T f δ)(P:PostO K T f δ H o δ1 v t)(B:Ops K (Bs T o v) f δ1 t os vs δ2 h s):Ops K T f δ H (o::os) (v::vs) δ2 h s:=by
 have C:=P.er E;have y:=B.keep.kp;have A:=B.keep.ow
 have u: ∀a,T a->Bs T o v a:=λa z=>by
  cases o with
  |val r=>exact .inl z
  |slot i=>exact z
 refine⟨by simp[B.len],P.keep.trans B.keep,B.er,λa z=>B.tt a (u a z),λj d w h1 g=>?_,λj d w h1 g=>?_,λj i w h1 g=>?_⟩
 ·cases j with
  |zero=>
   simp at h1 g;subst h1;subst g;have q:Post K T f δ H (d,false) δ1 v t:=P;exact Rep.mono (λb k e n=>y b k e λz=>n (.inl z)) (λb _ z=>z.elim (λz=>Or.inl (A b z)) Or.inr) (q.rep E).2
  |succ j=>exact Rep.mono (λ_ _ e _=>e) (λb _ z=>z.elim Or.inl λz=>Or.inr (u b z)) (B.val j d w (by simpa using h1) (by simpa using g))
 ·cases j with
  |zero=>
   simp at h1 g;subst h1;subst g;have q:Post K T f δ H (d,true) δ1 v t:=P;obtain⟨p,rfl,x,I,ok⟩:=q.2;have l:Bs T (.val (d,true)) (V.ref p) p:= .inr ⟨rfl,rfl⟩;refine⟨p,rfl,B.tt p l,x,ok.mono (λb k e n=>y b k e λz=>n (.inl z)) (λb _ z=>z.elim (λz=>Or.inl (A b z)) λz=>Or.inr (Or.inl z)) λk e=>y p k e λz=>C.nT p z l⟩
  |succ j=>
   obtain⟨p,rfl,l,x,ok⟩:=B.tmp j d w (by simpa using h1) (by simpa using g);refine⟨p,rfl,l,?_,ok.mono (λ_ _ e _=>e) (λb _ z=>z.elim Or.inl λz=>Or.inr (u b z)) λ_ e=>e⟩
   cases G:H p with
   |none=>rfl
   |some k=>exact absurd x (P.keep.dm p (by rw[G];simp))
 ·cases j with
  |zero=>
   simp at h1 g;subst h1;subst g;exact P.2.2
  |succ j=>exact B.slt j i w (by simpa using h1) (by simpa using g)
def Ops.view(B:Ops K T f δ H os vs c m s){j:Nat}{d:D}(h1:os[j]?=some o)(n:vs[j]?=some v)(g:res c o=some d):iU K m (λa=>OwnA f c a\/T a) d v:=by
 cases o with
 |val r=>
  obtain⟨e,b⟩:=r;have hd:e=d:=ji g;subst hd
  cases b with
  |false=>exact .inl (B.val j e v h1 n)
  |true=>
   obtain⟨p,rfl,_,_,ok⟩:=B.tmp j e v h1 n;exact .inr ⟨p,rfl,ok⟩
 |slot i=>
  have x:=B.slt j i v h1 n;unfold res at g;dsimp only at g
  cases l:c[i]? with
  |none=>rw[l] at g;cases g
  |some q=>
   cases q with
   |none=>rw[l] at g;cases g
   |some p=>
    obtain⟨e,b⟩:=p;rw[l] at g;have hd:e=d:=ji g;subst hd
    cases b with
    |false=>
     obtain⟨w,k,u⟩:=B.er.val i e l;rw[x] at k;cases k;exact .inl (Rep.mono (λ_ _ e _=>e) (λb _ z=>z.elim Or.inl λz=>Or.inr (B.tt b z)) u)
    |true=>
     obtain⟨a,k,u⟩:=B.er.own i e l;rw[x] at k;cases k;exact .inr ⟨a,rfl,u.mono (λ_ _ e _=>e) (λb _ z=>z.elim Or.inl λz=>Or.inr (B.tt b z)) λ_ e=>e⟩
def Ops.done(B:Ops K T f δ H os vs c m s)(k: ∀v h,Post K T f δ H z c v h->Q v h):Gen K m (λa=>OwnA f c a\/T a) z Q:=by
 obtain⟨d,b⟩:=z;have i: ∀{h:Hp},(∀a o,m a=some o->h a=some o)-> ∀a,T a->Ow (h a):=λ{h} g a z=>(B.er.dom a (B.tt a z)).up (g a)
 cases b with
 |false=>
  intro w h g r;exact k w h ⟨B.keep.trans (.ext g),B.er.mono (λb o e _=>g b o e) (λb _ z=>B.tt b z) (i g),r⟩
 |true=>
  intro p h l g ok
  have j:H p=none:=by
   cases n:H p with
   |none=>rfl
   |some u=>exact absurd l (B.keep.dm p (by rw[n];simp))
  refine k (.ref p) h ⟨B.keep.trans (.ext g),p,rfl,j,B.er.mono (λb o e _=>g b o e) (λb q z=>z.elim (B.tt b) λz=>absurd (z▸l) q) (λa z=>?_),ok.mono (λ_ _ e _=>e) (λb _ z=>?_) λ_ e=>e⟩
  ·rcases z with z|z
   ·exact i g a z
   ·subst z;exact ok.ow
  ·rcases z with z|z|z
   ·exact Or.inl (Or.inl z)
   ·exact Or.inl (Or.inr z)
   ·exact Or.inr z
theorem Gen.int(g:Gen K H O (.int i,false) Q):Q (.int i) H:=g _ H (λ_ _ e=>e) Rep.mkInt
theorem Gen.bl(g:Gen K H O (.bl i,false) Q):Q (.bl i) H:=g _ H (λ_ _ e=>e) Rep.mkBl
def kr{H:Hp}{p:gw}{o:HO}(b:H p=none): ∀a u,H a=some u->upd H p o a=some u:=λa u e=>by rw[hU (by intro z;subst z;rw[e] at b;cases b)];exact e
theorem Gen.lst{O:AP'}{l:List D}{xs:List V}{p:gw}(g:Gen K H O (.lst l,true) Q)(a:H p=none)(r:RepL K H O l xs):Q (.ref p) (upd H p (.lst xs)):=
 g p _ a (kr a) ⟨xs,ie,RepL.mono (λb o e _=>kr a b o e) (λb d z=>z.elim id λz=>absurd (z▸a) d) r⟩
def Gen.tup(g:Gen K H O (.tup l,false) Q)(a:H p=none)(np: ¬O p)(r:RepL K H O l xs):Q (.ref p) (upd H p (.tup xs)):=
 g _ _ (kr a) (Rep.mkTup ⟨ie,np⟩ (RepL.mono (λb o e _=>kr a b o e) (λb d z=>z) r))
def Ops.np(B:Ops K T f δ H os vs c m s)(a: ¬Ow (m p)): ¬(OwnA f c p\/T p):=λz=>a (z.elim (λz=>B.er.ownOw z) λz=>B.er.dom p (B.tt p z))
end
noncomputable def jn(g:D->Option (D×Bool))(a:FO):F:=λδ=>(a δ).bind λp=>(res p.2 p.1).bind λx=>(g x).bind λz=>some (z,p.2)
noncomputable def gB(g:D->D->Option (D×Bool))(a fb:FO):F:=λδ=>(a δ).bind λp=>(fb p.2).bind λq=>(res q.2 p.1).bind λx=>(res q.2 q.1).bind λy=>(g x y).bind λz=>some (z,q.2)
noncomputable def iX:List FO->Dn->Option (List Opd×Dn)
 |[],δ=>some ([],δ)
 |f::fs,δ=>(f δ).bind λp=>(iX fs p.2).bind λq=>some (p.1::q.1,q.2)
noncomputable def rH(a:Dn):List Opd->Option (List D)
 |[]=>some []
 |o::os=>(res a o).bind λd=>(rH a os).bind λl=>some (d::l)
noncomputable def gL(g:List D->Option (D×Bool))(fs:List FO):F:=λδ=>(iX fs δ).bind λp=>(rH p.2 p.1).bind λds=>(g ds).bind λz=>some (z,p.2)
def tA(K:gW)(fs:List FO):TA:=λe H Q=> ∃b T os a,ER K H T e b/\iX fs b=some (os,a)/\ ∀d c f,Ops K T e b H os d a c f->Q d c
section
variable {X:Cx}{e a b:gG}{m:jh}{i n:FO}{fs:List FO}{c:Pos}
def gu{d g:Type}{x:Option d}{f:d->Option g}{b:g}(h:x.bind f=some b): ∃a,x=some a/\f a=some b:=by
 cases x with
 |none=>cases h
 |some a=>exact⟨a,rfl,h⟩
def T9(K:gW)(r:V->Hp->VK->Prop)(g:D->Option (D×Bool)):Prop:=
 ∀x z v H (O:AP') (Q:VK),(∀p,¬Ow (H p)-> ¬O p)->iU K H O x v->g x=some z->Gen K H O z Q->r v H Q
def Qb(K:gW)(r:R2)(g:D->D->Option (D×Bool)):Prop:=
 ∀x y z v u H (O:AP') (Q:VK),(∀p,¬Ow (H p)-> ¬O p)->iU K H O x v->iU K H O y u->g x y=some z->Gen K H O z Q->r v u H Q
def T8(K:gW)(r:List V->Hp->VK->Prop)(g:List D->Option (D×Bool)):Prop:=
 ∀ds z f H (O:AP') (Q:VK),(∀p,¬Ow (H p)-> ¬O p)->ds.length=f.length->(∀(j:Nat) d v,ds[j]?=some d->f[j]?=some v->iU K H O d v)->g ds=some z->Gen K H O z Q->r f H Q
def Of{r:V->Hp->VK->Prop}{g:D->Option (D×Bool)}(h:PE X e (tUn r (tO X.K i)))(u:T9 X.K r g):PX X e (jn g i):=PX.imp h λG H Q w=>by
 obtain⟨y,T,C,A,E,e,k⟩:=w;obtain⟨⟨o,d⟩,h1,e⟩:=gu e;obtain⟨x,q,e⟩:=gu e;obtain⟨z,s,e⟩:=gu e;obtain⟨rfl,rfl⟩:=gX e;refine⟨y,T,o,d,E,h1,λv l f=>?_⟩;have B:=Ops.cons E f (Ops.nil (f.er E));exact u x z v l _ Q (λp t=>B.np t) (B.view (j:=0) rfl rfl q) s (B.done k)
def Oe{r:R2}{g:D->D->Option (D×Bool)}(h:PE X e (tOp r (tO X.K i) (tO X.K n)))(I:Qb X.K r g):PX X e (gB g i n):=PX.imp h λY H Q J=>by
 obtain⟨M,T,U,N,E,e,k⟩:=J;obtain⟨⟨o,d⟩,h1,e⟩:=gu e;obtain⟨⟨L,l⟩,t,e⟩:=gu e;obtain⟨x,w,e⟩:=gu e;obtain⟨y,A,e⟩:=gu e;obtain⟨z,C,e⟩:=gu e;obtain⟨rfl,rfl⟩:=gX e;refine⟨M,T,o,d,E,h1,λv O f=>⟨d,Bs T o v,L,l,f.er E,t,λu s q=>?_⟩⟩;have B:=Ops.cons E f (Ops.cons (f.er E) q (Ops.nil (q.er (f.er E))));exact I x y z v u s _ Q (λp G=>B.np G) (B.view (j:=0) rfl rfl w) (B.view (j:=1) rfl rfl A) C (B.done k)
def AO:PA X [] (tA X.K []):=λc d s g H Q I h=>by
 obtain⟨j,T,os,f,E,e,k⟩:=h;obtain⟨rfl,rfl⟩:=gX e;exact nR c d s g H Q I (k [] H T (Ops.nil E))
def sY(t:PO X e i)(u:PA X m (tA X.K fs))(w:starEach (e::m) X.env=(false,eval e X.env)::starEach m X.env):PA X (e::m) (tA X.K (i::fs)):=λc d s z H Q I h=>by
 obtain⟨x,T,os,y,E,e,k⟩:=h;unfold iX at e;obtain⟨⟨o,f⟩,h1,e⟩:=gu e;obtain⟨⟨g,j⟩,r,e⟩:=gu e;obtain⟨rfl,rfl⟩:=gX e;exact ku t u w c d s z H Q I ⟨x,T,o,f,E,h1,λv A l=>⟨f,Bs T o v,g,j,l.er E,r,λC p q B=>k _ p q (Ops.cons E l B)⟩⟩
theorem lX{k:Dn}: ∀{os:List Opd} {f:List D},rH k os=some f->f.length=os.length/\ ∀(j:Nat) d,f[j]?=some d-> ∃o,os[j]?=some o/\res k o=some d
 |[],f,h=>by cases h;exact⟨rfl,λj d h=>by simp at h⟩
 |o::os,f,h=>by
  unfold rH at h;obtain⟨d,h1,h⟩:=gu h;obtain⟨l,p,h⟩:=gu h;cases h;obtain⟨q,r⟩:=lX p;refine⟨by simp[q],λj e g=>?_⟩
  cases j with
  |zero=>simp at g;subst g;exact⟨o,rfl,h1⟩
  |succ j=>
   obtain⟨s,t,u⟩:=r j e (by simpa using g);exact⟨s,by simpa using t,u⟩
def LJ{r:List V->Hp->VK->Prop}{g:List D->Option (D×Bool)}(h:PE X e (tCB r (tA X.K fs)))(C:T8 X.K r g):PX X e (gL g fs):=PX.imp h λO H Q G=>by
 obtain⟨J,T,N,L,E,e,k⟩:=G;obtain⟨⟨os,l⟩,h1,e⟩:=gu e;obtain⟨s,t,e⟩:=gu e;obtain⟨z,u,e⟩:=gu e;obtain⟨rfl,rfl⟩:=gX e;obtain⟨w,x⟩:=lX t;refine⟨J,T,os,l,E,h1,λI q M B=>?_⟩;refine C s z I q _ Q (λp A=>B.np A) (w.trans B.len) (λj d v hd hv=>?_) u (B.done k);obtain⟨o,y,f⟩:=x j d hd;exact B.view y hv f
end
open PySem.SeqAt
mutual
/-- ==of data -/
noncomputable def D.eqb:D->D->Bool
 | .non,.non=>true
 | .bl a,.bl b=>a==b
 | .bl a,.int b=>(if a then 1 else 0)==b
 | .int a,.bl b=>a==(if b then 1 else 0)
 | .int a,.int b=>a==b
 | .str a,.str b=>a==b
 | .tup l,.tup m=>D.eqbL l m
 | .lst l,.lst m=>D.eqbL l m
 | .oth _ _ _,.oth _ _ _=>true
 |_,_=>false
noncomputable def D.eqbL:List D->List D->Bool
 |[],[]=>true
 |a::l,b::m=>D.eqb a b&&D.eqbL l m
 |_,_=>false
end
mutual
noncomputable def D.dep:D->Nat
 | .tup l=>D.depL l+1
 | .lst l=>D.depL l+1
 | .oth _ _ _=>20000
 |_=>0
noncomputable def D.depL:List D->Nat
 |[]=>0
 |d::l=>max (D.dep d) (D.depL l)
end
mutual
theorem D.eqb_refl: ∀d:D,D.eqb d d=true
 | .non=>rfl
 | .bl a=>by simp[D.eqb]
 | .int a=>by simp[D.eqb]
 | .str a=>by simp[D.eqb]
 | .tup l=>by rw[D.eqb];exact D.eqbL_refl l
 | .lst l=>by rw[D.eqb];exact D.eqbL_refl l
 | .oth _ _ _=>by rw[D.eqb]
theorem D.eqbL_refl: ∀l:List D,D.eqbL l l=true
 |[]=>rfl
 |d::l=>by rw[D.eqbL,D.eqb_refl d,D.eqbL_refl l];rfl
end
theorem D.dep_mem{d:D}: ∀{l:List D} {j:Nat},l[j]?=some d->d.dep<=D.depL l
 |[],j,h=>by simp at h
 |e::l,0,h=>by simp at h;subst h;rw[D.depL];exact Nat.le_max_left _ _
 |e::l,j+1,h=>by rw[D.depL];exact mQ (D.dep_mem (by simpa using h)) (Nat.le_max_right _ _)
noncomputable def qc(l m:List D)(j:Nat):Bool:=match l[j]?,m[j]? with
 |some d,some e=>D.eqb d e
 |_,_=>true
theorem lK: ∀l m:List D,((List.range (min l.length m.length)).all (qc l m)&&l.length==m.length)=D.eqbL l m
 |[],[]=>rfl
 |[],e::m=>by simp[D.eqbL]
 |d::l,[]=>by simp[D.eqbL]
 |d::l,e::m=>by
  rw[D.eqbL,<-lK l m];simp only[kO,Nat.succ_min_succ,List.range_succ_eq_map,List.all_cons,List.all_map,wq];have a:qc (d::l) (e::m) 0=D.eqb d e:=rfl;have h1:(λx=>qc (d::l) (e::m) (Nat.succ x))=qc l m:=by funext x;simp[qc]
  rw[a];simp only[h1,Bool.and_assoc]
  congr 2
  simp
section
variable {X:Cx}{pins:ig}{σ:L2.St}{H:Hp}{s:gA}
def jZ(h:iU X.K H O (.tup l) v): ∃a b,v= .ref a/\SqT X.K H a b/\RepL X.K H O l b:=by
 rcases h with h|⟨a,rfl,h⟩
 ·obtain⟨a,b,e,q,r⟩:=h.tup;exact⟨a,b,e,q.sq,r⟩
 ·exact h.elim
def jF(h:iU X.K H O (.lst l) v): ∃a b,v= .ref a/\SqL X.K H a b/\RepL X.K H O l b:=by
 rcases h with h|⟨a,rfl,h⟩
 ·obtain⟨a,b,e,q,r⟩:=h.lst;exact⟨a,b,e,q.sq,r⟩
 ·obtain⟨b,e,r⟩:=h;exact⟨a,b,rfl,.inl (.inl e),r⟩
def RepL.views{O:AP'}{l:List D}{b:List V}(r:RepL X.K H O l b){j:Nat}{d:D}{v:V}(h1:l[j]?=some d)(c:b[j]?=some v):Rep X.K H O d v:=by
 obtain⟨w,a,e⟩:=r.get h1;rw[c] at a;cases a;exact e
def JE(I:Inv X pins σ H s)(h:OthB X.K (H a) k l i us): ∃o,s.heap.get? a=some o/\(o.cls= .type "dict"\/o.cls= .type "set"\/ ∃C,o.cls= .ref C):=by
 cases k with
 |dct=>
  rcases h with⟨b,e,_⟩|⟨b,e,_⟩
  ·obtain⟨_,_,i,_,o,d,g,h1,c,_⟩:=(show ObjOk X.prog X.w H s.heap a (.dK b) from I.hok a _ e)
   exact⟨o,h1,.inl c.1⟩
  ·obtain⟨_,_,m,_,o,d,g,h1,c,_⟩:=(show ObjOk X.prog X.w H s.heap a (.dT b) from I.hok a _ e)
   exact⟨o,h1,.inl c.1⟩
 |set=>
  obtain⟨_,j,e,_⟩:=h;obtain⟨d,n,t,h1,_⟩:=(show ObjOk X.prog X.w H s.heap a (.stt j) from I.hok a _ e)
  exact⟨_,h1,.inr (.inl rfl)⟩
 |exc C=>
  obtain⟨_,o,e,h1,_⟩:=h;obtain⟨f,_⟩:=(show ObjOk X.prog X.w H s.heap a (.frz o (.own 0)) from I.hok a _ e)
  exact⟨o,f,.inr (.inr ⟨C,h1⟩)⟩
 |_=>exact h.elim
def BN(I:Inv X pins σ H s)(h1:SqT X.K H a xs)(f:SqL X.K H a k):False:=by
 obtain⟨g,_,⟨o,e,c,_⟩,_⟩:=I.tuple h1;obtain⟨h,_,⟨j,i,d,b,_⟩,_⟩:=I.list f;rw[e] at d;cases d;rw[c] at b;exact absurd b (by simp)
def Me(I:Inv X pins σ H s)(h1:SqT X.K H a xs)(f:OthB X.K (H a) k h j us):False:=by
 obtain⟨g,_,⟨o,e,c,_⟩,_⟩:=I.tuple h1;obtain⟨i,d,b⟩:=JE I f;rw[e] at d;cases d;rw[c] at b;rcases b with b|b|⟨C,b⟩<;>exact absurd b (by simp)
def Mf(I:Inv X pins σ H s)(h1:SqL X.K H a xs)(f:OthB X.K (H a) k h j us):False:=by
 obtain⟨g,_,⟨o,n,e,c,_⟩,_⟩:=I.list h1;obtain⟨i,d,b⟩:=JE I f;rw[e] at d;cases d;rw[c] at b;rcases b with b|b|⟨C,b⟩<;>exact absurd b (by simp)
mutual
theorem Rep.inj(I:Inv X pins σ H s): ∀{d e:D} {v:V},d.dep<20000->Rep X.K H O d v->Rep X.K H u e v->d=e
 | .non,e,v,i,h,c=>by
  have:=h.non;subst this
  cases e with
  |non=>rfl
  |bl b=>have:=c.bl;cases this
  |int b=>have:=c.int;cases this
  |str b=>have:=c.str;cases this
  |tup m=>obtain⟨a,f,z,_⟩:=c.tup;cases z
  |lst m=>obtain⟨a,f,z,_⟩:=c.lst;cases z
  |oth m n o=>obtain⟨a,f,z,_⟩:=c.oth;cases z
 | .bl b,e,v,i,h,c=>by
  have:=h.bl;subst this
  cases e with
  |non=>have:=c.non;cases this
  |bl b=>have:=c.bl;cases this;rfl
  |int b=>have:=c.int;cases this
  |str b=>have:=c.str;cases this
  |tup m=>obtain⟨a,f,z,_⟩:=c.tup;cases z
  |lst m=>obtain⟨a,f,z,_⟩:=c.lst;cases z
  |oth m n o=>obtain⟨a,f,z,_⟩:=c.oth;cases z
 | .int b,e,v,i,h,c=>by
  have:=h.int;subst this
  cases e with
  |non=>have:=c.non;cases this
  |bl b=>have:=c.bl;cases this
  |int b=>have:=c.int;cases this;rfl
  |str b=>have:=c.str;cases this
  |tup m=>obtain⟨a,f,z,_⟩:=c.tup;cases z
  |lst m=>obtain⟨a,f,z,_⟩:=c.lst;cases z
  |oth m n o=>obtain⟨a,f,z,_⟩:=c.oth;cases z
 | .str b,e,v,i,h,c=>by
  have:=h.str;subst this
  cases e with
  |non=>have:=c.non;cases this
  |bl b=>have:=c.bl;cases this
  |int b=>have:=c.int;cases this
  |str b=>have:=c.str;cases this;rfl
  |tup m=>obtain⟨a,f,z,_⟩:=c.tup;cases z
  |lst m=>obtain⟨a,f,z,_⟩:=c.lst;cases z
  |oth m n o=>obtain⟨a,f,z,_⟩:=c.oth;cases z
 | .tup l,e,v,i,h,c=>by
  rw[D.dep] at i;obtain⟨a,f,rfl,q,r⟩:=h.tup
  cases e with
  |non=>have:=c.non;cases this
  |bl b=>have:=c.bl;cases this
  |int b=>have:=c.int;cases this
  |str b=>have:=c.str;cases this
  |tup m=>
   obtain⟨k,p,z,g,j⟩:=c.tup;cases z;have:=I.tuple_inj q.sq g.sq;subst this;rw[RepL.inj I (by omega) r j]
  |lst m=>
   obtain⟨k,p,z,g,j⟩:=c.lst;cases z;exact(BN I q.sq g.sq).elim
  |oth m n o=>
   obtain⟨k,t,z,g,j⟩:=c.oth;cases z;exact(Me I q.sq g.2).elim
 | .lst l,e,v,i,h,c=>by
  rw[D.dep] at i;obtain⟨a,f,rfl,q,r⟩:=h.lst
  cases e with
  |non=>have:=c.non;cases this
  |bl b=>have:=c.bl;cases this
  |int b=>have:=c.int;cases this
  |str b=>have:=c.str;cases this
  |tup m=>
   obtain⟨k,p,z,g,j⟩:=c.tup;cases z;exact(BN I g.sq q.sq).elim
  |lst m=>
   obtain⟨k,p,z,g,j⟩:=c.lst;cases z;have:=I.list_inj q.sq g.sq;subst this;rw[RepL.inj I (by omega) r j]
  |oth m n o=>
   obtain⟨k,t,z,g,j⟩:=c.oth;cases z;exact(Mf I q.sq g.2).elim
 | .oth _ _ _,e,v,i,h,c=>by rw[D.dep] at i;omega
theorem RepL.inj(I:Inv X pins σ H s){O b:AP'}: ∀{l m:List D} {vs:List V},D.depL l<20000->RepL X.K H O l vs->RepL X.K H b m vs->l=m
 |[],m,vs,_,h,a=>by
  rw[RepL] at h;subst h
  cases m with
  |nil=>rfl
  |cons e m=>rw[RepL] at a;obtain⟨_,_,z,_⟩:=a;cases z
 |d::l,m,vs,i,h,a=>by
  rw[D.depL] at i;rw[RepL] at h;obtain⟨v,r,rfl,h1,c⟩:=h
  cases m with
  |nil=>rw[RepL] at a;cases a
  |cons e m=>
   rw[RepL] at a;obtain⟨k,j,z,f,g⟩:=a;cases z;rw[Rep.inj I (by omega) h1 f,RepL.inj I (by omega) c g]
end
def tP(h:iU X.K H O d v)(hd:d.dep=0)(c: ∀l,d≠ .tup l)(b: ∀l,d≠ .lst l):Rep X.K H O d v:=by
 rcases h with h|⟨a,rfl,h⟩
 ·exact h
 ·cases d with
  |lst l=>exact absurd rfl (b l)
  |oth _ _ _=>rw[D.dep] at hd;omega
  |_=>exact h.elim
inductive Sh(X:Cx)(H:Hp)(s:gA)(O:AP'):D->V->Value->Prop
 |non:Sh X H s O .non .non .none
 |bl (b:Bool):Sh X H s O (.bl b) (.bl b) (.bool b)
 |int (i:Int) (t:Tok):Sh X H s O (.int i) (.int i) (.int i t)
 |str (x:Str) (t:Tok):Sh X H s O (.str x) (.str x) (.str x t)
 |tup {l:List D} {p:gw} {xs:List V} {b6:iF} (q:SqT X.K H p xs) (r:RepL X.K H O l xs) (v:Vals xs b6) (pl:IsTup s.heap p b6.toArray):Sh X H s O (.tup l) (.ref p) (.ref p)
 |lst {l:List D} {p:gw} {xs:List V} {b6:iF} (q:SqL X.K H p xs) (r:RepL X.K H O l xs) (v:Vals xs b6) (pl:s.heap.IsList p b6.toArray):Sh X H s O (.lst l) (.ref p) (.ref p)
def qh(I:Inv X pins σ H s)(h:iU X.K H O d v)(b:RelV v a)(i:d.dep<20000):Sh X H s O d v a:=by
 cases d with
 |oth m k n=>rw[D.dep] at i;omega
 |tup l=>obtain⟨p,j,rfl,q,r⟩:=jZ h;cases b;obtain⟨g,f,e,_⟩:=I.tuple q;exact .tup q r f e
 |lst l=>obtain⟨p,j,rfl,q,r⟩:=jF h;cases b;obtain⟨g,f,e,_⟩:=I.list q;exact .lst q r f e.isList
 |non=>have:=(tP h rfl (by simp) (by simp)).non;subst this;cases b;exact .non
 |bl c=>have:=(tP h rfl (by simp) (by simp)).bl;subst this;cases b;exact .bl c
 |int c=>have:=(tP h rfl (by simp) (by simp)).int;subst this;obtain⟨t,rfl⟩:=b;exact .int c t
 |str c=>have:=(tP h rfl (by simp) (by simp)).str;subst this;obtain⟨t,rfl⟩:=b;exact .str c t
def zh(I:Inv X pins σ H s)(n:Nat)
  (ih: ∀(d e:D) (v u:V) (a b:gD) (O O':AP') (A:gS),iU X.K H O d v->iU X.K H O' e u->RelV v a->RelV u b->d.dep+1<=n->e.dep<20000->A.units+n<cLine+1->EqAt A s a b (D.eqb d e)):
  ∀(d e:D) (v u:V) (a b:gD) (O O':AP') (A:gS),iU X.K H O d v->iU X.K H O' e u->RelV v a->RelV u b->d.dep<=n->e.dep<20000->A.units+n<cLine->EqAt A s a b (D.eqb d e):=by
 intro d e v u a b O O' A hd he k o T o6 hA;have g:A.units<cLine:=by omega
 have l8:cLine=9900:=rfl
 have G: ∀(l m:List D) (L M:List V) (y C:iF) (R S:AP'),D.depL l+1<=n->D.depL m<20000->RepL X.K H R l L->RepL X.K H S m M->Vals L y->Vals M C->
   ∀j (h1:j<y.toArray.size) (J:j<C.toArray.size),EqAt A.in1 s y.toArray[j] C.toArray[j] (qc l m j):=λl m L M y C R S F P r1 h Q i j h1 J=>by
  have e1:=Q.length;have e2:=i.length;have e3:=r1.length;have e4:=h.length;simp only[iE] at h1 J;have hx:L[j]?=some L[j]:=jm (by omega);have hy:M[j]?=some M[j]:=jm (by omega);have W:l[j]?=some l[j]:=jm (by omega);have y9:m[j]?=some m[j]:=jm (by omega);obtain⟨w,w1,w2⟩:=Q.get hx;obtain⟨w',w3,w4⟩:=i.get hy
  have i1:y.toArray[j]=w:=by
   have:y[j]?=some y[j]:=jm (by omega);rw[this] at w1;simpa using w1
  have i2:C.toArray[j]=w':=by
   have:C[j]?=some C[j]:=jm (by omega);rw[this] at w3;simpa using w3
  rw[i1,i2];have hj:qc l m j=D.eqb l[j] m[j]:=by unfold qc;rw[W,y9]
  rw[hj];have x6:=D.dep_mem W;have Z:=D.dep_mem y9;exact ih _ _ _ _ _ _ R S A.in1 (.inl (r1.views W hx)) (.inl (h.views y9 hy)) w2 w4 (by omega) (by omega) (by show A.units+1+n<cLine+1;omega)
 have h1:=qh I hd k (by omega);have J:=qh I he o o6
 cases h1 with
 |non=>
  cases J with
  |non=>exact kR k o rfl rfl
  |bl f=>exact kR k o rfl rfl
  |int f t=>exact kR k o rfl rfl
  |str f t=>exact kR k o rfl rfl
  |tup B h i c=>exact EqAt.none_tuple c g
  |lst B h i c=>exact EqAt.none_list c g
 |bl N=>
  cases J with
  |non=>exact kR k o rfl rfl
  |bl f=>exact kR k o rfl rfl
  |int f t=>exact kR k o rfl rfl
  |str f t=>exact kR k o rfl rfl
  |tup B h i c=>exact EqAt.bool_tuple N c g
  |lst B h i c=>exact EqAt.bool_list N c g
 |int N Y=>
  cases J with
  |non=>exact kR k o rfl rfl
  |bl f=>exact kR k o rfl rfl
  |int f t=>exact kR k o rfl rfl
  |str f t=>exact kR k o rfl rfl
  |tup B h i c=>exact EqAt.int_tuple N Y c g
  |lst B h i c=>exact EqAt.int_list N Y c g
 |str N Y=>
  cases J with
  |non=>exact kR k o rfl rfl
  |bl f=>exact kR k o rfl rfl
  |int f t=>exact kR k o rfl rfl
  |str f t=>exact kR k o rfl rfl
  |tup B h i c=>exact EqAt.str_tuple N Y c g
  |lst B h i c=>exact EqAt.str_list N Y c g
 | @tup l p L y q r Q x=>
  cases J with
  |non=>exact EqAt.tuple_none x g
  |bl f=>exact EqAt.tuple_bool f x g
  |int f t=>exact EqAt.tuple_int f t x g
  |str f t=>exact EqAt.tuple_str f t x g
  | @tup m p2 M C B h i c=>
   by_cases U:p=p2
   ·subst U;have:=I.tuple_inj q B;subst this;rw[RepL.inj I (by rw[D.dep] at T;omega) r h,D.eqb_refl];exact EqAt.same _
   ·refine .of_refs U ?_;have F:D.depL l+1<=n:=by rw[D.dep] at T;exact T
    have P:D.depL m<20000:=by rw[D.dep] at o6;omega
    have z:=RcAt.tuples x c g (G l m L M y C _ _ F P r h Q i);have e1:=Q.length;have e2:=i.length;have e3:=r.length;have e4:=h.length;simp only[iE] at z;rw[show y.length=l.length by omega,show C.length=m.length by omega,lK] at z;rw[D.eqb];exact z
  |lst B h i c=>exact EqAt.tuple_list x c g
 | @lst l p L y q r Q x=>
  cases J with
  |non=>exact EqAt.list_none x g
  |bl f=>exact EqAt.list_bool f x g
  |int f t=>exact EqAt.list_int f t x g
  |str f t=>exact EqAt.list_str f t x g
  |tup B h i c=>exact EqAt.list_tuple x c g
  | @lst m p2 M C B h i c=>
   by_cases U:p=p2
   ·subst U;have:=I.list_inj q B;subst this;rw[RepL.inj I (by rw[D.dep] at T;omega) r h,D.eqb_refl];exact EqAt.same _
   ·refine .of_refs U ?_;have F:D.depL l+1<=n:=by rw[D.dep] at T;exact T
    have P:D.depL m<20000:=by rw[D.dep] at o6;omega
    have e1:=Q.length;have e2:=i.length;have e3:=r.length;have e4:=h.length;have al:=lK l m;by_cases E:l.length=m.length
    ·have z:=RcAt.lists x c (by simp only[iE];omega) g (G l m L M y C _ _ F P r h Q i);simp only[iE] at z;rw[show y.length=min l.length m.length by omega] at z;rw[D.eqb,<-al,E];rw[E] at z;simpa using z
    ·have z:=RcAt.lists_lengths x c (by simp only[iE,bne_iff_ne,ne_eq];omega) g;rw[D.eqb,<-al];rw[show(l.length==m.length)=false by simpa using E];simpa using z
def xP(I:Inv X pins σ H s): ∀(n:Nat) (d e:D) (v u:V) (a b:gD) (O c:AP') (A:gS),iU X.K H O d v->iU X.K H c e u->RelV v a->RelV u b->d.dep<=n->e.dep<20000->A.units+n<cLine->EqAt A s a b (D.eqb d e):=by
 intro n
 induction n with
 |zero=>
  intro d e v u a b O c A hd f i j g h k;exact zh I 0 (λd e v u a b O c A hd f i j g h k=>absurd g (by omega)) d e v u a b O c A hd f i j g h k
 |succ n l=>
  intro d e v u a b O c A hd f i j g h k;exact zh I (n+1) (λd e v u a b O c A hd f i j g h k=>l d e v u a b O c A hd f i j (by omega) h (by omega)) d e v u a b O c A hd f i j g h k
end
section
variable {X:Cx}{c:ig}{f:L2.St}{H:Hp}{s:gA}
def CS(I:Inv X c f H s){A:gS}{n:Nat}(T:A.units+n<cLine): ∀(l m:List D) (d e:List V) (a b:iF) (g h:AP'),D.depL l+1<=n->D.depL m<20000->RepL X.K H g l d->RepL X.K H h m e->Vals d a->Vals e b->
   ∀j (h1:j<a.toArray.size) (p:j<b.toArray.size),EqAt A.in1 s a.toArray[j] b.toArray[j] (qc l m j):=λl m d e a b g h U Y t u v x j h1 p=>by
 have M:=v.length;have N:=x.length;have O:=t.length;have Q:=u.length;simp only[iE] at h1 p;have q:d[j]?=some d[j]:=jm (by omega);have r:e[j]?=some e[j]:=jm (by omega);have i:l[j]?=some l[j]:=jm (by omega);have o:m[j]?=some m[j]:=jm (by omega);obtain⟨w,y,J⟩:=v.get q;obtain⟨G,z,L⟩:=x.get r
 have C:a.toArray[j]=w:=by
  have:a[j]?=some a[j]:=jm (by omega);rw[this] at y;simpa using y
 have E:b.toArray[j]=G:=by
  have:b[j]?=some b[j]:=jm (by omega);rw[this] at z;simpa using z
 rw[C,E];have B:qc l m j=D.eqb l[j] m[j]:=by unfold qc;rw[i,o]
 rw[B];have F:=D.dep_mem i;have k:=D.dep_mem o;exact xP I (n-1) _ _ _ _ _ _ g h A.in1 (.inl (t.views i q)) (.inl (u.views o r)) J L (by omega) (by omega) (by show A.units+1+(n-1)<cLine;omega)
def N5(I:Inv X c f H s)(hd:iU X.K H O d v)(he:iU X.K H O' e u)(ra:RelV v a)(rb:RelV u b)(M:d.dep<=n)(T:e.dep<20000)(hA:A.units+n<cLine):RcAt A s a b (D.eqb d e):=by
 have j:A.units<cLine:=by omega
 have B:=CS I hA;have W:cLine=9900:=rfl;have h1:=qh I hd ra (by omega);have E:=qh I he rb T
 cases h1 with
 |non=>
  cases E with
  |non=>exact RcAt.none_none
  |bl g=>exact RcAt.none_bool g
  |int g i=>exact RcAt.none_int g i
  |str g i=>exact RcAt.none_str g i
  |tup C o t h=>exact RcAt.none_tuple h j
  |lst C o t h=>exact RcAt.none_list h j
 |bl k=>
  cases E with
  |non=>exact RcAt.bool_none k
  |bl g=>exact RcAt.bool_bool k g
  |int g i=>exact RcAt.bool_int k g i
  |str g i=>exact RcAt.bool_str k g i
  |tup C o t h=>exact RcAt.bool_tuple k h j
  |lst C o t h=>exact RcAt.bool_list k h j
 |int k x=>
  cases E with
  |non=>exact RcAt.int_none k x
  |bl g=>exact RcAt.int_bool k x g
  |int g i=>exact RcAt.int_int k x g i
  |str g i=>exact RcAt.int_str k x g i
  |tup C o t h=>exact RcAt.int_tuple k x h j
  |lst C o t h=>exact RcAt.int_list k x h j
 |str k x=>
  cases E with
  |non=>exact RcAt.str_none k x
  |bl g=>exact RcAt.str_bool k x g
  |int g i=>exact RcAt.str_int k x g i
  |str g i=>exact RcAt.str_str k x g i
  |tup C o t h=>exact RcAt.str_tuple k x h j
  |lst C o t h=>exact RcAt.str_list k x h j
 | @tup l p U G q r J w=>
  cases E with
  |non=>exact RcAt.tuple_none w j
  |bl g=>exact RcAt.tuple_bool g w j
  |int g i=>exact RcAt.tuple_int g i w j
  |str g i=>exact RcAt.tuple_str g i w j
  | @tup m p2 Y L C o t h=>
   have N:D.depL l+1<=n:=by rw[D.dep] at M;exact M
   have Q:D.depL m<20000:=by rw[D.dep] at T;omega
   have P:=J.length;have R:=t.length;have S:=r.length;have V:=o.length;have z:=RcAt.tuples w h j (B l m U Y G L _ _ N Q r o J t);simp only[iE] at z;rw[show G.length=l.length by omega,show L.length=m.length by omega,lK] at z;rw[D.eqb];exact z
  |lst C o t h=>exact RcAt.tuple_list w h j
 | @lst l p U G q r J w=>
  cases E with
  |non=>exact RcAt.list_none w j
  |bl g=>exact RcAt.list_bool g w j
  |int g i=>exact RcAt.list_int g i w j
  |str g i=>exact RcAt.list_str g i w j
  |tup C o t h=>exact RcAt.list_tuple w h j
  | @lst m p2 Y L C o t h=>
   have N:D.depL l+1<=n:=by rw[D.dep] at M;exact M
   have Q:D.depL m<20000:=by rw[D.dep] at T;omega
   have P:=J.length;have R:=t.length;have S:=r.length;have V:=o.length;have F:=lK l m;by_cases y:l.length=m.length
   ·have z:=RcAt.lists w h (by simp only[iE];omega) j (B l m U Y G L _ _ N Q r o J t);simp only[iE] at z;rw[show G.length=min l.length m.length by omega] at z;rw[D.eqb,<-F,y];rw[y] at z;simpa using z
   ·have z:=RcAt.lists_lengths w h (by simp only[iE,bne_iff_ne,ne_eq];omega) j;rw[D.eqb,<-F];rw[show(l.length==m.length)=false by simpa using y];simpa using z
def IL(I:Inv X c f H s)(hd:iU X.K H O d v)(he:iU X.K H O' e u)(ra:RelV v a)(rb:RelV u b)(M:d.dep<=n)(T:e.dep<20000)(hA:A.units+n<cLine):RcNeAt A s a b (!D.eqb d e):=by
 have j:A.units<cLine:=by omega
 have B:=CS I hA;have W:cLine=9900:=rfl;have h1:=qh I hd ra (by omega);have E:=qh I he rb T
 cases h1 with
 |non=>
  cases E with
  |non=>exact RcNeAt.none_none
  |bl g=>exact RcNeAt.none_bool g
  |int g i=>exact RcNeAt.none_int g i
  |str g i=>exact RcNeAt.none_str g i
  |tup C o t h=>exact RcNeAt.none_tuple h j
  |lst C o t h=>exact RcNeAt.none_list h j
 |bl k=>
  cases E with
  |non=>exact RcNeAt.bool_none k
  |bl g=>exact RcNeAt.bool_bool k g
  |int g i=>exact RcNeAt.bool_int k g i
  |str g i=>exact RcNeAt.bool_str k g i
  |tup C o t h=>exact RcNeAt.bool_tuple k h j
  |lst C o t h=>exact RcNeAt.bool_list k h j
 |int k x=>
  cases E with
  |non=>exact RcNeAt.int_none k x
  |bl g=>exact RcNeAt.int_bool k x g
  |int g i=>exact RcNeAt.int_int k x g i
  |str g i=>exact RcNeAt.int_str k x g i
  |tup C o t h=>exact RcNeAt.int_tuple k x h j
  |lst C o t h=>exact RcNeAt.int_list k x h j
 |str k x=>
  cases E with
  |non=>exact RcNeAt.str_none k x
  |bl g=>exact RcNeAt.str_bool k x g
  |int g i=>exact RcNeAt.str_int k x g i
  |str g i=>exact RcNeAt.str_str k x g i
  |tup C o t h=>exact RcNeAt.str_tuple k x h j
  |lst C o t h=>exact RcNeAt.str_list k x h j
 | @tup l p U G q r J w=>
  cases E with
  |non=>exact RcNeAt.tuple_none w j
  |bl g=>exact RcNeAt.tuple_bool g w j
  |int g i=>exact RcNeAt.tuple_int g i w j
  |str g i=>exact RcNeAt.tuple_str g i w j
  | @tup m p2 Y L C o t h=>
   have N:D.depL l+1<=n:=by rw[D.dep] at M;exact M
   have Q:D.depL m<20000:=by rw[D.dep] at T;omega
   have P:=J.length;have R:=t.length;have S:=r.length;have V:=o.length;have z:=RcNeAt.tuples w h j (B l m U Y G L _ _ N Q r o J t);simp only[iE] at z;rw[show G.length=l.length by omega,show L.length=m.length by omega,lK] at z;rw[D.eqb];exact z
  |lst C o t h=>exact RcNeAt.tuple_list w h j
 | @lst l p U G q r J w=>
  cases E with
  |non=>exact RcNeAt.list_none w j
  |bl g=>exact RcNeAt.list_bool g w j
  |int g i=>exact RcNeAt.list_int g i w j
  |str g i=>exact RcNeAt.list_str g i w j
  |tup C o t h=>exact RcNeAt.list_tuple w h j
  | @lst m p2 Y L C o t h=>
   have N:D.depL l+1<=n:=by rw[D.dep] at M;exact M
   have Q:D.depL m<20000:=by rw[D.dep] at T;omega
   have P:=J.length;have R:=t.length;have S:=r.length;have V:=o.length;have F:=lK l m;by_cases y:l.length=m.length
   ·have z:=RcNeAt.lists w h (by simp only[iE];omega) j (B l m U Y G L _ _ N Q r o J t);simp only[iE] at z;rw[show G.length=min l.length m.length by omega] at z;rw[D.eqb,<-F,y];rw[y] at z;simpa using z
   ·have z:=RcNeAt.lists_lengths w h (by simp only[iE,bne_iff_ne,ne_eq];omega) j;rw[D.eqb,<-F];rw[show(l.length==m.length)=false by simpa using y];simpa using z
def Pe(j:X.A.units+60<cLine):OpR X (compareOp .Eq) (λx y H Q=> ∃O d e,iU X.K H O d x/\iU X.K H O e y/\(d.dep<=50/\e.dep<=50)/\Q (.bl (D.eqb d e)) H):=by
 intro c s f H x y v u Q I g i h;obtain⟨O,d,e,h1,a,b,q⟩:=h;exact N5 (A:=X.A) I h1 a g i b.1 (by omega) (by omega) _ _ _ _ ⟨.bl _,H,I,rfl,q⟩
def Pa(j:X.A.units+60<cLine):OpR X (compareOp .NotEq) (λx y H Q=> ∃O d e,iU X.K H O d x/\iU X.K H O e y/\(d.dep<=50/\e.dep<=50)/\Q (.bl (!D.eqb d e)) H):=by
 intro c s f H x y v u Q I g i h;obtain⟨O,d,e,h1,a,b,q⟩:=h;exact IL (A:=X.A) I h1 a g i b.1 (by omega) (by omega) _ _ _ _ ⟨.bl _,H,I,rfl,q⟩
end
def hV{e:Type}{c:Prop}[Decidable c]{a b:e}(h:(if c then some a else none)=some b):c/\a=b:=by
 split at h
 ·rename_i d;exact⟨d,ji h⟩
 ·cases h
section
variable {X:Cx}{c:ig}{f:L2.St}{H:Hp}{s:gA}
def A7(I:Inv X c f H s){A:gS}{l:List D}{o:List V}{a:iF}{O C:AP'}{b:D}{L:V}{x:gD}(r:RepL X.K H O l o)(v:Vals o a)(hx:iU X.K H C b L)(rx:RelV L x)(hn:D.depL l<=50)(hxn:b.dep<=50)(hA:A.units+60<cLine):
  ∃e:Value->Bool,(∀y∈a,EqAt A.in1 s y x (e y))/\a.any e=l.any λd=>D.eqb d b:=by
 let e:Value->Bool:=λy=>match(a.zip l).find? (λp=>p.1==y) with
  |some p=>D.eqb p.2 b
  |none=>false
 have W:=v.length;have Z:=r.length
 have m: ∀(j:Nat) (g:j<a.length) (h:j<l.length),e a[j]=D.eqb l[j] b:=λj g h=>by
  show(match(a.zip l).find? (λp=>p.1==a[j]) with|some p=>D.eqb p.2 b|none=>false)=_
  cases t:(a.zip l).find? (λp=>p.1==a[j]) with
  |none=>
   have:=List.find?_eq_none.mp t (a[j],l[j]) (by
    have:(a.zip l)[j]?=some (a[j],l[j]):=by simp[Dd,jm g,jm h]
    exact lE this)
   simp at this
  |some p=>
   have F:=List.find?_some t;have Y:=List.mem_of_find?_eq_some t;obtain⟨i,J⟩:=si Y;obtain⟨R,p2⟩:=p;rw[Dd] at J;have Q:R=a[j]:=qJ F;obtain⟨h1,k⟩:=J;have E:i<o.length:=by have:=(qM.mp h1).1;omega
   obtain⟨w,n,B⟩:=v.get (jm E);have q:j<o.length:=by omega
   obtain⟨w',M,S⟩:=v.get (jm q);rw[h1] at n;cases n;rw[jm g] at M;cases M;subst Q;have hv:=B.inj S;have a1:=r.views k (jm E);have N:=r.views (jm h) (jm q);rw[hv] at a1;have fQ:=D.dep_mem k;have:=Rep.inj I (by omega) a1 N;exact mM (λz=>D.eqb z b) this
 refine⟨e,λy P=>?_,?_⟩
 ·obtain⟨j,g⟩:=si P;have u:=(qM.mp g).1;have q:=(qM.mp g).2;have h:j<l.length:=by omega
  have G:j<o.length:=by omega
  obtain⟨w,n,B⟩:=v.get (jm G);rw[g] at n;cases n;have hk:=m j u h;rw[q] at hk;rw[hk];have hd:=D.dep_mem (jm h);exact xP I 50 _ _ _ _ _ _ O C A.in1 (.inl (r.views (jm h) (jm G))) hx B rx (by omega) (by omega) (by show A.units+1+50<cLine;omega)
 ·have:a.map e=l.map λd=>D.eqb d b:=by
   apply DI
   ·simp;omega
   ·intro j h1 k;simp only[jt] at h1 k;simp only[List.getElem_map];exact m j h1 k
  have T:a.any e=(a.map e).any id:=by rw[Ae];rfl
  have U:(l.any λd=>D.eqb d b)=(l.map λd=>D.eqb d b).any id:=by rw[Ae];rfl
  rw[T,U,this]
noncomputable def inD(x:D):D->Option Bool
 | .tup l=>if D.depL l<=50/\x.dep<=50 then some (l.any λd=>D.eqb d x) else none
 | .lst l=>if D.depL l<=50/\x.dep<=50 then some (l.any λd=>D.eqb d x) else none
 |_=>none
def Pd(B:X.A.units+60<cLine):OpR X (compareOp .In) (λx y H Q=> ∃O d e b,iU X.K H O d x/\iU X.K H O e y/\inD d e=some b/\Q (.bl b) H):=by
 intro c s f H x y v u Q I C E h;obtain⟨O,d,e,b,h1,z,j,q⟩:=h
 cases e with
 |tup l=>
  obtain⟨i,rfl⟩:=hV j
  ·skip
   obtain⟨a,G,rfl,n,r⟩:=jZ z;cases E;obtain⟨g,t,p,_⟩:=I.tuple n;obtain⟨e,m,k⟩:=A7 (A:=X.A) I r t h1 C i.1 i.2 B;refine in_tupleAt e p (λw o=>m w (by simpa using o)) ⟨.bl _,H,I,rfl,?_⟩;rw[show g.toArray.any e=g.any e by simp,k];exact q
 |lst l=>
  obtain⟨i,rfl⟩:=hV j
  ·skip
   obtain⟨a,G,rfl,n,r⟩:=jF z;cases E;obtain⟨g,t,p,_⟩:=I.list n;obtain⟨e,m,k⟩:=A7 (A:=X.A) I r t h1 C i.1 i.2 B;refine in_listAt e p.isList (λw o=>m w (by simpa using o)) ⟨.bl _,H,I,rfl,?_⟩;rw[show g.toArray.any e=g.any e by simp,k];exact q
 |_=>cases j
def GI(B:X.A.units+60<cLine):OpR X (compareOp .NotIn) (λx y H Q=> ∃O d e b,iU X.K H O d x/\iU X.K H O e y/\inD d e=some b/\Q (.bl (!b)) H):=by
 intro c s f H x y v u Q I C E h;obtain⟨O,d,e,b,h1,z,j,q⟩:=h
 cases e with
 |tup l=>
  obtain⟨i,rfl⟩:=hV j
  ·skip
   obtain⟨a,G,rfl,n,r⟩:=jZ z;cases E;obtain⟨g,t,p,_⟩:=I.tuple n;obtain⟨e,m,k⟩:=A7 (A:=X.A) I r t h1 C i.1 i.2 B;refine notIn_tupleAt e p (λw o=>m w (by simpa using o)) ⟨.bl _,H,I,rfl,?_⟩;rw[show g.toArray.any e=g.any e by simp,k];exact q
 |lst l=>
  obtain⟨i,rfl⟩:=hV j
  ·skip
   obtain⟨a,G,rfl,n,r⟩:=jF z;cases E;obtain⟨g,t,p,_⟩:=I.list n;obtain⟨e,m,k⟩:=A7 (A:=X.A) I r t h1 C i.1 i.2 B;refine notIn_listAt e p.isList (λw o=>m w (by simpa using o)) ⟨.bl _,H,I,rfl,?_⟩;rw[show g.toArray.any e=g.any e by simp,k];exact q
 |_=>cases j
end
def rD1(K:gW)(g:D->Option (D×Bool)):V->Hp->VK->Prop:=λx H Q=> ∃(O:AP') (d:D) (z:D×Bool),(∀p,¬Ow (H p)-> ¬O p)/\iU K H O d x/\g d=some z/\Gen K H O z Q
def rD(K:gW)(g:D->D->Option (D×Bool)):R2:=λx y H Q=> ∃(O:AP') (d e:D) (z:D×Bool),(∀p,¬Ow (H p)-> ¬O p)/\iU K H O d x/\iU K H O e y/\g d e=some z/\Gen K H O z Q
def rDn(K:gW)(g:List D->Option (D×Bool)):List V->Hp->VK->Prop:=λb H Q=> ∃(O:AP') (a:List D) (z:D×Bool),(∀p,¬Ow (H p)-> ¬O p)/\a.length=b.length/\(∀(j:Nat) d v,a[j]?=some d->b[j]?=some v->iU K H O d v)/\g a=some z/\Gen K H O z Q
section
variable {X:Cx}{e a b:gG}{c fb:FO}{fs:List FO}{k:Pos}
def px1(h:PE X e (tUn (rD1 X.K g) (tO X.K c))):PX X e (jn g c):=Of h λx z v H O Q np f d G=>⟨O,x,z,np,f,d,G⟩
def px2(h:PE X e (tOp (rD X.K g) (tO X.K c) (tO X.K fb))):PX X e (gB g c fb):=Oe h λx y z v u H O Q np f i d G=>⟨O,x,y,z,np,f,i,d,G⟩
def pxn(h:PE X e (tCB (rDn X.K g) (tA X.K fs))):PX X e (gL g fs):=LJ h λd z j H O Q np i hv f G=>⟨O,d,z,np,i,hv,f,G⟩
theorem hZ{K H}{O:AP'}{i:Int}{v:V}(h:iU K H O (.int i) v):v= .int i:=h.elim (λh=>h.int) λ⟨_,_,h⟩=>h.elim
theorem AA{K H}(h:iU K H O (.bl i) v):v= .bl i:=h.elim (λh=>h.bl) λ⟨_,_,h⟩=>h.elim
def sG{K H}(h:iU K H O (.str i) v):v= .str i:=h.elim (λh=>h.str) λ⟨_,_,h⟩=>h.elim
def BH{K H}(h:iU K H O .non v):v= .non:=h.elim (λh=>h.non) λ⟨_,_,h⟩=>h.elim
theorem Gen.str{K H}(g:Gen K H O (.str i,false) Q):Q (.str i) H:=g _ H (λ_ _ e=>e) Rep.mkStr
noncomputable def gI(f:Int->Int->Option D):D->D->Option (D×Bool)
 | .int i,.int j=>(f i j).map λz=>(z,false)
 |_,_=>none
def wa{f:Int->Int->Option D}{d e:D}{z:D×Bool}(h:gI f d e=some z): ∃i j y,d= .int i/\e= .int j/\f i j=some y/\z=(y,false):=by
 cases d with
 |int i=>
  cases e with
  |int j=>
   cases g:f i j with
   |none=>rw[gI,g] at h;cases h
   |some y=>rw[gI,g] at h;cases h;exact⟨i,j,y,rfl,rfl,g,rfl⟩
  |_=>cases h
 |_=>cases h
def vX{f:uX}{C:Int->Int->Prop}[∀i j,Decidable (C i j)]{g:Int->Int->Int}(q:OpR X f (rI C λi j=> .int (g i j))):OpR X f (rD X.K (gI λi j=>if C i j then some (.int (g i j)) else none)):=by
 intro l s A H x y v u Q I r t h;obtain⟨O,d,e,z,np,h1,m,p,G⟩:=h;obtain⟨i,j,w,rfl,rfl,o,rfl⟩:=wa p;obtain⟨n,rfl⟩:=hV o;exact q l s A H x y v u Q I r t ⟨i,j,hZ h1,hZ m,n,G.int⟩
def JF{f:uX}{g:Int->Int->Int}(p:OpR X f (rI0 λi j=> .int (g i j))):OpR X f (rD X.K (gI λi j=>some (.int (g i j)))):=by
 intro l s t H x y v u Q I q r h;obtain⟨O,d,e,z,np,h1,m,o,G⟩:=h;obtain⟨i,j,w,rfl,rfl,n,rfl⟩:=wa o;cases n;exact p l s t H x y v u Q I q r ⟨i,j,hZ h1,hZ m,G.int⟩
instance(i j:Int):Decidable (CMul i j):=by unfold CMul;exact inferInstance
instance(i j:Int):Decidable (Hc i j):=by unfold Hc;exact inferInstance
instance(i j:Int):Decidable (Bv i j):=by unfold Bv;exact inferInstance
noncomputable def gSub:=gI λi j=>some (.int (i-j))
noncomputable def pe:=gI λi j=>if CMul i j then some (.int (i*j)) else none
noncomputable def Kh:=gI λi j=>if Hc i j then some (.int (i / j)) else none
noncomputable def tK:=gI λi j=>if 0<j then some (.int (i%j)) else none
noncomputable def xF:=gI λi j=>if Bv i j then some (.int (i^j.toNat)) else none
def oI:OpR X (binaryOp .Sub) (rD X.K gSub):=JF OY
def nJ:OpR X (binaryOp .Mult) (rD X.K pe):=vX Pb
def FA:OpR X (binaryOp .FloorDiv) (rD X.K Kh):=vX Mh
def oJ:OpR X (binaryOp .Mod) (rD X.K tK):=vX Pc
def vW:OpR X (binaryOp .Pow) (rD X.K xF):=vX OZ
noncomputable def kD:D->D->Option (D×Bool)
 | .int i,.int j=>some (.int (i+j),false)
 | .str i,.str j=>if i.length+j.length<=sizeLine then some (.str (i++j),false) else none
 | .tup l,.tup m=>if l.length+m.length<=sizeLine then some (.tup (l++m),false) else none
 | .lst l,.lst m=>if l.length+m.length<=sizeLine then some (.lst (l++m),true) else none
 |_,_=>none
def jH:OpR X (binaryOp .Add) (rD X.K kD):=by
 intro g s σ H x y v u Q I M N h;obtain⟨O,d,e,z,np,h1,T,o,G⟩:=h
 cases d with
 |int i=>
  cases e with
  |int j=>cases o;exact Pf g s σ H x y v u Q I M N ⟨i,j,hZ h1,hZ T,G.int⟩
  |_=>cases o
 |str i=>
  cases e with
  |str j=>
   obtain⟨W,rfl⟩:=hV o;exact El g s σ H x y v u Q I M N ⟨i,j,sG h1,sG T,W,G.str⟩
  |_=>cases o
 |tup l=>
  cases e with
  |tup m=>
   obtain⟨W,rfl⟩:=hV o;have k1:Rep X.K H O (.tup l) x:=h1.elim id λ⟨_,_,z⟩=>z.elim;have k2:Rep X.K H O (.tup m) y:=T.elim id λ⟨_,_,z⟩=>z.elim;obtain⟨U,xs,rfl,Y,J⟩:=k1.tup;obtain⟨E,ys,rfl,D,L⟩:=k2.tup;have l1:=J.length;have l2:=L.length;by_cases hx:xs=[]
   ·subst hx;have:l=[]:=by simpa using l1.symm
    subst this;cases M;cases N;obtain⟨q,P,S,_⟩:=I.tuple Y.sq;obtain⟨t,v2,V,_⟩:=I.tuple D.sq;have e1:q=[]:=by have:=P.length;simpa using this.symm
    subst e1;obtain⟨⟨R,dd,r,sl⟩,w,B,n,hd⟩:=id S;obtain⟨⟨cA,r0,data2,Z⟩,C,A,n2,f⟩:=id V;simp only at B hd A f;subst B hd A f
    refine Ak ⟨_,w,rfl⟩ ⟨_,C,rfl⟩ DQ DP DO DN (DM _ _)
     (tuple_addW0 U E #[] t.toArray n n2 dd r0 sl Z (by simp)) ⟨w,C,⟨.ref E,H,I,rfl,?_⟩⟩
    exact G _ H (λ_ _ e=>e) (by simpa using k2)
   ·refine Mi g s σ H _ _ v u Q I M N ⟨U,E,xs,ys,rfl,rfl,Y.sq,D.sq,hx,by omega,λhy=>?_,λhy p hp=>?_⟩
    ·subst hy;have:m=[]:=by simpa using l2.symm
     subst this;exact G _ H (λ_ _ e=>e) (by simpa using k1)
    ·exact G.tup hp (np p (nOw hp)) (J.append L)
  |_=>cases o
 |lst l=>
  cases e with
  |lst m=>
   obtain⟨W,rfl⟩:=hV o;obtain⟨U,xs,rfl,Y,J⟩:=jF h1;obtain⟨E,ys,rfl,D,L⟩:=jF T;have l1:=J.length;have l2:=L.length;cases M;cases N;obtain⟨q,P,S,_⟩:=I.list Y;obtain⟨t,v2,V,_⟩:=I.list D;have e1:=P.length;have e2:=v2.length;obtain⟨⟨R,dd,r,sl⟩,w,B,n,hd⟩:=id S.isList;obtain⟨⟨cA,r0,data2,Z⟩,C,A,n2,f⟩:=id V.isList;simp only at B hd A f;subst B hd A f
   refine Ak ⟨_,w,rfl⟩ ⟨_,C,rfl⟩ noFill_list_add seq_list_add PySem.F.slot_list_add PySem.F.entry_list_add (PySem.F.args_list_add_2 _ _)
    (list_addW U E q.toArray t.toArray n n2 dd r0 sl Z (by simp only[iE];omega)) ⟨w,C,?_⟩
   rw[show q.toArray++t.toArray=(q++t).toArray by simp];exact⟨.ref _,_,I.lnew (t':=s.toks) (P.append v2) (by rw[mx];omega),rfl,G.lst I.fresh (J.append L)⟩
  |_=>cases o
 |_=>cases o
noncomputable def gEq(d e:D):Option (D×Bool):=if d.dep<=50/\e.dep<=50 then some (.bl (D.eqb d e),false) else none
noncomputable def gNe(d e:D):Option (D×Bool):=if d.dep<=50/\e.dep<=50 then some (.bl (!D.eqb d e),false) else none
noncomputable def gIn(d e:D):Option (D×Bool):=(inD d e).map λb=>(.bl b,false)
noncomputable def mh(d e:D):Option (D×Bool):=(inD d e).map λb=>(.bl (!b),false)
def pT(l:X.A.units+60<cLine):OpR X (compareOp .Eq) (rD X.K gEq):=by
 intro f s o H x y v u Q I m n h;obtain⟨O,d,e,z,np,h1,g,j,G⟩:=h;obtain⟨i,rfl⟩:=hV j;exact Pe l f s o H x y v u Q I m n ⟨O,d,e,h1,g,i,G.bl⟩
def rL(l:X.A.units+60<cLine):OpR X (compareOp .NotEq) (rD X.K gNe):=by
 intro f s o H x y v u Q I m n h;obtain⟨O,d,e,z,np,h1,g,j,G⟩:=h;obtain⟨i,rfl⟩:=hV j;exact Pa l f s o H x y v u Q I m n ⟨O,d,e,h1,g,i,G.bl⟩
def ir{d g:Type}{x:Option d}{f:d->g}{b:g}(h:x.map f=some b): ∃a,x=some a/\f a=b:=by
 cases x with
 |none=>cases h
 |some a=>exact⟨a,rfl,ji h⟩
def JG(l:X.A.units+60<cLine):OpR X (compareOp .In) (rD X.K gIn):=by
 intro f s o H x y v u Q I m n h;obtain⟨O,d,e,z,np,h1,g,j,G⟩:=h;obtain⟨b,i,rfl⟩:=ir j;exact Pd l f s o H x y v u Q I m n ⟨O,d,e,b,h1,g,i,G.bl⟩
def yT(l:X.A.units+60<cLine):OpR X (compareOp .NotIn) (rD X.K mh):=by
 intro f s o H x y v u Q I m n h;obtain⟨O,d,e,z,np,h1,g,j,G⟩:=h;obtain⟨b,i,rfl⟩:=ir j;exact GI l f s o H x y v u Q I m n ⟨O,d,e,b,h1,g,i,G.bl⟩
noncomputable def mI:D->Option (D×Bool)
 | .int i=>some (.int (-i),false)
 |_=>none
def Le:UnR X (unaryOp .USub) (rD1 X.K mI):=by
 intro f s l H x v Q I j h;obtain⟨O,d,z,np,h1,g,G⟩:=h
 cases d with
 |int i=>cases g;exact NP f s l H x v Q I j ⟨i,hZ h1,G.int⟩
 |_=>cases g
noncomputable def gIx:D->D->Option (D×Bool)
 | .tup l,.int i=>(atI l i).map λd=>(d,false)
 | .lst l,.int i=>(atI l i).map λd=>(d,false)
 |_,_=>none
def F8{K H}{O:AP'}{l:List D}{f:List V}{i:Int}{d:D}(r:RepL K H O l f)(h:atI l i=some d): ∃v,atI f i=some v/\Rep K H O d v:=by
 unfold atI at h ⊢;rw[r.length];obtain⟨j,h1,g⟩:=gu h;rw[h1];exact r.get g
def Nt:IxR X (rD X.K gIx):=by
 intro f slice g s J H x y v u Q I C E h B;obtain⟨O,d,e,z,np,h1,A,j,G⟩:=h
 cases d with
 |tup l=>
  cases e with
  |int i=>
   obtain⟨w,n,rfl⟩:=ir j;obtain⟨p,t,rfl,q,r⟩:=jZ h1;obtain⟨o,hv,m⟩:=F8 r n;exact Pp f slice g s J H _ _ v u Q I C E ⟨p,t,i,o,rfl,hZ A,q,hv,G _ H (λ_ _ e=>e) m⟩ B
  |_=>cases j
 |lst l=>
  cases e with
  |int i=>
   obtain⟨w,n,rfl⟩:=ir j;obtain⟨p,t,rfl,q,r⟩:=jF h1;obtain⟨o,hv,m⟩:=F8 r n;exact MA f slice g s J H _ _ v u Q I C E ⟨p,t,i,o,rfl,hZ A,q,hv,G _ H (λ_ _ e=>e) m⟩ B
  |_=>cases j
 |_=>cases j
def Ot(h:OpR X (binaryOp op) (rD X.K g))(d:PO X a c)(f:PO X b fb):PX X (.BinOp a op b k) (gB g c fb):=px2 (Q8 h d f)
def Oq{d:CmpOp}{g:D->D->Option (D×Bool)}(j:OpR X (compareOp d) (rD X.K g))(f:PO X a c)(h:PO X b fb)(i:behindInMarks d b=false):PX X (.Compare a [d] [b] k) (gB g c fb):=px2 (Mc j f h i)
def Oi(d:PO X a c):PX X (.UnaryOp .USub a k) (jn mI c):=px1 (Q7 Le d)
def Q3(d:PO X a c)(f:PO X b fb)(g:ui b):PX X (.Subscript a b k) (gB gIx c fb):=px2 (Nm Nt d f g)
end
noncomputable def mT:List Opd->Option (List D)
 |[]=>some []
 | .val r::os=>(mT os).map (r.1:: ·)
 | .slot _::_=>none
noncomputable def nS(fs:List F):F:=λδ=>(iX (fs.map gx) δ).bind λp=>(mT p.1).bind λa=>if a.length<=sizeLine then some ((.tup a,false),p.2) else none
noncomputable def jG(fs:List F):F:=λδ=>(iX (fs.map gx) δ).bind λp=>(mT p.1).bind λa=>if a.length<=sizeLine then some ((.lst a,true),p.2) else none
section
variable {K:gW}{T n:AP'}{g:L2.St}{m e:Dn}{H f:Hp}{os:List Opd}{c:List V}
def Ops.rep(E:ER K H T g m)(B:Ops K T g m H os c e f n){j:Nat}{r:D×Bool}{v:V}(h1:os[j]?=some (.val r))(h:c[j]?=some v):Rep K f (λa=>OwnA g e a\/T a) r.1 v:=by
 obtain⟨d,b⟩:=r
 cases b with
 |false=>exact B.val j d v h1 h
 |true=>
  obtain⟨p,rfl,k,i,ok⟩:=B.tmp j d v h1 h;refine ok.rep (λz=>?_) λb _ z=>z;rcases z with z|z
  ·exact B.er.nT p z k
  ·exact(E.dom p z).ne i
theorem rF{O:AP'}: ∀{os:List Opd} {c:List V} {d:List D},mT os=some d->os.length=c.length->(∀(j:Nat) (r:D×Bool) (v:V),os[j]?=some (.val r)->c[j]?=some v->Rep K f O r.1 v)->RepL K f O d c
 |[],c,d,h,o,_=>by
  cases h;have:c=[]:=by simpa using o.symm
  subst this;exact RepL.nil
 | .slot i::os,c,d,h,_,_=>by cases h
 | .val r::os,c,d,h,o,k=>by
  obtain⟨l,h1,rfl⟩:=ir h
  cases c with
  |nil=>simp at o
  |cons v c=>exact RepL.cons (k 0 r v rfl rfl) (rF h1 (by simpa using o) λj p q a b=>k (j+1) p q (by simpa using a) (by simpa using b))
end
section
variable {X:Cx}{e a b:gG}{m:jh}{n fb:FO}{fs:List F}{c:Pos}
def Oa{x1}(h:PA X m (tA X.K (fs.map gx))):PX X (.Tuple m x1 c) (nS fs):=PX.imp (Jt h) λy H Q l=>by
 obtain⟨o,T,w,q,E,e,k⟩:=l;obtain⟨⟨os,d⟩,h1,e⟩:=gu e;obtain⟨u,g,e⟩:=gu e;obtain⟨i,e⟩:=hV e;obtain⟨rfl,rfl⟩:=rq e;refine⟨o,T,os,d,E,h1,λx s t B=>?_⟩;have r:=rF g B.len λj r v a b=>B.rep E a b;exact⟨by rw[r.length];exact i,λp f=>(B.done k).tup f (B.np (nOw f)) r⟩
def Oj(h:PA X m (tA X.K (fs.map gx))):PX X (.List m c) (jG fs):=PX.imp (OU h) λy H Q l=>by
 obtain⟨o,T,w,q,E,e,k⟩:=l;obtain⟨⟨os,d⟩,h1,e⟩:=gu e;obtain⟨u,f,e⟩:=gu e;obtain⟨g,e⟩:=hV e;obtain⟨rfl,rfl⟩:=rq e;refine⟨o,T,os,d,E,h1,λx s t B=>?_⟩;have r:=rF f B.len λj r v a b=>B.rep E a b;exact⟨by rw[r.length];exact g,λp i=>(B.done k).lst i r⟩
def Ml{g:List D}{f:List V}{d:D}(h:g.length=f.length)(hd:g=[d]): ∃v,f=[v]:=by
 subst hd
 cases f with
 |nil=>simp at h
 |cons v r=>
  cases r with
  |nil=>exact⟨v,rfl⟩
  |cons _ _=>simp at h
noncomputable def g1(g:D->Option (D×Bool)):List D->Option (D×Bool)
 |[d]=>g d
 |_=>none
noncomputable def g2(g:D->D->Option (D×Bool)):List D->Option (D×Bool)
 |[d,e]=>g d e
 |_=>none
def nq{f:gD}{g:D->Option (D×Bool)}(h: ∀(i:ig) (s:gA) (j:L2.St) (H:Hp) (x:V) (u:gD) (Q:VK) (O:AP') (d:D) (z:D×Bool),Inv X i j H s->RelV x u->(∀p,¬Ow (H p)-> ¬O p)->iU X.K H O d x->g d=some z->Gen X.K H O z Q->
  wpAny (model X.prog X.w) X.A (call f [u]) (EP X i j Q) X.xe s):jq X f (rDn X.K (g1 g)):=by
 intro i s j H B y Q I r q;obtain⟨O,l,z,np,o,hv,k,G⟩:=q
 match l,k with
 |[d],k=>
  obtain⟨v,rfl⟩:=Ml o rfl;obtain⟨u,rfl,t⟩:=sH r;exact h i s j H v u Q O d z I t np (hv 0 d v rfl rfl) k G
def KD{f:gD}{g:D->D->Option (D×Bool)}(h: ∀(i:ig) (s:gA) (k:L2.St) (H:Hp) (x y:V) (j:iF) (Q:VK) (O:AP') (d e:D) (z:D×Bool),Inv X i k H s->Vals [x,y] j->(∀p,¬Ow (H p)-> ¬O p)->iU X.K H O d x->iU X.K H O e y->g d e=some z->Gen X.K H O z Q->
  wpAny (model X.prog X.w) X.A (call f j) (EP X i k Q) X.xe s):jq X f (rDn X.K (g2 g)):=by
 intro i s k H u j Q I r t;obtain⟨O,o,z,np,q,hv,l,G⟩:=t
 match o,l,u,q with
 |[d,e],l,[x,y],_=>exact h i s k H x y j Q O d e z I r np (hv 0 d x rfl rfl) (hv 1 e y rfl rfl) l G
noncomputable def lY:D->Option (D×Bool)
 | .tup l=>some (.int l.length,false)
 | .lst l=>some (.int l.length,false)
 |_=>none
def kN:jq X (.builtin "len") (rDn X.K (g1 lY)):=nq λf s j H x u Q O d z I i np hd g G=>by
 cases d with
 |tup l=>
  cases g;obtain⟨p,h,rfl,q,r⟩:=jZ hd;refine tX f s j H [_] [u] Q I (.cons i .nil) ⟨p,h,rfl,.inr q,?_⟩;rw[r.length];exact G.int
 |lst l=>
  cases g;obtain⟨p,h,rfl,q,r⟩:=jF hd;refine tX f s j H [_] [u] Q I (.cons i .nil) ⟨p,h,rfl,.inl q,?_⟩;rw[r.length];exact G.int
 |_=>cases g
noncomputable def ml:D->Option (D×Bool)
 | .int i=>some (.int (if i<0 then -i else i),false)
 |_=>none
def lL:jq X (.builtin "abs") (rDn X.K (g1 ml)):=nq λf s j H x u Q O d z I h np hd g G=>by
 cases d with
 |int i=>cases g;exact KG f s j H [x] [u] Q I (.cons h .nil) ⟨i,by rw[hZ hd],G.int⟩
 |_=>cases g
noncomputable def CH:D->Option (D×Bool)
 | .int i=>some (.int i,false)
 | .bl b=>some (.int (if b then 1 else 0),false)
 |_=>none
def uW:jq X (.type "int") (rDn X.K (g1 CH)):=nq λf s j H x u Q O d z I h np hd g G=>by
 cases d with
 |int i=>cases g;exact zq f s j H [x] [u] Q I (.cons h .nil) (.inl ⟨i,by rw[hZ hd],G.int⟩)
 |bl i=>
  cases g;refine zq f s j H [x] [u] Q I (.cons h .nil) (.inr ⟨i,by rw[AA hd],?_⟩);have:=G.int;cases i<;>exact this
 |_=>cases g
noncomputable def kg:D->Option (D×Bool)
 | .tup l=>some (.tup l,false)
 | .lst l=>some (.tup l,false)
 |_=>none
def jS:jq X (.type "tuple") (rDn X.K (g1 kg)):=nq λf s o H x u Q O d z I k np hd g G=>by
 cases d with
 |tup l=>
  cases g;have j:Rep X.K H O (.tup l) x:=hd.elim id λ⟨_,_,z⟩=>z.elim;obtain⟨p,h,rfl,q,r⟩:=j.tup;exact qX f s o H [_] [u] Q I (.cons k .nil) ⟨p,h,rfl,.inr ⟨q.sq,G _ H (λ_ _ e=>e) j⟩⟩
 |lst l=>
  cases g;obtain⟨p,h,rfl,q,r⟩:=jF hd;exact qX f s o H [_] [u] Q I (.cons k .nil) ⟨p,h,rfl,.inl ⟨q,λt i=>G.tup i (np t (nOw i)) r⟩⟩
 |_=>cases g
noncomputable def FR:D->Option (D×Bool)
 | .tup l=>some (.lst l,true)
 | .lst l=>some (.lst l,true)
 |_=>none
def EN:jq X (.type "list") (rDn X.K (g1 FR)):=nq λf s k H x u Q O d z I j np hd g G=>by
 cases d with
 |tup l=>
  cases g;obtain⟨p,i,rfl,q,r⟩:=jZ hd;exact tV f s k H [_] [u] Q I (.cons j .nil) ⟨p,i,rfl,.inr q,λt h=>G.lst h r⟩
 |lst l=>
  cases g;obtain⟨p,i,rfl,q,r⟩:=jF hd;exact tV f s k H [_] [u] Q I (.cons j .nil) ⟨p,i,rfl,.inl q,λt h=>G.lst h r⟩
 |_=>cases g
end
abbrev FT:=Dn->Option (Bool×Dn)
def tT(K:gW)(f:FT):TT:=λe H Q=> ∃d T b a,ER K H T e d/\f d=some (b,a)/\ ∀c,Keep e d H a c->ER K c T e a->Q b c
def PTX(X:Cx)(e:gG)(f:FT):Prop:=PT X e (tT X.K f)
def PWX(X:Cx)(e:gG)(f:FT):Prop:=PW X e (tT X.K f)
noncomputable def asB:(D×Bool)×Dn->Option (Bool×Dn)
 |((.bl b,_),a)=>some (b,a)
 |_=>none
noncomputable def fT(f:F):FT:=λδ=>(f δ).bind asB
def yd(h:asB p=some q): ∃o,p=((.bl q.1,o),q.2):=by
 obtain⟨⟨d,o⟩,a⟩:=p
 cases d with
 |bl b=>cases h;exact⟨o,rfl⟩
 |_=>cases h
def Na{K:gW}{f:F}{a:L2.St}{H:Hp}{Q:Bool->Hp->Prop}(h:tT K (fT f) a H Q):tF K f a H λx i=> ∃c,x= .bl c/\Q c i:=by
 obtain⟨l,T,b,m,E,e,k⟩:=h;obtain⟨p,h1,j⟩:=gu e;obtain⟨o,rfl⟩:=yd j;refine⟨l,T,_,_,E,h1,λv g P=>?_⟩;obtain⟨d,r⟩:=P.rep E;exact⟨b,r.bl,k g P.1 d⟩
section
variable {X:Cx}{e a b c:gG}{m:jh}{A fb:FO}{f g:F}{l n:FT}{i:Pos}
def PT.imp'(h:PT X e t)(k: ∀j H Q,p j H Q->t j H Q):PT X e p:=λd s j H Q I o=>h d s j H Q I (k j H Q o)
def PW.imp'(h:PW X e t)(k: ∀j H Q,p j H Q->t j H Q):PW X e p:=λwh d s j H Q I o=>h wh d s j H Q I (k j H Q o)
def LP(h:PX X e f)(j: ∀d,isTrue e X.env d=(do let v <-d;standAt e.pos;holding [v] (truthy v))):PTX X e (fT f):=PT.imp' (OD h j) λo H Q k=>Na k
def Mk{r:R2}{g:D->D->Option (D×Bool)}(M:Qb X.K r g){t:L2.St}{H:Hp}{Q:VK}(N:tF X.K (gB g A fb) t H Q):tOp r (tO X.K A) (tO X.K fb) t H Q:=by
 obtain⟨U,T,P,Y,E,e,k⟩:=N;obtain⟨⟨o,d⟩,h1,e⟩:=gu e;obtain⟨⟨O,q⟩,C,e⟩:=gu e;obtain⟨x,G,e⟩:=gu e;obtain⟨y,I,e⟩:=gu e;obtain⟨z,J,e⟩:=gu e;obtain⟨rfl,rfl⟩:=gX e;refine⟨U,T,o,d,E,h1,λv F h=>⟨d,Bs T o v,O,q,h.er E,C,λu w s=>?_⟩⟩;have B:=Ops.cons E h (Ops.cons (h.er E) s (Ops.nil (s.er (h.er E))));exact M x y z v u w _ Q (λp L=>B.np L) (B.view (j:=0) rfl rfl G) (B.view (j:=1) rfl rfl I) J (B.done k)
def Q1{K:gW}{g:D->D->Option (D×Bool)}:Qb K (rD K g) g:=λx y z v u H O Q np h j d G=>⟨O,x,y,z,np,h,j,d,G⟩
def LR{d:CmpOp}{g:D->D->Option (D×Bool)}(o:OpR X (compareOp d) (rD X.K g))(h:PO X a A)(j:PO X b fb)(k:behindInMarks d b=false):PTX X (.Compare a [d] [b] i) (fT (gB g A fb)):=
 PT.imp' (LU o h j k) λq H Q p=>Mk Q1 (Na p)
noncomputable def ni(f g:FT):FT:=λδ=>(f δ).bind λp=>if p.1=true then g p.2 else some (false,p.2)
noncomputable def Ks(f g:FT):FT:=λd=>(f d).bind λp=>if p.1=true then some (true,p.2) else g p.2
noncomputable def lz(f:FT):FT:=λδ=>(f δ).bind λp=>some (!p.1,p.2)
def IY(d:PTX X a l):PWX X (.BoolOp .And [a] i) l:=LN d
def LL(d:PTX X a l):PWX X (.BoolOp .Or [a] i) l:=OA d
def LM(u:PTX X a l)(v:PWX X (.BoolOp .And (b::m) i) n):PWX X (.BoolOp .And (a::b::m) i) (ni l n):=PW.imp' (OB u v) λy H Q w=>by
 obtain⟨x,T,c,h,E,e,k⟩:=w;obtain⟨⟨p,d⟩,h1,e⟩:=gu e;refine⟨x,T,p,d,E,h1,λr o j=>?_⟩
 cases p with
 |true=>
  rw[gO rfl] at e;rw[gO rfl];exact⟨d,T,c,h,j,e,λs t q=>k s (o.trans t) q⟩
 |false=>
  rw[gZ jA] at e;rw[gZ jA];obtain⟨rfl,rfl⟩:=gX e;exact k r o j
def Ox(u:PTX X a l)(v:PWX X (.BoolOp .Or (b::m) i) n):PWX X (.BoolOp .Or (a::b::m) i) (Ks l n):=PW.imp' (Q5 u v) λy H Q w=>by
 obtain⟨x,T,c,h,E,e,k⟩:=w;obtain⟨⟨p,d⟩,h1,e⟩:=gu e;refine⟨x,T,p,d,E,h1,λr o j=>?_⟩
 cases p with
 |true=>
  rw[gO rfl] at e;rw[gO rfl];obtain⟨rfl,rfl⟩:=gX e;exact k r o j
 |false=>
  rw[gZ jA] at e;rw[gZ jA];exact⟨d,T,c,h,j,e,λs t q=>k s (o.trans t) q⟩
def LQ(j:PTX X a l):PTX X (.UnaryOp .Not a i) (lz l):=PT.imp' (OE j) λr H Q o=>by
 obtain⟨p,T,c,q,E,e,k⟩:=o;obtain⟨⟨h,d⟩,h1,e⟩:=gu e;obtain⟨rfl,rfl⟩:=gX e;exact⟨p,T,h,d,E,h1,k⟩
noncomputable def CP(f g:F):F:=λd=>(f d).bind λp=>(asB p).bind λq=>if q.1=true then g q.2 else some ((.bl false,false),q.2)
noncomputable def fOr(f g:F):F:=λd=>(f d).bind λp=>(asB p).bind λq=>if q.1=true then some ((.bl true,false),q.2) else g q.2
noncomputable def MK(f:F):F:=λd=>(f d).bind λp=>(asB p).bind λq=>some ((.bl (!q.1),false),q.2)
theorem Post.pre{K:gW}{T:AP'}{h:L2.St}{δ δ1 δ2:Dn}{H j q:Hp}{r:D×Bool}{v:V}(k:Keep h δ H δ1 j)(P:Post K T h δ1 j r δ2 v q):Post K T h δ H r δ2 v q:=by
 refine⟨k.trans P.1,?_⟩;obtain⟨d,o⟩:=r
 cases o with
 |false=>exact P.2
 |true=>
  obtain⟨p,h1,s,t⟩:=P.2;refine⟨p,h1,?_,t⟩
  cases u:H p with
  |none=>rfl
  |some w=>exact absurd s (k.dm p (by rw[u];simp))
def Ou(y:PX X a f)(z:PX X (.BoolOp .And (b::m) i) g):PX X (.BoolOp .And (a::b::m) i) (CP f g):=PX.imp (OW y z) λI H Q B=>by
 obtain⟨G,T,r,h,E,e,k⟩:=B;obtain⟨p,h1,e⟩:=gu e;obtain⟨⟨c,j⟩,x,d⟩:=gu e;obtain⟨o,rfl⟩:=yd x;refine⟨G,T,_,_,E,h1,λv s P=>?_⟩;obtain⟨q,C⟩:=P.rep E;refine⟨c,C.bl,?_⟩
 cases c with
 |true=>
  rw[gO rfl] at d;rw[gO rfl];exact⟨j,T,r,h,q,d,λw t u=>k w t (u.pre P.1)⟩
 |false=>
  rw[gZ jA] at d;rw[gZ jA];obtain⟨rfl,rfl⟩:=gX d;exact k _ s (Post.val P.1 q Rep.mkBl)
def LK{op}(d:PX X a f):PX X (.BoolOp op [a] i) f:=OR d
def Og(s:PX X a f):PX X (.UnaryOp .Not a i) (MK f):=PX.imp (OS s) λz H Q t=>by
 obtain⟨w,T,r,x,E,e,k⟩:=t;obtain⟨p,h1,e⟩:=gu e;obtain⟨⟨c,y⟩,q,j⟩:=gu e;obtain⟨o,rfl⟩:=yd q;obtain⟨rfl,rfl⟩:=gX j;refine⟨w,T,_,_,E,h1,λv h P=>?_⟩;obtain⟨d,u⟩:=P.rep E;exact⟨c,u.bl,k _ h (Post.val P.1 d Rep.mkBl)⟩
noncomputable def fIf(t:FT)(f g:F):F:=λδ=>(t δ).bind λp=>if p.1=true then f p.2 else g p.2
def Q4(u:PTX X c l)(s:PX X a f)(t:PX X b g):PX X (.IfExp c a b i) (fIf l f g):=PX.imp (Jw u s t) λz H Q v=>by
 obtain⟨x,T,r,h,E,e,k⟩:=v;obtain⟨⟨c,d⟩,h1,e⟩:=gu e;refine⟨x,T,c,d,E,h1,λy q p=>?_⟩
 cases c with
 |true=>rw[gO rfl] at e;rw[gO rfl];exact⟨d,T,r,h,p,e,λw j o=>k w j (o.pre q)⟩
 |false=>rw[gZ jA] at e;rw[gZ jA];exact⟨d,T,r,h,p,e,λw j o=>k w j (o.pre q)⟩
end
inductive Out where
 |nx(δ:Dn)|rt(r:D×Bool)(δ:Dn)|bk(δ:Dn)|ct(δ:Dn)
abbrev FS:=Dn->Option Out
structure SK(A:iI)(σ:L2.St)(δ:Dn)(H:Hp)(σ':L2.St)(δ':Dn)(H':Hp):Prop where
 kp: ∀a o,H a=some o-> ¬OwnA σ δ a->H' a=some o
 owi: ∀i a,OwnI σ' δ' i a->OwnI σ δ i a\/H a=none
 dm: ∀a,H a≠none->H' a≠none
 as: ∀i,¬A i->σ'[i]?=σ[i]?
structure FI(L:iI)(H0:Hp)(σ:L2.St)(δ:Dn)(H:Hp):Prop where
 ow: ∀i a,OwnI σ δ i a->L i\/H0 a=none
 dm: ∀a,H0 a≠none->H a≠none
def RV(K:gW)(T:AP')(f:Hp)(r:D×Bool)(c:L2.St)(b:Dn)(v:V)(e:Hp):Prop:=
 match r with
 |(d,false)=>ER K e T c b/\Rep K e (λa=>OwnA c b a\/T a) d v
 |(d,true)=> ∃p,v= .ref p/\f p=none/\ER K e (λa=>T a\/a=p) c b/\OwnOk K e (λa=>OwnA c b a\/T a\/a=p) d p
section
variable {A:iI}{c b l:L2.St}{δ δ1 δ2:Dn}{H j g m:Hp}{L:iI}{K:gW}{T:AP'}
def SK.refl:SK A c δ H c δ H:=⟨λ_ _ e _=>e,λ_ _ z=> .inl z,λ_ z=>z,λ_ _=>rfl⟩
theorem SK.ow(k:SK A c δ H b δ1 g)(a:gw)(h:OwnA b δ1 a):OwnA c δ a\/H a=none:=by
 obtain⟨i,d,h1,f⟩:=h;rcases k.owi i a ⟨d,h1,f⟩ with⟨e,n,o⟩|z
 ·exact .inl ⟨i,e,n,o⟩
 ·exact .inr z
theorem SK.trans(x:SK A c δ H b δ1 g)(y:SK A b δ1 g l δ2 m):SK A c δ H l δ2 m where
 kp:=λa o e n=>y.kp a o (x.kp a o e n) λz=>(x.ow a z).elim n λz=>by rw[z] at e;cases e
 owi:=λi a z=>(y.owi i a z).elim (x.owi i a) λz=> .inr (by
  cases h:H a with
  |none=>rfl
  |some o=>exact absurd z (x.dm a (by rw[h];simp)))
 dm:=λa z=>y.dm a (x.dm a z)
 as:=λi h=>(y.as i h).trans (x.as i h)
def Keep.sk(k:Keep c δ H δ1 g):SK A c δ H c δ1 g:=⟨k.kp,λi a z=> .inl (k.owi i a z),k.dm,λ_ _=>rfl⟩
def FI.step(f:FI L j c δ H)(k:SK A c δ H b δ1 g):FI L j b δ1 g where
 ow:=λi a z=>(k.owi i a z).elim (f.ow i a) λz=> .inr (by
  cases h:j a with
  |none=>rfl
  |some o=>exact absurd z (f.dm a (by rw[h];simp)))
 dm:=λa z=>k.dm a (f.dm a z)
theorem FI.fresh(f:FI L j c δ H)(a:H p=none):j p=none:=by
 cases h:j p with
 |none=>rfl
 |some o=>exact absurd a (f.dm p (by rw[h];simp))
end
def tS(K:gW)(A L:iI)(h:Hp)(f:FS):TS:=λD e H=> ∃d T g,ER K H T e d/\FI L h e d H/\f d=some g/\
 match g with
 | .nx b=> ∀a c,SK A e d H a b c->ER K c T a b->D.nx a c
 | .bk b=> ∀a c,SK A e d H a b c->ER K c T a b->D.bk a c
 | .ct b=> ∀a c,SK A e d H a b c->ER K c T a b->D.ct a c
 | .rt r b=> ∀v a c,SK A e d H a b c->RV K T h r a b v c->D.rt v c
def PSX(X:Cx)(A L:iI)(a:Hp)(st:Stmt)(f:FS):Prop:=PS X st (tS X.K A L a f)
def yG(X:Cx)(A L:iI)(a:Hp)(st:List Stmt)(f:FS):Prop:=PSs X st (tS X.K A L a f)
noncomputable def gQ:FS:=λδ=>some (.nx δ)
noncomputable def gE(f g:FS):FS:=λδ=>(f δ).bind λo=>match o with
 | .nx δ1=>g δ1
 |o=>some o
noncomputable def mB(f:F):FS:=λa=>(f a).bind λp=>some (.nx p.2)
noncomputable def jM(f:F):FS:=λa=>(f a).bind λp=>some (.rt p.1 p.2)
noncomputable def oG(i:Nat):FS:=λa=>match a[i]? with
 |some (some (d,true))=>some (.rt (d,true) (a.set i none))
 |some (some (d,false))=>some (.rt (d,false) a)
 |_=>none
noncomputable def sIf(t:FT)(f g:FS):FS:=λδ=>(t δ).bind λp=>if p.1=true then f p.2 else g p.2
noncomputable def iz(i:Nat)(f:F):FS:=λδ=>(f δ).bind λp=>if i<p.2.length then some (.nx (p.2.set i (some p.1))) else none
section
variable {X:Cx}{A L:iI}{i:Hp}{st:Stmt}{l:List Stmt}{f g:FS}{m:F}{n:FT}{e c:gG}{j:Pos}
def PS.imp'(h:PS X st t)(k: ∀D b H,o D b H->t D b H):PS X st o:=λa s b H D I d=>h a s b H D I (k D b H d)
def PSs.imp'(h:PSs X l t)(k: ∀D b H,o D b H->t D b H):PSs X l o:=λa s b H D I d=>h a s b H D I (k D b H d)
def Jb:yG X A L i [] gQ:=PSs.imp' Fu λD d H a=>by
 obtain⟨o,T,b,E,h,e,k⟩:=a;cases e;exact k d H .refl E
def GB(h1:PSX X A L i st f)(x:yG X A L i l g):yG X A L i (st::l) (gE f g):=PSs.imp' (ox h1 x) λD I H z=>by
 obtain⟨B,T,t,E,u,e,k⟩:=z;obtain⟨o,y,e⟩:=gu e;refine⟨B,T,o,E,u,y,?_⟩
 cases o with
 |nx b=>
  intro C G s w;refine⟨b,T,t,w,u.step s,e,?_⟩
  cases t with
  |nx p=>exact λa d h q=>k a d (s.trans h) q
  |bk p=>exact λa d h q=>k a d (s.trans h) q
  |ct p=>exact λa d h q=>k a d (s.trans h) q
  |rt r p=>exact λv a d h R2=>k v a d (s.trans h) R2
 |rt r b=>cases e;exact k
 |bk b=>cases e;exact k
 |ct b=>cases e;exact k
def IZ(h:PX X e m)(d:swapsWith e none j.line X.env=pure false):PSX X A L i (.Expr e j) (mB m):=PS.imp' (L0 h d) λD s H o=>by
 obtain⟨r,T,q,E,t,e,k⟩:=o;obtain⟨p,b,e⟩:=gu e;cases e;exact⟨r,T,p.1,p.2,E,b,λv a P=>k s a P.1.sk (P.rep E).1⟩
def LY(h:PX X e m):PSX X A L i (.Return (some e) j) (jM m):=PS.imp' (Je h) λD y H t=>by
 obtain⟨w,T,u,E,r,e,k⟩:=t;obtain⟨p,a,e⟩:=gu e;cases e;refine⟨w,T,p.1,p.2,E,a,λv b P=>k v y b P.1.sk ?_⟩;obtain⟨⟨d,o⟩,x⟩:=p
 cases o with
 |false=>exact P.2
 |true=>
  obtain⟨q,h1,s,a⟩:=P.2;exact⟨q,h1,r.fresh s,a⟩
def OF(M:PTX X c n)(I:yG X A L i a f)(J:yG X A L i b g):PSX X A L i (.If c a b j) (sIf n f g):=PS.imp' (Nk M I J) λD x H O=>by
 obtain⟨z,T,s,E,G,e,k⟩:=O;obtain⟨⟨c,o⟩,h1,e⟩:=gu e;refine⟨z,T,c,o,E,h1,λy C B=>?_⟩;have w:SK A x z H x o y:=C.sk
 have fin: ∀(h:FS),h o=some s->tS X.K A L i h D x y:=λh N=>by
  refine⟨o,T,s,B,G.step w,N,?_⟩
  cases s with
  |nx t=>exact λd p q u=>k d p (w.trans q) u
  |bk t=>exact λd p q u=>k d p (w.trans q) u
  |ct t=>exact λd p q u=>k d p (w.trans q) u
  |rt r t=>exact λv d p q R2=>k v d p (w.trans q) R2
 cases c with
 |true=>rw[gO rfl] at e;exact(show(if true=true then tS X.K A L i f D x y else _) from by rw[gO rfl];exact fin f e)
 |false=>rw[gZ jA] at e;exact(show(if false=true then _ else tS X.K A L i g D x y) from by rw[gZ jA];exact fin g e)
end
def ky{b:Type}{l:List b}{i j:Nat}{x y:b}(h:(l.set i x)[j]?=some y):(i=j/\i<l.length/\y=x)\/(i≠j/\l[j]?=some y):=by
 rw[wt] at h;split at h
 ·rename_i a;split at h
  ·rename_i c;exact .inl ⟨a,c,(ji h).symm⟩
  ·cases h
 ·rename_i a;exact .inr ⟨a,h⟩
section
variable {K:gW}{T:AP'}{f:L2.St}{l c:Dn}{H g:Hp}{x:D×Bool}{v:V}{i:Nat}
def OwnI.store{j:Nat}{a:gw}(h:OwnI (f.set i (some v)) (l.set i (some x)) j a):(i≠j/\OwnI f l j a)\/(i=j/\x.2=true/\v= .ref a):=by
 obtain⟨d,h1,m⟩:=h;rcases ky h1 with⟨e,_,q⟩|⟨ne,q⟩
 ·rcases ky m with⟨_,_,k⟩|⟨b,_⟩
  ·right;cases q;exact⟨e,rfl,(ji k).symm⟩
  ·exact absurd e b
 ·rcases ky m with⟨n,_,_⟩|⟨_,k⟩
  ·exact absurd n ne
  ·exact .inl ⟨ne,d,q,k⟩
def OwnA.store(h:OwnA (f.set i (some v)) (l.set i (some x)) a):OwnA f l a\/(x.2=true/\v= .ref a):=by
 obtain⟨j,d,h1,k⟩:=h;rcases OwnI.store ⟨d,h1,k⟩ with⟨_,e,b,m⟩|⟨_,b⟩
 ·exact .inl ⟨j,e,b,m⟩
 ·exact .inr b
def ER.store(h:ER K g (Tmp T x v) f c)(E:i<c.length)(u:match x with|(d,false)=>Rep K g (λa=>OwnA f c a\/T a) d v|(d,true)=> ∃p,v= .ref p/\ ¬T p/\OwnOk K g (λa=>OwnA f c a\/T a\/a=p) d p):
  ER K g T (f.set i (some v)) (c.set i (some x)):=by
 have r:i<f.length:=by rw[h.len];exact E
 have sub: ∀b,g b≠none->(OwnA (f.set i (some v)) (c.set i (some x)) b\/T b)->(OwnA f c b\/Tmp T x v b):=λb _ z=>by
  rcases z with z|z
  ·rcases z.store with z|z
   ·exact .inl z
   ·exact .inr (.inr z)
  ·exact .inr (.inl z)
 refine⟨by rw[sv,sv];exact h.len,λj d o=>?_,λj d o=>?_,λj k d e a o hk h1 n=>?_,λa z=>?_,λa z=>h.dom a (.inl z)⟩
 ·rcases ky o with⟨rfl,_,q⟩|⟨ne,q⟩
  ·have q:=ji q;subst q
   exact⟨v,my r,Rep.mono (λ_ _ e _=>e) (λb C z=>by
    rcases z with z|z
    ·rcases z.store with z|z
     ·exact .inl z
     ·exact absurd z.1 (by simp)
    ·exact .inr z) u⟩
  ·obtain⟨w,h1,n⟩:=h.val j d q;exact⟨w,by rw[mP ne];exact h1,Rep.mono (λ_ _ e _=>e) sub n⟩
 ·rcases ky o with⟨rfl,_,q⟩|⟨ne,q⟩
  ·have q:=ji q;subst q;obtain⟨p,rfl,np,ok⟩:=u;refine⟨p,my r,ok.mono (λ_ _ e _=>e) (λb C z=>?_) λ_ e=>e⟩;rcases z with z|z
   ·rcases z.store with z|z
    ·exact .inl z
    ·have:=z.2;cases this;exact .inr (.inr rfl)
   ·exact .inr (.inl z)
  ·obtain⟨a,h1,n⟩:=h.own j d q;exact⟨a,by rw[mP ne];exact h1,n.mono (λ_ _ e _=>e) sub λ_ e=>e⟩
 ·rcases OwnI.store ⟨d,o,h1⟩ with⟨I,y,g1,g2⟩|⟨B,g1,g2⟩
  ·rcases OwnI.store ⟨e,hk,n⟩ with⟨G,s,g3,m⟩|⟨A,g3,m⟩
   ·exact h.inj j k y s a g1 g3 g2 m
   ·exact absurd (Or.inr ⟨g3,m⟩) (h.nT a ⟨j,y,g1,g2⟩)
  ·rcases OwnI.store ⟨e,hk,n⟩ with⟨G,s,g3,m⟩|⟨A,g3,m⟩
   ·exact absurd (Or.inr ⟨g1,g2⟩) (h.nT a ⟨k,s,g3,m⟩)
   ·exact B.symm.trans A
 ·rcases z.store with z|z
  ·exact λt=>h.nT a z (.inl t)
  ·obtain⟨d,b⟩:=x
   cases b with
   |false=>exact absurd z.1 (by simp)
   |true=>
    obtain⟨p,rfl,np,_⟩:=u;have:=z.2;cases this;exact np
def SK.store(k:Keep f l H c g)(b:A i)(h:x.2=true-> ∀p,v= .ref p->H p=none):SK A f l H (f.set i (some v)) (c.set i (some x)) g where
 kp:=k.kp
 owi:=λj a z=>by
  rcases z.store with⟨_,z⟩|⟨_,m,n⟩
  ·exact .inl (k.owi j a z)
  ·exact .inr (h m a n)
 dm:=k.dm
 as:=λj d=>mP (λ(e:i=j)=>d (by subst e;exact b))
end
section
variable {X:Cx}{A L:iI}{m:Hp}{l:F}{e c:gG}{g f:Pos}
def wH{K:gW}{T:AP'}{b:L2.St}{n a:Dn}{H j:Hp}{r:D×Bool}{v:V}{i:Nat}(E:ER K H T b n)(P:Post K T b n H r a v j)(u:i<a.length)(t:A i):
  SK A b n H (b.set i (some v)) (a.set i (some r)) j/\ER K j T (b.set i (some v)) (a.set i (some r)):=by
 have w:r.2=true-> ∀p,v= .ref p->H p=none:=λh p hv=>by
  obtain⟨d,o⟩:=r
  cases o with
  |false=>cases h
  |true=>obtain⟨q,h1,k,_⟩:=P.2;rw[hv] at h1;cases h1;exact k
 refine⟨SK.store P.1 t w,ER.store (P.er E) u ?_⟩;obtain⟨d,o⟩:=r
 cases o with
 |false=>exact P.2.2
 |true=>
  obtain⟨p,rfl,k,x,s⟩:=P.2;exact⟨p,rfl,λz=>(E.dom p z).ne k,s⟩
def LX{i:Nat}{x:Str}(n:X.N.Nodup)(a:X.N[i]?=some x)(u:Loc X.env.scope x)(p:PX X e l)(s:swapsWith e (some (.Name x f)) g.line X.env=pure false)(q:X.fn x=true\/X.env.scope.names.lookup x=some .local)(o:A i):
  PSX X A L m (.Assign [.Name x f] e g) (iz i l):=PS.imp' (Jd n a u p s q) λD B H t=>by
 obtain⟨y,T,w,E,z,e,k⟩:=t;obtain⟨⟨r,b⟩,j,e⟩:=gu e;obtain⟨a,rfl⟩:=hV e;refine⟨y,T,r,b,E,j,λv d P=>?_⟩;obtain⟨h1,h⟩:=wH (A:=A) E P a o;exact k _ d h1 h
def Eg{i:Nat}{x:Str}(Y:X.N[i]?=some x)(hv:Vis X.env.scope x)(hd:(x==("__debug__":Str))=false)(k7:(x==("__classdict__":Str))=false)(hl: ¬L i):PSX X A L m (.Return (some (.Name x f)) g) (oG i):=PS.imp' (Je (wY Y hv hd k7)) λD u H K=>by
 obtain⟨s,T,P,E,U,e,k⟩:=K;unfold oG at e
 cases o:s[i]? with
 |none=>rw[o] at e;cases e
 |some q=>
  cases q with
  |none=>rw[o] at e;cases e
  |some p=>
   obtain⟨d,b⟩:=p;have F:i<s.length:=(qM.mp o).1
   cases b with
   |false=>
    rw[o] at e;cases e;obtain⟨v,h1,C⟩:=E.val i d o;exact⟨v,h1,k v u H .refl ⟨E,C⟩⟩
   |true=>
    rw[o] at e;cases e;obtain⟨a,h1,C⟩:=E.own i d o
    have h: ∀j b,OwnI u (s.set i none) j b->i≠j/\OwnI u s j b:=λj b ⟨r,g1,g2⟩=>by
     rcases ky g1 with⟨_,_,q⟩|⟨ne,q⟩
     ·cases q
     ·exact⟨ne,r,q,g2⟩
    have n: ∀b,OwnA u (s.set i none) b->OwnA u s b/\b≠a:=λb ⟨j,r,g1,g2⟩=>by
     obtain⟨ne,B,g3,J⟩:=h j b ⟨r,g1,g2⟩;exact⟨⟨j,B,g3,J⟩,λz=>ne (by subst z;exact E.inj i j d B _ o g3 h1 J)⟩
    have M:OwnA u s a:=⟨i,d,o,h1⟩
    have sub: ∀b,H b≠none->(OwnA u (s.set i none) b\/(T b\/b=a))->(OwnA u s b\/T b):=λb _ z=>by
     rcases z with z|z|z
     ·exact .inl (n b z).1
     ·exact .inr z
     ·subst z;exact .inl M
    refine⟨.ref a,h1,k (.ref a) u H ⟨λ_ _ e _=>e,λj b z=> .inl (h j b z).2,λ_ z=>z,λ_ _=>rfl⟩ ⟨a,rfl,?_,?_,C.mono (λ_ _ e _=>e) sub λ_ e=>e⟩⟩
    ·rcases U.ow i a ⟨d,o,h1⟩ with z|z
     ·exact absurd z hl
     ·exact z
    ·refine⟨by rw[sv];exact E.len,λj r y=>?_,λj r y=>?_,λj k r Q b y hk g1 g2=>?_,λb z t=>?_,λb z=>?_⟩
     ·rcases ky y with⟨_,_,q⟩|⟨ne,q⟩
      ·cases q
      ·obtain⟨w,G,I⟩:=E.val j r q;exact⟨w,G,Rep.mono (λ_ _ e _=>e) sub I⟩
     ·rcases ky y with⟨_,_,q⟩|⟨ne,q⟩
      ·cases q
      ·obtain⟨w,G,I⟩:=E.own j r q;exact⟨w,G,I.mono (λ_ _ e _=>e) sub λ_ e=>e⟩
     ·obtain⟨_,B,R,S⟩:=h j b ⟨r,y,g1⟩;obtain⟨_,O,V,W⟩:=h k b ⟨Q,hk,g2⟩;exact E.inj j k B O b R V S W
     ·obtain⟨Z,z2⟩:=n b z;rcases t with t|t
      ·exact E.nT b Z t
      ·exact z2 t
     ·rcases z with z|z
      ·exact E.dom b z
      ·subst z;exact E.ownOw M
end
abbrev Tg:=D->Dn->Option Dn
def tG(K:gW)(A:iI)(g:Tg):TG:=λv f H Q=> ∃e T d b,ER K H T f e/\Rep K H (λa=>OwnA f e a\/T a) d v/\g d e=some b/\ ∀c,SK A f e H c b H->ER K H T c b->Q c H
def PGX(X:Cx)(A:iI)(e:gG)(a:Tg):Prop:=PG X e (tG X.K A a)
noncomputable def gH(i:Nat):Tg:=λd δ=>if i<δ.length then some (δ.set i (some (d,false))) else none
noncomputable def Fg:List Tg->List D->Dn->Option Dn
 |[],[],a=>some a
 |t::b,d::ds,a=>(t d a).bind (Fg b ds)
 |_,_,_=>none
noncomputable def pO(a:List Tg):Tg
 | .tup ds,δ=>Fg a ds δ
 |_,_=>none
def tGs(K:gW)(A:iI)(g:List Tg):TGs:=λh e H Q=> ∃d T f b,ER K H T e d/\RepL K H (λa=>OwnA e d a\/T a) f h/\Fg g f d=some b/\ ∀c,SK A e d H c b H->ER K H T c b->Q c H
section
variable {X:Cx}{A:iI}{g:Pos}{e:gG}{f:jh}{t:Tg}{c:List Tg}
def PG.imp'{t d:TG}(h:PG X e t)(k: ∀v b H Q,d v b H Q->t v b H Q):PG X e d:=λa s b H v u Q I r i=>h a s b H v u Q I r (k v b H Q i)
def PGs.imp'{t d:TGs}(h:PGs X f t)(k: ∀v b H Q,d v b H Q->t v b H Q):PGs X f d:=λa s b H v u Q I r i=>h a s b H v u Q I r (k v b H Q i)
def Jp{i:Nat}{x:Str}(h:X.N.Nodup)(a:X.N[i]?=some x)(n:Loc X.env.scope x)(l:X.fn x=true\/X.env.scope.names.lookup x=some .local)(j:A i):PGX X A (.Name x g) (gH i):=PG.imp' (Fv h a n l) λv q H Q m=>by
 obtain⟨p,T,d,o,E,r,e,k⟩:=m;obtain⟨a,rfl⟩:=hV e;obtain⟨h1,b⟩:=wH (A:=A) (r:=(d,false)) (v:=v) E (Post.val .refl E r) a j;exact k _ h1 b
def Jq:PGs X [] (tGs X.K A []):=PGs.imp' Mb λv h H Q b=>by
 obtain⟨i,T,a,d,E,r,e,k⟩:=b
 cases a with
 |nil=>
  cases e;rw[RepL] at r;exact⟨r,k h .refl E⟩
 |cons _ _=>cases e
def yR(h1:PGX X A e t)(p:PGs X f (tGs X.K A c))(u:(assignEach (e::f) X.env).map (·.2)=assign e X.env::(assignEach f X.env).map (·.2)):PGs X (e::f) (tGs X.K A (t::c)):=PGs.imp' (Jr h1 p u) λv J H Q w=>by
 obtain⟨G,T,h,i,E,r,e,k⟩:=w
 cases h with
 |nil=>cases e
 |cons d h=>
  rw[RepL] at r;obtain⟨B,C,rfl,x,y⟩:=r;obtain⟨a,q,e⟩:=gu e;refine⟨B,C,rfl,G,T,d,a,E,x,q,λI l m=>⟨a,T,h,i,m,?_,e,λj o n=>k j (l.trans o) n⟩⟩;exact RepL.mono (λ_ _ e _=>e) (λb s z=>z.elim (λz=>(l.ow b z).elim Or.inl λz=>absurd z s) Or.inr) y
def Ma{k:Nat}(o:X.calm=true)(h:PGs X f (tGs X.K A c)){n:Nat}(s:(assignEach f X.env).length=n)(p:c.length=n)(x:(assignEach f X.env).findIdx? (·.1)=none):PGX X A (.Tuple f k g) (pO c):=PG.imp' (OP o h s x) λv z H Q u=>by
 obtain⟨i,T,d,j,E,r,e,k⟩:=u
 cases d with
 |tup b=>
  obtain⟨a,y,rfl,q,m⟩:=r.tup;refine⟨a,y,rfl,q.sq,?_,i,T,b,j,E,m,e,k⟩
  have: ∀(c:List Tg) (b:List D) (i:Dn),Fg c b i=some j->b.length=c.length:=by
   intro c
   induction c with
   |nil=>intro b i h;cases b with|nil=>rfl|cons _ _=>cases h
   |cons t c w=>
    intro b i h
    cases b with
    |nil=>cases h
    |cons d b=>obtain⟨l,_,h⟩:=gu h;simp[w b l h]
  rw[m.length,this c b i e,p]
 |_=>cases e
end
abbrev SB:=Nat->Prop
def OwB(B:SB)(T:AP')(c:L2.St)(b:Dn):AP':=λa=>(∃i,¬B i/\OwnI c b i a)\/T a
def OwB.own(h:OwB B T σ δ a):OwnA σ δ a\/T a:=h.imp (λ⟨i,_,d,h1,b⟩=>⟨i,d,h1,b⟩) id
structure ItOk(K:gW)(J:It)(ds:List D)(P O:AP')(H1:Hp):Prop where
 go: ∀(i:Nat) d Hi,ds[i]?=some d->(∀a o,H1 a=some o-> ¬P a->Hi a=some o)->J.go i Hi/\ ∀x H',J.yld i Hi x H'->(∀a o,Hi a=some o->H' a=some o)/\
  ∀O':AP',(∀b,H1 b≠none->O' b->O b)->(∀b,Hi b=none-> ¬O' b)->Rep K H' O' d x
 stop: ∀(i:Nat) Hi,ds.length<=i->(∀a o,H1 a=some o-> ¬P a->Hi a=some o)->J.stop i Hi
abbrev FIt:=Dn->Option (List D×Dn)
def tI(K:gW)(B:SB)(g:FIt):TI:=λc H R=> ∃e T f b,ER K H T c e/\g e=some (f,b)/\ ∀J d,Keep c e H b d->ER K d T c b->ItOk K J f (OwB B T c b) (λa=>OwnA c b a\/T a) d->R J d
def PIX(X:Cx)(B:SB)(tg iter:gG)(a:FIt):Prop:=PI X tg iter (tI X.K B a)
noncomputable def yN:D->Option (List D)
 | .tup l=>some l
 | .lst l=>some l
 |_=>none
noncomputable def xw(f:FO):FIt:=λa=>(f a).bind λp=>(res p.2 p.1).bind λd=>(yN d).bind λl=>some (l,p.2)
noncomputable def iN(f:F):FIt:=λδ=>(f δ).bind λp=>match p.1.1 with
 | .lst l=>some (l,p.2)
 | .tup l=>some (l,p.2)
 |_=>none
noncomputable def iu(lo:Int)(n:Nat):List D:=(List.range n).map λ(k:Nat)=> .int (lo+k)
noncomputable def vN(f:FO):FIt:=λδ=>(iX [f] δ).bind λp=>match rH p.2 p.1 with
 |some [.int j]=>if -(2^62)<=j/\j<2^62 then some (iu 0 j.toNat,p.2) else none
 |_=>none
def SlB(B:SB)(f:FO):Prop:= ∀b i a,f b=some (.slot i,a)->B i
def Lj:SlB B (gx f):=λb i a h=>by
 obtain⟨p,_,h⟩:=gu h;cases h
def AF(h:B i):SlB B (gv i):=λb j a e=>by
 unfold gv at e;split at e<;>cases e
 exact h
noncomputable def isL:D->Bool
 | .lst _=>true
 |_=>false
def SqA(b:Bool)(K:gW)(H:Hp)(P:AP')(a:gw)(c:List V):Prop:=if b=true then SqLO K H P a c else SqTO K H P a c
def SqA.mono{K H c}{P d:AP'}(q:SqA b K H P a xs)(k: ∀b o,H b=some o-> ¬P b->c b=some o)(e: ∀b,d b->P b):SqA b K c d a xs:=by
 cases b with
 |true=>exact SqLO.mono q k λb _=>e b
 |false=>exact SqTO.mono (K:=K) q k λb _=>e b
theorem SqA.l{K H}(q:SqA true K H P a xs):SqL K H a xs:=SqLO.sq q
theorem SqA.t{K H}(q:SqA false K H P a xs):SqT K H a xs:=SqTO.sq (K:=K) q
def Gs{K H}(h:yN d=some l)(r:Rep K H O d v): ∃a b,v= .ref a/\SqA (isL d) K H O a b/\RepL K H O l b:=by
 cases d with
 |tup m=>cases h;obtain⟨a,b,rfl,q,c⟩:=r.tup;exact⟨a,b,rfl,q,c⟩
 |lst m=>cases h;obtain⟨a,b,rfl,q,c⟩:=r.lst;exact⟨a,b,rfl,q,c⟩
 |_=>cases h
def Ops.seq{K:gW}{T C:AP'}{h:L2.St}{A c:Dn}{H n:Hp}{os:List Opd}{y:List V}(E:ER K H T h A)(W:Ops K T h A H os y c n C){j:Nat}(h1:os[j]?=some o)(x:y[j]?=some v)(s:res c o=some d)(t:yN d=some l)(I: ∀i,o= .slot i->B i):
  ∃a g,v= .ref a/\SqA (isL d) K n (OwB B T h c) a g/\RepL K n (λa=>OwnA h c a\/T a) l g:=by
 have fin:Rep K n (λa=>OwnA h c a\/T a) d v-> ∃a g,v= .ref a/\SqA (isL d) K n (OwB B T h c) a g/\RepL K n (λa=>OwnA h c a\/T a) l g:=λr=>by
  obtain⟨a,g,rfl,q,u⟩:=Gs t r;exact⟨a,g,rfl,q.mono (λ_ _ e _=>e) λa z=>z.own,u⟩
 cases o with
 |val r=>cases s;exact fin (W.rep E h1 x)
 |slot i=>
  have hk:=W.slt j i _ h1 x
  have hd: ∃f,c[i]?=some (some (d,f)):=by
   unfold res at s;dsimp only at s;split at s<;>cases s
   exact⟨_,by assumption⟩
  obtain⟨f,hd⟩:=hd
  cases f with
  |false=>
   obtain⟨w,p,G⟩:=W.er.val i _ hd;rw[hk] at p;cases p;exact fin (Rep.mono (λ_ _ e _=>e) (λb _ z=>z.imp id (W.tt b)) G)
  |true=>
   obtain⟨a,p,ok⟩:=W.er.own i _ hd;rw[hk] at p;cases p
   cases d with
   |lst m=>
    cases t;obtain⟨g,e,u⟩:=ok;exact⟨a,g,rfl,.inl ⟨.inl e,λz=>z.elim (λ⟨k,J,L,g1,g2⟩=>J (W.er.inj i k _ _ a hd g1 hk g2▸I i rfl)) λz=>W.er.nT a ⟨i,_,hd,hk⟩ (W.tt a z)⟩,RepL.mono (λ_ _ e _=>e) (λb _ z=>z.imp id (W.tt b)) u⟩
   |tup m=>exact ok.elim
   |_=>cases t
section
variable {X:Cx}{B:SB}{tg e:gG}{f:F}{c:FO}{g p:Pos}
def PI.imp'(h:PI X tg e t)(k: ∀b H R,i b H R->t b H R):PI X tg e i:=λa s b H R I d=>h a s b H R I (k b H R d)
def PI.or(h:PI X tg e t)(d:PI X tg e j):PI X tg e (λb H R=>t b H R\/j b H R):=λa s b H R I i=>i.elim (h a s b H R I) (d a s b H R I)
noncomputable def ItS(b:Bool)(K:gW)(a:gw):It:=if b=true then Itl K a else Itt K a
def Kb{K:gW}{P O:AP'}{m:Hp}{a:gw}{k:List V}{l:List D}(q:SqA b K m P a k)(r:RepL K m O l k)(v: ∀a,P a->O a):ItOk K (ItS b K a) l P O m:=by
 cases b<;>(
  refine⟨λi d Hi hd j=>?_,λi Hi w j=>?_⟩
  ·have h:=SqA.mono q j λ_ z=>z
   first|replace h:=h.l|replace h:=h.t
   obtain⟨x,u,A⟩:=r.get hd;refine⟨⟨k,x,h,u⟩,λy C s=>?_⟩;obtain⟨rfl,s⟩:=s;have:=s k h;rw[u] at this;cases this;exact⟨λ_ _ e=>e,λE h1 G=>Rep.mono (λb o e n=>j b o e λz=>n (v b z)) h1 A⟩
  ·exact⟨k,by first|exact(SqA.mono q j λ_ z=>z).l|exact(SqA.mono q j λ_ z=>z).t,by rw[r.length];exact w⟩)
def xy{K:gW}{P O:AP'}{b:Hp}(lo:Int)(n:Nat):ItOk K (Itr lo n) (iu lo n) P O b:=by
 refine⟨λi d Hi hd j=>?_,λi Hi a j=>?_⟩
 ·unfold iu at hd;rw[jJ] at hd;obtain⟨k,h1,h⟩:=ir hd;have a:i<n:=by have:=(qM.mp h1).1;simpa using this
  have hk:k=i:=by rw[List.getElem?_range a] at h1;exact(ji h1).symm
  subst hk;refine⟨a,λy m l=>?_⟩;obtain⟨rfl,rfl⟩:=l;refine⟨λ_ _ e=>e,λo _ _=>?_⟩;rw[<-h];exact Rep.mkInt
 ·unfold iu at a;have:n<=i:=by simpa using a
  exact this
def Cb(h:PO X e c)(G:SlB B c):PIX X B tg e (xw c):=PI.imp' (PI.or (L9 (tg:=tg) h) (ON h)) λA H R J=>by
 obtain⟨x,T,N,M,E,e,k⟩:=J;obtain⟨⟨o,w⟩,h1,e⟩:=gu e;obtain⟨d,C,e⟩:=gu e;obtain⟨l,y,e⟩:=gu e;obtain⟨rfl,rfl⟩:=gX e
 have u: ∀v n,PostO X.K T A x H o w v n-> ∃a s,v= .ref a/\SqA (isL d) X.K n (OwB B T A w) a s/\R (ItS (isL d) X.K a) n:=λv n P=>by
  have W:=Ops.cons E P (Ops.nil (P.er E));obtain⟨a,s,rfl,q,L⟩:=W.seq E (j:=0) rfl rfl C y λi I=>G _ _ _ (I▸h1);exact⟨a,s,rfl,q,k _ n W.keep (W.er.mono (λ_ _ e _=>e) (λb _ z=>W.tt b z) (λa z=>W.er.dom a (W.tt a z))) (Kb q L λa z=>z.own)⟩
 cases d with
 |lst m=>exact .inl ⟨x,T,_,_,E,h1,λv n P=>let⟨a,s,e,q,r⟩:=u v n P;⟨a,e,⟨s,q.l⟩,r⟩⟩
 |tup m=>exact .inr ⟨x,T,_,_,E,h1,λv n P=>let⟨a,s,e,q,r⟩:=u v n P;⟨a,e,⟨s,q.t⟩,r⟩⟩
 |_=>cases y
def L6(h:PX X e f):PIX X B tg e (iN f):=PI.imp' (Cb (B:=B) (PX.po h) Lj) λj H R a=>by
 have:iN f=xw (gx f):=funext λb=>by
  unfold iN xw gx
  cases f b with
  |none=>rfl
  |some p=>obtain⟨⟨d,o⟩,i⟩:=p;cases d<;>rfl
 rwa [this] at a
end
noncomputable def nA(c:Tg)(b:FS):List D->FS
 |[],e=>some (.nx e)
 |d::ds,e=>(c d e).bind λf=>(b f).bind λo=>match o with
  | .nx a=>nA c b ds a
  | .ct a=>nA c b ds a
  | .bk a=>some (.nx a)
  | .rt r a=>some (.rt r a)
noncomputable def oH(b:FIt)(c:Tg)(a:FS):FS:=λδ=>(b δ).bind λp=>nA c a p.1 p.2
section
variable {X:Cx}{A L:iI}{l:Hp}{g iter:gG}{c:List Stmt}{j:FIt}{t:Tg}{f:FS}{h:Pos}
def LZ(hp:PassesOwn (model X.prog X.w) X.A X.env X.xe)(hc:X.calm=true)(hi:PIX X (λ_=>False) g iter j)(hg:PGX X A g t)(N:yG X A L l c f)(hs: ∀x,foldedSetIterable iter X.env x=pure x):
  PSX X A L l (.For g iter c [] h) (oH j t f):=PS.imp' (OI hp hc hi hg N hs) λD O H hw=>by
 obtain⟨δ,T,R,E,gh,e,k⟩:=hw;obtain⟨⟨u,q⟩,h1,e⟩:=gu e;refine⟨δ,T,u,q,E,h1,λJ Y K1 E1 ok=>?_⟩;have V:SK A O δ H O q Y:=K1.sk;refine⟨λi m s C=>m=u.length-i/\i<=u.length/\ ∃p,SK A O q Y s p C/\ER X.K C T s p/\nA t f (u.drop i) p=some R,⟨u.length,by simp,lj _,q,.refl,E1,by simpa using e⟩,?_⟩;rintro i m I H2 ⟨rfl,hle,G,S2,Q,e2⟩;have ai: ∀a o,Y a=some o-> ¬OwB (λ_=>False) T O q a->H2 a=some o:=λa o ea n=>S2.kp a o ea λ⟨i,d,z⟩=>n (.inl ⟨i,id,d,z⟩);by_cases Z:i<u.length
 ·refine .inr ?_;have hd:u[i]?=some u[i]:=jm Z;obtain⟨go,yl⟩:=ok.go i _ H2 hd ai;rw[wo Z] at e2;obtain⟨S,h3,e3⟩:=gu e2;obtain⟨o,h4,W⟩:=gu e3;refine⟨go,λs C=> ∃p,SK A O q Y s p C/\ER X.K C T s p/\nA t f (u.drop (i+1)) p=some R,λs C ⟨p,q1,q2,q3⟩=>⟨u.length-(i+1),by omega,rfl,Z,p,q1,q2,q3⟩,λx C hy=>?_⟩;obtain⟨ext,rep⟩:=yl x C hy;have eP:ER X.K C T I G:=Q.mono (λb ob eb _=>ext b ob eb) (λ_ _ z=>z) (λa z=>(Q.dom a z).up (ext a));have gk:SK A O q Y I G C:=S2.trans (Keep.ext ext).sk;have rx:=rep (λa=>OwnA I G a\/T a) (λb N z=>z.elim (λz=>(S2.ow b z).elim Or.inl λz=>absurd z N) Or.inr) (λb N z=>z.elim (λz=>Q.ownDom z N) λz=>(Q.dom b z).ne N);refine⟨G,T,u[i],S,eP,rx,h3,λσ3 S3 E3=>?_⟩;have P:=gk.trans S3;refine⟨S,T,o,E3,(gh.step V).step P,h4,?_⟩
  cases o with
  |nx y=>exact λB F M U=>⟨y,P.trans M,U,W⟩
  |ct y=>exact λB F M U=>⟨y,P.trans M,U,W⟩
  |bk y=>cases W;exact λB F M U=>k B F (V.trans (P.trans M)) U
  |rt r y=>cases W;exact λv B F M R4=>k v B F (V.trans (P.trans M)) R4
 ·refine .inl ⟨ok.stop i H2 (by omega) ai,?_⟩;rw[wm (by omega)] at e2;cases e2;exact k I H2 (V.trans S2) Q
end
noncomputable def nh(c:FT)(b:FS):Nat->FS
 |0,_=>none
 |n+1,d=>(c d).bind λp=>if p.1=true then(b p.2).bind λo=>(match o with
   | .nx a=>nh c b n a
   | .ct a=>nh c b n a
   | .bk a=>some (.nx a)
   | .rt r a=>some (.rt r a)) else some (.nx p.2)
noncomputable def A5(f g:FO):FIt:=λδ=>(iX [f,g] δ).bind λp=>match rH p.2 p.1 with
 |some [.int i,.int j]=>if -(2^62)<=i/\i<2^62/\ -(2^62)<=j/\j<2^62 then some (iu i (j-i).toNat,p.2) else none
 |_=>none
section
variable {X:Cx}{A L:iI}{C:Hp}{B:SB}{t e c a b:gG}{d:List Stmt}{g:FT}{l:FS}{s u:FO}{f p:Pos}
def Gy{n:Nat}(hp:PassesOwn (model X.prog X.w) X.A X.env X.xe)(hc:PTX X c g)(hb:yG X A L C d l):PSX X A L C (.While c d [] f) (nh g l n):=PS.imp' (Jc hp hc hb) λD F H hw=>by
 obtain⟨Y,T,N,E,Z,e,k⟩:=hw;refine⟨λm i G=> ∃h,SK A F Y H i h G/\ER X.K G T i h/\nh g l m h=some N,⟨n,Y,.refl,E,e⟩,?_⟩;rintro m O H2 ⟨δ2,S2,E2,e2⟩
 cases m with
 |zero=>cases e2
 |succ m=>
  obtain⟨⟨S,z⟩,h3,Q⟩:=gu e2;refine⟨δ2,T,S,z,E2,h3,λR V P=>?_⟩;have I:SK A F Y H O z R:=S2.trans V.sk
  cases S with
  |false=>
   rw[gZ jA] at Q;cases Q;exact Pr (k O R I P)
  |true=>
   rw[gO rfl] at Q;obtain⟨o,h4,U⟩:=gu Q;refine Pq ⟨λi G=> ∃h,SK A F Y H i h G/\ER X.K G T i h/\nh g l m h=some N,λi G q=>⟨m,sh _,q⟩,z,T,o,P,Z.step I,h4,?_⟩
   cases o with
   |nx j=>exact λx M y J=>⟨j,I.trans y,J,U⟩
   |ct j=>exact λx M y J=>⟨j,I.trans y,J,U⟩
   |bk j=>cases U;exact λx M y J=>k x M (I.trans y) J
   |rt r j=>cases U;exact λv x M y W=>k v x M (I.trans y) W
theorem qi{K:gW}{T v:AP'}{E:L2.St}{z m:Dn}{H r:Hp}{os:List Opd}{k:List V}{n:List D}(B:Ops K T E z H os k m r v)(h:rH m os=some n){j:Nat}{i:Int}(hd:n[j]?=some (.int i)):k[j]?=some (.int i):=by
 obtain⟨h1,w⟩:=lX h;obtain⟨o,q,x⟩:=w j _ hd;have y:j<k.length:=by have:=(qM.mp q).1;have:=B.len;omega
 have hv:k[j]?=some k[j]:=jm y;have:=hZ (B.view q hv x);rw[hv,this]
def Ek(y:Gl X "range")(I:X.mg "range"=none)(x:PA X [a] (tA X.K [s]))(J:starEach [a] X.env=[(false,eval a X.env)]):PIX X B t (.Call (.Name "range" p) [a] [] f) (vN s):=PI.imp' (GG y I x J) λY H R M=>by
 obtain⟨N,T,U,O,E,e,k⟩:=M;obtain⟨⟨os,i⟩,h1,e⟩:=gu e;refine⟨N,T,os,i,E,h1,λn o Q B=>?_⟩;dsimp only at e;split at e
 ·rename_i j m;obtain⟨⟨q,w⟩,e⟩:=hV e;obtain⟨rfl,rfl⟩:=rq e;have hv:=qi B m (j:=0) rfl;obtain⟨G,_⟩:=lX m
  have:n=[.int j]:=by
   have h:=B.len
   cases n with
   |nil=>simp at hv
   |cons v r=>
    cases r with
    |nil=>simp at hv;rw[hv]
    |cons _ _=>simp at G h;omega
  exact⟨j,this,q,w,k _ o B.keep (B.er.mono (λ_ _ e _=>e) (λb _ z=>B.tt b z) (λa z=>B.er.dom a (B.tt a z))) (xy 0 j.toNat)⟩
 ·cases e
def Ej(J:Gl X "range")(N:X.mg "range"=none)(I:PA X [a,b] (tA X.K [s,u]))(O:starEach [a,b] X.env=[(false,eval a X.env),(false,eval b X.env)])(w:starEach [b] X.env=[(false,eval b X.env)]):PIX X B t (.Call (.Name "range" p) [a,b] [] f) (A5 s u):=PI.imp' (GF J N I O w) λP H R Q=>by
 obtain⟨U,T,F,Y,E,e,k⟩:=Q;obtain⟨⟨os,o⟩,h1,e⟩:=gu e;refine⟨U,T,os,o,E,h1,λq v D B=>?_⟩;dsimp only at e;split at e
 ·rename_i i j n;obtain⟨G,e⟩:=hV e;obtain⟨rfl,rfl⟩:=rq e;have hv:=qi B n (j:=0) rfl;have m:=qi B n (j:=1) rfl;obtain⟨M,_⟩:=lX n
  have:q=[.int i,.int j]:=by
   have h:=B.len
   match q,hv,m with
   |[x,y],hv,m=>simp at hv m;rw[hv,m]
   |x::y::z::r,_,_=>simp at M h;omega
  exact⟨i,j,this,G,k _ v B.keep (B.er.mono (λ_ _ e _=>e) (λb _ z=>B.tt b z) (λa z=>B.er.dom a (B.tt a z))) (xy i (j-i).toNat)⟩
 ·cases e
end
abbrev EvF:=List (D×Bool)->Option ((D×Bool)×Dn)
def spF(K:gW)(e:EvF):Sp:=λd H Q _=> ∃T a r b,ER K H T (d.map some) (a.map some)/\e a=some (r,b)/\ ∀v c,Post K T (d.map some) (a.map some) H r b v c->Q v c
noncomputable def iA(args:List (D×Bool))(δ:Dn):Dn:=args.zipIdx.map λp=>if p.1.2=true then(δ[p.2]?).join else some p.1
noncomputable def evF(n np:Nat)(asg:iP)(f:FS):EvF:=λargs=>
 if args.length=np/\np<=n/\(args.zipIdx.all λp=>!(p.1.2&&asg.contains p.2))=true then
  match f (args.map some++List.replicate (n-np) none) with
  |some (.rt r δ)=>some (r,iA args δ)
  |some (.nx δ)=>some ((.non,false),iA args δ)
  |_=>none
 else none
theorem JD(a:List (D×Bool))(b:Dn)(i:Nat):(iA a b)[i]?=a[i]?.map λx=>if x.2=true then(b[i]?).join else some x:=by
 unfold iA;rw[jJ,HH]
 cases a[i]? with
 |none=>rfl
 |some x=>simp
def oB(h:x.join=some p):x=some (some p):=by
 cases x with
 |none=>cases h
 |some y=>exact mM some h
section
variable {K:gW}{T:AP'}{A:iI}{k:List V}{f:List (D×Bool)}{H q:Hp}{m:Nat}{l:L2.St}{g:Dn}{r:D×Bool}{v:V}
theorem Bw{b:Type}{a:List b}{m i:Nat}{y:b}:(a.map some++List.replicate m none)[i]?=some (some y)↔a[i]?=some y:=by
 by_cases h:i<a.length
 ·rw[qK (by simpa using h),jJ];cases a[i]?<;>simp
 ·rw[nZ (by simpa using h)];constructor
  ·intro e;rw[sA] at e;split at e<;>cases e
  ·intro e;exact absurd (qM.mp e).1 h
theorem qv{b:Type}{a:List b}{i:Nat}{y:b}:(a.map some)[i]?=some (some y)↔a[i]?=some y:=by
 rw[jJ];cases a[i]?<;>simp
def He{i:Nat}{a:gw}:OwnI (k.map some++List.replicate m none) (f.map some++List.replicate m none) i a↔OwnI (k.map some) (f.map some) i a:=by
 unfold OwnI;simp only[Bw,qv]
theorem Cc:OwnA σ b a↔ ∃i,OwnI σ b i a:=Iff.rfl
def JC:OwnA (k.map some++List.replicate m none) (f.map some++List.replicate m none) a↔OwnA (k.map some) (f.map some) a:=by
 rw[Cc,Cc];exact exists_congr λi=>He
def ER.pad(E:ER K H T (k.map some) (f.map some)):ER K H T (k.map some++List.replicate m none) (f.map some++List.replicate m none):=by
 have len:k.length=f.length:=by simpa using E.len
 refine⟨by simp[len],λi d h=>?_,λi d h=>?_,λi j d e a h1 o p s=>?_,λa z=>E.nT a (JC.mp z),E.dom⟩
 ·obtain⟨w,c,n⟩:=E.val i d (qv.mpr (Bw.mp h));exact⟨w,Bw.mpr (qv.mp c),Rep.mono (λ_ _ e _=>e) (λb _ z=>z.imp JC.mp id) n⟩
 ·obtain⟨w,c,n⟩:=E.own i d (qv.mpr (Bw.mp h));exact⟨w,Bw.mpr (qv.mp c),n.mono (λ_ _ e _=>e) (λb _ z=>z.imp JC.mp id) λ_ e=>e⟩
 ·exact E.inj i j d e a (qv.mpr (Bw.mp h1)) (qv.mpr (Bw.mp o)) (qv.mpr (Bw.mp p)) (qv.mpr (Bw.mp s))
def Fy{N:AP'}(E:ER K H T (k.map some) (f.map some))(S:SK A (k.map some++List.replicate m none) (f.map some++List.replicate m none) H l g q)(hA: ∀(i:Nat) d,f[i]?=some (d,true)-> ¬A i)
  (L:ER K q N l g)(hT: ∀b,H b≠none->N b->T b):ER K q N (k.map some) (iA f g)/\(∀b,OwnA (k.map some) (iA f g) b->OwnA l g b)/\Keep (k.map some) (f.map some) H (iA f g) q:=by
 have len:k.length=f.length:=by simpa using E.len
 have s: ∀(i:Nat) d w,f[i]?=some (d,true)->k[i]?=some w->l[i]?=some (some w):=λi d w h1 p=>by
  rw[S.as i (hA i d h1)];exact Bw.mpr p
 have t: ∀(i:Nat) d b,(iA f g)[i]?=some (some (d,b))->(∃e,f[i]?=some (e,true)/\g[i]?=some (some (d,b)))\/(b=false/\f[i]?=some (d,false)):=λi d b h=>by
  rw[JD] at h;obtain⟨⟨e,c⟩,h1,p⟩:=ir h
  cases c with
  |true=>
   left;exact⟨e,h1,oB (by simpa using p)⟩
  |false=>
   right;have:some (e,false)=some (d,b):=by simpa using p
   cases this;exact⟨rfl,h1⟩
 have B: ∀i a,OwnI (k.map some) (iA f g) i a->OwnI l g i a/\OwnI (k.map some) (f.map some) i a:=λi a ⟨d,h1,p⟩=>by
  rcases t i d true h1 with⟨e,u,x⟩|⟨z,_⟩
  ·exact⟨⟨d,x,s i e _ u (qv.mp p)⟩,⟨e,qv.mpr u,p⟩⟩
  ·cases z
 have M: ∀b,OwnA (k.map some) (iA f g) b->OwnA l g b:=λb ⟨i,d,h1,p⟩=>by
  obtain⟨⟨e,G,I⟩,_⟩:=B i b ⟨d,h1,p⟩;exact⟨i,e,G,I⟩
 have C: ∀b,OwnA (k.map some) (iA f g) b->OwnA (k.map some) (f.map some) b:=λb ⟨i,d,h1,p⟩=>by
  obtain⟨_,⟨e,G,I⟩⟩:=B i b ⟨d,h1,p⟩;exact⟨i,e,G,I⟩
 have U: ∀a o,H a=some o-> ¬OwnA (k.map some) (f.map some) a->q a=some o:=λa o e n=>S.kp a o e λz=>n (JC.mp z);refine⟨⟨?_,λi d h=>?_,λi d h=>?_,λi j d e a h1 p u x=>?_,λa z=>L.nT a (M a z),L.dom⟩,M,⟨U,λi a z=>(B i a z).2,S.dm⟩⟩
 ·simp[iA,len]
 ·have O:i<k.length:=by
   have:=(qM.mp h).1;simp[iA] at this;omega
  have hv:k[i]?=some k[i]:=jm O;rcases t i d false h with⟨e,u,x⟩|⟨_,u⟩
  ·obtain⟨w,y,J⟩:=L.val i d x;rw[s i e _ u hv] at y;cases y;exact⟨_,qv.mpr hv,Rep.mono (λ_ _ e _=>e) (λb _ z=>z.imp (M b) id) J⟩
  ·obtain⟨w,y,J⟩:=E.val i d (qv.mpr u);exact⟨w,y,Rep.mono (λb o e n=>U b o e λz=>n (.inl z)) (λb F z=>z.imp (C b) (hT b F)) J⟩
 ·have O:i<k.length:=by
   have:=(qM.mp h).1;simp[iA] at this;omega
  have hv:k[i]?=some k[i]:=jm O;rcases t i d true h with⟨e,u,x⟩|⟨z,_⟩
  ·obtain⟨w,y,J⟩:=L.own i d x;rw[s i e _ u hv] at y;have Q:k[i]=V.ref w:=by simpa using y
   exact⟨w,by rw[<-Q];exact qv.mpr hv,J.mono (λ_ _ e _=>e) (λb _ z=>z.imp (M b) id) λ_ e=>e⟩
  ·cases z
 ·obtain⟨_,⟨Y,G,I⟩⟩:=B i a ⟨d,h1,u⟩;obtain⟨_,⟨D,P,R⟩⟩:=B j a ⟨e,p,x⟩;exact E.inj i j Y D a G P I R
def qy(E:ER K H T (k.map some) (f.map some))(S:SK A (k.map some++List.replicate m none) (f.map some++List.replicate m none) H l g q)(j: ∀(i:Nat) d,f[i]?=some (d,true)-> ¬A i)
  (R:RV K T H r l g v q):Post K T (k.map some) (f.map some) H r (iA f g) v q:=by
 obtain⟨d,b⟩:=r
 cases b with
 |false=>
  obtain⟨a,s⟩:=R;obtain⟨c,ow,h⟩:=Fy E S j a (λ_ _ z=>z);exact⟨h,c,Rep.mono (λ_ _ e _=>e) (λb _ z=>z.imp (ow b) id) s⟩
 |true=>
  obtain⟨p,rfl,n,a,ok⟩:=R;obtain⟨c,ow,h⟩:=Fy E S j a (λb o z=>z.elim id λz=>by subst z;exact absurd n o);exact⟨h,p,rfl,n,c,ok.mono (λ_ _ e _=>e) (λb _ z=>z.imp (ow b) id) λ_ e=>e⟩
end
section
variable {P:gY}{w:gP}{K:gW}{g:jY}{base:gR}{N:hG}{m:Nat}{b:iP}{fs:FS}{c:List V}{H:Hp}{Q:VK}{E:XK}
def Fi(h:spF K (evF N.length m b fs) c H Q E):c.length=m:=by
 obtain⟨T,a,r,d,E0,e,_⟩:=h;unfold evF at e;split at e
 ·rename_i f;have:=E0.len;simp at this;rw[this];exact f.1
 ·cases e
def IB(h:spF K (evF N.length m b fs) c H Q E): ∃L:Nat->Prop,(∀i,L i->i<m)/\tS K (λi=>i∈b) L H fs {nx:=λ_ k=>Q .non k,rt:=Q} (L2.mz N c) H:=by
 obtain⟨T,f,r,u,E0,e,t⟩:=h;unfold evF at e;split at e
 ·rename_i C;obtain⟨h1,O,B⟩:=C;have l:c.length=f.length:=by simpa using E0.len
  refine⟨λi=> ∃d,f[i]?=some (d,true),λi ⟨d,hd⟩=>by have:=(qM.mp hd).1;omega,?_⟩;have J:L2.mz N c=c.map some++List.replicate (N.length-m) none:=by unfold L2.mz;rw[l,h1]
  have s: ∀(i:Nat) d,f[i]?=some (d,true)-> ¬(i∈b):=λi d hd G=>by
   have I:(f.zipIdx)[i]?=some ((d,true),i):=by rw[HH,hd];simp
   have:=nu.mp B _ (lE I);simp at this;exact this G
  rw[J]
  have A:FI (λi=> ∃d,f[i]?=some (d,true)) H (c.map some++List.replicate (N.length-m) none) (f.map some++List.replicate (N.length-m) none) H:=⟨λi a z=>by
   obtain⟨d,M,_⟩:=He.mp z;exact .inl ⟨d,qv.mp M⟩,λ_ z=>z⟩
  cases p:fs (f.map some++List.replicate (N.length-m) none) with
  |none=>rw[p] at e;cases e
  |some n=>
   rw[p] at e;refine⟨_,T,n,E0.pad,A,p,?_⟩
   cases n with
   |rt U j=>
    obtain⟨rfl,rfl⟩:=gX e;exact λv q k o y=>t v k (qy E0 o s y)
   |nx j=>
    obtain⟨rfl,rfl⟩:=gX e;exact λq k o x=>t .non k (qy (r:=(.non,false)) E0 o s ⟨x,Rep.mkNon⟩)
   |bk j=>cases e
   |ct j=>cases e
 ·cases e
def Pz{x qual:Str}{st:Stmt}{f:gw}{j:kS}{e:hG}{k:Nat}(F:Fun K x qual st f j)(S:FnScope N e (gz st))
  (o: ∀(d:gD) (A:gS) (a:List Env) (s:gA) (H:Hp) (E:XK) (L:iI),(∀i,L i->i<e.length)->Room k (A.deeper (envOfC qual (gz st) s.heap.objs.size f d))->
   yG (nk CX0 P w K g base N qual (gz st) f d A a s H E).nox (λi=>i∈b) L H (jX st) fs):FnOk P w K g base CX0 (k+1) f j e (spF K (evF N.length e.length b fs)):=
 F.ok S (λc H Q E h=>Fi h) λd A a s H c Q E n h=>let⟨L,h1,l⟩:=IB h;⟨_,o d A a s H E L h1 n,l⟩
end
noncomputable def vH(a:Dn):Opd->Option (D×Bool)
 | .val r=>some (r.1,false)
 | .slot i=>(a[i]?).join
noncomputable def jf(δ:Dn):List Opd->Option (List (D×Bool))
 |[]=>some []
 |o::os=>(vH δ o).bind λa=>(jf δ os).bind λl=>some (a::l)
noncomputable def hJ:List Opd->List (D×Bool)->List Nat
 | .slot i::os,(_,true)::as=>i::hJ os as
 |_::os,_::as=>hJ os as
 |_,_=>[]
noncomputable def wb:List Opd->List (D×Bool)->Dn->Dn->Dn
 | .slot i::os,(_,true)::as,o::outs,δ=>wb os as outs (δ.set i o)
 |_::os,_::as,_::outs,δ=>wb os as outs δ
 |_,_,_,δ=>δ
noncomputable def gM(ev:EvF)(fs:List FO):F:=λδ=>(iX fs δ).bind λp=>(jf p.2 p.1).bind λargs=>if(hJ p.1 args).Nodup then(ev args).bind λq=>some (q.1,wb p.1 args q.2 p.2) else none
theorem lM{δ:Dn}: ∀{os:List Opd} {b:List (D×Bool)},jf δ os=some b->b.length=os.length/\ ∀(j:Nat) a,b[j]?=some a-> ∃o,os[j]?=some o/\vH δ o=some a
 |[],b,h=>by cases h;exact⟨rfl,λj d h=>by simp at h⟩
 |o::os,b,h=>by
  unfold jf at h;obtain⟨d,h1,h⟩:=gu h;obtain⟨l,f,h⟩:=gu h;cases h;obtain⟨g,i⟩:=lM f;refine⟨by simp[g],λj e c=>?_⟩
  cases j with
  |zero=>simp at c;subst c;exact⟨o,rfl,h1⟩
  |succ j=>
   obtain⟨k,m,n⟩:=i j e (by simpa using c);exact⟨k,by simpa using m,n⟩
theorem qt: ∀{os:List Opd} {as:List (D×Bool)} {j i:Nat} {d:D},os[j]?=some (.slot i)->as[j]?=some (d,true)->i∈hJ os as
 |[],_,_,_,_,h,_=>by simp at h
 |_::_,[],_,_,_,_,h=>by simp at h
 |o::os,(e,b)::as,0,i,d,h1,a=>by
  simp at h1 a;obtain⟨rfl,rfl⟩:=a;subst h1;simp[hJ]
 |o::os,(e,b)::as,j+1,i,d,h1,a=>by
  have c:=qt (os:=os) (as:=as) (j:=j) (i:=i) (d:=d) (by simpa using h1) (by simpa using a)
  cases o with
  |val r=>simpa[hJ] using c
  |slot k=>
   cases b with
   |true=>simp[hJ,c]
   |false=>simpa[hJ] using c
theorem yW: ∀{os:List Opd} {a:List (D×Bool)} {i:Nat},i∈hJ os a-> ∃(j:Nat) (d:D),os[j]?=some (.slot i)/\a[j]?=some (d,true)
 |[],_,_,h=>by simp[hJ] at h
 |o::_,[],_,h=>by cases o<;>simp[hJ] at h
 |o::os,(e,b)::a,i,h=>by
  have c:i∈hJ os a-> ∃(j:Nat) (d:D),(o::os)[j]?=some (.slot i)/\((e,b)::a)[j]?=some (d,true):=λh=>by
   obtain⟨j,d,h1,f⟩:=yW h;exact⟨j+1,d,by simpa using h1,by simpa using f⟩
  cases o with
  |val r=>exact c (by simpa[hJ] using h)
  |slot k=>
   cases b with
   |true=>
    simp[hJ] at h;rcases h with rfl|h
    ·exact⟨0,e,rfl,rfl⟩
    ·exact c h
   |false=>exact c (by simpa[hJ] using h)
theorem yX: ∀{os:List Opd} {as:List (D×Bool)} {j k i:Nat} {d e:D},(hJ os as).Nodup->os[j]?=some (.slot i)->as[j]?=some (d,true)->os[k]?=some (.slot i)->as[k]?=some (e,true)->j=k
 |[],_,_,_,_,_,_,_,h,_,_,_=>by simp at h
 |_::_,[],_,_,_,_,_,_,_,h,_,_=>by simp at h
 |o::os,(n,b)::as,j,k,i,d,e,a,h1,c,f,g=>by
  cases j with
  |zero=>
   cases k with
   |zero=>rfl
   |succ k=>
    simp at h1 c;obtain⟨rfl,rfl⟩:=c;subst h1;have:=qt (os:=os) (as:=as) (j:=k) (by simpa using f) (by simpa using g);simp[hJ] at a;exact absurd this a.1
  |succ j=>
   cases k with
   |zero=>
    simp at f g;obtain⟨rfl,rfl⟩:=g;subst f;have:=qt (os:=os) (as:=as) (j:=j) (by simpa using h1) (by simpa using c);simp[hJ] at a;exact absurd this a.1
   |succ k=>
    have l:(hJ os as).Nodup:=by
     cases o with
     |val r=>simpa[hJ] using a
     |slot m=>
      cases b with
      |true=>simp[hJ] at a;exact a.2
      |false=>simpa[hJ] using a
    have:=yX (os:=os) (as:=as) (j:=j) (k:=k) l (by simpa using h1) (by simpa using c) (by simpa using f) (by simpa using g);omega
theorem wD: ∀{os:List Opd} {c:List (D×Bool)} {a δ:Dn} {i:Nat},i∉hJ os c->(wb os c a δ)[i]?=δ[i]?
 |[],_,_,_,_,_=>by simp[wb]
 |o::_,[],_,_,_,_=>by cases o<;>simp[wb]
 |o::os,(e,b)::c,[],_,_,_=>by cases o<;>cases b<;>simp[wb]
 |o::os,(e,b)::c,x::a,δ,i,h=>by
  cases o with
  |val r=>simp only[wb];exact wD (by simpa[hJ] using h)
  |slot k=>
   cases b with
   |true=>
    simp[hJ] at h;rw[wb,wD h.2,mP (lF h.1)]
   |false=>simp only[wb];exact wD (by simpa[hJ] using h)
theorem wF: ∀{os:List Opd} {c:List (D×Bool)} {a δ:Dn},(wb os c a δ).length=δ.length
 |[],_,_,_=>by simp[wb]
 |o::_,[],_,_=>by cases o<;>simp[wb]
 |o::os,(e,b)::c,[],_=>by cases o<;>cases b<;>simp[wb]
 |o::os,(e,b)::c,x::a,δ=>by
  cases o with
  |val r=>simp only[wb];exact wF
  |slot k=>
   cases b with
   |true=>simp only[wb];rw[wF,sv]
   |false=>simp only[wb];exact wF
theorem E9: ∀{os:List Opd} {c:List (D×Bool)} {a δ:Dn} {i j:Nat} {d:D} {x:Sl},(hJ os c).Nodup->os[j]?=some (.slot i)->c[j]?=some (d,true)->a[j]?=some x->i<δ.length->(wb os c a δ)[i]?=some x
 |[],_,_,_,_,_,_,_,_,h,_,_,_=>by simp at h
 |o::_,[],_,_,_,_,_,_,_,_,h,_,_=>by simp at h
 |o::os,(e,b)::c,[],_,_,_,_,_,_,_,_,h,_=>by simp at h
 |o::os,(e,b)::c,y::a,δ,i,0,d,x,f,h1,g,l,n=>by
  simp at h1 g l;obtain⟨rfl,rfl⟩:=g;subst h1;subst l;simp[hJ] at f;rw[wb,wD f.1,my n]
 |o::os,(e,b)::c,y::a,δ,i,j+1,d,x,f,h1,g,l,n=>by
  have p:(hJ os c).Nodup:=by
   cases o with
   |val r=>simpa[hJ] using f
   |slot m=>
    cases b with
    |true=>simp[hJ] at f;exact f.2
    |false=>simpa[hJ] using f
  cases o with
  |val r=>simp only[wb];exact E9 p (by simpa using h1) (by simpa using g) (by simpa using l) n
  |slot k=>
   cases b with
   |true=>simp only[wb];exact E9 p (by simpa using h1) (by simpa using g) (by simpa using l) (by rw[sv];exact n)
   |false=>simp only[wb];exact E9 p (by simpa using h1) (by simpa using g) (by simpa using l) n
section
variable {K:gW}{T u:AP'}{l:L2.St}{δ f:Dn}{H m s:Hp}{os:List Opd}{vs:List V}{c:List (D×Bool)}{g:Dn}{r:D×Bool}{v:V}
noncomputable def Tc(T:AP')(l:L2.St)(f:Dn)(vs:List V)(c:List (D×Bool)):AP':=λa=>T a\/(OwnA l f a/\ ¬OwnA (vs.map some) (c.map some) a)
def tw(B:Ops K T l δ H os vs f m u)(p:jf f os=some c){j:Nat}{d:D}(h:c[j]?=some (d,true)): ∃(i:Nat) (a:gw),os[j]?=some (.slot i)/\f[i]?=some (some (d,true))/\vs[j]?=some (.ref a)/\l[i]?=some (some (.ref a)):=by
 obtain⟨w,q⟩:=lM p;obtain⟨o,h1,b⟩:=q j _ h
 cases o with
 |val r=>cases b
 |slot i=>
  have e:f[i]?=some (some (d,true)):=oB b;have t:j<vs.length:=by have:=(qM.mp h1).1;have:=B.len;omega
  have hv:vs[j]?=some vs[j]:=jm t;have k:=B.slt j i _ h1 hv;obtain⟨a,n,_⟩:=B.er.own i d e;rw[k] at n;have:vs[j]=V.ref a:=by simpa using n
  exact⟨i,a,h1,e,by rw[hv,this],by rw[k,this]⟩
def Cq(B:Ops K T l δ H os vs f m u)(n:jf f os=some c){j:Nat}{a:gw}(h:OwnI (vs.map some) (c.map some) j a): ∃(i:Nat) (d:D),os[j]?=some (.slot i)/\c[j]?=some (d,true)/\OwnI l f i a:=by
 obtain⟨d,h1,k⟩:=h;have e:=qv.mp h1;obtain⟨i,b,o,p,q,t⟩:=tw B n e;have:=qv.mp k;rw[q] at this;cases this;exact⟨i,d,o,e,d,p,t⟩
def FK(B:Ops K T l δ H os vs f m u)(k:jf f os=some c)(h:OwnA (vs.map some) (c.map some) a):OwnA l f a:=by
 obtain⟨j,d,h1,b⟩:=h;obtain⟨i,_,_,_,e,n,o⟩:=Cq B k ⟨d,h1,b⟩;exact⟨i,e,n,o⟩
def tY(E:ER K H T l δ)(B:Ops K T l δ H os vs f m u)(n:jf f os=some c)(nd:(hJ os c).Nodup):ER K m (Tc T l f vs c) (vs.map some) (c.map some):=by
 obtain⟨D,U⟩:=lM n
 have sub: ∀b,(OwnA (vs.map some) (c.map some) b\/Tc T l f vs c b)->OwnA l f b\/T b:=λb z=>by
  rcases z with z|z|z
  ·exact .inl (FK B n z)
  ·exact .inr z
  ·exact .inl z.1
 refine⟨by simp[D,B.len],λj d h=>?_,λj d h=>?_,λj k d e a h1 p x y=>?_,λa z t=>?_,λa z=>?_⟩
 ·have h:=qv.mp h;obtain⟨o,h1,p⟩:=U j _ h;have Y:j<vs.length:=by have:=(qM.mp h1).1;have:=B.len;omega
  have hv:vs[j]?=some vs[j]:=jm Y;refine⟨_,qv.mpr hv,?_⟩
  cases o with
  |val q=>
   have:q.1=d:=by cases p;rfl
   subst this;exact Rep.mono (λ_ _ e _=>e) (λb _ z=>sub b z) (B.rep E h1 hv)
  |slot i=>
   have x:f[i]?=some (some (d,false)):=oB p;have y:=B.slt j i _ h1 hv;obtain⟨w,L,P⟩:=B.er.val i d x;rw[y] at L;have:vs[j]=w:=by simpa using L
   rw[this];exact Rep.mono (λ_ _ e _=>e) (λb _ z=>(sub b z).imp id (B.tt b)) P
 ·obtain⟨i,a,J,A,C,G⟩:=tw B n (qv.mp h);obtain⟨b,I,Q⟩:=B.er.own i d A;rw[G] at I;cases I;exact⟨a,qv.mpr C,Q.mono (λ_ _ e _=>e) (λb _ z=>(sub b z).imp id (B.tt b)) λ_ e=>e⟩
 ·obtain⟨i,R,J,A,M,C,G⟩:=Cq B n ⟨d,h1,x⟩;obtain⟨F,S,g1,g2,N,g3,O⟩:=Cq B n ⟨e,p,y⟩;have:=B.er.inj i F M N a C g3 G O;subst this;exact yX nd J A g1 g2
 ·rcases t with t|t
  ·exact B.er.nT a (FK B n z) (B.tt a t)
  ·exact t.2 z
 ·rcases z with z|z
  ·exact B.er.dom a (B.tt a z)
  ·exact B.er.ownOw z.1
def F3{T' Y:AP'}(E:ER K H T l δ)(B:Ops K T l δ H os vs f m u)(O:jf f os=some c)(nd:(hJ os c).Nodup)(kC:Keep (vs.map some) (c.map some) m g s)
  (U:ER K s Y (vs.map some) g)(t1: ∀b,Tc T l f vs c b->Y b)(t2: ∀b,T' b->Y b)(t3: ∀b,m b≠none->T' b->T b):
  ER K s T' l (wb os c g f)/\(∀b,OwnA l (wb os c g f) b->OwnA (vs.map some) g b\/Tc T l f vs c b)/\Keep l f m (wb os c g f) s:=by
 obtain⟨hl,hg⟩:=lM O;have ol:g.length=c.length:=by have:=U.len;have:=B.len;simp at*;omega
 have R: ∀(i:Nat) (x:Sl),(wb os c g f)[i]?=some x->(i∉hJ os c/\f[i]?=some x)\/ ∃(j:Nat) (d:D),os[j]?=some (.slot i)/\c[j]?=some (d,true)/\g[j]?=some x:=λi x h=>by
  by_cases A:i∈hJ os c
  ·right;obtain⟨j,d,h1,p⟩:=yW A;have hj:j<g.length:=by have:=(qM.mp p).1;omega
   have X:g[j]?=some g[j]:=jm hj;have hi:i<f.length:=by have:=(qM.mp h).1;rwa [wF] at this
   have:=E9 (δ:=f) nd h1 p X hi;rw[h] at this;cases this;exact⟨j,d,h1,p,X⟩
  ·left;rw[wD A] at h;exact⟨A,h⟩
 have G: ∀{i:Nat} {a:gw},i∉hJ os c->OwnI l f i a-> ¬OwnA (vs.map some) (c.map some) a:=λ{i a} A ⟨e,q,C⟩ ⟨j,d,h1,p⟩=>by
  obtain⟨P,d2,g1,g2,S,g3,g4⟩:=Cq B O ⟨d,h1,p⟩;have:=B.er.inj i P e S a q g3 C g4;subst this;exact A (qt g1 g2)
 have Q: ∀i a,OwnI l (wb os c g f) i a->OwnI l f i a/\(OwnA (vs.map some) g a\/Tc T l f vs c a):=λi a ⟨d,h1,p⟩=>by
  rcases R i _ h1 with⟨A,y⟩|⟨j,e,g1,g2,g3⟩
  ·exact⟨⟨d,y,p⟩,.inr (.inr ⟨⟨i,d,y,p⟩,G A ⟨d,y,p⟩⟩)⟩
  ·obtain⟨P,b,q,C,M,I⟩:=tw B O g2;rw[g1] at q;cases q;rw[p] at I;cases I;exact⟨⟨e,C,p⟩,.inl ⟨j,d,g3,qv.mpr M⟩⟩
 have Z: ∀b,OwnA l (wb os c g f) b->OwnA (vs.map some) g b\/Tc T l f vs c b:=λb ⟨i,d,h1,p⟩=>(Q i b ⟨d,h1,p⟩).2
 have F: ∀b,OwnA l (wb os c g f) b->OwnA l f b:=λb ⟨i,d,h1,p⟩=>by
  obtain⟨⟨e,q,C⟩,_⟩:=Q i b ⟨d,h1,p⟩;exact⟨i,e,q,C⟩
 have W: ∀a o,m a=some o-> ¬OwnA l f a->s a=some o:=λa o e n=>kC.kp a o e λz=>n (FK B O z)
 have J: ∀b,(OwnA l (wb os c g f) b\/T' b)->OwnA (vs.map some) g b\/Y b:=λb z=>by
  rcases z with z|z
  ·exact(Z b z).imp id (t1 b)
  ·exact .inr (t2 b z)
 refine⟨⟨by rw[wF];exact B.er.len,λi d h=>?_,λi d h=>?_,λi k d e a h1 p y h4=>?_,λa z t=>?_,λa z=>U.dom a (t2 a z)⟩,Z,⟨W,λi a z=>(Q i a z).1,kC.dm⟩⟩
 ·rcases R i _ h with⟨A,y⟩|⟨j,e,g1,g2,g3⟩
  ·obtain⟨w,L,N⟩:=B.er.val i d y;exact⟨w,L,Rep.mono (λb o e n=>W b o e λz=>n (.inl z)) (λb V z=>z.imp (F b) λz=>B.tt b (t3 b V z)) N⟩
  ·obtain⟨P,b,q,C,M,I⟩:=tw B O g2;rw[g1] at q;cases q;obtain⟨w,L,N⟩:=U.val j d g3;have:=qv.mp L;rw[M] at this;cases this;exact⟨_,I,Rep.mono (λ_ _ e _=>e) (λb _ z=>J b z) N⟩
 ·rcases R i _ h with⟨A,y⟩|⟨j,e,g1,g2,g3⟩
  ·obtain⟨a,L,N⟩:=B.er.own i d y;exact⟨a,L,N.mono (λb o e n=>W b o e λz=>n (.inl z)) (λb V z=>z.imp (F b) λz=>B.tt b (t3 b V z)) λo e=>kC.kp a o e (G A ⟨d,y,L⟩)⟩
  ·obtain⟨P,b,q,C,M,I⟩:=tw B O g2;rw[g1] at q;cases q;obtain⟨a,L,N⟩:=U.own j d g3;have:=qv.mp L;rw[M] at this;cases this;exact⟨_,I,N.mono (λ_ _ e _=>e) (λb _ z=>J b z) λ_ e=>e⟩
 ·obtain⟨⟨e1,q,C⟩,_⟩:=Q i a ⟨d,h1,y⟩;obtain⟨⟨S,M,I⟩,_⟩:=Q k a ⟨e,p,h4⟩;exact B.er.inj i k e1 S a q M C I
 ·exact B.er.nT a (F a z) (B.tt a (t3 a (B.er.ownDom (F a z)) t))
def tU(E:ER K H T l δ)(B:Ops K T l δ H os vs f m u)(n:jf f os=some c)(q:(hJ os c).Nodup)(P:Post K (Tc T l f vs c) (vs.map some) (c.map some) m r g v s):
  Post K T l δ H r (wb os c g f) v s:=by
 obtain⟨d,b⟩:=r
 cases b with
 |false=>
  obtain⟨k,h,x⟩:=P;obtain⟨i,ow,j⟩:=F3 (T':=T) E B n q k h (λ_ z=>z) (λ_ z=> .inl z) (λ_ _ z=>z);refine⟨B.keep.trans j,i,Rep.mono (λ_ _ e _=>e) (λb _ z=>?_) x⟩;rcases z with z|z
  ·exact ow b z
  ·exact .inr (.inl z)
 |true=>
  obtain⟨k,p,rfl,o,h,ok⟩:=P;obtain⟨i,ow,j⟩:=F3 (T':=λa=>T a\/a=p) E B n q k h (λ_ z=> .inl z) (λb z=>z.elim (λz=> .inl (.inl z)) .inr) (λb w z=>z.elim id λz=>by subst z;exact absurd o w);refine⟨B.keep.trans j,p,rfl,?_,i,ok.mono (λ_ _ e _=>e) (λb _ z=>?_) λ_ e=>e⟩
  ·cases t:H p with
   |none=>rfl
   |some y=>exact absurd o (B.keep.dm p (by rw[t];simp))
  ·rcases z with z|z|z
   ·exact(ow b z).imp id .inl
   ·exact .inr (.inl (.inl z))
   ·exact .inr (.inr z)
end
section
variable {X:Cx}{e:gG}{b:jh}{fs:List FO}{a p:Pos}{k:Nat}{f:gw}{g:kS}{d:hG}{c:EvF}{x:Str}
def Lx(F:FnOk X.prog X.w X.K X.mg X.base CX0 k f g d (spF X.K c))(I:Room k X.A)(C:Gl X x)(G:X.mg x=some (.ref f))(hk:PySem.W.keepIn X.K (.ref f)=true)(y:Binds X.K g d [])
  (u:PA X (e::b) (tA X.K fs))(L:(x==("__debug__":Str))=false)(z:starEach (e::b) X.env=(false,eval e X.env)::starEach b X.env)(t:(backTo a (starEach b X.env)).any (·.1)=false):
  PX X (.Call (.Name x p) (e::b) [] a) (gM c fs):=PX.imp (Fx F I C G hk y (.nil) Nn u L z t) λO H Q J=>by
 obtain⟨M,T,Y,N,E,e,k⟩:=J;obtain⟨⟨os,j⟩,h1,e⟩:=gu e;obtain⟨h,l,e⟩:=gu e;dsimp only at e;split at e
 ·rename_i m;obtain⟨⟨r,i⟩,s,e⟩:=gu e;obtain⟨rfl,rfl⟩:=gX e;refine⟨M,T,os,j,E,h1,λn q U B=>?_⟩;show spF X.K c (n++[]) q Q E0;rw[rB];exact⟨Tc T O j n h,h,r,i,tY E B l m,s,λv o P=>k v o (tU E B l m P)⟩
 ·cases e
end
structure SKd(A:iI)(d:gw)(σ:L2.St)(δ:Dn)(H:Hp)(σ':L2.St)(δ':Dn)(H':Hp):Prop where
 kp: ∀a o,H a=some o-> ¬OwnA σ δ a->a≠d->H' a=some o
 owi: ∀i a,OwnI σ' δ' i a->OwnI σ δ i a\/H a=none
 dm: ∀a,H a≠none->H' a≠none
 as: ∀i,¬A i->σ'[i]?=σ[i]?
section
variable {A:iI}{d:gw}{c b f:L2.St}{δ δ1 δ2:Dn}{H g j:Hp}
def SK.skd(k:SK A c δ H b δ1 g):SKd A d c δ H b δ1 g:=⟨λa o e n _=>k.kp a o e n,k.owi,k.dm,k.as⟩
theorem SKd.ow(k:SKd A d c δ H b δ1 g)(a:gw)(h:OwnA b δ1 a):OwnA c δ a\/H a=none:=by
 obtain⟨i,e,h1,l⟩:=h;rcases k.owi i a ⟨e,h1,l⟩ with⟨e,m,n⟩|z
 ·exact .inl ⟨i,e,m,n⟩
 ·exact .inr z
theorem SKd.trans(x:SKd A d c δ H b δ1 g)(y:SKd A d b δ1 g f δ2 j):SKd A d c δ H f δ2 j where
 kp:=λa o e n k=>y.kp a o (x.kp a o e n k) (λz=>(x.ow a z).elim n λz=>by rw[z] at e;cases e) k
 owi:=λi a z=>(y.owi i a z).elim (x.owi i a) λz=> .inr (by
  cases h:H a with
  |none=>rfl
  |some o=>exact absurd z (x.dm a (by rw[h];simp)))
 dm:=λa z=>y.dm a (x.dm a z)
 as:=λi h=>(y.as i h).trans (x.as i h)
end
noncomputable def Ll(p:(Int->Bool)×Nat)(d:D):(Int->Bool)×Nat:=match d with
 | .int k=>(λa=>p.1 a||decide (a=k),if p.1 k then p.2 else p.2+1)
 |_=>p
noncomputable def Gr(l:List D):(Int->Bool)×Nat:=l.foldl Ll (λ_=>false,0)
def AtD(S:Bool)(K:gW)(H:Hp)(O:AP')(d:gw)(a:List D):Prop:=match S with
 |false=> ∃b,H d=some (.lst b)/\RepL K H O a b
 |true=>H d=some (.set (Gr a).1 (Gr a).2)
structure BS(S:Bool)(K:gW)(d:gw)(T:AP')(σ:L2.St)(δ:Dn)(acc:List D)(H:Hp):Prop where
 er:ER K H T σ δ
 td:T d
 at':AtD S K H (λa=>OwnA σ δ a\/T a) d acc
abbrev FB:=List D->Dn->Option (List D×Dn)
def tBx(S:Bool)(K:gW)(A:iI)(d:gw)(f:FB):TB:=λi H N=> ∃g T c h a,BS S K d T i g c H/\f c g=some (h,a)/\ ∀b e,SKd A d i g H b a e->BS S K d T b a h e->N b e
noncomputable def iY(f:F):FB:=λa δ=>(f δ).bind λp=>if a.length<sizeLine then some (a++[p.1.1],p.2) else none
noncomputable def lZ(c:Tg)(d:FT)(b:FB):List D->FB
 |[],acc,a=>some (acc,a)
 |x::xs,acc,a=>(c x a).bind λδ1=>(d δ1).bind λp=>(if p.1=true then b acc p.2 else some (acc,p.2)).bind λq=>lZ c d b xs q.1 q.2
section
variable {K:gW}{A:iI}{d:gw}{T:AP'}{f q:L2.St}{l r:Dn}{j:List D}{H p:Hp}
def BS.step(b:BS S K d T f l j H)(k:SK A f l H q r p)(a:ER K p T q r):BS S K d T q r j p:=by
 refine⟨a,b.td,?_⟩;have h:=b.at'
 cases S with
 |true=>exact k.kp d _ h λz=>b.er.nT d z b.td
 |false=>
  obtain⟨m,h1,g⟩:=h;refine⟨m,k.kp d _ h1 λz=>b.er.nT d z b.td,RepL.mono (λb o e n=>k.kp b o e λz=>n (.inl z)) (λc i z=>?_) g⟩;rcases z with z|z
  ·exact(k.ow c z).elim Or.inl λz=>absurd z i
  ·exact .inr z
def Mw(hg: ∀v f H Q,tG K A tg v f H Q->g v f H Q)(hi: ∀f H Q,tT K ft f H Q->ti f H Q)(hb: ∀f H N,tBx S K A d fb f H N->tb f H N)
  (b:BS S K d T f l j H)(P O:AP')(ok:ItOk K J ds P O p)(s1: ∀a o,p a=some o-> ¬P a->H a=some o)(s0: ∀a,p a≠none->OwnA f l a\/a=d->P a)(s2: ∀a,p a≠none->(OwnA f l a\/T a)->O a)(s3: ∀a,p a≠none->H a≠none)(e:lZ tg ft fb ds j l=some (i4,B))
  (k: ∀E t,SKd A d f l H E B t->BS S K d T E B i4 t->N E t):Ir J g ti tb f H N:=by
 refine⟨λi m s w=>m=ds.length-i/\i<=ds.length/\ ∃h L,SKd A d f l H s h w/\BS S K d T s h L w/\lZ tg ft fb (ds.drop i) L h=some (i4,B),⟨ds.length,by simp,lj _,l,j,SK.refl.skd,b,by simpa using e⟩,?_⟩;rintro i m s w ⟨rfl,hle,h,L,Y,G,e2⟩
 have hO: ∀a,p a≠none->(OwnA s h a\/T a)->O a:=λa W z=>by
  rcases z with z|z
  ·exact(Y.ow a z).elim (λz=>s2 a W (.inl z)) λz=>absurd z (s3 a W)
  ·exact s2 a W (.inr z)
 have ai: ∀a o,p a=some o-> ¬P a->w a=some o:=λa o V n=>Y.kp a o (s1 a o V n) (λz=>n (s0 a (by rw[V];simp) (.inl z))) λz=>n (s0 a (by rw[V];simp) (.inr z));by_cases F:i<ds.length
 ·refine .inr ?_;have hd:ds[i]?=some ds[i]:=jm F;obtain⟨go,yl⟩:=ok.go i _ w hd ai;rw[wo F] at e2;obtain⟨C,h3,e3⟩:=gu e2;obtain⟨⟨c,u⟩,h4,e4⟩:=gu e3;obtain⟨⟨y,M⟩,D,e5⟩:=gu e4;refine⟨go,λx t hy=>?_⟩;obtain⟨ext,rep⟩:=yl x t hy;have eP:ER K t T s h:=G.er.mono (λb ob eb _=>ext b ob eb) (λ_ _ z=>z) (λa z=>(G.er.dom a z).up (ext a));have SX:SK A s h w s h t:=(Keep.ext ext).sk;have R:=G.step SX eP;have gk:SKd A d f l H s h t:=Y.trans SX.skd;have rx:=rep (λa=>OwnA s h a\/T a) hO (λb hb z=>z.elim (λz=>G.er.ownDom z hb) λz=>(G.er.dom b z).ne hb);refine hg _ _ _ _ ⟨h,T,ds[i],C,eP,rx,h3,λU S3 Z=>?_⟩;have B3:=R.step S3 Z;have cB:=gk.trans S3.skd;refine hi _ _ _ ⟨C,T,c,u,Z,h4,λH4 K4 E4=>?_⟩;have S4:SK A U C t U u H4:=K4.sk;have X:=B3.step S4 E4;have I:=cB.trans S4.skd
  cases c with
  |false=>
   rw[gZ jA] at D;obtain⟨rfl,rfl⟩:=gX D;exact Pr ⟨ds.length-(i+1),by omega,rfl,F,u,L,I,X,e5⟩
  |true=>
   rw[gO rfl] at D;exact Pq (hb _ _ _ ⟨u,T,L,y,M,X,D,λσ5 H5 S5 B5=>⟨ds.length-(i+1),by omega,rfl,F,M,y,I.trans S5,B5,e5⟩⟩)
 ·refine .inl ⟨ok.stop i w (by omega) ai,?_⟩;rw[wm (by omega)] at e2;obtain⟨rfl,rfl⟩:=gX e2;exact k s w Y G
end
section
variable {X:Cx}{A:iI}{d:gw}{c:gG}{f:F}
def PB.imp'{code:Sem Unit}{t e:TB}(h:PB X code t)(k: ∀b H N,e b H N->t b H N):PB X code e:=λa s b H N I g=>h a s b H N I (k b H N g)
def JB{h:qD}{O:iG}{p:Pos}{depth:Nat}(E:h[depth+1]?=none)(C:PX X c f):PB X (jQ (.ListComp c h O p) depth (.ref d) X.env) (tBx false X.K A d (iY f)):=PB.imp' (Md E C) λq H N G=>by
 obtain⟨w,T,y,U,Q,B,e,k⟩:=G;obtain⟨⟨r,g⟩,h1,e⟩:=gu e;obtain⟨J,e⟩:=hV e;obtain⟨rfl,rfl⟩:=rq e;refine⟨w,T,r,g,B.er,h1,λv j P=>?_⟩;obtain⟨s,M⟩:=P.rep B.er;have t:SK A q w H q g j:=P.1.sk;have x:=B.step t s;obtain⟨m,I,u⟩:=x.at';refine⟨m,I,by rw[u.length];exact J,k q _ ?_ ?_⟩
 ·have:SKd A d q g j q g (upd j d (.lst (m++[v]))):=⟨λa o e n L=>by rw[hU L];exact e,λi a z=> .inl z,λa z=>by
   by_cases l:a=d
   ·subst l;rw[ie];simp
   ·rw[hU l];exact z,λ_ _=>rfl⟩
  exact t.skd.trans this
 ·have hk: ∀b o,j b=some o-> ¬T b->upd j d (.lst (m++[v])) b=some o:=λb o e n=>by rw[hU (by intro z;subst z;exact n B.td)];exact e
  have hd: ∀a,T a->Ow (upd j d (.lst (m++[v])) a):=λa z=>by
   by_cases l:a=d
   ·subst l;rw[ie];trivial
   ·rw[hU l];exact s.dom a z
  refine⟨s.mono hk (λ_ _ z=>z) hd,B.td,m++[v],ie,?_⟩;exact RepL.mono (λb o e n=>hk b o e λz=>n (.inr z)) (λ_ _ z=>z) (u.append (RepL.one M))
end
noncomputable def iO(caps:iP)(k:Nat)(fi:FIt)(b:Tg)(ti:FT)(a:FB):F:=λδ=>(fi δ).bind λp=>(jf p.2 (caps.map .slot)).bind λargs=>
 if(hJ (caps.map .slot) args).Nodup then(lZ b ti a p.1 [] (args.map some++List.replicate k none)).bind λq=>some ((.lst q.1,true),wb (caps.map .slot) args (iA args q.2) p.2) else none
noncomputable def AN(a:iP)(k:Nat)(b:L2.St):L2.St:=(a.map λj=>(b[j]?).join)++List.replicate k none
noncomputable def o0(S:Bool):HO:=match S with
 |false=> .lst []
 |true=> .set (λ_=>false) 0
noncomputable def qS(S:Bool)(Q:VK):VK:=match S with
 |false=>Q
 |true=>λx b=> ∃S n,∃a,x= .ref a/\b a=some (.set S n)/\Q (.int n) b
noncomputable def rS(S:Bool)(a:List D):D×Bool:=match S with
 |false=>(.lst a,true)
 |true=>(.int (Gr a).2,false)
noncomputable def PN(S:Bool)(b:iP)(k:Nat)(d:FIt)(e:Tg)(f:FT)(c:FB):F:=λg=>(d g).bind λp=>(jf p.2 (b.map .slot)).bind λa=>
 if(hJ (b.map .slot) a).Nodup then(lZ e f c p.1 [] (a.map some++List.replicate k none)).bind λq=>some (rS S q.1,wb (b.map .slot) a (iA a q.2) p.2) else none
def GZ{S:Bool}{K:gW}{f:iP}{k:Nat}{fi:FIt}{tg:Tg}{ti:FT}{fb:FB}{m:L2.St}{H:Hp}{Q:VK}(h:tF K (PN S f k fi tg ti fb) m H Q):
  tI K (λi=>i∉f) fi m H λJ p=>Iw (o0 S) J (tG K (λi=>f.length<=i) tg) (tT K ti) (λd=>tBx S K (λi=>f.length<=i) d fb) (AN f k) m p (qS S Q):=by
 obtain⟨δ,T,rr,δr,E,e,kq⟩:=h;obtain⟨⟨ds,s⟩,h1,e⟩:=gu e;obtain⟨g,u,e⟩:=gu e;dsimp only at e u;split at e
 case isFalse=>cases e
 rename_i F;obtain⟨⟨q,X⟩,h2,e⟩:=gu e;obtain⟨rfl,rfl⟩:=gX e;refine⟨δ,T,ds,s,E,h1,λJ p K1 B ok d hd=>?_⟩;obtain⟨hl,hg⟩:=lM u;have cI:g.length=f.length:=by simpa using hl
 let A:List V:=f.map λj=>((m[j]?).join).getD .non
 have there: ∀(i j:Nat),f[i]?=some j-> ∃v,m[j]?=some (some v):=λi j l=>by
  have hi:i<g.length:=by have:=(qM.mp l).1;omega
  obtain⟨o,t,W⟩:=hg i _ (jm hi);rw[jJ,l] at t;cases t;have I:=oB W;generalize g[i]=y at I;obtain⟨x,b⟩:=y
  cases b with
  |false=>obtain⟨v,h,_⟩:=B.val j x I;exact⟨v,h⟩
  |true=>obtain⟨a,h,_⟩:=B.own j x I;exact⟨_,h⟩
 have fv: ∀(i j:Nat),f[i]?=some j-> ∃v,A[i]?=some v/\m[j]?=some (some v):=λi j l=>by
  obtain⟨v,hv⟩:=there i j l;refine⟨v,?_,hv⟩;show(f.map λj=>((m[j]?).join).getD .non)[i]?=some v;rw[jJ,l];simp[hv]
 have w5:AN f k m=A.map some++List.replicate k none:=by
  unfold AN
  congr 1
  apply Ad;intro i;show _=((f.map λj=>((m[j]?).join).getD .non).map some)[i]?;rw[jJ,jJ,jJ]
  cases l:f[i]? with
  |none=>rfl
  |some j=>obtain⟨v,hv⟩:=there i j l;simp[hv]
 have C:Ops K T m s p (f.map Opd.slot) A s p T:=by
  refine⟨by simp[A],.refl,B,λ_ z=>z,λj x v l=>?_,λj x v l=>?_,λj i v l hv=>?_⟩
  ·rw[jJ] at l;obtain⟨_,_,z⟩:=ir l;cases z
  ·rw[jJ] at l;obtain⟨_,_,z⟩:=ir l;cases z
  ·rw[jJ] at l;obtain⟨c,D,z⟩:=ir l;cases z;obtain⟨v',t,W⟩:=fv j i D;rw[hv] at t;cases t;exact W
 have L:=tY B C u F
 have hA: ∀(i:Nat) x,g[i]?=some (x,true)-> ¬(f.length<=i):=λi x w=>by
  have:=(qM.mp w).1;omega
 rw[w5];have w:=kr (o:=o0 S) hd
 have R: ∀a,p a≠none->upd p d (o0 S) a≠none:=λa z=>by
  cases O:p a with
  |none=>exact absurd O z
  |some o=>rw[w a o O];simp
 have b0:BS S K d (λa=>Tc T m s A g a\/a=d) (A.map some++List.replicate k none) (g.map some++List.replicate k none) [] (upd p d (o0 S)):=by
  refine⟨(L.pad).mono (λb o eb _=>w b o eb) (λb hb z=>z.elim id λz=>by subst z;exact absurd hd hb) (λa z=>?_),.inr rfl,?_⟩
  ·rcases z with z|z
   ·exact(L.dom a z).up (w a)
   ·subst z;rw[ie];cases S<;>trivial
  ·cases S with
   |false=>exact⟨[],ie,RepL.nil⟩
   |true=>exact ie
 refine Mw (λ_ _ _ _ h=>h) (λ_ _ _ h=>h) (λ_ _ _ h=>h) b0 _ _ ok (λa o N _=>w a o N) (λa Y z=>?_) (λa Y z=>?_) R h2 λZ U M G=>?_
 ·rcases z with z|z
  ·obtain⟨j,x,g1,g2⟩:=JC.mp z;obtain⟨i,_,t,_,I⟩:=Cq C u ⟨x,g1,g2⟩;refine .inl ⟨i,λn=>n ?_,I⟩;rw[jJ] at t;obtain⟨c,D,e⟩:=ir t;cases e;exact lE D
  ·subst z;exact absurd hd Y
 ·rcases z with z|z|z
  ·exact .inl (FK C u (JC.mp z))
  ·rcases z with z|z
   ·exact .inr z
   ·exact .inl z.1
  ·subst z;exact absurd hd Y
 ·have SS:SK (λi=>f.length<=i) (A.map some++List.replicate k none) (g.map some++List.replicate k none) p Z X U:=
   ⟨λa o N n=>M.kp a o (w a o N) n (by intro z;subst z;rw[N] at hd;cases hd),λi a z=>(M.owi i a z).imp id λz=>by
    cases O:p a with
    |none=>rfl
    |some o=>exact absurd z (R a (by rw[O];simp)),λa z=>M.dm a (R a z),M.as⟩
  cases S with
  |false=>
   obtain⟨ys,hy,ry⟩:=G.at';have P:=qy (r:=(.lst q,true)) (v:= .ref d) L SS hA ⟨d,rfl,hd,G.er,ys,hy,RepL.mono (λ_ _ e _=>e) (λb _ z=>z) ry⟩;exact kq (.ref d) U ((tU B C u F P).pre K1)
  |true=>
   have P:=qy (r:=(.int (Gr q).2,false)) (v:= .int (Gr q).2) L SS hA ⟨G.er.mono (λ_ _ e _=>e) (λb _ z=> .inl z) (λa z=>G.er.dom a (.inl z)),Rep.mkInt⟩;exact⟨_,_,d,rfl,G.at',kq (.int (Gr q).2) U ((tU B C u F P).pre K1)⟩
def CZ{K:gW}{a:iP}{k:Nat}{c:FIt}{e:Tg}{ti:FT}{b:FB}{f:L2.St}{H:Hp}{Q:VK}(h:tF K (iO a k c e ti b) f H Q):
  Iu (tI K (λi=>i∉a) c) (tG K (λi=>a.length<=i) e) (tT K ti) (λd=>tBx false K (λi=>a.length<=i) d b) (AN a k) f H Q:=GZ (S:=false) h
section
variable {X:Cx}{elt:gG}{c:qC}{iq:qD}{scope:iG}{pos f9 py:Pos}{N':hG}{caps:iP}{k:Nat}{fi:FIt}{tg:Tg}{ti:FT}{fb:FB}{A L:iI}{H0:Hp}
structure CompOk(X:Cx)(N':hG)(scope:iG)(caps:iP)(k:Nat):Prop where
 cell: ∀y∈scope.names,y.2= .cell->scope.names.lookup y.1=some .cell
 kind:scope.kind= .function
 names: ∀y∈scope.names,y.2= .local->scope.names.lookup y.1=some .local
 free: ∀y∈scope.names,y.2= .free->X.env.scope.names.lookup y.1=some .cell\/X.env.scope.names.lookup y.1=some .free
 len:caps.length+k=N'.length
 caps: ∀(i j:Nat) (x:Str),caps[i]?=some j->N'[i]?=some x->X.N[j]?=some x/\scope.names.lookup x=some .free
def CompOk.sco(C:CompOk X N' scope caps k):CompScope X N' scope (AN caps k):=by
 refine⟨C.cell,C.kind,C.names,C.free,λd=>by simp[AN,C.len],λd i v x h1 f=>?_⟩;unfold AN at h1;by_cases b:i<caps.length
 ·rw[qK (by simpa using b),jJ,jm b] at h1;obtain⟨g,h⟩:=C.caps i caps[i] x (jm b) f;refine⟨h,caps[i],g,?_⟩;have a:(d[caps[i]]?).join=some v:=by simpa using h1
  cases e:d[caps[i]]? with
  |none=>rw[e] at a;cases a
  |some y=>rw[e] at a;exact mM some a
 ·rw[nZ (by simpa using b),sA] at h1;split at h1<;>cases h1
def LH(C:CompOk X N' scope caps k)(n:X.calm=true)(m:c.is_async=0)(p: ∀e,iq[0]?=some e->e.is_async=0)
  (o: ∀x,foldedSetIterable c.iter X.env x=pure x)(q:PIX X (λi=>i∉caps) c.target c.iter fi)
  (s: ∀(j:jL) (C:gw) (r:gA) (f:Hp) (l:jx) (a:ig),let b:=X.comp N' scope j C r f l a
   PGX b (λi=>caps.length<=i) c.target tg/\PIf b c.ifs (tT X.K ti)/\ ∀d,PB b (jQ (.ListComp elt (c::iq) scope pos) 0 (.ref d) b.env) (tBx false X.K (λi=>caps.length<=i) d fb)):
  PX X (.ListComp elt (c::iq) scope pos) (iO caps k fi tg ti fb):=PX.imp (Jv (g:=tG X.K (λi=>caps.length<=i) tg) (ti:=tT X.K ti) (tb:=λd=>tBx false X.K (λi=>caps.length<=i) d fb) C.sco n m p o q s) λt H Q h=>CZ h
def Ja{y:Str}{i:Nat}(m:swapsWith (.ListComp elt (c::iq) scope pos) (some (.Name y py)) f9.line X.env=pure true)
  (C:CompOk X N' scope caps k)(w:X.calm=true)(u:c.is_async=0)(I: ∀h,iq[0]?=some h->h.is_async=0)
  (B: ∀x,foldedSetIterable c.iter X.env x=pure x)(M:PIX X (λi=>i∉caps) c.target c.iter fi)(o:PG X (.Name y py) (CF i))(t:A i)
  (O: ∀(n:jL) (C:gw) (N:gA) (l:Hp) (p:jx) (a:ig),let b:=X.comp N' scope n C N l p a
   PGX b (λi=>caps.length<=i) c.target tg/\PIf b c.ifs (tT X.K ti)/\ ∀d,PB b (jQ (.ListComp elt (c::iq) scope pos) 0 (.ref d) b.env) (tBx false X.K (λi=>caps.length<=i) d fb)):
  PSX X A L H0 (.Assign [.Name y py] (.ListComp elt (c::iq) scope pos) f9) (iz i (iO caps k fi tg ti fb)):=PS.imp' (Jg (g:=tG X.K (λi=>caps.length<=i) tg) (ti:=tT X.K ti) (tb:=λd=>tBx false X.K (λi=>caps.length<=i) d fb) m C.sco w u I B M o O) λD U H G=>by
 obtain⟨Q,T,J,E,fi,e,k⟩:=G;obtain⟨⟨r,f⟩,s,e⟩:=gu e;obtain⟨z,rfl⟩:=hV e;refine CZ ⟨Q,T,r,f,E,s,λv j P=>?_⟩;obtain⟨h1,q⟩:=wH (A:=A) E P z t;exact k _ j h1 q
end
section
variable {K:gW}{T:AP'}{d:L2.St}{c:Dn}{H:Hp}{i:Nat}{l g:List D}{a:gw}{m:List V}
def OwnI.write{j:Nat}{b:gw}(hd:c[i]?=some (some (.lst l,true)))(h:OwnI d (c.set i (some (.lst g,true))) j b):OwnI d c j b:=by
 obtain⟨e,h1,f⟩:=h;rcases ky h1 with⟨rfl,_,_⟩|⟨_,q⟩
 ·exact⟨_,hd,f⟩
 ·exact⟨e,q,f⟩
def ER.write(E:ER K H T d c)(hd:c[i]?=some (some (.lst l,true)))(t:d[i]?=some (some (.ref a)))(r:RepL K H (λb=>OwnA d c b\/T b) g m):
  ER K (upd H a (.lst m)) T d (c.set i (some (.lst g,true)))/\Keep d c H (c.set i (some (.lst g,true))) (upd H a (.lst m)):=by
 have Q:i<c.length:=(qM.mp hd).1;have v:OwnA d c a:=⟨i,_,hd,t⟩
 have C: ∀b,OwnA d (c.set i (some (.lst g,true))) b->OwnA d c b:=λb ⟨j,e,h1,s⟩=>by
  obtain⟨I,x,y⟩:=OwnI.write hd ⟨e,h1,s⟩;exact⟨j,I,x,y⟩
 have u: ∀b o,H b=some o-> ¬(OwnA d c b\/T b)->upd H a (.lst m) b=some o:=λb o e n=>by rw[hU (by intro z;subst z;exact n (.inl v))];exact e
 have G: ∀b,H b≠none->upd H a (.lst m) b≠none:=λb z=>by
  by_cases B:b=a
  ·subst B;rw[ie];simp
  ·rw[hU B];exact z
 have sub: ∀b,H b≠none->(OwnA d (c.set i (some (.lst g,true))) b\/T b)->OwnA d c b\/T b:=λb _ z=>z.imp (C b) id;refine⟨⟨by rw[sv];exact E.len,λj e h=>?_,λj e h=>?_,λj k e f b h hk h1 s=>?_,λb z=>E.nT b (C b z),λb z=>by have ne:b≠a:=λe=>E.nT a v (e▸z);rw[hU ne];exact E.dom b z⟩,⟨λb o e n=>by rw[hU (by intro z;subst z;exact n v)];exact e,λj b z=>OwnI.write hd z,G⟩⟩
 ·rcases ky h with⟨_,_,q⟩|⟨_,q⟩
  ·cases q
  ·obtain⟨w,p,A⟩:=E.val j e q;exact⟨w,p,Rep.mono u sub A⟩
 ·rcases ky h with⟨rfl,_,q⟩|⟨ne,q⟩
  ·cases q;exact⟨a,t,m,ie,RepL.mono u sub r⟩
  ·obtain⟨b,p,A⟩:=E.own j e q;refine⟨b,p,A.mono u sub λo M=>?_⟩;rw[hU]
   ·exact M
   ·intro z;subst z;exact ne (E.inj i j _ _ _ hd q t p)
 ·obtain⟨J,x,y⟩:=OwnI.write hd ⟨e,h,h1⟩;obtain⟨L,N,O⟩:=OwnI.write hd ⟨f,hk,s⟩;exact E.inj j k J L b x N y O
end
noncomputable def jW(i:Nat)(f:F):F:=λa=>match a[i]? with
 |some (some (.lst _,true))=>(f a).bind λp=>match p.2[i]? with
  |some (some (.lst l,true))=>if l.length<sizeLine then some ((.non,false),p.2.set i (some (.lst (l++[p.1.1]),true))) else none
  |_=>none
 |_=>none
noncomputable def rP(i:Nat)(f:FO):F:=λa=>match a[i]? with
 |some (some (.lst _,true))=>(f a).bind λp=>match res p.2 p.1,p.2[i]? with
  |some (.int k),some (some (.lst l,true))=>if -(2^63)<=k/\k<2^63 then(ixN l.length k).bind λj=>(l[j]?).bind λd=>some ((d,false),p.2.set i (some (.lst (l.eraseIdx j),true))) else none
  |_,_=>none
 |_=>none
noncomputable def uI(i:Nat)(f:F)(g:FO):FS:=λa=>(f a).bind λp=>match p.2[i]? with
 |some (some _)=>(g p.2).bind λq=>match res q.2 q.1,q.2[i]? with
  |some (.int k),some (some (.lst l,true))=>(ixN l.length k).bind λj=>some (.nx (q.2.set i (some (.lst (l.set j p.1.1),true))))
  |_,_=>none
 |_=>none
section
variable {X:Cx}{e p:gG}{f:F}{s:FO}{q c g m:Pos}{i:Nat}{x:Str}{A L:iI}{t:Hp}
theorem RepL.erase{K H}{O:AP'}: ∀{l:List D} {a:List V} (j:Nat),RepL K H O l a->RepL K H O (l.eraseIdx j) (a.eraseIdx j)
 |[],a,j,h=>by rw[RepL] at h;subst h;simp[RepL]
 |d::l,a,0,h=>by
  rw[RepL] at h;obtain⟨v,r,rfl,h1,b⟩:=h;exact b
 |d::l,a,j+1,h=>by
  rw[RepL] at h;obtain⟨v,r,rfl,h1,b⟩:=h;exact RepL.cons h1 (RepL.erase j b)
def Gx(hv:PO X (.Name x c) (gv i))(N:PX X e f)(i9:attributeBase (.Name x c) "append" X.env (eval (.Name x c) X.env)=eval (.Name x c) X.env)
  (j9:((backTo m (starEach [e] X.env)).all (λx=>!x.1)&&(backToKw m (keywordEach [] X.env)).all (λx=>x.1.isSome)&&decide ([e].length+([]:List Keyword).length+(if([]:List Keyword).isEmpty then 0 else 1)<30))=true)
  (i7:(g.endLine==m.line)=true)(z:starEach [e] X.env=(false,eval e X.env)::starEach [] X.env)(Y:(backTo m (starEach [] X.env)).any (·.1)=false):
  PX X (.Call (.Attribute (.Name x c) "append" g) [e] [] m) (jW i f):=
 PX.imp (JA DH PySem.F.slot_list_append PySem.F.type_list_append GN hv (ku N nR z) i9 j9 i7 z Y) λσ H Q O=>by
 obtain⟨h,T,rr,S,E,e,k⟩:=O;unfold jW at e;split at e
 ·rename_i l0 u;obtain⟨⟨r,j⟩,h1,e⟩:=gu e;dsimp only at e;split at e
  ·rename_i l w;obtain⟨U,e⟩:=hV e;obtain⟨rfl,rfl⟩:=rq e;refine⟨h,T,.slot i,h,E,by unfold gv;rw[u],λv V P=>?_⟩;obtain⟨I,d,b⟩:=P;obtain⟨a,g1,M,g2,g3⟩:=d.own i _ u;rw[b] at g1;cases g1;refine⟨.inl ⟨rfl,M,SqL.of g2⟩,h,T,r,j,d,h1,λy W o=>?_⟩;obtain⟨n,K⟩:=o.rep d;obtain⟨Z,B,R,D,C⟩:=n.own i _ w;rw[b] at B;cases B;refine⟨_,R,y,rfl,rfl,D,by rw[C.length];exact U,?_⟩;obtain⟨G,J⟩:=n.write w b (C.append (RepL.one K));exact k _ _ (Post.val ((I.trans o.1).trans J) G Rep.mkNon)
  ·cases e
 ·cases e
def IU(hv:PO X (.Name x c) (gv i))(he:PO X e s)(i9:attributeBase (.Name x c) "pop" X.env (eval (.Name x c) X.env)=eval (.Name x c) X.env)
  (j9:((backTo m (starEach [e] X.env)).all (λx=>!x.1)&&(backToKw m (keywordEach [] X.env)).all (λx=>x.1.isSome)&&decide ([e].length+([]:List Keyword).length+(if([]:List Keyword).isEmpty then 0 else 1)<30))=true)
  (i7:(g.endLine==m.line)=true)(Y:starEach [e] X.env=(false,eval e X.env)::starEach [] X.env)(i3:(backTo m (starEach [] X.env)).any (·.1)=false):
  PX X (.Call (.Attribute (.Name x c) "pop" g) [e] [] m) (rP i s):=
 PX.imp (JA DH PySem.F.slot_list_pop PySem.F.type_list_pop JM hv (ku he nR Y) i9 j9 i7 Y i3) λσ H Q hw=>by
 obtain⟨I,T,rr,δ',E,e,k⟩:=hw;unfold rP at e;split at e
 ·rename_i l0 N;obtain⟨⟨o,r⟩,h1,e⟩:=gu e;dsimp only at e;split at e
  ·rename_i D l hk O;split at e
   case isFalse=>cases e
   rename_i U;obtain⟨j,hj,e⟩:=gu e;obtain⟨d,hd,e⟩:=gu e;obtain⟨rfl,rfl⟩:=gX e;refine⟨I,T,.slot i,I,E,by unfold gv;rw[N],λv H1 P=>?_⟩;obtain⟨Z,u,h⟩:=P;obtain⟨a,g1,cR,g2,g3⟩:=u.own i _ N;rw[h] at g1;cases g1;refine⟨.inl ⟨rfl,cR,SqL.of g2⟩,I,T,o,r,u,h1,λy W M=>?_⟩;have B:=Ops.cons u M (Ops.nil (M.er u));have vy:=hZ (B.view (j:=0) rfl rfl hk);have J:ER X.K W T σ r:=B.er.mono (λ_ _ e _=>e) (λb _ z=>B.tt b z) (λa z=>B.er.dom a (B.tt a z));obtain⟨a',R,S,q2,G⟩:=J.own i _ O;rw[h] at R;cases R;obtain⟨w,w1,w2⟩:=G.get hd;have hl:=G.length;have fI:ixN S.length D=some j:=by rw[hl];exact hj
   obtain⟨s1,s2,s3,s4⟩:=A4 fI;obtain⟨V,C⟩:=J.write O h (RepL.erase j G);refine⟨_,S,D,j,w,rfl,by rw[vy],q2,U.1,U.2,s1,w1,?_⟩;exact k _ _ (Post.val ((Z.trans B.keep).trans C) V (Rep.mono (λb o e n=>C.kp b o e λz=>n (.inl z)) (λb _ z=>z.imp (C.ow b) id) w2))
  ·cases e
 ·cases e
def GA{h:Pos}(hv:PO X (.Name x c) (gv i))(he:PX X e f)(hi:PO X p s)
  (ha: ∀v,assign (.Subscript (.Name x c) p h) X.env v=(do
   let C <-holding [v] (eval (.Name x c) X.env)
   let I <-holding [v,C] (eval p X.env)
   standAt h
   holding [v,C,I] (setItem C I v)
   release [v,C,I] []))
  (hs:swapsWithSole [.Subscript (.Name x c) p h] e q.line X.env=pure false)(G:swappedStores [.Subscript (.Name x c) p h] e X.env=pure none)
  (h1:(assignEach [.Subscript (.Name x c) p h] X.env).map (·.2)=[assign (.Subscript (.Name x c) p h) X.env]):
  PSX X A L t (.Assign [.Subscript (.Name x c) p h] e q) (uI i f s):=PS.imp' (Eh he (Js hv hi ID ha) hs G h1) λD J H G=>by
 obtain⟨U,T,out,E,fi,e,k⟩:=G;obtain⟨⟨r,d⟩,h1,e⟩:=gu e;dsimp only at e;split at e
 case h_2=>cases e
 rename_i y0 V;obtain⟨⟨o,y⟩,W,e⟩:=gu e;dsimp only at e;split at e
 ·rename_i kk l hk N;obtain⟨j,Z,e⟩:=gu e;cases e;refine⟨U,T,r,d,E,h1,λv F n=>⟨d,Tmp T r v,.slot i,d,n.er E,by unfold gv;rw[V],λv2 H2 u=>⟨d,Tmp T r v,o,y,u.er (n.er E),W,λv3 P P3=>?_⟩⟩⟩;have S:PostO X.K T J U H (.val r) d v F:=n;have B:=Ops.cons E S (Ops.cons (n.er E) u (Ops.cons (u.er (n.er E)) P3 (Ops.nil (P3.er (u.er (n.er E))))));have M:ER X.K P T J y:=B.er.mono (λ_ _ e _=>e) (λb _ z=>B.tt b z) (λa z=>B.er.dom a (B.tt a z));have w:J[i]?=some (some v2):=u.2.2;obtain⟨a,O,xs,q2,Q⟩:=M.own i _ N;rw[w] at O;cases O;have vk:=hZ (B.view (j:=2) rfl rfl hk);have rv:=B.rep E (j:=0) (r:=r) rfl rfl;refine⟨a,xs,kk,j,rfl,vk,q2,by rw[Q.length];exact Z,?_⟩;obtain⟨Y,R⟩:=M.write N w (RepL.set rv j Q);exact k _ _ (B.keep.trans R).sk Y
 ·cases e
end
noncomputable def Ea(a:Tg)(f:F):FS:=λδ=>(f δ).bind λp=>(a p.1.1 p.2).bind λδ1=>some (.nx δ1)
section
variable {X:Cx}{A L:iI}{l:Hp}{a b d e:gG}{fs:List F}{f:F}{t:Tg}{c n m pt h:Pos}{x y:Str}{i j:Nat}{kt k2}
def LW(C:PX X e f)(G:PGX X A d t)(I:swapsWithSole [d] e c.line X.env=pure false)(o:swappedStores [d] e X.env=pure none)(h1:(assignEach [d] X.env).map (·.2)=[assign d X.env]):
  PSX X A L l (.Assign [d] e c) (Ea t f):=PS.imp' (Eh C G I o h1) λD Q H o=>by
 obtain⟨N,T,J,E,O,e,k⟩:=o;obtain⟨⟨r,g⟩,h1,e⟩:=gu e;obtain⟨p,B,e⟩:=gu e;cases e;refine⟨N,T,r,g,E,h1,λv w P=>?_⟩;obtain⟨u,M⟩:=P.rep E;exact⟨g,T,r.1,p,u,M,B,λq z s=>k q w (P.1.sk.trans z) s⟩
def Ft{id:String}{p:Pos}{k:jh}{o:List FO}{g:List D->Option (D×Bool)}{z:Str}(s:jq X (.builtin id) (rDn X.K g))(v:Gl X z)(w:X.mg z=none)(hv:bootBuiltins z=some (.builtin id))(r:PA X (e::k) (tA X.K o))(B:z≠"__name__")(C:(z==("__debug__":Str))=false)
  (u:starEach (e::k) X.env=(false,eval e X.env)::starEach k X.env)(q:(backTo c (starEach k X.env)).any (·.1)=false):PX X (.Call (.Name z p) (e::k) [] c) (gL g o):=pxn (sV s v w hv r B C u q)
def Ly{id:String}{p:Pos}{k:jh}{o:List FO}{g:List D->Option (D×Bool)}{z:Str}(s:jq X (.type id) (rDn X.K g))(v:Gl X z)(w:X.mg z=none)(hv:bootBuiltins z=some (.type id))(r:PA X (e::k) (tA X.K o))(B:z≠"__name__")(C:(z==("__debug__":Str))=false)
  (u:starEach (e::k) X.env=(false,eval e X.env)::starEach k X.env)(q:(backTo c (starEach k X.env)).any (·.1)=false):PX X (.Call (.Name z p) (e::k) [] c) (gL g o):=pxn (oy s v w hv r B C u q)
end
noncomputable def Bg(N:hG)(c scope:iG)(b:hG)(a:iP)(k:Nat):Bool:=
 (scope.names.all λy=>y.2 != .cell||scope.names.lookup y.1==some .cell)&&decide (scope.kind= .function)&&(scope.names.all λy=>y.2 != .local||scope.names.lookup y.1==some .local)&&
 (scope.names.all λy=>y.2 != .free||(c.names.lookup y.1==some .cell||c.names.lookup y.1==some .free))&&decide (a.length+k=b.length)&&
 ((a.zip b).all λp=>N[p.1]?==some p.2&&scope.names.lookup p.2==some .free)
def KA(m:X.N=N)(p:X.env.scope=sc)(h:Bg N sc scope N' a k=true):CompOk X N' scope a k:=by
 subst m;subst p;unfold Bg at h;simp only[ko,nu,rp] at h;obtain⟨⟨⟨⟨⟨h1,c⟩,d⟩,f⟩,g⟩,l⟩:=h;refine⟨λy b e=>?_,c,λy b e=>?_,λy b e=>?_,g,λi j x n q=>?_⟩
 ·have:=h1 y b;rw[e] at this;simpa using this
 ·have:=d y b;rw[e] at this;simpa using this
 ·have:=f y b;rw[e] at this;simpa using this
 ·have o:(j,x)∈a.zip N':=by
   have:(a.zip N')[i]?=some (j,x):=by rw[Dd];exact⟨n,q⟩
   exact lE this
  have:=l _ o;simpa using this
noncomputable def jK:FT:=λδ=>some (true,δ)
def Jm{X:Cx}:PIf X [] (tT X.K jK):=λa s d H Q I h=>by
 obtain⟨f,T,b,c,E,e,k⟩:=h;cases e;exact L8 a s d H Q I (k H .refl E)
inductive Ty where
 |int|bool|str|tuple|list|dict
noncomputable def Ty.n:Ty->String
 | .int=>"int"| .bool=>"bool"| .str=>"str"| .tuple=>"tuple"| .list=>"list"| .dict=>"dict"
noncomputable def isT:D->Ty->Bool
 | .bl _,.bool=>true
 | .bl _,.int=>true
 | .int _,.int=>true
 | .str _,.str=>true
 | .tup _,.tuple=>true
 | .lst _,.list=>true
 | .oth .dct _ _,.dict=>true
 |_,_=>false
noncomputable def tyD:D->String
 | .non=>"NoneType"| .bl _=>"bool"| .int _=>"int"| .str _=>"str"| .tup _=>"tuple"| .lst _=>"list"| .oth .dct _ _=>"dict"| .oth .set _ _=>"set"| .oth _ _ _=>"NoneType"
section
variable {X:Cx}{b:ig}{c:L2.St}{H:Hp}{s:gA}
theorem AZ(K:gW)(d:D)(t:Ty):PySem.W.kitOne K (.type (tyD d)) (.type t.n)=some (isT d t):=by
 cases d with
 |oth k _ _=>cases k<;>cases t<;>with_unfolding_all rfl
 |_=>cases t<;>with_unfolding_all rfl
def xb(I:Inv X b c H s)(h:OthB X.K (H a) k l i us)(hk:k= .dct\/k= .set:=by first|exact .inl rfl|exact .inr rfl):s.TypeIs (.ref a) (tyD (.oth k l i)):=by
 cases k with
 |dct=>
  rcases h with⟨d,e,_⟩|⟨d,e,_⟩
  ·obtain⟨_,_,i,_,o,g,j,h1,f,_⟩:=(show ObjOk X.prog X.w H s.heap a (.dK d) from I.hok a _ e)
   exact⟨o,h1,f.1⟩
  ·obtain⟨_,_,p,_,o,g,j,h1,f,_⟩:=(show ObjOk X.prog X.w H s.heap a (.dT d) from I.hok a _ e)
   exact⟨o,h1,f.1⟩
 |set=>
  obtain⟨_,m,e,_⟩:=h;obtain⟨g,n,t,h1,_⟩:=(show ObjOk X.prog X.w H s.heap a (.stt m) from I.hok a _ e)
  exact⟨_,h1,rfl⟩
 |exc C=>rcases hk with z|z<;>cases z
 |_=>exact h.elim
def oj{K H}(h:iU K H O (.oth k g f) v): ∃a d,v= .ref a/\OthB K (H a) k g f d/\RepL K H O f d:=by
 rcases h with h|⟨a,rfl,h⟩
 ·obtain⟨a,d,e,q,r⟩:=h.oth;exact⟨a,d,e,q.2,r⟩
 ·obtain⟨d,e,r⟩:=h;exact⟨a,d,rfl,e,r⟩
end
theorem kJ(K:gW)(d:D): ∀a:List Ty,PySem.W.kitAny K (.type (tyD d)) (a.map λt=>Value.type t.n)=some (a.any (isT d))
 |[]=>rfl
 |t::a=>by
  rw[iT,PySem.W.kitAny,AZ,pK]
  cases isT d t with
  |true=>rfl
  |false=>simpa using kJ K d a
theorem NA{K:gW}{C:Nat}(h: ∀n∈["int","bool","str","tuple","list","dict"],PySem.W.kitOne K (.ref C) (.type n)=some false)(t:Ty){ks vs:List D}:PySem.W.kitOne K (.ref C) (.type t.n)=some (isT (.oth (.exc C) ks vs) t):=by
 cases t<;>exact h _ (by simp[Ty.n])
theorem FW{K:gW}{C:Nat}(h: ∀n∈["int","bool","str","tuple","list","dict"],PySem.W.kitOne K (.ref C) (.type n)=some false){ks vs:List D}: ∀a:List Ty,PySem.W.kitAny K (.ref C) (a.map λt=>Value.type t.n)=some (a.any (isT (.oth (.exc C) ks vs)))
 |[]=>rfl
 |t::a=>by
  rw[iT,PySem.W.kitAny,NA h t (ks:=ks) (vs:=vs),pK]
  cases isT (.oth (.exc C) ks vs) t with
  |true=>rfl
  |false=>simpa using FW h a
section
variable {X:Cx}{c:ig}{f:L2.St}{H:Hp}{s:gA}
def TV(I:Inv X c f H s)(hd:iU X.K H O d x)(g:RelV x u)(h: ∀j,Q (.bool (isT d t)) {s with toks:=j}):
  wpAny (model X.prog X.w) A (call (.builtin "isinstance") [u,.type t.n]) Q E s:=by
 cases d with
 |non=>have:=BH hd;subst this;cases g;exact sg PySem.W.kitx_none I.kIn True.intro (AZ X.K .non t) (λz=>nomatch z) h
 |bl b=>have:=AA hd;subst this;cases g;exact sg PySem.W.kitx_bool I.kIn True.intro (AZ X.K (.bl b) t) (λz=>nomatch z) h
 |int b=>have:=hZ hd;subst this;obtain⟨j,rfl⟩:=g;exact sg PySem.W.kitx_int I.kIn True.intro (AZ X.K (.int b) t) (λz=>nomatch z) h
 |str b=>have:=sG hd;subst this;obtain⟨j,rfl⟩:=g;exact sg PySem.W.kitx_str I.kIn True.intro (AZ X.K (.str b) t) (λz=>nomatch z) h
 |tup l=>
  obtain⟨a,y,rfl,q,_⟩:=jZ hd;cases g;obtain⟨r,_,⟨o,h1,i,_⟩,_⟩:=I.tuple q;exact sg PySem.W.kitx_tuple I.kIn ⟨o,h1,i⟩ (AZ X.K (.tup l) t) (λz=>nomatch z) h
 |lst l=>
  obtain⟨a,y,rfl,q,_⟩:=jF hd;cases g;obtain⟨r,_,⟨o,n,h1,i,_⟩,_⟩:=I.list q;exact sg PySem.W.kitx_list I.kIn ⟨o,h1,i⟩ (AZ X.K (.lst l) t) (λz=>nomatch z) h
 |oth k m p=>
  obtain⟨a,B,rfl,q,_⟩:=oj hd;cases g
  cases k with
  |dct=>exact sg PySem.W.kitx_dict I.kIn (xb I q) (AZ X.K (.oth .dct m p) t) (λz=>nomatch z) h
  |set=>exact sg PySem.W.kitx_set I.kIn (xb I q) (AZ X.K (.oth .set m p) t) (λz=>nomatch z) h
  |exc C=>
   obtain⟨_,o,e,h1,i,v⟩:=q;exact sg (i a) I.kIn (show ObjOk X.prog X.w H s.heap a (.frz o (.own 0)) from I.hok a _ e).1 (NA v t) (λz=>nomatch z) h
  |_=>exact q.elim
def TU{A:gS}{E:ip}{Q:ip}(I:Inv X c f H s){O:AP'}{d:D}{x:V}{u:gD}{ts:List Ty}{p:gw}{dd:Option Addr}{n:Nat}{G:pj}(hd:iU X.K H O d x)(i:RelV x u)
  (g:s.heap.get? p=some ⟨.type "tuple",dd,.seq (ts.map λt=>Value.type t.n).toArray n,G⟩)(h: ∀m,Q (.bool (ts.any (isT d))) {s with toks:=m}):wpAny (model X.prog X.w) A (call (.builtin "isinstance") [u,.ref p]) Q E s:=by
 cases d with
 |non=>have:=BH hd;subst this;cases i;exact sf PySem.W.kitx_none I.kIn True.intro g (kJ X.K .non ts) (λz=>nomatch z) h
 |bl b=>have:=AA hd;subst this;cases i;exact sf PySem.W.kitx_bool I.kIn True.intro g (kJ X.K (.bl b) ts) (λz=>nomatch z) h
 |int b=>have:=hZ hd;subst this;obtain⟨m,rfl⟩:=i;exact sf PySem.W.kitx_int I.kIn True.intro g (kJ X.K (.int b) ts) (λz=>nomatch z) h
 |str b=>have:=sG hd;subst this;obtain⟨m,rfl⟩:=i;exact sf PySem.W.kitx_str I.kIn True.intro g (kJ X.K (.str b) ts) (λz=>nomatch z) h
 |tup l=>
  obtain⟨a,J,rfl,q,_⟩:=jZ hd;cases i;obtain⟨y,_,⟨o,h1,j,_⟩,_⟩:=I.tuple q;exact sf PySem.W.kitx_tuple I.kIn ⟨o,h1,j⟩ g (kJ X.K (.tup l) ts) (λz=>nomatch z) h
 |lst l=>
  obtain⟨a,J,rfl,q,_⟩:=jF hd;cases i;obtain⟨y,_,⟨o,n,h1,j,_⟩,_⟩:=I.list q;exact sf PySem.W.kitx_list I.kIn ⟨o,h1,j⟩ g (kJ X.K (.lst l) ts) (λz=>nomatch z) h
 |oth k r v=>
  obtain⟨a,L,rfl,q,_⟩:=oj hd;cases i
  cases k with
  |dct=>exact sf PySem.W.kitx_dict I.kIn (xb I q) g (kJ X.K (.oth .dct r v) ts) (λz=>nomatch z) h
  |set=>exact sf PySem.W.kitx_set I.kIn (xb I q) g (kJ X.K (.oth .set r v) ts) (λz=>nomatch z) h
  |exc C=>
   obtain⟨_,o,e,h1,j,B⟩:=q;exact sf (j a) I.kIn (show ObjOk X.prog X.w H s.heap a (.frz o (.own 0)) from I.hok a _ e).1 g (FW B ts) (λz=>nomatch z) h
  |_=>exact q.elim
end
noncomputable def tL(ts:List Ty)(d:D):Option (D×Bool):=some (.bl (ts.any (isT d)),false)
section
variable {X:Cx}{e:gG}{g:FO}{f p c:Pos}{z:Str}
def Om{t:Ty}(G:PO X e g)(L:Gl X "isinstance")(M:X.mg "isinstance"=none)(m:Gl X z)(w:X.mg z=none)(Y:bootBuiltins z=some (.type t.n))(N:z≠"__name__")(i5:(z==("__debug__":Str))=false)(hv:bootBuiltins "isinstance"=some (.builtin "isinstance"))
  (s1:starEach [e,.Name z c] X.env=(false,eval e X.env)::starEach [.Name z c] X.env)(s2:starEach [.Name z c] X.env=(false,eval (.Name z c) X.env)::starEach [] X.env)(C:(backTo f (starEach [.Name z c] X.env)).any (·.1)=false):
  PX X (.Call (.Name "isinstance" p) [e,.Name z c] [] f) (jn (tL [t]) g):=by
 have J:jq X (.builtin "isinstance") (λl H Q=> ∃(O:AP') (d:D) (x:V),l=[x,.ty t.n]/\iU X.K H O d x/\Q (.bl (isT d t)) H):=by
  intro i s W H l us Q I r h;obtain⟨O,d,x,rfl,hd,q⟩:=h;obtain⟨u,w',rfl,P,F⟩:=vf r;cases F;exact TV I hd P λtk=>⟨.bl _,H,I.tok _,rfl,q⟩
 refine PX.imp (sV J L M hv (ku G (ku (vV (v:= .ty t.n) m w Y rfl N i5) nR s2) s1) (by decide) (by decide) s1 C) λW H Q U=>?_;obtain⟨R,T,rr,S,E,e,k⟩:=U;obtain⟨⟨o,a⟩,h1,e⟩:=gu e;obtain⟨x,y,e⟩:=gu e;obtain⟨zz,A,e⟩:=gu e;cases A;obtain⟨rfl,rfl⟩:=gX e;refine⟨R,T,o,a,E,h1,λv Z b=>?_⟩;have B:=Ops.cons E b (Ops.nil (b.er E));refine⟨_,x,v,rfl,B.view (j:=0) rfl rfl y,?_⟩;have:=(B.done k).bl;simpa using this
def LD{t m:Ty}{z i:Str}{l y:Pos}{w}(ha:PO X e g)(hg:Gl X "isinstance")(hm:X.mg "isinstance"=none)(aB:Gl X z)(dn:X.mg z=none)(hz:bootBuiltins z=some (.type t.n))(hn:z≠"__name__")(i5:(z==("__debug__":Str))=false)
  (cf:Gl X i)(A:X.mg i=none)(eh:bootBuiltins i=some (.type m.n))(cc:i≠"__name__")(cu:(i==("__debug__":Str))=false)(hv:bootBuiltins "isinstance"=some (.builtin "isinstance"))
  (s1:starEach [e,.Tuple [.Name z c,.Name i l] w y] X.env=(false,eval e X.env)::starEach [.Tuple [.Name z c,.Name i l] w y] X.env)(s2:starEach [.Tuple [.Name z c,.Name i l] w y] X.env=(false,eval (.Tuple [.Name z c,.Name i l] w y) X.env)::starEach [] X.env)
  (s3:starEach [.Name z c,.Name i l] X.env=(false,eval (.Name z c) X.env)::starEach [.Name i l] X.env)(s4:starEach [.Name i l] X.env=(false,eval (.Name i l) X.env)::starEach [] X.env)
  (h9:(backTo f (starEach [.Tuple [.Name z c,.Name i l] w y] X.env)).any (·.1)=false):
  PX X (.Call (.Name "isinstance" p) [e,.Tuple [.Name z c,.Name i l] w y] [] f) (jn (tL [t,m]) g):=by
 have S:jq X (.builtin "isinstance") (λF H Q=> ∃(O:AP') (d:D) (x:V) (q:gw),F=[x,.ref q]/\H q=some (.tup [.ty t.n,.ty m.n])/\iU X.K H O d x/\Q (.bl ([t,m].any (isT d))) H):=by
  intro Y s P H F us Q I r h;obtain⟨O,d,x,q,rfl,N,hd,k⟩:=h;obtain⟨u,w',rfl,ru,Z⟩:=vf r;cases Z;obtain⟨_,b6,v1,o,h1,J,n,L⟩:=I.hok q _ N;obtain⟨u1,u2,rfl,r1,r2⟩:=vf v1;cases r1;cases r2;obtain⟨R,dd,dt,sl⟩:=o;simp only at J L;subst J;subst L;exact TU (ts:=[t,m]) I hd ru h1 λtk=>⟨.bl _,H,I.tok _,rfl,k⟩
 refine PX.imp (sV S hg hm hv (ku ha (ku (Jt (ku (vV (v:= .ty t.n) aB dn hz rfl hn i5) (ku (vV (v:= .ty m.n) cf A eh rfl cc cu) nR s4) s3)) nR s2) s1) (by decide) (by decide) s1 h9) λP H Q W=>?_;obtain⟨δ,T,rr,δ',E,e,k⟩:=W;obtain⟨⟨o,G⟩,h1,e⟩:=gu e;obtain⟨x,J,e⟩:=gu e;obtain⟨zz,L,e⟩:=gu e;cases L;obtain⟨rfl,rfl⟩:=gX e;refine⟨δ,T,o,G,E,h1,λv H1 U=>⟨by show 2<=sizeLine;decide,λq N=>?_⟩⟩;have B:=Ops.cons E U (Ops.nil (U.er E));have M:=kr (o:= .tup [.ty t.n,.ty m.n]) N;have C:=B.view (j:=0) rfl rfl J;refine⟨λa=>OwnA P G a\/T a,x,v,q,rfl,ie,?_,?_⟩
 ·rcases C with C|⟨a,rfl,C⟩
  ·exact .inl (Rep.mono (λb o e _=>M b o e) (λ_ _ z=>z) C)
  ·exact .inr ⟨a,rfl,C.mono (λb o e _=>M b o e) (λ_ _ z=>z) λo e=>M a o e⟩
 ·exact(B.done k) _ _ M Rep.mkBl
end
noncomputable def nQ:List D->Option (List Bool)
 |[]=>some []
 | .bl b::l=>(nQ l).map (b:: ·)
 |_::_=>none
noncomputable def Ez:D->Option (D×Bool)
 | .lst l=>(nQ l).map λbs=>(.bl (bs.all id),false)
 |_=>none
theorem vE{K H}{O:AP'}: ∀{l:List D} {bs:List Bool} {e:List V} {d:iF},nQ l=some bs->RepL K H O l e->Vals e d->LSm.BoolsAre d bs
 |[],bs,e,d,h,r,v=>by
  cases h;rw[RepL] at r;subst r;cases v;exact .nil
 | .bl b::l,bs,e,d,h,r,v=>by
  obtain⟨f,h1,rfl⟩:=ir h;rw[RepL] at r;obtain⟨x,j,rfl,g,i⟩:=r;have:=g.bl;subst this
  cases v with
  |cons a c=>cases a;exact .cons b (vE h1 i c)
 | .non::l,_,_,_,h,_,_=>by cases h
 | .int _::l,_,_,_,h,_,_=>by cases h
 | .str _::l,_,_,_,h,_,_=>by cases h
 | .tup _::l,_,_,_,h,_,_=>by cases h
 | .lst _::l,_,_,_,h,_,_=>by cases h
 | .oth _ _ _::l,_,_,_,h,_,_=>by cases h
section
variable {X:Cx}
def A0{h a:gR}{o:Obj}(hk: ∀b x,b∉[h.objs.size]->(h.push o).get? b=some x->a.get? b=some x)(b:gw)(x:Obj)(e:h.get? b=some x):a.get? b=some x:=
 hk b x (λz=>by have:=Gd.mp z;subst this;exact absurd (iV e) (oi _)) (jd _ e)
def G8(o:X.calm=true):jq X (.builtin "all") (rDn X.K (g1 Ez)):=nq λk s N H x u Q O d z I y np hd j G=>by
 cases d with
 |lst l=>
  obtain⟨bs,n,rfl⟩:=ir j;obtain⟨p,M,rfl,q,r⟩:=jF hd;cases y;obtain⟨h,v,f,_⟩:=I.list q;have a:=vE n r v;have t:X.A.in1.handled=none:=I.ok.hd o;have g:p<s.heap.objs.size:=by obtain⟨_,e,_⟩:=f.isList;exact iV e
  refine call_all_walk (Ap f.isList ⟨s.heap.objs.size,[s.heap.objs.size,p],[s.heap.objs.size],h.toArray.size,_,_,λi=>(bs[i]?).getD true,rfl,Walks.list t _ p (iC g) h.toArray,
   ⟨⟨_,jz _ rfl,rfl,rfl⟩,f.isList.push _⟩,λi w J C B m c=>?_,λE L hk=>?_⟩)
  ·obtain⟨b,e,rfl⟩:=a.get i w (by simpa using m);dsimp only at c;rw[e] at c;exact uD c
  ·rw[iE,a.length,LSm.range_all];exact⟨.bl _,H,I.kept (A0 hk),rfl,G.bl⟩
 |_=>cases j
noncomputable def Kg:=gI λi j=>some (.int (if j>i then j else i))
noncomputable def Kf:=gI λi j=>some (.int (if j<i then j else i))
def EM(c:X.calm=true):jq X (.builtin "max") (rDn X.K (g2 Kg)):=KD λa s k H x y h Q O d e z I r np h1 b g G=>by
 obtain⟨i,j,w,rfl,rfl,f,rfl⟩:=wa g;cases f;exact G7 c a s k H [x,y] h Q I r ⟨i,j,by rw[hZ h1,hZ b],G.int⟩
def EL(c:X.calm=true):jq X (.builtin "min") (rDn X.K (g2 Kf)):=KD λa s k H x y h Q O d e z I r np h1 b g G=>by
 obtain⟨i,j,w,rfl,rfl,f,rfl⟩:=wa g;cases f;exact G6 c a s k H [x,y] h Q I r ⟨i,j,by rw[hZ h1,hZ b],G.int⟩
def wR{lo:Int}{n:Nat}{a:lU}(h:ItemsOf (λi v=> ∃t,v= .int (lo+(i:Int)*1) t) a n):Vals ((List.range n).map λ(k:Nat)=>V.int (lo+k)) a.toList:=by
 have b: ∀(l:iF) (m:Nat),(∀(j:Nat) v,l[j]?=some v-> ∃t,v= .int (lo+((m+j:Nat):Int)) t)->Vals ((List.range' m l.length).map λ(k:Nat)=>V.int (lo+k)) l:=by
  intro l
  induction l with
  |nil=>intro m _;exact .nil
  |cons v l f=>
   intro m hv;obtain⟨t,e⟩:=hv 0 v rfl;refine .cons ⟨t,by simpa using e⟩ (f (m+1) λj w d=>?_);obtain⟨g,c⟩:=hv (j+1) w (by simpa using d);exact⟨g,by rw[c];congr 2;first|done|omega⟩
 have:=b a.toList 0 λj v hv=>by
  obtain⟨t,e⟩:=h.2 j v (by simpa using hv);exact⟨t,by rw[e];congr 1⟩
 rw[ju,h.1,<-List.range_eq_range'] at this;exact this
def Ee{K H}(lo:Int)(n:Nat):RepL K H O (iu lo n) ((List.range n).map λ(k:Nat)=>V.int (lo+k)):=by
 unfold iu
 induction(List.range n) with
 |nil=>exact RepL.nil
 |cons k l a=>exact RepL.cons Rep.mkInt a
end
def RgOk(lo a:Int):Prop:= -(2^62)<=lo/\lo<2^62/\ -(2^62)<=a/\a<2^62/\(a-lo).toNat<=2^24
instance(lo hi:Int):Decidable (RgOk lo hi):=by unfold RgOk;infer_instance
noncomputable def rgV(lo a:Int):List V:=(List.range (a-lo).toNat).map λ(k:Nat)=>V.int (lo+k)
def RgOk.small{lo a:Int}(h:RgOk lo a):Builtin.Range.small lo a 1=true:=small_one h.1 h.2.1 h.2.2.1 h.2.2.2.1
def Fn(lo a:Int):Builtin.Range.rangeSize lo a 1=((a-lo).toNat:Nat):=by rw[rangeSize_one];split<;>omega
section
variable {c:gY}{w:gP}{A:gS}{E:ip}{s:gA}
def EK{Q:List Value->Shared->Prop}{r:gw}{lo n:Int}{t u v:Tok}(G:A.handled=none)(x:IsRange s.heap r lo n 1 t u v)(ok:RgOk lo n)
  (B: ∀(g:gR) k (d:lU),(∀b o,s.heap.get? b=some o->g.get? b=some o)->ItemsOf (λi v=> ∃t,v= .int (lo+(i:Int)*1) t) d (n-lo).toNat->Q d.toList {s with heap:=g,toks:=k}):
  wpAny (model c w) A (collect (.ref r)) Q E s:=by
 unfold collect;refine gy (Ac (oU F.entry_proto_collect ?_));rw[qG F.plain_proto_collect _];refine gy (m:=newList []) (lD ?_);refine gK ⟨pJ F.plain_list_iadd _,oU F.entry_list_iadd ?_⟩;rw[qG F.plain_list_iadd _];have z:=jz s.heap (o:=({cls:= .type "list",data:= .seq ([]:List Value).toArray}:Obj)) rfl
 let R:Result->Shared->Prop:=λr j=> ∃(g:gR) (k:Nat) (d:lU) (l:Nat),r= .ok (.ret (.ref s.heap.objs.size))/\j={s with heap:=g,toks:=k}/\(∀b o,s.heap.get? b=some o->g.get? b=some o)/\
  g.get? s.heap.objs.size=some {cls:= .type "list",dict:=none,data:= .seq d l,slots:= #[]}/\ItemsOf (λi v=> ∃t,v= .int (lo+(i:Int)*1) t) d (n-lo).toNat
 have fin: ∀{r j},R r j-> ∃v,r= .ok (.ret v)/\wpAny (model c w) A (match v with
   |Value.ref a=>do
    match(<-load a).data with
     |Data.seq xs _=>pure xs.toList
     |_=>unsupported "internal:collect"
   |_=>unsupported "internal:collect") Q E j:=λ{r j} C=>by
  obtain⟨g,k,d,l,rfl,rfl,hk,p,y⟩:=C;exact⟨_,rfl,gy (m:=load s.heap.objs.size) (uC p (gK (B g k d hk y)))⟩
 refine mO (wpAny_extend_range (A:=A) (R:=R) (s:={s with heap:=s.heap.push {cls:= .type "list",data:= .seq ([]:List Value).toArray}}) G (jd _ x) ok.small (Fn lo n) ok.2.2.2.2 _ _ 0 z λg k H l hk p y=>
  ⟨g,k,H,l,rfl,rfl,λb o e=>hk b o (iC (iV e)) (jd _ e),p,y⟩) (λf j h=>?_) (λe j h=>?_)
 ·cases f with
  |done f=>
   obtain⟨v,hv,q⟩:=fin h;cases hv;exact q
  |again l=>exact⟨h.1,sD h.2 λr I x=>by obtain⟨v,rfl,q⟩:=fin x;exact q⟩
 ·obtain⟨v,hv,_⟩:=fin h;cases hv
def AB{Q₁:ip}{r:gw}{lo g:Int}{t u v:Tok}(p:A.handled=none)(l:IsRange s.heap r lo g 1 t u v)(ok:RgOk lo g)
  (h: ∀(d:gR) k (a:lU),(∀b o,s.heap.get? b=some o->d.get? b=some o)->ItemsOf (λi v=> ∃t,v= .int (lo+(i:Int)*1) t) a (g-lo).toNat->Q₁ (.ref d.objs.size) {s with heap:=d.push {cls:= .type "tuple",data:= .seq a},toks:=k}):
  codeAny (model c w) A (.call (.builtin "tuple.__new__") ⟨[.type "tuple",.ref r],[]⟩) (wants Q₁ E) s:=by
 refine wu ?_;refine gy (m:=checkBuiltinCall "tuple.__new__" _) (pz (F.newCall_tuple_1 _) (gK ⟨pJ F.plain_tuple_new _,oU F.entry_tuple_new ?_⟩));rw[qG F.plain_tuple_new _];have z:=sub_tuple_self;have j:=init_tuple_lookup;have q:=madeHere_tuple;have y:s.TypeIs (.ref r) "range":=⟨_,l,rfl⟩
 have f:A.in1.handled=none:=p
 wp_walk using sx y,EK f l ok
 intro d k a hk n;have x:a.size<=sizeLine:=by rw[n.1,iM];have:=ok.2.2.2.2;omega
 refine gy (m:=Builtin.Tuple.tupleExact a.toList.toArray) ?_;unfold Builtin.Tuple.tupleExact;refine lD ?_ (by show a.toList.toArray.size<=sizeLine;simpa using x);refine gK ?_;have e:a.toList.toArray=a:=by simp
 rw[e];exact h d k a hk n
def yA{Q:ip}{r:gw}{lo g:Int}{t u v:Tok}(k:A.handled=none)(m:IsRange s.heap r lo g 1 t u v)(ok:RgOk lo g)
  (h: ∀(f:gR) j (e:lU),(∀b o,s.heap.get? b=some o->f.get? b=some o)->ItemsOf (λi v=> ∃t,v= .int (lo+(i:Int)*1) t) e (g-lo).toNat->Q (.ref f.objs.size) {s with heap:=f.push {cls:= .type "tuple",data:= .seq e},toks:=j}):
  wpAny (model c w) A (call (.type "tuple") [.ref r]) Q E s:=by
 refine callType_codes (Q₁:=λobj a=>a.TypeIs obj "tuple"/\Q obj a) K9 (F.typeCall_tuple_1 _) F.entry_object_init
  (AB k m ok λf j e l n=>⟨⟨_,jz _ rfl,rfl⟩,h f j e l n⟩) λobj a d=>?_
 exact⟨d.1,F.args_object_init_2 obj _,object_init_meets K9.init.lookup K9.made (by decide) c w A.in1 _ a ⟨d.1,rfl,d.2⟩⟩
end
section
variable {X:Cx}
def zp:jq X (.type "range") (λc H Q=> ∃i j,c=[.int i,.int j]/\ ∀r,H r=none->Q (.ref r) (upd H r (.rng i j))):=by
 intro a s k H c g Q I r h;obtain⟨i,j,rfl,h⟩:=h;obtain⟨u,f,rfl,⟨t,rfl⟩,⟨d,rfl⟩⟩:=vf r;exact call_range_2 ⟨.ref _,_,I.laid (o:= .rng i j) (λb o e=>jd _ e) (iR _) ⟨_,_,_,jz _ rfl⟩,rfl,h _ I.fresh⟩
def yB(j:X.calm=true):jq X (.type "list") (λg H Q=> ∃r lo b,g=[.ref r]/\H r=some (.rng lo b)/\RgOk lo b/\ ∀l,H l=none->Q (.ref l) (upd H l (.lst (rgV lo b)))):=by
 intro f s y H g x Q I i h;obtain⟨r,lo,b,rfl,k,ok,h⟩:=h;obtain⟨u,rfl,n⟩:=sH i;cases n;obtain⟨t,u,v,er⟩:=I.hok r _ k;refine call_list_range (A:=X.A) (I.ok.hd j) er ok.small (Fn lo b) ok.2.2.2.2 λp q d c m e a=>?_;have o:=wR a;refine⟨.ref _,_,I.laid m (iR _) (show ObjOk X.prog X.w _ _ _ (.lst (rgV lo b)) from⟨?_,d.toList,c,o,by simpa using e⟩),rfl,h _ I.fresh⟩;have:=ok.2.2.2.2;simp only[rgV,jt,List.length_range,iM];omega
def xX(m:X.calm=true):jq X (.type "tuple") (λj H Q=> ∃r lo d,j=[.ref r]/\H r=some (.rng lo d)/\RgOk lo d/\ ∀l,H l=none->Q (.ref l) (upd H l (.tup (rgV lo d)))):=by
 intro f s z H j B Q I k h;obtain⟨r,lo,d,rfl,n,ok,h⟩:=h;obtain⟨u,rfl,q⟩:=sH k;cases q;obtain⟨t,u,v,er⟩:=I.hok r _ n;refine yA (A:=X.A) (I.ok.hd m) er ok λi y c p a=>?_;have x:=wR a;have g:Inv X f z H {s with heap:=i,toks:=y}:=I.kept p;refine⟨.ref _,_,g.laid (λb o e=>jd _ e) (iR _) (show ObjOk X.prog X.w _ _ _ (.tup (rgV lo d)) from⟨?_,c.toList,x,by have:=Aj i c;simpa using this⟩),rfl,h _ g.fresh⟩;have:=ok.2.2.2.2;simp only[rgV,jt,List.length_range,iM];omega
noncomputable def gRg(mk:List D->D)(o:Bool):List D->Option (D×Bool)
 |[.int j]=>if RgOk 0 j then some (mk (iu 0 j.toNat),o) else none
 |[.int i,.int j]=>if RgOk i j then some (mk (iu i (j-i).toNat),o) else none
 |_=>none
def Fo{K H}(lo a:Int):RepL K H O (iu lo (a-lo).toNat) (rgV lo a):=Ee lo _
variable {a b:gG}{n m:FO}{p g d f:Pos}
def BK(h:upd H r o l=none):H l=none:=by
 by_cases e:l=r
 ·subst e;rw[ie] at h;cases h
 ·rwa [hU e] at h
def zA{K:gW}{T q:AP'}{s:L2.St}{r c:Dn}{H o:Hp}{os:List Opd}{l:List V}{e:List D}(B:Ops K T s r H os l c o q)(h:rH c os=some e){is:ik}(hd:e=is.map .int):l=is.map .int:=by
 obtain⟨h1,t⟩:=lX h;apply Ad;intro j;by_cases k:j<is.length
 ·rw[qi B h (j:=j) (i:=is[j]) (by rw[hd];simp[k])];simp[k]
 ·have u:=B.len;subst hd;simp at h1;rw[List.getElem?_eq_none (by omega),List.getElem?_eq_none (by simp;omega)]
def Oc{T:String}{z:Str}{mk:List D->D}{o:Bool}(hT:(T="list"/\mk= .lst/\o=true)\/(T="tuple"/\mk= .tup/\o=false))(U:X.calm=true)(Y:Gl X z)(hm:X.mg z=none)(hv:bootBuiltins z=some (.type T))(hn:z≠"__name__")(i5:(z==("__debug__":Str))=false)
  (M:Gl X "range")(L:X.mg "range"=none)(O:PA X [a,b] (tA X.K [n,m]))
  (s1:starEach [.Call (.Name "range" g) [a,b] [] f] X.env=(false,eval (.Call (.Name "range" g) [a,b] [] f) X.env)::starEach [] X.env)(s2:starEach [a,b] X.env=(false,eval a X.env)::starEach [b] X.env)
  (N:(backTo d (starEach [] X.env)).any (·.1)=false)(J:(backTo f (starEach [b] X.env)).any (·.1)=false):
  PX X (.Call (.Name z p) [.Call (.Name "range" g) [a,b] [] f] [] d) (gL (gRg mk o) [n,m]):=by
 have t: ∀{w c:Dn} {os:List Opd},iX [n,m] w=some (os,c)->os.length=2:=λ{w c os} h1=>by
  unfold iX at h1;obtain⟨p,q1,h1⟩:=gu h1;obtain⟨q,v,h1⟩:=gu h1;unfold iX at v;obtain⟨p3,q3,v⟩:=gu v;obtain⟨q4,F,v⟩:=gu v;unfold iX at F;cases F;obtain⟨rfl,rfl⟩:=gX h1;cases v;rfl
 rcases hT with⟨rfl,rfl,rfl⟩|⟨rfl,rfl,rfl⟩
 ·refine PX.imp (oy (yB U) Y hm hv (ku (oy zp M L Ao O (by decide) (by decide) s2 J) nR s1) hn i5 s1 N) λZ H Q C=>?_;obtain⟨w,T,S,I,E,e,k⟩:=C;obtain⟨⟨os,c⟩,h1,e⟩:=gu e;obtain⟨R,y,e⟩:=gu e;obtain⟨W,h,e⟩:=gu e;obtain⟨rfl,rfl⟩:=gX e;refine⟨w,T,os,c,E,h1,λV x P B=>?_⟩;unfold gRg at h;split at h
  ·obtain⟨s,_⟩:=lX y;have:=t h1;simp at s;omega
  ·rename_i i j;obtain⟨ok,rfl⟩:=hV h;refine⟨i,j,zA B y (is:=[i,j]) rfl,λr A=>⟨r,i,j,rfl,ie,ok,λl s=>?_⟩⟩;have G: ∀a u,x a=some u->upd (upd x r (.rng i j)) l (.lst (rgV i j)) a=some u:=λa u e=>kr s a u (kr A a u e);exact(B.done k) l _ (BK s) G ⟨rgV i j,ie,Fo i j⟩
  ·cases h
 ·refine PX.imp (oy (xX U) Y hm hv (ku (oy zp M L Ao O (by decide) (by decide) s2 J) nR s1) hn i5 s1 N) λZ H Q C=>?_;obtain⟨w,T,S,I,E,e,k⟩:=C;obtain⟨⟨os,c⟩,h1,e⟩:=gu e;obtain⟨R,y,e⟩:=gu e;obtain⟨W,h,e⟩:=gu e;obtain⟨rfl,rfl⟩:=gX e;refine⟨w,T,os,c,E,h1,λV x P B=>?_⟩;unfold gRg at h;split at h
  ·obtain⟨s,_⟩:=lX y;have:=t h1;simp at s;omega
  ·rename_i i j;obtain⟨ok,rfl⟩:=hV h;refine⟨i,j,zA B y (is:=[i,j]) rfl,λr A=>⟨r,i,j,rfl,ie,ok,λl s=>?_⟩⟩;have G: ∀a u,x a=some u->upd (upd x r (.rng i j)) l (.tup (rgV i j)) a=some u:=λa u e=>kr s a u (kr A a u e);exact(B.done k) _ _ G (Rep.mkTup ⟨ie,B.np (nOw (BK s))⟩ (Fo i j))
  ·cases h
end
def Src(h:gR)(a l:gw)(i:Nat)(b:lU):Prop:=(h.IsListIter a l i/\h.IsList l b)\/(h.IsTupleIter a l i/\h.IsTuple l b)
section
variable {prog:gY}{w:gP}{A:gS}{E:ip}{s:gA}{it l:gw}{i:Nat}{c:lU}
theorem Src.ne(x:Src h it l i c):l≠it:=by
 intro e;subst e;rcases x with⟨⟨o,h1,b,a⟩,d,g1,g2,n,g3⟩|⟨⟨o,h1,b,a⟩,d,g1,g2,n,g3⟩<;>(rw[h1] at g1;cases g1;rw[a] at g3;cases g3)
def Src.lt(x:Src h it l i c):it<h.objs.size/\l<h.objs.size:=by
 rcases x with⟨⟨o,h1,_⟩,a,g1,_⟩|⟨⟨o,h1,_⟩,a,g1,_⟩<;>exact⟨iV h1,iV g1⟩
def Src.keep(x:Src h it l i c)(d: ∀o,h.get? it=some o->h'.get? it=some o)(e: ∀o,h.get? l=some o->h'.get? l=some o):Src h' it l i c:=by
 rcases x with⟨⟨o,h1,r⟩,a,g1,b⟩|⟨⟨o,h1,r⟩,a,g1,b⟩
 ·exact .inl ⟨⟨o,d _ h1,r⟩,a,e _ g1,b⟩
 ·exact .inr ⟨⟨o,d _ h1,r⟩,a,e _ g1,b⟩
def yL{Q:ip}(d:s.heap.IsTupleIter it l i)(r:s.heap.IsTuple l c)(p: ∀x,c[i]?=some x-> ∀b,b.IsTupleIter it l (i+1)->Heap.SameBut it s.heap b->Q x {s with heap:=b})
  (h:c[i]?=none->A.handled=none/\ ∀b e,Heap.ExtBut it s.heap b->(∃o,b.get? e=some o/\o.cls= .type "StopIteration")->E (.ref e) {s with heap:=b}):wpAny (model prog w) A (Builtin.SmallTypes.nextOf (.ref it)) Q E s:=by
 obtain⟨o,f,q,hd⟩:=id d;obtain⟨u,n,_,t,k⟩:=r;unfold Builtin.SmallTypes.nextOf;refine gy (va (name:=Str.ofString "__next__") d.typeIs HG (nY HG d.typeIs F.entry_tuple_iterator_next ?_ (F.args_tuple_iterator_next_1 _)));refine gy (m:=field (.ref it) 0) (sy f hd (x:= .ref l) rfl ?_);show wpAny _ _ (if(Value.ref l==Value.none)=true then _ else _) _ _ s;rw[gZ (by show ¬(Value.ref l==Value.none)=true;exact jA)];refine gy (m:=field (.ref it) 1) (sy f hd (x:= .int i 0) rfl ?_);refine gy (m:=seqItems? (.ref l)) (pI n k ?_)
 cases g:c[i]? with
 |some x=>
  simp only[pB,g];refine gy (rn f hd (by simp) (gK ⟨x,rfl,gK (p x g _ ⟨_,qI _ f (Ab (qF hd _)),(Aa ..).trans q,?_⟩ (se ..))⟩));rw[qF hd];simp[rawInt]
 |none=>
  obtain⟨j,h⟩:=h g;simp only[pB,g];refine gy (uY (gy (rn f hd (by simp) ?_)));refine gy (m:=newExc (.type "StopIteration") []) ?_;simp only[newExc,newTuple];refine gy (lD (gy (m:=firstArgMember _ _) (pz (a:=Value.none) (by first|rfl|(simp only[firstArgMember];rfl)) ?_)) (by size_fits));refine lD ?_ (by size_fits);simp only[raiseNew];refine gy (DG ?_)
  first|rw[show A.in1.handled=none from j]|rw[j]
  exact gy (gK (DF (h _ _ (((se ..).extBut.push _).push _) ⟨_,jz _ rfl,rfl⟩)))
def Src.item{x:gD}{Q:ip}(st:Src s.heap it l i c)(h:c[i]?=some x)(j: ∀d,Src d it l (i+1) c->Heap.SameBut it s.heap d->Q x {s with heap:=d}):
  wpAny (model prog w) A (Builtin.SmallTypes.nextOf (.ref it)) Q E s:=by
 have ne:=st.ne;rcases st with⟨a,b⟩|⟨a,b⟩
 ·exact wpAny_nextOf_list_item a b h λd g f=>j d (.inl ⟨g,b.extBut f.extBut ne⟩) f
 ·exact yL a b (λk e d g f=>by rw[h] at e;cases e;exact j d (.inr ⟨g,b.extBut f.extBut ne⟩) f) λe=>by rw[h] at e;cases e
def Src.stop{Q:ip}(g:A.handled=none)(st:Src s.heap it l i c)(h:c[i]?=none)
  (f: ∀d e,Heap.ExtBut it s.heap d->(∃o,d.get? e=some o/\o.cls= .type "StopIteration")->E (.ref e) {s with heap:=d}):wpAny (model prog w) A (Builtin.SmallTypes.nextOf (.ref it)) Q E s:=by
 rcases st with⟨a,b⟩|⟨a,b⟩
 ·exact wpAny_nextOf_list_end g a b h f
 ·exact yL a b (λx e=>by rw[h] at e;cases e) λ_=>⟨g,f⟩
theorem Src.new(a:s.heap.IsList l c\/s.heap.IsTuple l c)(f: ∀d,Src d s.heap.objs.size l 0 c->d.objs.size=s.heap.objs.size+1->(∀b o,s.heap.get? b=some o->d.get? b=some o)->Q (.ref s.heap.objs.size) {s with heap:=d}):
  wpAny (model prog w) A (pyIter (.ref l)) Q E s:=by
 rcases a with a|a
 ·exact Ap a (f _ (.inl ⟨⟨_,jz _ rfl,rfl,rfl⟩,a.push _⟩) (oV ..) λb o e=>jd _ e)
 ·exact DT a (f _ (.inr ⟨⟨_,jz _ rfl,rfl,rfl⟩,a.push _⟩) (oV ..) λb o e=>jd _ e)
end
section
variable {a:gY}{w:gP}{A:gS}{E:ip}{s:gA}{e d l:gw}{i:Nat}{c:Int}{b:lU}
end
section
variable {X:Cx}{d:ig}{g:L2.St}{H:Hp}{s:gA}{f:gR}
def Gh{t':Nat}{ch:jx}{a:gw}{o:HO}(I:Inv X d g H s)(j: ∀b∈ch,qf X d H b)(k: ∀b u,b∉ch->s.heap.get? b=some u->f.get? b=some u)(p:s.heap.objs.size<=a)(new:ObjOk X.prog X.w (upd H a o) f a o):
  Inv X d g (upd H a o) {s with heap:=f,toks:=t'}:=by
 have G:=I.hok.fresh p;have l: ∀b u,H b=some u->b∉ch:=λb u e z=>by have:=(j b z).1;rw[this] at e;cases e
 have up: ∀b u,H b=some u->upd H a o b=some u:=λb u e=>by rw[hU (jT e G)];exact e
 have C: ∀b u,s.heap.get? b=some u->H b=none->upd H a o b=none:=λb u e n=>by
  rw[hU (λz=>by subst z;exact absurd (iV e) (K0.mpr p))];exact n
 refine I.step (g':=s.gens) (d':=s.drawn) (ch:=ch) (λb i=>?_) (λb u _ _ h e _=>k b u h e) (λb u _ _ h e _=>⟨u.slots,k b u h e⟩) (λb u _ e n=>C b u e n)
  (λb u h e=>⟨u,k b u h e⟩) (λb L e=>up b _ e) (λb _ _ e=>up b _ e) (λb M e=>⟨#[],by rw[up b _ e];simp⟩) (λm E=>?_) (λb u e=>?_) I.bare
 ·obtain⟨_,f1,f2,y,A,B⟩:=j b i;exact⟨y,f1,A,B⟩
 ·obtain⟨u,x,t,J,r⟩:=E;exact⟨u,x,t,k _ u (λz=>(j _ z).2.1 rfl) J,r⟩
 ·by_cases i:b=a
  ·subst i;rw[ie] at e;cases e;exact new
  ·rw[hU i] at e;refine(I.hok b u e).stay (λc v h q=>k c v ?_ q) (λc q=>up c _ q) (λc L q=>up c _ q) λc _ _ q=>up c _ q;rcases h with z|z
   ·rw[z];exact l b u e
   ·exact l c _ z
def Gi{t':Nat}{ch:jx}(I:Inv X d g H s)(h: ∀b∈ch,qf X d H b)(k: ∀b u,b∉ch->s.heap.get? b=some u->f.get? b=some u):Inv X d g H {s with heap:=f,toks:=t'}:=by
 have i: ∀b u,H b=some u->b∉ch:=λb u e z=>by have:=(h b z).1;rw[this] at e;cases e
 refine I.step (g':=s.gens) (d':=s.drawn) (ch:=ch) (λb w=>?_) (λb u _ _ a e _=>k b u a e) (λb u _ _ a e _=>⟨u.slots,k b u a e⟩) (λb u _ e n=>n)
  (λb u a e=>⟨u,k b u a e⟩) (λb A e=>e) (λb _ _ e=>e) (λb B e=>⟨#[],by rw[e];simp⟩) (λm x=>?_) (λb u e=>?_) I.bare
 ·obtain⟨_,f1,f2,o,p,t⟩:=h b w;exact⟨o,f1,p,t⟩
 ·obtain⟨u,l,j,y,r⟩:=x;exact⟨u,l,j,k _ u (λz=>(h _ z).2.1 rfl) y,r⟩
 ·refine(I.hok b u e).stay (λc v a q=>k c v ?_ q) (λc q=>q) λc A q=>q;rcases a with z|z
  ·rw[z];exact i b u e
  ·exact i c _ z
end
def SqX(b:Bool)(K:gW)(H:Hp)(l:gw)(a:List V):Prop:=if b=true then SqL K H l a else SqT K H l a
def ItX(b:Bool)(h:gR)(a l:gw)(i:Nat):Prop:=if b=true then h.IsListIter a l i else h.IsTupleIter a l i
def ItX.keep(x:ItX b h it l i)(k: ∀o,h.get? it=some o->h'.get? it=some o):ItX b h' it l i:=by
 cases b
 ·exact PySem.Heap.IsTupleIter.at (show h.IsTupleIter it l i from x) k
 ·exact PySem.Heap.IsListIter.at (show h.IsListIter it l i from x) k
def ItX.obj(x:ItX b h it l i): ∃o,h.get? it=some o/\ ∀v,o.data≠ .cell v:=by
 cases b<;>(obtain⟨o,e,c,d⟩:=x;exact⟨o,e,λv z=>by rw[d] at z;cases z⟩)
section
variable {X:Cx}{d:ig}{e:L2.St}{H:Hp}{s:gA}
def vT(I:Inv X d e H s)(q:SqX b X.K H l xs)(t:ItX b s.heap it l i): ∃a,Vals xs a/\Src s.heap it l i a.toArray:=by
 cases b with
 |true=>obtain⟨a,v,p,_⟩:=I.list q;exact⟨a,v,.inl ⟨t,p.isList⟩⟩
 |false=>obtain⟨a,v,p,_⟩:=I.tuple q;exact⟨a,v,.inr ⟨t,p⟩⟩
theorem Fh(I:Inv X d e H s)(q:SqX b X.K H l xs)(a:SqX b X.K H l c):xs=c:=by
 cases b with
 |true=>exact I.list_inj q a
 |false=>exact I.tuple_inj q a
def J8(t:ItX b h it l i)(k:Src h it l i xs)(n:Src j it l p xs)(m: ∀o,h.get? l=some o->j.get? l=some o):ItX b j it l p:=by
 cases b with
 |true=>
  rcases n with⟨a,_⟩|⟨a,c⟩
  ·exact a
  ·rcases k with⟨_,o,h1,f,_⟩|⟨⟨o,h1,f,_⟩,_⟩
   ·obtain⟨g,g1,g2,_⟩:=c;rw[m _ h1] at g1;cases g1;rw[f] at g2;injection g2 with g2;exact absurd g2 (by decide)
   ·obtain⟨g,g1,g2,_⟩:=t;rw[h1] at g1;cases g1;rw[f] at g2;injection g2 with g2;exact absurd g2 (by decide)
 |false=>
  rcases n with⟨a,c⟩|⟨a,_⟩
  ·rcases k with⟨⟨o,h1,f,_⟩,_⟩|⟨_,o,h1,f,_⟩
   ·obtain⟨g,g1,g2,_⟩:=t;rw[h1] at g1;cases g1;rw[f] at g2;injection g2 with g2;exact absurd g2 (by decide)
   ·obtain⟨g,g1,g2,_⟩:=c;rw[m _ h1] at g1;cases g1;rw[f] at g2;injection g2 with g2;exact absurd g2 (by decide)
  ·exact a
end
def D5{K H}(q:SqA b K H P a xs):SqX b K H a xs:=by
 cases b with
 |true=>exact q.l
 |false=>exact q.t
open AutoSeq1 (wpAny_loadPart')
section
variable {a:gY}{w:gP}{A:gS}{E:ip}{s:gA}
end
section
variable {X:Cx}{a:ig}{d:L2.St}{H:Hp}{s:gA}{c:jh}{f:Nat}{e:Pos}
def IA(I:Inv X a d H s)(q:SqX b X.K H l xs): ∃g,Vals xs g/\(s.heap.IsList l g.toArray\/s.heap.IsTuple l g.toArray):=by
 cases b with
 |true=>obtain⟨g,v,p,_⟩:=I.list q;exact⟨g,v,.inl p.isList⟩
 |false=>obtain⟨g,v,p,_⟩:=I.tuple q;exact⟨g,v,.inr p⟩
end
section
variable {j:gY}{w:gP}{A:gS}{E:ip}{s:gA}{z TI TO f d n l:gw}{k:Nat}{i g:lU}{x y a b:gD}
def NI{Q:ip}(D:ZipApart z TI TO f d n l)(hz:IsZip s.heap z TI TO .none)(t7:IsPair s.heap TI (.ref f) (.ref d))(v5:IsPair s.heap TO a b)(h1:Src s.heap f n k i)(h2:Src s.heap d l k g)
  (hQ: ∀x y,i[k]?=some x->g[k]?=some y-> ∀N,IsZip N z TI TO (rawInt s.heap.objs.size)->IsPair N TO x y->Src N f n (k+1) i->Src N d l (k+1) g->IsPair N s.heap.objs.size x y->(∀c o,c≠z->c≠TO->c≠f->c≠d->s.heap.get? c=some o->N.get? c=some o)->Q (.ref s.heap.objs.size) {s with heap:=N})
  (hE:i[k]?=none\/g[k]?=none->A.handled=none/\ ∀N e,(∀c o,c≠z->c≠TO->c≠f->c≠d->s.heap.get? c=some o->N.get? c=some o)->(∃o,N.get? e=some o/\o.cls= .type "StopIteration")->E (.ref e) {s with heap:=N}):
  wpAny (model j w) A (Builtin.«zip.__next__» ⟨[.ref z],[]⟩) (λfin s'=> ∃v,fin= .done (.ret v)/\Q v s') E s:=by
 have I: ∀{h:gR} {e:gw} {oe:Obj} {f0:gD},IsZip h z TI TO f0->h.get? e=some oe->oe.cls= .type "StopIteration"->e≠z:=λhzz bY bw q=>by
  subst q;have V:_=_:=hzz;rw[bY] at V;cases V;injection bw with bw;exact absurd bw (by decide)
 refine gy (m:=field (.ref z) 2) (sy hz rfl (x:= .bool false) rfl (gy (m:=field (.ref z) 3) (sy hz rfl (x:= .ref TI) rfl (gy (pI t7 rfl (gy (m:=Builtin.SmallTypes.ownedTupleIsFree (.ref z)) ?_))))));unfold Builtin.SmallTypes.ownedTupleIsFree;refine gy (sy hz rfl (x:= .none) rfl (gK ?_));simp only[jy];refine gy (uY (gy (sy hz rfl (x:= .ref TO) rfl (gy (wk hz (by simp) λG dc R=>?_)))));replace dc:IsZip G z TI TO .ellipsis:=dc;refine gy ?_;simp only[List.zipIdx_cons,List.zipIdx_nil,List.forIn_cons,List.forIn_nil];have c1:Src G f n k i:=h1.keep (λo e=>R.extBut _ o D.i1z e) (λo e=>R.extBut _ o D.l1z e)
 cases hx:i[k]? with
 |none=>
  obtain⟨hh,hE⟩:=hE (.inl hx);refine gy (gy (wj (gy (m:=Builtin.SmallTypes.nextOf (.ref f)) (c1.stop (s:={s with heap:=G}) hh hx λr e M ⟨oe,bY,bw⟩=>?_))));have T:IsZip r z TI TO .ellipsis:=M _ _ D.i1z.symm dc;exact wk (s:={s with heap:=r}) T (by simp) λt _ L=>hE t e (λc o J _ d3 _ q=>L.extBut _ _ J (M _ _ d3 (R.extBut _ _ J q))) ⟨oe,L.extBut _ _ (I T bY bw) bY,bw⟩
 |some x=>
  refine gy (gy (wj (gy (m:=Builtin.SmallTypes.nextOf (.ref f)) (c1.item (s:={s with heap:=G}) hx λr X M=>gK ?_))));have B:IsPair r TO a b:=M.extBut _ _ D.TOi1 (R.extBut _ _ D.TOz v5);refine gy (pI (s:={s with heap:=r}) B rfl (gy (HF (s:={s with heap:=r}) B λt cx L=>gy (wpAny_letGo (gK ?_)))));replace cx:IsPair t TO x b:=cx;have c2:Src t d l k g:=h2.keep (λo e=>L.extBut _ o D.TOi2.symm (M.extBut _ o D.i12.symm (R.extBut _ o D.i2z e))) (λo e=>L.extBut _ o D.l2TO (M.extBut _ o D.l2i1 (R.extBut _ o D.l2z e)))
  cases hy:g[k]? with
  |none=>
   obtain⟨hh,hE⟩:=hE (.inr hy);refine gy (gy (wj (gy (m:=Builtin.SmallTypes.nextOf (.ref d)) (c2.stop (s:={s with heap:=t}) hh hy λu e aZ ⟨oe,bY,bw⟩=>?_))));have U:IsZip u z TI TO .ellipsis:=aZ _ _ D.i2z.symm (L.extBut _ _ D.TOz.symm (M.extBut _ _ D.i1z.symm dc));exact wk (s:={s with heap:=u}) U (by simp) λp _ P=>hE p e (λc o J d2 d3 d4 q=>P.extBut _ _ J (aZ _ _ d4 (L.extBut _ _ d2 (M.extBut _ _ d3 (R.extBut _ _ J q))))) ⟨oe,P.extBut _ _ (I U bY bw) bY,bw⟩
  |some y=>
   refine gy (gy (wj (gy (m:=Builtin.SmallTypes.nextOf (.ref d)) (c2.item (s:={s with heap:=t}) hy λu c2₄ aZ=>gK ?_))));have C:IsPair u TO x b:=aZ.extBut _ _ D.TOi2 cx;refine gy (pI (s:={s with heap:=u}) C rfl (gy (HF (s:={s with heap:=u}) C λp bz P=>gy (wpAny_letGo (gK (gK ?_))))));replace bz:IsPair p TO x y:=bz;refine gy (pI (s:={s with heap:=p}) bz rfl (gy (wpAny_newTuple (s:={s with heap:=p}) ?_)));have hsz:p.objs.size=s.heap.objs.size:=by rw[P.1,aZ.1,L.1,M.1,R.1]
   have Y:IsZip p z TI TO .ellipsis:=P.extBut _ _ D.TOz.symm (aZ.extBut _ _ D.i2z.symm (L.extBut _ _ D.TOz.symm (M.extBut _ _ D.i1z.symm dc)));have hk₅: ∀c o,c≠z->c≠TO->c≠f->c≠d->s.heap.get? c=some o->p.get? c=some o:=λc o J d2 d3 d4 e=>P.extBut _ _ d2 (aZ.extBut _ _ d4 (L.extBut _ _ d2 (M.extBut _ _ d3 (R.extBut _ _ J e))));have Z:Src p f n (k+1) i:=X.keep (λo e=>P.extBut _ o D.TOi1.symm (aZ.extBut _ o D.i12 (L.extBut _ o D.TOi1.symm e))) (λo e=>P.extBut _ o D.l1TO (aZ.extBut _ o D.l1i2 (L.extBut _ o D.l1TO e)));have c2₅:Src p d l (k+1) g:=c2₄.keep (λo e=>P.extBut _ o D.TOi2.symm e) (λo e=>P.extBut _ o D.l2TO e);have S:z<p.objs.size:=iV Y;refine gy (m:=Builtin.SmallTypes.ownedTupleHandOut (.ref z) (.ref p.objs.size)) ?_;unfold Builtin.SmallTypes.ownedTupleHandOut;have hz₆:IsZip (p.push {cls:= .type "tuple",data:= .seq #[x,y]}) z TI TO .ellipsis:=jd _ Y;refine gy (wk (s:={s with heap:=p.push {cls:= .type "tuple",data:= .seq #[x,y]}}) hz₆ (by simp) λW fk F=>?_);replace fk:IsZip W z TI TO (rawInt p.objs.size):=fk;refine wk (s:={s with heap:=W}) fk (by simp) λH ef K=>?_;replace ef:IsZip H z TI TO (rawInt p.objs.size):=ef;have up: ∀c o,c≠z->p.get? c=some o->H.get? c=some o:=λc o J e=>K.extBut _ _ J (F.extBut _ _ J (jd _ e));have O:IsPair H p.objs.size x y:=K.extBut _ _ (nD S) (F.extBut _ _ (nD S) (jz _ rfl));rw[hsz] at ef O;refine gK ⟨_,rfl,?_⟩;show Q (.ref p.objs.size) _;rw[hsz];exact hQ x y hx hy H ef (up _ _ D.TOz bz) (Z.keep (λo e=>up _ o D.i1z e) λo e=>up _ o D.l1z e) (c2₅.keep (λo e=>up _ o D.i2z e) λo e=>up _ o D.l2z e) O λc o J d2 d3 d4 e=>up c o J (hk₅ c o J d2 d3 d4 e)
def wU{Q:Hf}(D:ZipApart z TI TO f d n l)(t:IsZip s.heap z TI TO .none)(M:IsPair s.heap TI (.ref f) (.ref d))(N:IsPair s.heap TO a b)(h1:Src s.heap f n k i)(H:Src s.heap d l k g)
  (I: ∀x y,i[k]?=some x->g[k]?=some y-> ∀h,IsZip h z TI TO (rawInt s.heap.objs.size)->IsPair h TO x y->Src h f n (k+1) i->Src h d l (k+1) g->IsPair h s.heap.objs.size x y->(∀c o,c≠z->c≠TO->c≠f->c≠d->s.heap.get? c=some o->h.get? c=some o)->Q (some (.ref s.heap.objs.size)) {s with heap:=h})
  (m:i[k]?=none\/g[k]?=none->A.handled=none/\ ∀h,(∀c o,c≠z->c≠TO->c≠f->c≠d->s.heap.get? c=some o->h.get? c=some o)->Q none {s with heap:=h}):
  wpAny (model j w) A (pyNext (.ref z)) Q E s:=by
 have p:s.TypeIs (.ref z) "zip":=⟨_,t,rfl⟩
 unfold pyNext
 exact gy (pH (va (name:=Str.ofString "__next__") p F.slot_zip_next (nY F.slot_zip_next p F.entry_zip_next
  (NI D t M N h1 H (λx y q r h a1 u v B C G=>gK (I x y q r h a1 u v B C G)) λq=>⟨(m q).1,λh e hk ⟨o,L,J⟩=>gy (ux (T:="StopIteration") (b:=true) ⟨o,L,J⟩ DE (gK ((m q).2 _ hk)))⟩) (F.args_zip_next_1 _))))
end
def La(j c:gw)(l i:lU):Meets (Builtin.«zip.__new__» ⟨[.type "zip",.ref j,.ref c],[]⟩) (λ_ R s=>(s.heap.IsList j l\/s.heap.IsTuple j l)/\(s.heap.IsList c i\/s.heap.IsTuple c i)/\
  ∀h1 a,Src h1 s.heap.objs.size j 0 l->h1.objs.size=s.heap.objs.size+1->(∀b o,s.heap.get? b=some o->h1.get? b=some o)->Src a h1.objs.size c 0 i->a.objs.size=h1.objs.size+1->(∀b o,h1.get? b=some o->a.get? b=some o)->
   R (.ok (.ret (.ref ((a.push {cls:= .type "tuple",data:= .seq #[.ref s.heap.objs.size,.ref h1.objs.size]}).push {cls:= .type "tuple",data:= .seq #[.none,.none]}).objs.size)))
    {s with heap:=((a.push {cls:= .type "tuple",data:= .seq #[.ref s.heap.objs.size,.ref h1.objs.size]}).push {cls:= .type "tuple",data:= .seq #[.none,.none]}).push {cls:= .type "zip",data:= .fields #[.none,.bool false,.bool false,.ref a.objs.size,.ref (a.push {cls:= .type "tuple",data:= .seq #[.ref s.heap.objs.size,.ref h1.objs.size]}).objs.size]}}):=
 .of_wp λm w A R s h=>by
  obtain⟨y,g,d,v,os⟩:=s;obtain⟨p,x,h⟩:=h;have z:=sub_zip
  wp_walk using Src.new p
  intro h1 a1 n k
  have f:h1.IsList c i\/h1.IsTuple c i:=by
   rcases x with⟨o,e,r⟩|⟨o,e,r⟩
   ·exact .inl ⟨o,k _ _ e,r⟩
   ·exact .inr ⟨o,k _ _ e,r⟩
  wp_walk using Src.new (s:=⟨h1,g,d,v,os⟩) f
  intro a q t u
  wp_walk
  exact⟨_,rfl,h h1 a a1 n k q t u⟩
noncomputable def ItZ(c d:Bool)(K:gW)(e f:gw):It:=⟨λi H=> ∃a b x y,SqX c K H e a/\SqX d K H f b/\a[i]?=some x/\b[i]?=some y,
 λi H x g=> ∃(T:gw) (u v:V),x= .ref T/\H T=none/\g=upd H T (.tup [u,v])/\ ∀a b,SqX c K H e a->SqX d K H f b->a[i]?=some u/\b[i]?=some v,
 λi H=> ∃a b,SqX c K H e a/\SqX d K H f b/\(a.length<=i\/b.length<=i)⟩
structure ZA(z TI TO i1 i2:gw):Prop where
 a1:TI≠z
 a2:TO≠z
 a3:i1≠z
 a4:i2≠z
 a5:TI≠TO
 a6:TI≠i1
 a7:TI≠i2
 a8:TO≠i1
 a9:TO≠i2
 a10:i1≠i2
def sL{b:Bool}{K:gW}{H:Hp}{l:gw}{m:List V}{X:Cx}{c:ig}{p:L2.St}{s:gA}(I:Inv X c p H s)(k:X.K=K)(q:SqX b K H l m){g:jx}(h: ∀a∈g,qf X c H a):l∉g:=by
 subst k;intro i;have d:=(h l i).1
 have base: ∀o,X.K.lookup l=some o->False:=λo e=>by
  have f:=I.mod.kin l o e;rcases(h l i).2.2.2.1 with z|z
  ·exact I.ok.noex l o f z
  ·have:=(I.ok.bs l o f).1;exact absurd (iV this) (K0.mpr z)
 cases b with
 |true=>
  rcases q with(q|⟨o,q⟩)|⟨o,j,n,e,_⟩
  ·rw[d] at q;cases q
  ·rw[d] at q;cases q
  ·exact base o e
 |false=>
  rcases q with(q|⟨o,q⟩)|⟨o,j,n,e,_⟩
  ·rw[d] at q;cases q
  ·rw[d] at q;cases q
  ·exact base o e
def Ii{P:gY}{w:gP}{K:gW}{elts:jh}{k1}{pos:Pos}(b1 b2:Bool)(z TI TO m n O Q:gw)(D:ZA z TI TO m n):
  Turn P w K (.Tuple elts k1 pos) (ItZ b1 b2 K O Q) [z,TI,TO,m,n] z (λi h=>IsZip h z TI TO .none/\IsPair h TI (.ref m) (.ref n)/\(∃a b,IsPair h TO a b)/\ItX b1 h m O i/\ItX b2 h n Q i) where
 mem:=by simp
 obj:=λi h st a N=>by
  obtain⟨l,p,⟨u,v,C⟩,s1,B⟩:=st;simp only[js,ke,kU] at N;rcases N with rfl|rfl|rfl|rfl|rfl
  ·exact⟨_,l,λv e=>by have Y:Data.fields _=Data.cell v:=e;cases Y⟩
  ·exact⟨_,p,λv e=>by have Y:Data.seq _ _=Data.cell v:=e;cases Y⟩
  ·exact⟨_,C,λv e=>by have Y:Data.seq _ _=Data.cell v:=e;cases Y⟩
  ·exact s1.obj
  ·exact B.obj
 keep:=λi h h' st k=>by
  obtain⟨l,p,⟨u,v,C⟩,s1,B⟩:=st;exact⟨k z (by simp) _ l,k TI (by simp) _ p,⟨u,v,k TO (by simp) _ C⟩,s1.keep λo q=>k m (by simp) o q,B.keep λo q=>k n (by simp) o q⟩
 item:=by
  intro X hP hw G hc i A s σ H E I t st hg;obtain⟨l,p,⟨a0,b0,C⟩,s1,B⟩:=st;obtain⟨xs,ys,x,y,L,J,hx,hy⟩:=hg;have d:=sL I G L t;have f:=sL I G J t;simp only[js,ke,kU,nX] at d f;subst hP hw G;obtain⟨bQ,eU,U⟩:=vT I L s1;obtain⟨f6,Z,T⟩:=vT I J B;obtain⟨u,hu,ru⟩:=eU.get hx;obtain⟨v,hv,rv⟩:=Z.get hy;have AP:ZipApart z TI TO m n O Q:=⟨D.a1,D.a2,D.a3,D.a4,D.a5,D.a6,D.a7,D.a8,D.a9,D.a10,d.1,d.2.2.1,d.2.2.2.1,d.2.2.2.2,f.1,f.2.2.1,f.2.2.2.1,f.2.2.2.2⟩
  refine wU AP l p C U T (λx' y' q r h' z' t1 c1 c2 hT V=>?_) λq=>absurd q (by simp[hu,hv]);obtain rfl:u=x':=by simpa[hu] using q
  obtain rfl:v=y':=by simpa[hv] using r
  refine⟨.ref s.heap.objs.size,rfl,?_⟩;refine wpAny_letOwnedTupleGo_zip (s:={s with heap:=h'}) z' λM z'' j=>?_;replace j:Heap.SameBut z h' M:=j
  have W: ∀a o,a∉[z,TI,TO,m,n]->s.heap.get? a=some o->M.get? a=some o:=λa o g q=>by
   simp only[js,ke,kU,nX] at g;exact j.extBut a o g.1 (V a o g.1 g.2.2.1 g.2.2.2.1 g.2.2.2.2 q)
  have lt: ∀{c o},s.heap.get? c=some o->s.heap.objs.size≠c:=λe=>nD (iV e);have F:IsPair M s.heap.objs.size u v:=j.extBut _ _ (lt l) hT
  have I1:Inv X A σ (upd H s.heap.objs.size (.tup [x,y])) {s with heap:=M}:=
   Gh (t':=s.toks) I t W (iR _) (show ObjOk X.prog X.w _ _ _ (.tup [x,y]) from⟨by show 2<=sizeLine;decide,[u,v],.cons ru (.cons rv .nil),_,F,rfl,0,rfl⟩)
  have R:ItX b1 M m O (i+1):=J8 s1 U (c1.keep (λo q=>j.extBut _ o D.a3 q) λo q=>j.extBut _ o d.1 q) λo q=>W O o (by simp only[js,ke,kU,nX];exact d) q;have S:ItX b2 M n Q (i+1):=J8 B T (c2.keep (λo q=>j.extBut _ o D.a4 q) λo q=>j.extBut _ o f.1 q) λo q=>W Q o (by simp only[js,ke,kU,nX];exact f) q;refine⟨.ref s.heap.objs.size,_,I1,rfl,⟨_,x,y,rfl,I.fresh,rfl,λbA ys' q1 q2=>by rw[Fh I q1 L,Fh I q2 J];exact⟨hx,hy⟩⟩,⟨z'',j.extBut _ _ D.a1 (V _ _ D.a1 D.a5 D.a6 D.a7 p),⟨u,v,j.extBut _ _ D.a2 t1⟩,R,S⟩,λa N=>?_⟩;have n0:=(t a N).1;rw[hU]
  ·exact n0
  ·intro e;simp only[js,ke,kU] at N;rcases N with rfl|rfl|rfl|rfl|rfl
   ·exact lt l e.symm
   ·exact lt p e.symm
   ·exact lt C e.symm
   ·exact absurd e (iC U.lt.1)
   ·exact absurd e (iC T.lt.1)
 done:=by
  intro X hP hw G hc i A s σ H E I t st hg;obtain⟨l,p,⟨a0,b0,C⟩,s1,B⟩:=st;obtain⟨xs,ys,L,J,hend⟩:=hg;have d:=sL I G L t;have f:=sL I G J t;simp only[js,ke,kU,nX] at d f;subst hP hw G;obtain⟨bQ,eU,U⟩:=vT I L s1;obtain⟨f6,Z,T⟩:=vT I J B;have e1:=eU.length;have e2:=Z.length;have AP:ZipApart z TI TO m n O Q:=⟨D.a1,D.a2,D.a3,D.a4,D.a5,D.a6,D.a7,D.a8,D.a9,D.a10,d.1,d.2.2.1,d.2.2.2.1,d.2.2.2.2,f.1,f.2.2.1,f.2.2.2.1,f.2.2.2.2⟩
  refine wU AP l p C U T (λx y q r=>?_) λ_=>⟨I.ok.hd hc,λh' V=>⟨rfl,Gi (t':=s.toks) I t λa o g q=>?_⟩⟩
  ·have z1:=(Hg.mp q).1;have z2:=(Hg.mp r).1;simp at z1 z2;omega
  simp only[js,ke,kU,nX] at g;exact V a o g.1 g.2.2.1 g.2.2.2.1 g.2.2.2.2 q
 self:=λ_ _ _ _ _ st h=>wpAny_pyIter_zip st.1 h
def Ka{K:gW}{P O:AP'}{g:Hp}{a1 r:gw}{f h:List V}{A B:List D}{s t:Bool}(l:SqA s K g P a1 f)(I:RepL K g O A f)(m:SqA t K g P r h)(J:RepL K g O B h)(C: ∀a,P a->O a):
  ItOk K (ItZ s t K a1 r) ((A.zip B).map λp=> .tup [p.1,p.2]) P O g:=by
 have sq: ∀{b:Bool} {a:gw} {f:List V},SqA b K g P a f-> ∀Hi,(∀a o,g a=some o-> ¬P a->Hi a=some o)->SqX b K Hi a f:=λq Hi c=>D5 (q.mono c λ_ z=>z);refine⟨λi d Hi hd c=>?_,λi Hi U c=>⟨f,h,sq l Hi c,sq m Hi c,by rw[I.length,J.length];simp at U;omega⟩⟩;rw[jJ] at hd;obtain⟨⟨X,Z⟩,h1,M⟩:=ir hd;obtain⟨N,Q⟩:=Dd.mp h1;obtain⟨x,G,F⟩:=I.get N;obtain⟨y,H,R⟩:=J.get Q;refine⟨⟨f,h,x,y,sq l Hi c,sq m Hi c,G,H⟩,λv S k=>?_⟩;obtain⟨T,u,w,rfl,E,rfl,Y⟩:=k;obtain⟨g1,g2⟩:=Y f h (sq l Hi c) (sq m Hi c);rw[G] at g1;cases g1;rw[H] at g2;cases g2;have ext:=kr (o:= .tup [x,y]) E;refine⟨ext,λW h1 L=>?_⟩;subst M;exact Rep.mkTup ⟨ie,L T E⟩ (RepL.cons (Rep.mono (λb o e n=>ext b o (c b o e λz=>n (C b z))) (λb j z=>h1 b j z) F) (RepL.cons (Rep.mono (λb o e n=>ext b o (c b o e λz=>n (C b z))) (λb j z=>h1 b j z) R) RepL.nil))
section
variable {X:Cx}{d:jh}{n:Nat}{r:Pos}
def P5:bootBuiltins "zip"=some (.type "zip"):=by decide+kernel
def TZ(K:gW)(g:TA):TI:=λk H R=>g k H λh a=> ∃e f b c i j,h=[.ref b,.ref c]/\SqX e K a b i/\SqX f K a c j/\R (ItZ e f K b c) a
def FN(I:Inv X pins σ H s)(f:SqX b X.K H l xs)(c:Src s.heap it l i h):ItX b s.heap it l i:=by
 cases b with
 |true=>
  rcases c with⟨a,_⟩|⟨_,o,h1,e,_⟩
  ·exact a
  ·obtain⟨_,_,p,_⟩:=I.list f;obtain⟨g,g1,g2,_⟩:=p.isList;rw[h1] at g1;cases g1;rw[e] at g2;injection g2 with g2;exact absurd g2 (by decide)
 |false=>
  rcases c with⟨_,o,h1,e,_⟩|⟨a,_⟩
  ·obtain⟨_,_,p,_⟩:=I.tuple f;obtain⟨g,g1,g2,_⟩:=p;rw[h1] at g1;cases g1;rw[e] at g2;injection g2 with g2;exact absurd g2 (by decide)
  ·exact a
def OM{a b:gG}{O:TA}{p l:Pos}(hg:Gl X "zip")(hm:X.mg "zip"=none)(A:PA X [a,b] O)(hs:starEach [a,b] X.env=(false,eval a X.env)::starEach [b] X.env)(h9:(backTo l (starEach [b] X.env)).any (·.1)=false):
  PI X (.Tuple d n r) (.Call (.Name "zip" p) [a,b] [] l) (TZ X.K O):=by
 intro j s0 Q T R G h;refine rA (uO G hg hm P5 (An (thn (A l j s0 Q T _ G h) λus s ⟨vs,H,I,r1,Y,b2,M,N,xs,ys,hv,L,J,q⟩=>?_) hs h9));subst hv;obtain⟨u,v,rfl,ru,rv⟩:=vf r1;cases ru;cases rv;obtain⟨D,_,U⟩:=IA I L;obtain⟨Z,_,y8⟩:=IA I J;refine callType_new F.called_zip (by decide) (F.typeCall_zip_2 _ _) (F.newCall_zip_2 _ _) (λobj=>F.args_object_init_3 obj _ _) F.entry_zip_new (La M N D.toArray Z.toArray) ⟨U,y8,λh1 f P k n S i E=>?_⟩;generalize t:({cls:= .type "tuple",data:= .seq #[.ref s.heap.objs.size,.ref h1.objs.size]}:Obj)=g;generalize w:({cls:= .type "tuple",data:= .seq #[.none,.none]}:Obj)=o4;have m:(f.push g).objs.size=f.objs.size+1:=oV ..;have z:((f.push g).push o4).objs.size=f.objs.size+2:=by rw[oV,m]
 generalize x:({cls:= .type "zip",data:= .fields #[.none,.bool false,.bool false,.ref f.objs.size,.ref (f.push g).objs.size]}:Obj)=o5;have g5:(((f.push g).push o4).push o5).get? ((f.push g).push o4).objs.size=some o5:=jz _ (by rw[<-x];rfl);have g4:(((f.push g).push o4).push o5).get? (f.push g).objs.size=some o4:=jd _ (jz _ (by rw[<-w];rfl));have g3:(((f.push g).push o4).push o5).get? f.objs.size=some g:=jd _ (jd _ (jz _ (by rw[<-t];rfl)));have y: ∀c o,f.get? c=some o->(((f.push g).push o4).push o5).get? c=some o:=λc o e=>jd _ (jd _ (jd _ e));have C:IsZip (((f.push g).push o4).push o5) ((f.push g).push o4).objs.size f.objs.size (f.push g).objs.size .none:=by show _=_;rw[g5,<-x]
 have t7:IsPair (((f.push g).push o4).push o5) f.objs.size (.ref s.heap.objs.size) (.ref h1.objs.size):=by show _=_;rw[g3,<-t]
 have v5:IsPair (((f.push g).push o4).push o5) (f.push g).objs.size .none .none:=by show _=_;rw[g4,<-w]
 have B:Inv X j Q H {s with heap:=((f.push g).push o4).push o5}:=I.kept (t':=s.toks) λc o e=>y c o (E c o (n c o e));have V:=P.keep (h':=((f.push g).push o4).push o5) (λo e=>y _ o (E _ o e)) (λo e=>y _ o (E _ o e));have W:=S.keep (h':=((f.push g).push o4).push o5) (λo e=>y _ o e) (λo e=>y _ o e);refine⟨⟨_,C,rfl⟩,wpAny_pyIter_zip (s:={s with heap:=((f.push g).push o4).push o5}) C ?_⟩;refine⟨((f.push g).push o4).objs.size,[((f.push g).push o4).objs.size,f.objs.size,(f.push g).objs.size,s.heap.objs.size,h1.objs.size],_,_,H,rfl,B,Ii Y b2 _ _ _ _ _ M N ⟨?_,?_,?_,?_,?_,?_,?_,?_,?_,?_⟩,⟨C,t7,⟨_,_,v5⟩,FN B L V,FN B J W⟩,λa A=>?_,q⟩
 ·rw[z];exact iC (Nat.lt_add_of_pos_right (by decide))
 ·rw[z,m];exact iC (sh _)
 ·rw[z,i,k];exact iC (by
   have:s.heap.objs.size<s.heap.objs.size+1+1+2:=by omega
   exact this)
 ·rw[z,i];exact iC (by
   have:h1.objs.size<h1.objs.size+1+2:=by omega
   exact this)
 ·rw[m];exact iC (sh _)
 ·rw[i,k];exact nD (by
   have:s.heap.objs.size<s.heap.objs.size+1+1:=by omega
   exact this)
 ·rw[i];exact nD (sh _)
 ·rw[m,i,k];exact nD (by
   have:s.heap.objs.size<s.heap.objs.size+1+1+1:=by omega
   exact this)
 ·rw[m,i];exact nD (by
   have:h1.objs.size<h1.objs.size+1+1:=by omega
   exact this)
 ·rw[k];exact iC (sh _)
 ·have le:s.heap.objs.size<=a:=by
   simp only[js,ke,kU] at A;rcases A with rfl|rfl|rfl|rfl|rfl
   ·rw[z,i,k];have:s.heap.objs.size<=s.heap.objs.size+1+1+2:=by omega
    exact this
   ·rw[i,k];have:s.heap.objs.size<=s.heap.objs.size+1+1:=by omega
    exact this
   ·rw[m,i,k];have:s.heap.objs.size<=s.heap.objs.size+1+1+1:=by omega
    exact this
   ·exact iR _
   ·rw[k];exact Ai _
  exact I.fpOk le (I.hok.fresh le)
noncomputable def uQ(f g:FO):FIt:=λδ=>(f δ).bind λp=>(g p.2).bind λq=>(res q.2 p.1).bind λx=>(res q.2 q.1).bind λy=>(yN x).bind λl=>(yN y).bind λm=>some ((l.zip m).map λp=> .tup [p.1,p.2],q.2)
def Jk{B:SB}{a b:gG}{f g:FO}{p c:Pos}(hg:Gl X "zip")(hm:X.mg "zip"=none)(ha:PO X a f)(hb:PO X b g)(G:SlB B f)(I:SlB B g)(w:starEach [a,b] X.env=(false,eval a X.env)::starEach [b] X.env)(M:starEach [b] X.env=(false,eval b X.env)::starEach [] X.env)(Y:(backTo c (starEach [b] X.env)).any (·.1)=false):
  PIX X B (.Tuple d n r) (.Call (.Name "zip" p) [a,b] [] c) (uQ f g):=PI.imp' (OM hg hm (sY ha (sY hb AO M) w) w Y) λσ H R F=>by
 obtain⟨δ,T,ds,δ',E,e,k⟩:=F;obtain⟨⟨K,δ1⟩,h1,e⟩:=gu e;obtain⟨⟨P,t⟩,h,e⟩:=gu e;obtain⟨x,N,e⟩:=gu e;obtain⟨y,O,e⟩:=gu e;obtain⟨l,Q,e⟩:=gu e;obtain⟨m,U,e⟩:=gu e;obtain⟨rfl,rfl⟩:=gX e;dsimp only at h;refine⟨δ,T,[K,P],t,E,?_,λS J T1 W=>?_⟩
 ·simp only[iX,h1,h,Option.bind]
 ·have D:=W.len
  match S,D with
  |[v,u],_=>
   obtain⟨a1,V,rfl,A,q⟩:=W.seq E (j:=0) rfl rfl N Q λi o=>G _ _ _ (o▸h1);obtain⟨L,Z,rfl,C,s⟩:=W.seq E (j:=1) rfl rfl O U λi o=>I _ _ _ (o▸h);exact⟨_,_,a1,L,V,Z,rfl,D5 A,D5 C,k _ J W.keep (W.er.mono (λ_ _ e _=>e) (λb _ z=>W.tt b z) (λa z=>W.er.dom a (W.tt a z))) (Ka A q C s λa z=>z.own)⟩
end
end PX
namespace TS
open PySem PyProof.Rows
def Ask(M:Model)(A:gS)(G:Shared->Prop)(a:Nat->Keyed)(e:SortKind)(N:Nat)(lt:Nat->Nat->Bool):Prop:= ∀i j,i<N->j<N-> ∀s,G s-> ∀c,wpAny M A (keyLt' e (a i).1 (a j).1) (λb d=>G d/\b=lt i j) c s
structure Cs where
 M:Model
 A:Around
 E:Value->Shared->Prop
 G:Shared->Prop
 it:Nat->Keyed
 lt:Nat->Nat->Bool
 κ:SortKind
 N:Nat
 as: ∀i j,lt i j=true->lt j i=false
 tr: ∀{i j k},lt j i=false->lt k j=false->lt k i=false
 ask:Ask M A G it κ N lt
section
variable {X:Cs}{α β:Type}{f:α->StateT SortSt Sem β}{Q:β->SortSt->Prop}{st:ph}
def wp(X:Cs){α:Type}(m:StateT SortSt Sem α)(Q:α->SortSt->Prop)(st:ph):Prop:= ∀s,X.G s->wpAny X.M X.A (m.run st) (λr a=>X.G a/\Q r.1 r.2) X.E s
def gC{a:β}(h:Q a st):wp X (pure a) Q st:=λs g=>by rw[StateT.run_pure];exact gK ⟨g,h⟩
def jb{m:StateT SortSt Sem α}(h:wp X m (λa c=>wp X (f a) Q c) st):wp X (m>>=f) Q st:=λs g=>by
 rw[StateT.run_bind];exact gy (mO (h s g) (λr d b=>b.2 d b.1) λ_ _ e=>e)
def E5{m:StateT SortSt Sem α}{Q b:α->SortSt->Prop}(h:wp X m Q st)(i: ∀a c,Q a c->b a c):wp X m b st:=λs g=>mO (h s g) (λr _ d=>⟨d.1,i _ _ d.2⟩) λ_ _ e=>e
def hW{c:Prop}[Decidable c]{t e:StateT SortSt Sem β}(h1:c->wp X t Q st)(a: ¬c->wp X e Q st):wp X (if c then t else e) Q st:=by split<;>simp_all
def mR{f:SortSt->StateT SortSt Sem β}(h:wp X (f st) Q st):wp X (get>>=f) Q st:=jb λs g=>by rw[StateT.run_get];exact gK ⟨g,h⟩
def rE{g:SortSt->SortSt}{f:PUnit->StateT SortSt Sem β}(h:wp X (f ⟨⟩) Q (g st)):wp X (modify g>>=f) Q st:=jb λs g=>by rw[StateT.run_modify];exact gK ⟨g,h⟩
def E7{m:Sem α}(h: ∀s,X.G s->wpAny X.M X.A m (λa b=>X.G b/\wp X (f a) Q st) X.E s):wp X (liftM m>>=f) Q st:=jb λs g=>by
 show wpAny X.M X.A ((StateT.lift m:StateT SortSt Sem α).run st) _ X.E s;rw[StateT.run_lift];exact gy (mO (h s g) (λa b c=>gK c) λ_ _ e=>e)
def qg{x:String}{f:Unit->StateT SortSt Sem β}(h:wp X (f ()) Q st):wp X (liftM (rule x)>>=f) Q st:=E7 λs g=>uY ⟨g,h⟩
theorem E6{e:Nat}{g:Nat->α->StateT SortSt Sem (ForInStep α)}{I:Nat->α->SortSt->Prop}{J:α->SortSt->Prop}
  (m: ∀i c st,i<e->I i c st->wp X (g i c) (λr b=>match r with| .done d=>J d b| .yield d=>I (i+1) d b) st)(l: ∀c st,I e c st->J c st):
  ∀(n a:Nat) (c:α) (st:ph),a+n=e->I a c st->wp X (forIn (List.range' a n 1) c g) J st
 |0,a,c,st,rfl,h=>gC (l _ _ h)
 |n+1,a,c,st,q,h=>by
  rw[List.range'_succ,List.forIn_cons];refine jb (E5 (m a c st (by lia) h) λr b k=>?_)
  cases r with
  |done j=>exact gC k
  |yield j=>exact E6 m l n _ j b (by lia) k
def kP{g:Nat->α->StateT SortSt Sem (ForInStep α)}(I:Nat->α->SortSt->Prop)(J:α->SortSt->Prop){a b:Nat}{c:α}(h:I a c st)
  (l: ∀i c st,i<a+(b-a)->I i c st->wp X (g i c) (λr e=>match r with| .done d=>J d e| .yield d=>I (i+1) d e) st)
  (j: ∀c st,I (a+(b-a)) c st->J c st)(k: ∀c st,J c st->wp X (f c) Q st):wp X (forIn [a:b] c g>>=f) Q st:=by
 refine jb (E5 ?_ k);rw[Std.Legacy.Range.forIn_eq_forIn_range'];exact E6 l j _ _ _ _ (by simp[Std.Legacy.Range.size]) h
abbrev ar(X:Cs)(l:iP):Array Keyed:=(l.map X.it).toArray
def kA{l:iP}{i x:Nat}{f:Keyed->StateT SortSt Sem β}(e:l[i]?=some x)(h:wp X (f (X.it x)) Q st):wp X (elem' (ar X l) i>>=f) Q st:=jb (by
 rw[elem'_eq,show(ar X l)[i]?=some (X.it x) by simp[e]];exact gC h)
def BC{i j:Nat}{f:Option Bool->StateT SortSt Sem β}(hk:kindOf st=X.κ)(k:i<X.N)(l:j<X.N)(h: ∀b,X.lt i j=b->wp X (f (some b)) Q st):wp X (lt' (X.it i) (X.it j)>>=f) Q st:=jb (by
 rw[lt'_eq];refine mR ?_;rw[hk];refine E7 λs g=>pH (mO (X.ask i j k l s g λ_ _=>False) (λb m c=>?_) λe m d=>d.elim);obtain⟨a,rfl⟩:=c;exact⟨a,gC (h _ rfl)⟩)
structure Rp(X:Cs)(q:Array (Nat×Nat×Nat))(L:iP)(st:ph):Prop where
 a:arrOf st=ar X L
 k:kindOf st=X.κ
 f:failedOf st=none
 q:pendingOf st=q
 p:L.Perm (List.range X.N)
theorem Rp.n{q:Array (Nat×Nat×Nat)}{L:iP}(R:Rp X q L st){i x:Nat}(e:L[i]?=some x):x<X.N:=by
 simpa using R.p.mem_iff.mp (lE e)
def BD{q:Array (Nat×Nat×Nat)}{L:iP}(R:Rp X q L st){i j x y:Nat}{f:Option Bool->StateT SortSt Sem β}(c:L[i]?=some x)(d:L[j]?=some y)(h: ∀b,X.lt x y=b->wp X (f (some b)) Q st):wp X (ltAt' i j>>=f) Q st:=jb (by
 rw[ltAt'_eq];refine mR ?_;rw[R.a];exact kA c (kA d (by rw[<-bind_pure (lt' _ _)];exact BC R.k (R.n c) (R.n d) λb e=>gC (h b e))))
def Cn{α:Type}(T A R:List α){d:Nat}(hd:d=A.length / 2):mirror (T++(A++R)).toArray T.length (T.length+A.length) d=(T++(A.reverse++R)).toArray:=by
 have hd:d=(T.length+A.length-T.length) / 2:=by lia
 subst hd;apply Array.ext_getElem?;intro k;rw[getElem?_mirror_all (by simp)];simp only[List.getElem?_toArray];by_cases h1:k<T.length
 ·rw[gZ (by lia),qK h1,qK h1]
 ·obtain⟨k,rfl⟩:=Nat.exists_eq_add_of_le (Nat.le_of_not_lt h1);rw[nZ (by lia) (l₂:=A.reverse++R),DD];by_cases a:k<A.length
  ·rw[gO (by lia),nZ (by lia),qK (by lia),qK (by simpa using a),List.getElem?_reverse a]
   congr 1;lia
  ·rw[gZ (by lia),nZ (by lia),DD,nZ (by lia),nZ (by simpa using a),List.length_reverse]
theorem vD{α:Type}(R:List α)(x:α): ∀(A T:List α) {i:Nat},i=T.length+A.length->bubble (T++(A++x::R)).toArray i A.length=(T++(x::(A++R))).toArray
 |[],T,i,h=>rfl
 |a::A,T,i,h=>by
  have:=vD R x A (T++[a]) (i:=i) (by simp at h ⊢;lia);rw[kO,bubble_succ,show T++(a::A++x::R)=T++[a]++(A++x::R) by simp,this];have e:i-A.length=T.length+1:=by simp at h;lia
  rw[e,Nat.add_sub_cancel];simp[Array.swapIfInBounds]
variable {q:Array (Nat×Nat×Nat)}{T A R:iP}{i j x:Nat}
def Ia{b:yH}{L a:iP}(S:Rp X q L st)(e:b=ar X a)(p:a.Perm L):Rp X q a (setArr st b):=⟨e,S.k,S.f,S.q,p.trans S.p⟩
def DZ{f:Unit->StateT SortSt Sem β}(S:Rp X q (T++(A++R)) st)(c:i=T.length)(e:j=T.length+A.length)(h: ∀b,Rp X q (T++(A.reverse++R)) b->wp X (f ()) Q b):wp X (reverseSlice' i j>>=f) Q st:=by
 rw[reverseSlice'_eq];subst c e;refine rE (h _ (Ia S ?_ (((zZ A).append_right R).append_left T)));have:=Cn (T.map X.it) (A.map X.it) (R.map X.it) (d:=(T.length+A.length-T.length) / 2) (by simp);simpa[ar,S.a] using this
def NM{f:Unit->StateT SortSt Sem β}(S:Rp X q (T++(A++x::R)) st)(c:i=T.length+A.length)(d:j=T.length)(h: ∀b,Rp X q (T++(x::(A++R))) b->wp X (f ()) Q b):wp X (moveDown' i j>>=f) Q st:=by
 rw[moveDown'_eq];subst c d;refine rE (h _ (Ia S ?_ (K8.symm.append_left T)));have:=vD (R.map X.it) (X.it x) (A.map X.it) (T.map X.it) (i:=T.length+A.length) (by simp);simpa[ar,S.a] using this
end
abbrev Cs.le(X:Cs)(i j:Nat):Prop:=X.lt j i=false
section
variable {X:Cs}{o:Type}{Q:o->SortSt->Prop}{st:ph}{q:Array (Nat×Nat×Nat)}{T A B D R L:iP}{i j x y:Nat}{r:Nat->Nat->Prop}
def ix0(h:i=T.length+A.length):(T++(A++x::R))[i]?=some x:=by subst h;simp
def ix1(h:i=T.length+A.length+1):(T++(A++x::y::R))[i]?=some y:=by subst h;rw[<-oW,nZ (by simp)];simp
def BQ(u:D.Pairwise r)(h: ∀z∈D,r z y):(D++[y]).Pairwise r:=qY.mpr ⟨u,HE _ _,λa c b d=>Gd.mp d▸h a c⟩
def Cu(e: ∀{a b c},r a b->r b c->r a c)(u:(D++[x]).Pairwise r)(h:r x y): ∀z∈D++[x],r z y:=λz d=>by
 rcases pE.mp d with d|d
 ·exact e ((qY.mp u).2.2 z d x ja) h
 ·rw[Gd.mp d];exact h
def Ig{g:Nat->Option (Option Nat)×Nat->StateT SortSt Sem (ForInStep (Option (Option Nat)×Nat))}{f:Option (Option Nat)×Nat->StateT SortSt Sem o}{lo n m:Nat}
  (p: ∀i n,g i (none,n)=(ltAt' (lo+n) (lo+n-1)>>=λx=>match x with|some b=>if b=true then pure (.done (none,n)) else pure (.yield (none,n+1))|_=>pure (.done (some none,n))))
  (S:Rp X q (T++(A++x::R)) st)(v:T.length=lo)(t:n=A.length+1)(a:m=n+R.length)(u:(A++[x]).Pairwise X.le)
  (h: ∀A x R,Rp X q (T++(A++x::R)) st->m=A.length+1+R.length->(A++[x]).Pairwise X.le->(∀y l,R=y::l->X.lt y x=true)->wp X (f (none,A.length+1)) Q st):wp X (forIn [n:m] (none,n) g>>=f) Q st:=by
 refine kP (λi c s=>s=st/\c=(none,i)/\ ∃A x R,Rp X q (T++(A++x::R)) st/\i=A.length+1/\m=i+R.length/\(A++[x]).Pairwise X.le)
  (λc s=>s=st/\ ∃A x R,Rp X q (T++(A++x::R)) st/\c=(none,A.length+1)/\m=A.length+1+R.length/\(A++[x]).Pairwise X.le/\ ∀y l,R=y::l->X.lt y x=true) ⟨rfl,rfl,A,x,R,S,t,a,u⟩ ?_ ?_ ?_
 ·rintro i c s d ⟨rfl,rfl,A,x,R,S,rfl,h1,u⟩;rw[p];obtain⟨y,l,rfl⟩:=pG (l:=R) (by lia);refine BD S (ix1 (by lia)) (ix0 (by lia)) λb e=>?_
  cases b with
  |true=>exact gC ⟨rfl,A,x,_,S,rfl,h1,u,λ_ _ k=>by cases k;exact e⟩
  |false=>exact gC ⟨rfl,rfl,A++[x],y,l,by simpa using S,by simp,by simp at h1;lia,BQ u (Cu X.tr u e)⟩
 ·rintro c s ⟨rfl,rfl,A,x,R,S,d,h1,u⟩;exact⟨rfl,A,x,R,S,by rw[d],by lia,u,λy l e=>by subst e;simp at h1;lia⟩
 ·rintro c s ⟨rfl,A,x,R,S,rfl,a,u,e⟩;exact h A x R S a u e
def Ib{c:Prop}[Decidable c]{k:StateT SortSt Sem o}(S:Rp X q (T++(A++R)) st)(e:i=T.length)(f:j=T.length+A.length)(d: ¬c->A.length=1)(h: ∀b,Rp X q (T++(A.reverse++R)) b->wp X k Q b):wp X (if c then reverseSlice' i j>>=λ_=>k else k) Q st:=hW (λ_=>DZ S e f h) λz=>h _ (by
 obtain⟨a,rfl⟩:=List.length_eq_one_iff.mp (d z);exact S)
def dnT(d:(A++B).Pairwise λa b=>X.le b a)(u:B.Pairwise X.le):(A++B.reverse).Pairwise λa b=>X.le b a:=by
 rw[qY] at d ⊢;exact⟨d.1,DX.mpr u,λa c b e=>d.2.2 a c b (List.mem_reverse.mp e)⟩
def Cs.rf(X:Cs)(i:Nat):X.le i i:=Bool.eq_false_iff.mpr λh=>Bool.noConfusion (h.symm.trans (X.as i i h))
def M6{k m:StateT SortSt Sem o}(P:SortSt->Prop)(b:(∀a,P a->wp X k Q a)->wp X m Q st)(hk: ∀a,P a->wp X k Q a):wp X m Q st:=b hk
def Ie{lo m:Nat}{Q:Option Nat->SortSt->Prop}(S:Rp X q (T++x::R) st)(p:T.length=lo)(f:m=1+R.length)(h: ∀A R g,Rp X q (T++(A++R)) g->A≠[]->A.Pairwise X.le->m=A.length+R.length->Q (some A.length) g):wp X (countRun' lo m) Q st:=by
 have fin: ∀A x R g,Rp X q (T++(A++x::R)) g->m=A.length+1+R.length->(A++[x]).Pairwise X.le->Q (some (A.length+1)) g:=λA x R g S f u=>by
  simpa using h (A++[x]) R g (by simpa using S) (by simp) u (by simpa using f)
 have ge: ∀{a b c},X.le b a->X.le c b->X.le c a:=λh1 t=>X.tr t h1;rw[countRun'_eq];dsimp only;refine Ig (λ_ _=>rfl) (A:=[]) S p rfl f (by simp) λA x R S f u H=>?_;refine hW (λ_=>gC (fin A x R _ S f u)) λI=>?_;obtain⟨y,l,rfl⟩:=pG (l:=R) (by simp at I;lia);apply M6 λg=>Rp X q (T++((A++[x]).reverse++y::l)) g/\ ∀z∈A++[x],X.le y z
 ·intro F;have w:=X.as _ _ (H y l rfl);refine hW (λh1=>?_) λh1=>F _ ?_
  ·obtain⟨a,A,rfl⟩:=pG (l:=A) (Nat.lt_of_succ_lt_succ h1);refine BD S (x:=a) (y:=x) (ix0 (A:=[]) (by simpa using p.symm)) (ix0 (by simp;lia)) λb e=>?_
   cases b with
   |true=>exact gC (fin _ x _ _ S f u)
   |false=>
    refine DZ (A:=a::A++[x]) (by simpa using S) p.symm (by simp;lia) λg n=>F _ ⟨n,λz k=>X.tr (X.tr w e) ?_⟩;rcases js.mp k with rfl|k
    ·exact X.rf _
    ·exact(EY.mp u).1 z k
  ·obtain rfl:=wg (l:=A) (by simpa using h1);exact⟨S,by simpa using w⟩
 ·rintro st ⟨S,d⟩;have t:A.length+2<=m:=by simp at f;lia
  dsimp only
  refine qg (kP (λi c s=> ∃C B x R,c=(none,i,B.length)/\Rp X q (T++(C++(B++x::R))) s/\i=C.length+B.length+1/\m=i+R.length/\(C++(B++[x])).Pairwise (λa b=>X.le b a)/\(B++[x]).Pairwise X.le)
   (λc s=> ∃C B x R,c=(none,C.length+B.length+1,B.length)/\Rp X q (T++(C++(B++x::R))) s/\m=C.length+B.length+1+R.length/\(C++(B++[x])).Pairwise (λa b=>X.le b a)/\(B++[x]).Pairwise X.le) ⟨(A++[x]).reverse,[],y,l,rfl,S,by simp,by simp at f ⊢;lia,?_,by simp⟩ ?_ ?_ ?_)
  ·exact BQ (DX.mpr u) λz k=>d z (List.mem_reverse.mp k)
  ·rintro i c s v ⟨C,B,x,R,rfl,S,rfl,f,d,u⟩;obtain⟨y,l,rfl⟩:=pG (l:=R) (by lia);rw[<-oW] at S;refine BD S (ix1 (by simp;lia)) (ix0 (by simp;lia)) λb e=>?_
   cases b with
   |true=>
    refine Ib (T:=T++C) (A:=B++[x]) (by simpa using S) (by simp;lia) (by simp;lia) (λz=>by simp at z ⊢;exact z) λg n=>gC ⟨C++(B++[x]).reverse,[],y,l,rfl,by simpa using n,by simp;lia,by simp at f;lia,BQ (dnT d u) λz k=>?_,by simp⟩;rw[<-oW] at d;exact Cu (r:=λa b=>X.le b a) ge d (X.as _ _ e) z (by simpa[or_comm] using k)
   |false=>
    refine BD S (ix0 (by simp;lia)) (ix1 (by simp;lia)) λb G=>?_
    cases b with
    |true=>exact gC ⟨C,B,x,_,rfl,by simpa using S,f,d,u⟩
    |false=>
     refine gC ⟨C,B++[x],y,l,by simp,by simpa using S,by simp;lia,by simp at f;lia,?_,BQ u (Cu X.tr u e)⟩;rw[<-oW] at d ⊢;rw[<-oW];exact BQ d (Cu (r:=λa b=>X.le b a) ge d G)
  ·rintro c s ⟨C,B,x,R,rfl,S,v,f,d,u⟩;exact⟨C,B,x,R,by rw[v],S,by lia,d,u⟩
  ·rintro c s ⟨C,B,x,R,rfl,S,f,d,u⟩;refine Ib (T:=T++C) (A:=B++[x]) (by simpa using S) (by simp;lia) (by simp;lia) (λz=>by simp at z ⊢;exact z) λg n=>?_;refine DZ (T:=T) (A:=C++(B++[x]).reverse) (by simpa using n) p.symm (by simp;lia) λg n=>?_;have u:=DX.mpr (dnT d u);rcases HD (C++(B++[x]).reverse).reverse with e|⟨E,J,e⟩
   ·simp at e
   ·rw[e,HC] at n u;have k:=mM List.length e;simp at k;exact Ig (λ_ _=>rfl) (A:=E) (x:=J) (R:=R) (by simpa using n) p (by dsimp only;lia) (by dsimp only;lia) u λA x R S f u _=>gC (fin A x R _ S f u)
end
section
variable {X:Cs}{g:Type}{Q:g->SortSt->Prop}{st:ph}{q:Array (Nat×Nat×Nat)}{T A B D R L:iP}{i j x y:Nat}{p:Nat->Bool}
abbrev Mo(X:Cs)(p:Nat->Bool):Prop:= ∀a b,X.le a b->p b=true->p a=true
abbrev Lo(p:Nat->Bool)(A:iP)(a:Nat):Prop:= ∀i,i<a->p (A.getD i 0)=true
abbrev Hi(p:Nat->Bool)(A:iP)(a:Nat):Prop:= ∀i,a<=i->i<A.length->p (A.getD i 0)=false
def JP:Mo X λz=>!X.lt x z:=λa b h c=>by simp only[Bool.not_eq_true'] at c ⊢;exact X.tr h c
def Rk:Mo X λz=>X.lt z x:=λa b h c=>by
 cases e:X.lt a x with
 |true=>exact e
 |false=>exact Bool.noConfusion ((X.tr e h).symm.trans c)
def upD(u:A.Pairwise X.le)(b:i<=j)(h:j<A.length):X.le (A.getD i 0) (A.getD j 0):=by
 have a:i<A.length:=by lia
 simp only[we,jm h,jm a,Option.getD_some];rcases Nat.lt_or_eq_of_le b with e|rfl
 ·exact K7.mp u i j a h e
 ·exact X.rf _
def Cp(u:A.Pairwise X.le)(m:Mo X p)(h:i<A.length)(e:p (A.getD i 0)=true):Lo p A (i+1):=λj a=>m _ _ (upD u (by lia) h) e
def CC(u:A.Pairwise X.le)(m:Mo X p)(e:p (A.getD i 0)=false):Hi p A i:=λj a h=>by
 cases c:p (A.getD j 0) with
 |false=>rfl
 |true=>exact(m _ _ (upD u a h) c).symm.trans e
def FH(h:Lo p A i): ∀z∈A.take i,p z=true:=λz a=>by
 obtain⟨k,hk,rfl⟩:=DC a;have hk:=pD▸hk;have:=h k (by lia);simpa[show k<A.length by lia] using this
def FQ(h:Hi p A i): ∀z∈A.drop i,p z=false:=λz a=>by
 obtain⟨k,hk,rfl⟩:=DC a;simp at hk;have:=h (i+k) (by lia) (by lia);simpa[show i+k<A.length by lia] using this
def ixD(a:T.length=j)(h:i<A.length):(T++(A++R))[j+i]?=some (A.getD i 0):=by
 subst a;rw[nZ (by lia),DD,qK h];simp[h]
def TX(u:A.Pairwise X.le)(h1: ∀z∈A.take i,(!X.lt y z)=true)(e: ∀z∈A.drop i,(!X.lt y z)=false):(A.take i++y::A.drop i).Pairwise X.le:=by
 rw[<-uw i A,qY] at u;refine qY.mpr ⟨u.1,EY.mpr ⟨λz f=>X.as _ _ (by simpa using e z f),u.2.1⟩,λa d b c=>?_⟩;rcases js.mp c with rfl|c
 ·simpa using h1 a d
 ·exact u.2.2 a d b c
def NN{lo n k:Nat}{Q:Bool->SortSt->Prop}(S:Rp X q (T++(A++R)) st)(G:T.length=lo)(E:A.length=k)(I:0<k)(o:n<=k+R.length)(hk:k<=n)(u:A.Pairwise X.le)
  (h: ∀A R w,Rp X q (T++(A++R)) w->A.length=n->A.Pairwise X.le->Q true w):wp X (binarySort' lo n k) Q st:=by
 rw[binarySort'_eq,show max k 1=k by lia];dsimp only;refine kP (λk c s=>c=(none,())/\ ∃A R,Rp X q (T++(A++R)) s/\A.length=k/\A.Pairwise X.le/\n<=k+R.length) (λc s=>c=(none,())/\ ∃A R,Rp X q (T++(A++R)) s/\A.length=n/\A.Pairwise X.le) ⟨rfl,A,R,S,E,u,o⟩ ?_ ?_ ?_
 ·rintro k c s m ⟨rfl,A,R,S,rfl,u,o⟩;obtain⟨y,l,rfl⟩:=pG (l:=R) (by lia)
  refine kP (λi c r=>r=s/\ ∃a b,c=(none,a,b)/\a<=b/\b<=A.length/\b<=a+(A.length-i)/\Lo (λz=>!X.lt y z) A a/\Hi (λz=>!X.lt y z) A b)
   (λc r=>r=s/\ ∃a b,c=(none,a,b)/\a<=A.length/\Lo (λz=>!X.lt y z) A a/\Hi (λz=>!X.lt y z) A a) ⟨rfl,0,A.length,rfl,by lia,by lia,by lia,λi h=>by lia,λi h H=>by lia⟩ ?_ ?_ ?_
  ·rintro i c _ m ⟨rfl,a,b,rfl,h1,t,v,d,f⟩;dsimp only;refine hW (λe=>gC ⟨rfl,a,b,rfl,by lia,d,(show a=b by lia)▸f⟩) λe=>?_;refine BD S (ix0 (by lia)) (ixD G (by lia)) λc e=>?_
   cases c with
   |true=>exact gC ⟨rfl,a,_,rfl,by lia,by lia,by lia,d,CC u JP (by rw[e];rfl)⟩
   |false=>exact gC ⟨rfl,_,b,rfl,by lia,by lia,by lia,Cp u JP (by lia) (by rw[e];rfl),f⟩
  ·rintro c _ ⟨rfl,a,b,rfl,h1,t,v,d,f⟩;exact⟨rfl,a,b,rfl,by lia,d,(show a=b by lia)▸f⟩
  ·rintro c _ ⟨rfl,a,b,rfl,h1,t,v⟩;refine NM (T:=T++A.take a) (A:=A.drop a) (by rw[oW,<-oW (A.take a),uw];exact S) (by simp;lia) (by simp;lia) λr C=>gC ⟨rfl,A.take a++y::A.drop a,l,by simpa using C,by simp;lia,TX u (FH t) (FQ v),by simp at o;lia⟩
 ·rintro c s ⟨rfl,A,R,S,m,u,o⟩;exact⟨rfl,A,R,S,by lia,u⟩
 ·rintro c s ⟨rfl,A,R,S,m,u⟩;exact gC (h A R s S m u)
noncomputable def MD:Bool->Keyed->Array Keyed->Nat->Nat->Nat->StateT SortSt Sem (Option Nat):=sortPriv%PySem.Builtin.gallop
noncomputable def JQ:Array Keyed->Array Keyed->StateT SortSt Sem (Array Keyed):=sortPriv%PySem.Builtin.mergeLo
noncomputable def JR:Array Keyed->Array Keyed->StateT SortSt Sem (Array Keyed):=sortPriv%PySem.Builtin.mergeHi
noncomputable def Lm:Nat->StateT SortSt Sem Unit:=sortPriv%PySem.Builtin.setMinGallop
def Qq{k:Nat->Nat->StateT SortSt Sem g}{m:StateT SortSt Sem g}(P:Nat->Nat->Prop)(c:(∀a b,P a b->wp X (k a b) Q st)->wp X m Q st)(hk: ∀a b,P a b->wp X (k a b) Q st):wp X m Q st:=c hk
abbrev gp(X:Cs)(left:Bool)(x z:Nat):Bool:=if left=true then X.lt z x else !X.lt x z
def Az{left:Bool}{base:Nat}{f:Option Bool->StateT SortSt Sem g}(hk:kindOf st=X.κ)(k: ∀z∈A,z<X.N)(c:x<X.N)(l:T.length=base)(a:i<A.length)(h: ∀b,gp X left x (A.getD i 0)=b->wp X (f (some b)) Q st):
  wp X ((elem' (ar X (T++(A++R))) (base+i)>>=λz=>if left=true then lt' z (X.it x) else lt' (X.it x) z>>=λr=>pure (Option.map (λx=>!x) r))>>=f) Q st:=by
 have d:A.getD i 0<X.N:=k _ (by simp[a]);refine jb (kA (ixD l a) ?_)
 cases left with
 |true=>rw[gO rfl,<-bind_pure (lt' _ _)];exact BC hk d c λb e=>gC (h b e)
 |false=>exact BC hk c d λb e=>gC (h (!b) (mM not e))
def uF{left:Bool}{base n hint:Nat}{Q:Option Nat->SortSt->Prop}(hk:kindOf st=X.κ)(t: ∀z∈A,z<X.N)(w:x<X.N)(u:A.Pairwise X.le)(J:L=T++(A++R))(v:T.length=base)(G:A.length=n)(C:hint<n)
  (h: ∀r,r<=n->(∀z∈A.take r,gp X left x z=true)->(∀z∈A.drop r,gp X left x z=false)->Q (some r) st):wp X (MD left (X.it x) (ar X L) base n hint) Q st:=by
 subst J
 have m:Mo X (gp X left x):=by
  cases left with
  |true=>exact Rk
  |false=>exact JP
 apply Qq λa b=>a<=b/\b<=n/\Lo (gp X left x) A a/\Hi (gp X left x) A b
 ·intro F;refine Az hk t w v (G▸C) λb e=>?_;refine hW (λz=>?_) λz=>?_
  ·subst z
   refine kP (λi c s=>st=s/\ ∃a b,c=(none,a,b)/\a<b/\i<b/\hint+a<n/\Lo (gp X left x) A (hint+a+1)) (λc s=>st=s/\ ∃a b,c=(none,a,b)/\a<b/\hint+a<n/\Lo (gp X left x) A (hint+a+1)/\(n-hint<=b\/Hi (gp X left x) A (hint+b)))
    ⟨rfl,0,1,rfl,by lia,by lia,C,Cp u m (G▸C) e⟩ ?_ ?_ ?_
   ·rintro i c _ E ⟨rfl,a,b,rfl,h1,o,l,f⟩;dsimp only;refine hW (λz=>gC ⟨rfl,a,b,rfl,h1,l,f,.inl z⟩) λz=>Az hk t w v (by lia) λc e=>?_
    cases c with
    |true=>exact gC ⟨rfl,_,_,rfl,by lia,by lia,by lia,Cp u m (by lia) e⟩
    |false=>exact gC ⟨rfl,a,b,rfl,h1,l,f,.inr (CC u m e)⟩
   ·rintro c _ ⟨rfl,a,b,rfl,h1,o,l,f⟩;exact⟨rfl,a,b,rfl,h1,l,f,.inl (by lia)⟩
   ·rintro c _ ⟨rfl,a,b,rfl,h1,l,f,k⟩;dsimp only;generalize H:hint+a+1=c at*;generalize I:hint+min b (n-hint)=d;refine F c d ⟨by lia,by lia,f,λi M O=>?_⟩;rcases k with k|k
    ·lia
    ·exact k i (by lia) O
  ·refine kP (λi c s=>st=s/\ ∃a b,c=(none,a,b)/\a<b/\i<b/\a<=hint/\Hi (gp X left x) A (hint-a)) (λc s=>st=s/\ ∃a b,c=(none,a,b)/\a<b/\a<=hint/\Hi (gp X left x) A (hint-a)/\(hint<b\/Lo (gp X left x) A (hint-b+1)))
    ⟨rfl,0,1,rfl,by lia,by lia,by lia,CC u m (by simpa[z] using e)⟩ ?_ ?_ ?_
   ·rintro i c _ E ⟨rfl,a,b,rfl,h1,o,l,f⟩;dsimp only;refine hW (λz=>gC ⟨rfl,a,b,rfl,h1,l,f,.inl z⟩) λz=>Az hk t w v (by lia) λc e=>?_
    cases c with
    |true=>exact gC ⟨rfl,a,b,rfl,h1,l,f,.inr (Cp u m (by lia) e)⟩
    |false=>exact gC ⟨rfl,_,_,rfl,by lia,by lia,by lia,CC u m e⟩
   ·rintro c _ ⟨rfl,a,b,rfl,h1,o,l,f⟩;exact⟨rfl,a,b,rfl,h1,l,f,.inl (by lia)⟩
   ·rintro c _ ⟨rfl,a,b,rfl,h1,l,f,k⟩;dsimp only;generalize I:hint-a=d at*;generalize H:hint+1-min b (hint+1)=c;refine F c d ⟨by lia,by lia,λi M=>?_,f⟩;rcases k with k|k
    ·lia
    ·exact k i (by lia)
 ·rintro a b ⟨h1,o,l,f⟩;refine kP (λi c s=>st=s/\ ∃a b,c=(none,a,b)/\a<=b/\b<=n/\b<=a+(n-i)/\Lo (gp X left x) A a/\Hi (gp X left x) A b) (λc s=>st=s/\ ∃a,c=(none,a,a)/\a<=n/\Lo (gp X left x) A a/\Hi (gp X left x) A a) ⟨rfl,a,b,rfl,h1,o,by lia,l,f⟩ ?_ ?_ ?_
  ·rintro i c _ E ⟨rfl,a,b,rfl,h1,o,l,f,k⟩;refine hW (λz=>?_) λz=>Az hk t w v (by dsimp only at z ⊢;lia) λc e=>?_
   ·have:a=b:=by dsimp only at z;lia
    subst this;exact gC ⟨rfl,a,rfl,o,f,k⟩
   ·dsimp only at z
    cases c with
    |true=>exact gC ⟨rfl,_,b,rfl,by dsimp only;lia,o,by dsimp only;lia,Cp u m (by dsimp only;lia) e,k⟩
    |false=>exact gC ⟨rfl,a,_,rfl,by dsimp only;lia,by dsimp only;lia,by dsimp only;lia,f,CC u m e⟩
  ·rintro c _ ⟨rfl,a,b,rfl,h1,o,l,f,k⟩;have:a=b:=by lia
   subst this;exact⟨rfl,a,rfl,o,f,k⟩
  ·rintro c _ ⟨rfl,a,rfl,o,f,k⟩;exact gC (h a o (FH f) (FQ k))
end
section
variable {X:Cs}{β:Type}{Q:β->SortSt->Prop}{st:ph}{pq:Array (Nat×Nat×Nat)}{q r L Z a b o k:iP}{i j x y:Nat}{le:Nat->Nat->Prop}{out:yH}
structure MG(le:Nat->Nat->Prop)(Z a b o:iP):Prop where
 s:o.Pairwise le
 c: ∀x∈o,∀y∈a++b,le x y
 p:(o++(a++b)).Perm Z
 ua:a.Pairwise le
 ub:b.Pairwise le
def MG.put(m:MG le Z (k++a) b o)(h: ∀x∈k,∀y∈b,le x y):MG le Z a b (o++k):=by
 have f:=qY.mp m.ua;refine⟨qY.mpr ⟨m.s,f.1,λx e y d=>m.c x e y (by simp[d])⟩,λx e y d=>?_,by simpa using m.p,f.2.1,m.ub⟩;rcases pE.mp e with e|e
 ·refine m.c x e y ?_;simp at d ⊢;exact .inr d
 ·rcases pE.mp d with d|d
  ·exact f.2.2 x e y d
  ·exact h x e y d
def Mg(X:Cs)(le:Nat->Nat->Prop)(Z a b:iP)(out:yH):Prop:= ∃o,out=ar X o/\MG le Z a b o
def Rs(X:Cs)(Z:iP)(out:yH):Prop:= ∃o,out=ar X o/\o.Pairwise X.le/\o.Perm Z
def Mg.sw(m:Mg X le Z a b out):Mg X le Z b a out:=by
 obtain⟨o,e,m⟩:=m;exact⟨o,e,m.s,λx d y f=>m.c x d y (by simpa[or_comm] using f),(M1.append_left o).trans m.p,m.ub,m.ua⟩
def Mg.put(m:Mg X le Z a b out){a':iP}{c:yH}(e:a=k++a')(h: ∀x∈k,∀y∈b,le x y)(d:c=out++ar X k):Mg X le Z a' b c:=by
 obtain⟨o,rfl,m⟩:=m;exact⟨o++k,by simpa[ar] using d,(e▸m).put h⟩
theorem Mg.a1(m:Mg X le Z (q.drop i) b out)(c:i<q.length)(h: ∀y∈b,le q[i] y):Mg X le Z (q.drop (i+1)) b (out.push (X.it q[i])):=m.put (k:=[q[i]]) (wo c) (by simpa using h) (by simp[ar])
def Mg.ak(m:Mg X le Z (q.drop i) b out)(h: ∀x∈(q.drop i).take j,∀y∈b,le x y):Mg X le Z (q.drop (i+j)) b (out++(ar X q).extract i (i+j)):=m.put (by rw[<-List.drop_drop,uw]) h (by simp[ar,zY])
def Mg.fin(m:Mg X X.le Z (q.drop i) (r.drop j) out)(h: ∀x∈q.drop i,∀y∈r.drop j,X.le x y):Rs X Z (out++(ar X q).extract i (ar X q).size++(ar X r).extract j (ar X r).size):=by
 obtain⟨o,e,m⟩:=((m.put (k:=q.drop i) (a':=[]) (by simp) h rfl).sw).put (k:=r.drop j) (a':=[]) (by simp) (by simp) rfl;exact⟨o,by rw[<-e];simp[ar,zY,List.take_of_length_le],m.s,by simpa using m.p⟩
def Mg.end(m:Mg X X.le Z (q.drop i) (r.drop j) out)(h:q.length<=i\/r.length<=j):Rs X Z (out++(ar X q).extract i (ar X q).size++(ar X r).extract j (ar X r).size):=m.fin λx c y d=>by
 rcases h with h|h
 ·rw[wm h] at c;cases c
 ·rw[wm h] at d;cases d
theorem Mg.hd(m:Mg X le Z (q.drop i) b out)(f: ∀{a b c},le a b->le b c->le a c)(e:i<q.length)(h:le x q[i]): ∀y∈q.drop i,le x y:=λy d=>by
 obtain⟨o,_,m⟩:=m;have:=m.ua;rw[wo e] at this d;rcases js.mp d with rfl|d
 ·exact h
 ·exact f h ((EY.mp this).1 y d)
def Ay{f:Unit->StateT SortSt Sem β}{n:Nat}(S:Rp X pq L st)(h: ∀c,Rp X pq L c->wp X (f ()) Q c):wp X (Lm n>>=f) Q st:=rE (g:=λs=>SortSt.mk' (kindOf s) (arrOf s) (pendingOf s) n (failedOf s)) (h _ ⟨S.a,S.k,S.f,S.q,S.p⟩)
def E8{e:Type}{k:e->Nat->StateT SortSt Sem β}{m:StateT SortSt Sem β}(P:e->Nat->SortSt->Prop)(f:(∀c n d,P c n d->wp X (k c n) Q d)->wp X m Q st)(hk: ∀c n d,P c n d->wp X (k c n) Q d):wp X m Q st:=f hk
def Ic{k:Nat->StateT SortSt Sem β}{m:StateT SortSt Sem β}(P:Nat->SortSt->Prop)(d:(∀n c,P n c->wp X (k n) Q c)->wp X m Q st)(hk: ∀n c,P n c->wp X (k n) Q c):wp X m Q st:=d hk
def Qp{Q:Array Keyed->SortSt->Prop}(S:Rp X pq L st)(u1:q.Pairwise X.le)(u2:r.Pairwise X.le)(U: ∀z∈q,z<X.N)(Y: ∀z∈r,z<X.N)(h1:0<q.length)(h2:0<r.length)(hd: ∀y∈q,X.le r[0] y)(top: ∀x∈r,X.le x q[q.length-1])
  (h: ∀out s,Rp X pq L s->Rs X (q++r) out->Q out s):wp X (JQ (ar X q) (ar X r)) Q st:=by
 have sq:(ar X q).size=q.length:=by simp
 have sr:(ar X r).size=r.length:=by simp
 have K:Mg X X.le (q++r) (q.drop 0) (r.drop 1) #[X.it r[0]]:=Mg.sw (Mg.a1 (q:=r) (i:=0) (out:= #[]) ⟨[],rfl,.nil,by simp,by simpa using M1,by simpa using u2,by simpa using u1⟩ h2 hd)
 have last: ∀{out i j},Mg X X.le (q++r) (q.drop i) (r.drop j) out->i+1=q.length->Rs X (q++r) (out++(ar X r).extract j (ar X r).size++(ar X q).extract i (ar X q).size):=λ{_ i j} m e=>m.sw.fin λx H y C=>by
  have hi:i<q.length:=by lia
  rw[wo hi,wm (by lia),Gd] at C;have:=top x (zW H);simpa only[C,<-e,Nat.add_sub_cancel] using this
 refine qg (kA (x:=r[0]) (by simp[h2]) ?_);refine hW (λe=>gC (h _ _ S (K.end (.inr (by simp at e;lia))))) λe=>hW (λv=>gC (h _ _ S (last K (by simpa using v)))) λv=>mR ?_
 let I:=λ(c:Nat) out d f s=>Rp X pq L s/\Mg X X.le (q++r) (q.drop d) (r.drop f) out/\d+1<q.length/\f<r.length/\c<=d+f
 refine kP (λi c s=> ∃out d f B,c=(none,out,d,f,B)/\I (i+1) out d f s) (λc s=> ∃out t,c=(some out,t)/\Rp X pq L s/\Rs X (q++r) out) ⟨_,0,1,_,rfl,S,K,by simp at v;lia,by simp at e;lia,by lia⟩ ?_ ?_ ?_
 ·rintro i c s _ ⟨out,d,f,B,rfl,J⟩;refine kP (λj c s=> ∃out d f p u,c=(none,out,d,f,p,u)/\I (i+1+j) out d f s) (λc s=>(∃out t,c=(some out,t)/\Rp X pq L s/\Rs X (q++r) out)\/ ∃out d f p u,c=(none,out,d,f,p,u)/\I (i+1) out d f s) ⟨_,_,_,_,_,rfl,J⟩ ?_ ?_ ?_
  ·rintro j c s _ ⟨out,d,f,p,u,rfl,S,m,E,l,G⟩;dsimp only;refine kA (x:=r[f]) (by simp[l]) (kA (x:=q[d]) (by simp) (BC S.k (Y _ (by simp)) (U _ (by simp)) λb e=>?_))
   cases b with
   |true=>
    have n:=(m.sw.a1 l (m.hd X.tr (by lia) (X.as _ _ e))).sw;exact kA (x:=r[f]) (by simp[l]) (hW (λe=>gC (.inl ⟨_,_,rfl,S,n.end (.inr (by simp at e;lia))⟩)) λe=>hW (λ_=>gC (.inr ⟨_,_,_,_,_,rfl,S,n,E,by simp at e;lia,by lia⟩)) λ_=>gC ⟨_,_,_,_,_,rfl,S,n,E,by simp at e;lia,by lia⟩)
   |false=>
    have n:=m.a1 (by lia) (m.sw.hd X.tr l e);exact kA (x:=q[d]) (by simp) (hW (λe=>gC (.inl ⟨_,_,rfl,S,last n (by simpa using e)⟩)) λe=>hW (λ_=>gC (.inr ⟨_,_,_,_,_,rfl,S,n,by simp at e;lia,l,by lia⟩)) λ_=>gC ⟨_,_,_,_,_,rfl,S,n,by simp at e;lia,l,by lia⟩)
  ·rintro c s ⟨out,d,f,p,u,rfl,S,m,E,l,G⟩;exfalso;lia
  ·rintro c s (⟨out,t,rfl,hs⟩|⟨out,d,f,p,u,rfl,J⟩)
   ·exact gC ⟨out,_,rfl,hs⟩
   ·refine qg (kP (λj c s=> ∃out d f B p u,c=(none,out,d,f,B,p,u)/\I (i+1+j) out d f s) (λc s=>(∃out t,c=(some out,t)/\Rp X pq L s/\Rs X (q++r) out)\/ ∃out d f B p u,c=(none,out,d,f,B,p,u)/\I (i+2) out d f s) ⟨_,_,_,_,_,_,rfl,J⟩ ?_ ?_ ?_)
    ·rintro j c s _ ⟨out,d,f,B,p,u,rfl,S,m,E,l,G⟩;dsimp only;apply Ic λ_ s=>Rp X pq L s
     ·intro F;refine hW (λ_=>?_) λ_=>?_
      ·generalize B-1=g;exact F g s S
      ·exact F B s S
     intro g s S;refine Ay S λs S=>kA (x:=r[f]) (by simp[l]) (jb (uF (T:=q.take d) (A:=q.drop d) (R:=[]) S.k (λz D=>U z (zW D)) (Y _ (by simp)) (u1.sublist (DA _ _)) (by simp) (by simp;lia) (by simp) (by simp;lia) λk _ P V=>?_));dsimp only;apply E8 λout d s=>Rp X pq L s/\Mg X X.le (q++r) (q.drop d) (r.drop f) out/\d+1<q.length/\i+1+j<=d+f/\ ∀y∈q.drop d,X.le r[f] y
     ·intro F;have mk:=m.ak (j:=k) λx H y C=>m.sw.hd (x:=x) X.tr l (by simpa using P x H) y C;have w: ∀y∈q.drop (d+k),X.le r[f] y:=λy C=>X.as _ _ (by simpa using V y (by simpa using C));refine hW (λe=>?_) λe=>?_
      ·refine hW (λO=>gC (.inl ⟨_,_,rfl,S,last mk (by simpa using O)⟩)) λO=>hW (λv=>gC (.inl ⟨_,_,rfl,S,mk.end (.inl (by simp at v;lia))⟩)) λv=>?_;generalize out++(ar X q).extract d (d+k)=out at mk ⊢;generalize W:d+k=ic at mk w O v ⊢;exact F out ic s ⟨S,mk,by simp at O v;lia,by lia,w⟩
      ·rw[show k=0 by lia] at w;exact F out d s ⟨S,m,E,G,w⟩
     rintro out d s ⟨S,m,E,G,w⟩;have n:=(m.sw.a1 l w).sw;refine kA (x:=r[f]) (by simp[l]) (hW (λe=>gC (.inl ⟨_,_,rfl,S,n.end (.inr (by simp at e;lia))⟩)) λe=>kA (x:=q[d]) (by simp) (jb (uF (T:=r.take (f+1)) (A:=r.drop (f+1)) (R:=[]) S.k (λz D=>Y z (zW D)) (U _ (by simp)) (u2.sublist (DA _ _)) (by simp) (by simp;lia) (by simp) (by simp at e ⊢;lia) λM _ P V=>?_)));dsimp only;apply E8 λout f s=>Rp X pq L s/\Mg X X.le (q++r) (q.drop d) (r.drop f) out/\f<r.length/\i+1+j<d+f/\ ∀y∈r.drop f,X.le q[d] y
     ·intro F;have mk:=(n.sw.ak (j:=M) λx H y C=>n.hd X.tr (by lia) (X.as _ _ (P x H)) y C).sw;have w: ∀y∈r.drop (f+1+M),X.le q[d] y:=λy C=>V y (by simpa using C);refine hW (λ_=>?_) λe3=>?_
      ·refine hW (λv=>gC (.inl ⟨_,_,rfl,S,mk.end (.inr (by simp at v;lia))⟩)) λv=>?_;generalize out.push (X.it r[f])++(ar X r).extract (f+1) (f+1+M)=out at mk ⊢;generalize W:f+1+M=ic at mk w v ⊢;exact F out ic s ⟨S,mk,by simp at v;lia,by lia,w⟩
      ·rw[show M=0 by lia] at w;exact F _ _ s ⟨S,n,by simp at e;lia,by lia,w⟩
     rintro out f s ⟨S,m,l,G,w⟩;have n:=m.a1 (by lia) w;exact kA (x:=q[d]) (by simp) (hW (λe=>gC (.inl ⟨_,_,rfl,S,last n (by simpa using e)⟩)) λe=>hW (λ_=>gC (.inr ⟨_,_,_,_,_,_,rfl,S,n,by simp at e;lia,l,by lia⟩)) λ_=>gC ⟨_,_,_,_,_,_,rfl,S,n,by simp at e;lia,l,by lia⟩)
    ·rintro c s ⟨out,d,f,B,p,u,rfl,S,m,E,l,G⟩;exfalso;lia
    ·rintro c s (⟨out,t,rfl,hs⟩|⟨out,d,f,B,p,u,rfl,S,J⟩)
     ·exact gC ⟨out,_,rfl,hs⟩
     ·exact Ay S λs S=>gC ⟨_,_,_,_,rfl,S,J⟩
 ·rintro c s ⟨out,d,f,B,rfl,S,m,E,l,G⟩;exfalso;lia
 ·rintro c s ⟨out,t,rfl,S,m⟩;exact gC (h _ _ S m)
end
section
variable {X:Cs}{f:Type}{Q:f->SortSt->Prop}{st:ph}{d:Array (Nat×Nat×Nat)}{q r L Z a b o k:iP}{i j x y n:Nat}{out:yH}
theorem ss1(n:Nat):n+1-1=n:=rfl
abbrev Cs.ge(X:Cs)(i j:Nat):Prop:=X.le j i
theorem Mg.h1(m:Mg X X.ge Z (q.take (n+1)).reverse b out)(c:n<q.length)(h: ∀y∈b,X.le y q[n]):Mg X X.ge Z (q.take n).reverse b (out.push (X.it q[n])):=m.put (k:=[q[n]]) (by rw[Dz];simp[c]) (by simpa using h) (by simp[ar])
theorem Mg.hk(m:Mg X X.ge Z (q.take n).reverse b out)(c:i<=n)(h: ∀x∈(q.take n).drop i,∀y∈b,X.le y x):Mg X X.ge Z (q.take i).reverse b (out++((ar X q).extract i n).reverse):=m.put (k:=((q.take n).drop i).reverse) (by rw[<-List.reverse_append,<-Nat.min_eq_left c,<-List.take_take,Nat.min_eq_left c,uw]) (by simpa using h) (by simp[ar,List.extract_eq_drop_take'])
def Mg.finH(m:Mg X X.ge Z (q.take i).reverse (r.take j).reverse out)(h: ∀x∈q.take i,∀y∈r.take j,X.le x y):Rs X Z ((ar X q).extract 0 i++(ar X r).extract 0 j++out.reverse):=by
 obtain⟨o,e,m⟩:=(m.sw.put (k:=(r.take j).reverse) (a':=[]) (by simp) (by simpa using λx c y g=>h y g x c) rfl).sw.put (k:=(q.take i).reverse) (a':=[]) (by simp) (by simp) rfl;refine⟨o.reverse,?_,DX.mpr m.s,(zZ o).trans (by simpa using m.p)⟩;have:=mM Array.reverse e;simpa[ar,zY] using this
def Mg.endH(m:Mg X X.ge Z (q.take i).reverse (r.take j).reverse out)(h:i=0\/j=0):Rs X Z ((ar X q).extract 0 i++(ar X r).extract 0 j++out.reverse):=m.finH λx c y e=>by
 rcases h with rfl|rfl
 ·cases c
 ·cases e
def Mg.hdH(m:Mg X X.ge Z (q.take (n+1)).reverse b out)(e:n<q.length)(h:X.le q[n] x): ∀y∈(q.take (n+1)).reverse,X.le y x:=λy c=>by
 obtain⟨o,_,m⟩:=m;have:=m.ua;rw[show(q.take (n+1)).reverse=q[n]::(q.take n).reverse by rw[Dz];simp[e]] at this c;rcases js.mp c with rfl|c
 ·exact h
 ·exact X.tr ((EY.mp this).1 y c) h
def Qr{Q:Array Keyed->SortSt->Prop}(S:Rp X d L st)(u1:q.Pairwise X.le)(u2:r.Pairwise X.le)(hq: ∀z∈q,z<X.N)(hr: ∀z∈r,z<X.N)(h1:0<q.length)(h2:0<r.length)(hd: ∀y∈q,X.le r[0] y)(top: ∀x∈r,X.le x q[q.length-1])
  (h: ∀out s,Rp X d L s->Rs X (q++r) out->Q out s):wp X (JR (ar X q) (ar X r)) Q st:=by
 have sq:(ar X q).size=q.length:=by simp
 have sr:(ar X r).size=r.length:=by simp
 have K:Mg X X.ge (q++r) (q.take (q.length-1)).reverse (r.take r.length).reverse #[X.it q[q.length-1]]:=Mg.h1 (out:= #[]) ⟨[],rfl,.nil,by simp,by simpa[Nat.sub_add_cancel h1] using(zZ q).append (zZ r),by simpa[Nat.sub_add_cancel h1,DX] using u1,by simpa[DX] using u2⟩ (by lia) (by simpa using top)
 have last: ∀{out i},Mg X X.ge (q++r) (q.take i).reverse (r.take 1).reverse out->Rs X (q++r) ((ar X r).extract 0 1++(ar X q).extract 0 i++out.reverse):=λm=>m.sw.finH λx Y y U=>by
  obtain⟨b,r,rfl⟩:=pG h2;simp at Y;subst Y;exact hd y (uv U)
 refine qg (kA (x:=q[q.length-1]) (by simp[h1]) ?_);rw[sq,sr];refine hW (λe=>gC (h _ _ S (K.endH (.inl (by simpa using e))))) λe=>hW (λE=>gC (h _ _ S ?_)) λE=>mR ?_
 ·have E:r.length=1:=by simpa using E
  rw[E] at K ⊢;exact last K
 let I:=λ(c:Nat) out l u s=>Rp X d L s/\Mg X X.ge (q++r) (q.take l).reverse (r.take u).reverse out/\0<l/\l<=q.length/\1<u/\u<=r.length/\c+l+u<=q.length+r.length
 refine kP (λi c s=> ∃l u out C,c=(none,l,u,out,C)/\I (i+1) out l u s) (λc s=> ∃out t,c=(some out,t)/\Rp X d L s/\Rs X (q++r) out) ⟨_,_,_,_,rfl,S,K,by simp at e;lia,by lia,by simp at E;lia,by lia,by lia⟩ ?_ ?_ ?_
 ·rintro i c s _ ⟨l,u,out,C,rfl,i0⟩;refine kP (λj c s=> ∃l u out w B,c=(none,l,u,out,w,B)/\I (i+1+j) out l u s) (λc s=>(∃out t,c=(some out,t)/\Rp X d L s/\Rs X (q++r) out)\/ ∃l u out w B,c=(none,l,u,out,w,B)/\I (i+1) out l u s) ⟨_,_,_,_,_,rfl,i0⟩ ?_ ?_ ?_
  ·rintro j c s _ ⟨l,u,out,w,B,rfl,S,m,J,M,G,b4,b5⟩;obtain⟨n,rfl⟩: ∃n,l=n+1:=⟨l-1,by lia⟩
   obtain⟨p,rfl⟩: ∃n,u=n+1:=⟨u-1,by lia⟩
   dsimp only[ss1];refine kA (x:=r[p]) (by simp) (kA (x:=q[n]) (by simp) (BC S.k (hr _ (by simp)) (hq _ (by simp)) λb e=>?_))
   cases b with
   |true=>
    have v:=m.h1 (by lia) (m.sw.hdH (by lia) (X.as _ _ e));exact kA (x:=q[n]) (by simp) (hW (λe=>gC (.inl ⟨_,_,rfl,S,v.endH (.inl (by simpa using e))⟩)) λe=>hW (λ_=>gC (.inr ⟨_,_,_,_,_,rfl,S,v,by simp at e;lia,by lia,G,b4,by lia⟩)) λ_=>gC ⟨_,_,_,_,_,rfl,S,v,by simp at e;lia,by lia,G,b4,by lia⟩)
   |false=>
    have v:=(m.sw.h1 (by lia) (m.hdH (by lia) e)).sw;refine kA (x:=r[p]) (by simp) (hW (λe=>?_) λe=>hW (λ_=>gC (.inr ⟨_,_,_,_,_,rfl,S,v,J,M,by simp at e;lia,by lia,by lia⟩)) λ_=>gC ⟨_,_,_,_,_,rfl,S,v,J,M,by simp at e;lia,by lia,by lia⟩);obtain rfl:p=1:=by simpa using e
    exact gC (.inl ⟨_,_,rfl,S,last v⟩)
  ·rintro c s ⟨l,u,out,w,B,rfl,S,m,J,M,G,b4,b5⟩;exfalso;lia
  ·rintro c s (⟨out,t,rfl,hs⟩|⟨l,u,out,w,B,rfl,i0⟩)
   ·exact gC ⟨out,_,rfl,hs⟩
   ·refine qg (kP (λj c s=> ∃l u out C w B,c=(none,l,u,out,C,w,B)/\I (i+1+j) out l u s) (λc s=>(∃out t,c=(some out,t)/\Rp X d L s/\Rs X (q++r) out)\/ ∃l u out C w B,c=(none,l,u,out,C,w,B)/\I (i+2) out l u s) ⟨_,_,_,_,_,_,rfl,i0⟩ ?_ ?_ ?_)
    ·rintro j c s _ ⟨l,u,out,C,w,B,rfl,S,m,J,M,G,b4,b5⟩;obtain⟨p,rfl⟩: ∃n,u=n+1:=⟨u-1,by lia⟩
     dsimp only[ss1];apply Ic λ_ s=>Rp X d L s
     ·intro F;refine hW (λ_=>?_) λ_=>?_
      ·generalize C-1=g;exact F g s S
      ·exact F C s S
     intro g s S;refine Ay S λs S=>kA (x:=r[p]) (by simp) (jb (uF (T:=[]) (A:=q.take l) (R:=q.drop l) S.k (λz V=>hq z (uv V)) (hr _ (by simp)) (u1.sublist (uB _ _)) (by simp) rfl (by simp;lia) (by lia) λk hk W t2=>?_));dsimp only;apply E8 λout l s=>Rp X d L s/\Mg X X.ge (q++r) (q.take l).reverse (r.take (p+1)).reverse out/\0<l/\l<=q.length/\i+1+j+l+p<q.length+r.length/\ ∀y∈q.take l,X.le y r[p]
     ·intro F;have mk:=m.hk hk λx Y y U=>m.sw.hdH (x:=x) (by lia) (X.as _ _ (by simpa using t2 x Y)) y U;have O: ∀y∈q.take k,X.le y r[p]:=λy U=>by simpa using W y (by rwa [List.take_take,Nat.min_eq_left hk])
      refine hW (λe=>?_) λe=>?_
      ·refine hW (λH=>gC (.inl ⟨_,_,rfl,S,mk.endH (.inl (by simpa using H))⟩)) λH=>?_;generalize out++((ar X q).extract k l).reverse=out at mk ⊢;generalize ea:k=ic at mk O H ⊢;exact F out ic s ⟨S,mk,by simp at H;lia,by lia,by lia,O⟩
      ·obtain rfl:k=l:=by lia
       exact F out _ s ⟨S,m,J,M,by lia,O⟩
     rintro out na' s ⟨S,m,J,M,b5,O⟩;have v:=(m.sw.h1 (by lia) (by simpa using O)).sw;obtain⟨n,rfl⟩: ∃n,na'=n+1:=⟨na'-1,by lia⟩
     dsimp only[ss1];refine kA (x:=r[p]) (by simp) (hW (λe=>?_) λe=>kA (x:=q[n]) (by simp) (jb (uF (T:=[]) (A:=r.take p) (R:=r.drop p) S.k (λz V=>hr z (uv V)) (hq _ (by simp)) (u2.sublist (uB _ _)) (by simp) rfl (by simp;lia) (by lia) λD br W t2=>?_)))
     ·obtain rfl:p=1:=by simpa using e
      exact gC (.inl ⟨_,_,rfl,S,last v⟩)
     dsimp only;apply E8 λout u s=>Rp X d L s/\Mg X X.ge (q++r) (q.take (n+1)).reverse (r.take u).reverse out/\1<u/\u<=r.length/\i+1+j+(n+1)+u<q.length+r.length/\ ∀y∈r.take u,X.le y q[n]
     ·intro F;have mk:=(v.sw.hk br λx Y y U=>v.hdH (x:=x) (by lia) (t2 x Y) y U).sw;have P: ∀y∈r.take D,X.le y q[n]:=λy U=>X.as _ _ (W y (by rwa [List.take_take,Nat.min_eq_left br]));refine hW (λ_=>?_) λe3=>?_
      ·refine hW (λH=>?_) λH=>hW (λE=>gC (.inl ⟨_,_,rfl,S,mk.endH (.inr (by simpa using E))⟩)) λE=>?_
       ·obtain rfl:D=1:=by simpa using H
        exact gC (.inl ⟨_,_,rfl,S,last mk⟩)
       generalize out.push (X.it r[p])++((ar X r).extract D p).reverse=out at mk ⊢;generalize ea:D=ic at mk P H E ⊢;exact F out ic s ⟨S,mk,by simp at H E;lia,by lia,by lia,P⟩
      ·obtain rfl:D=p:=by lia
       exact F _ _ s ⟨S,v,by simp at e;lia,by lia,b5,P⟩
     rintro out u s ⟨S,m,G,b4,b5,O⟩;have v:=m.h1 (by lia) (by simpa using O);exact kA (x:=q[n]) (by simp) (hW (λe=>gC (.inl ⟨_,_,rfl,S,v.endH (.inl (by simpa using e))⟩)) λe=>hW (λ_=>gC (.inr ⟨_,_,_,_,_,_,rfl,S,v,by simp at e;lia,by lia,G,b4,by lia⟩)) λ_=>gC ⟨_,_,_,_,_,_,rfl,S,v,by simp at e;lia,by lia,G,b4,by lia⟩)
    ·rintro c s ⟨l,u,out,C,w,B,rfl,S,m,J,M,G,b4,b5⟩;exfalso;lia
    ·rintro c s (⟨out,t,rfl,hs⟩|⟨l,u,out,C,w,B,rfl,S,i0⟩)
     ·exact gC ⟨out,_,rfl,hs⟩
     ·exact Ay S λs S=>gC ⟨_,_,_,_,rfl,S,i0⟩
 ·rintro c s ⟨l,u,out,C,rfl,S,m,J,M,G,b4,b5⟩;exfalso;lia
 ·rintro c s ⟨out,t,rfl,S,m⟩;exact gC (h _ _ S m)
end
section
variable {X:Cs}{t:Type}{Q:t->SortSt->Prop}{st:ph}{d:Array (Nat×Nat×Nat)}{T A B R L:iP}{i j x y n s:Nat}{o C:List (List Nat)}{r w:List (Nat×Nat×Nat)}
theorem CM{c:Type}: ∀(m K T R:List c) (j a:Nat),a+j=T.length->K.length=m.length->(m.zipIdx j).foldl (λ(x:Array c) (p:c×Nat)=>x.setIfInBounds (a+p.2) p.1) (T++(K++R)).toArray=(T++(m++R)).toArray
 |[],K,T,R,j,a,h,b=>by rw[wg b];rfl
 |y::m,K,T,R,j,a,h,b=>by
  obtain⟨k,K,rfl⟩:=pG (l:=K) (by simp[b]);rw[List.zipIdx_cons,rm];have:=CM m K (T++[y]) R (j+1) a (by simp;lia) (by simpa using b);simpa[h] using this
def Rn(X:Cs):Nat->List (List Nat)->List (Nat×Nat×Nat)->Prop
 |_,[],[]=>True
 |s,A::o,p::r=>p.1=s/\p.2.1=A.length/\A≠[]/\A.Pairwise X.le/\Rn X (s+A.length) o r
 |_,_,_=>False
theorem Rn.cut: ∀{r:List (Nat×Nat×Nat)} {s:Nat} {o:List (List Nat)},Rn X s o (r++w)-> ∃a L2,o=a++L2/\Rn X (s+a.flatten.length) L2 w/\ ∀M q,Rn X (s+a.flatten.length) M q->Rn X s (a++M) (r++q)
 |[],s,o,h=>⟨[],o,rfl,h,λ_ _ h=>h⟩
 |p::r,s,[],h=>h.elim
 |p::r,s,A::o,h=>by
  obtain⟨h1,b,c,f,g⟩:=h;obtain⟨a,L2,rfl,k,l⟩:=Rn.cut g;have e:s+(A::a).flatten.length=s+A.length+a.flatten.length:=by simp;lia
  exact⟨A::a,L2,rfl,e▸k,λM q h=>⟨h1,b,c,f,l M q (e▸h)⟩⟩
def NL{s:ph}{f:PUnit->StateT SortSt Sem t}(h:wp X (f ⟨⟩) Q s):wp X (set s>>=f) Q st:=jb λ_ g=>by rw[StateT.run_set];exact gK ⟨g,h⟩
def upA(u:A.Pairwise X.le)(v:B.Pairwise X.le)(h: ∀a∈A,∀b∈B,X.le a b):(A++B).Pairwise X.le:=qY.mpr ⟨u,v,h⟩
theorem NG(a:L=T++(A++R))(b:i=T.length)(c:j=T.length+A.length):(ar X L).extract i j=ar X A:=by
 subst a b c;simp[ar,zY]
def M5{Q:Bool->SortSt->Prop}(S:Rp X d (o.flatten++R) st)(hr:Rn X 0 o d.toList)(hi:i+1<d.size)(h: ∀f7 bN gq,Rp X bN (gq.flatten++R) f7->Rn X 0 gq bN.toList->bN.size+1=d.size->gq.flatten.length=o.flatten.length->Q true f7):wp X (mergeAt' i) Q st:=by
 obtain⟨d⟩:=d
 obtain⟨G,⟨D,F,P⟩,⟨sb,K,dP⟩,Y,rfl,rfl⟩: ∃G x y Y,d=G++x::y::Y/\G.length=i:=by
  have hi:i+1<d.length:=hi;exact⟨d.take i,d[i],d[i+1],d.drop (i+2),by simp,by simp;lia⟩
 obtain⟨L1,L2,rfl,h2,h3⟩:=Rn.cut hr
 obtain⟨A,B,L2,rfl⟩: ∃A B L,L2=A::B::L:=by
  match L2,h2 with
  |A::B::L,_=>exact⟨A,B,L,rfl⟩
  |[A],h=>exact h.2.2.2.2.elim
  |[],h=>exact h.elim
 obtain⟨I,u6,a1,V,hb,dk,b1,W,h4⟩:=h2;dsimp only at I u6 hb dk;obtain⟨κ',a',p',g,f'⟩:=st;have e1:a'=_:=S.a;have e2:p'=_:=S.q;subst e1 e2;rw[show(L1++A::B::L2).flatten++R=L1.flatten++(A++(B++(L2.flatten++R))) by simp] at S ⊢
 have fin: ∀f7 M,Rp X (G++(D,F+K,P)::Y).toArray (L1.flatten++(M++(L2.flatten++R))) f7->M.Perm (A++B)->M.Pairwise X.le->Q true f7:=λf7 M U em u=>by
  have em:=em.length_eq;rw[mx,<-u6,<-dk] at em;refine h _ (G++(D,F+K,P)::Y).toArray (L1++M::L2) (by simpa using U) (h3 _ _ ⟨I,em.symm,λe=>a1 ?_,u,by rwa [em,u6,dk,<-ur]⟩) (by simp;lia) (by simp;lia);exact wg (by rw[e] at em;simp at em;lia)
 have ep: ∀z,((G++(D,F,P)::(sb,K,dP)::Y).toArray.setIfInBounds G.length z).eraseIdxIfInBounds (G.length+1)=(G++z::Y).toArray:=λz=>by simp[List.set_append,List.eraseIdx_append];intro;lia
 clear h h3 h4 hr;generalize L1.flatten=T at*;generalize L2.flatten++R=R at*;have hN: ∀z,z∈A\/z∈B->z<X.N:=λz l=>by simpa using S.p.mem_iff.mp (oh _ (by rcases l with h|h<;>simp[h]))
 obtain⟨y,B',eB⟩:=List.exists_cons_of_ne_nil b1
 have hy: ∀z∈B,X.le y z:=λz l=>by
  rw[eB] at W l;rcases js.mp l with rfl|l
  ·exact X.rf _
  ·exact(EY.mp W).1 z l
 refine mR ?_;dsimp only;rw[show(G++(D,F,P)::(sb,K,dP)::Y).toArray[G.length]?=some (D,F,P) by simp,show(G++(D,F,P)::(sb,K,dP)::Y).toArray[G.length+1]?=some (sb,K,dP) by simp];dsimp only;rw[ep];refine NL (kA (x:=y) (by rw[eB];exact ix0 (by lia)) (jb (uF S.k (λz h=>hN z (.inl h)) (hN y (.inr (by simp[eB]))) V rfl (by lia) u6.symm (by have:=M3.mpr a1;lia) λk hk t1 t2=>?_)));have S2:Rp X (G++(D,F+K,P)::Y).toArray (T++(A++(B++R))) (SortSt.mk' κ' (ar X (T++(A++(B++R)))) (G++(D,F+K,P)::Y).toArray g f'):=⟨rfl,S.k,S.f,rfl,S.p⟩
 have done:(∀a∈A,X.le a y)->Q true (SortSt.mk' κ' (ar X (T++(A++(B++R)))) (G++(D,F+K,P)::Y).toArray g f'):=λz=>fin _ (A++B) (by simpa using S2) (.refl _) (upA V W λa I b hb=>X.tr (z a I) (hy b hb));rw[u6] at hk;obtain⟨v,E,rfl,rfl⟩: ∃v E,A=v++E/\v.length=k:=⟨A.take k,A.drop k,by simp,by simp;lia⟩
 have t1: ∀z∈v,X.le z y:=λz l=>by simpa using t1 z (by simpa using l)
 have t2: ∀z∈E,X.le y z:=λz l=>X.as _ _ (by simpa using t2 z (by simpa using l));rw[mx] at u6 hb;dsimp only;rcases HD E with e|⟨A3,x,e⟩
 ·subst e;rw[gO (by simp[u6])];exact gC (done (by simpa using t1))
 rw[HC] at e;have l1:0<E.length:=by simp[e]
 rw[gZ (by simp;lia)];refine kA (x:=x) (by rw[e,show T++(v++(A3++[x])++(B++R))=T++((v++A3)++x::(B++R)) by simp];exact ix0 (by have:=mM List.length e;simp at this ⊢;lia)) (jb (uF (T:=T++(v++E)) (R:=R) S.k (λz h=>hN z (.inr h)) (hN x (.inl (by simp[e]))) W (by rw[<-oW]) (by simp;lia) dk.symm (by have:=M3.mpr b1;lia) λk2 br t3 t4=>?_));rw[dk] at br;obtain⟨H,O,rfl,rfl⟩: ∃H O,B=H++O/\H.length=k2:=⟨B.take k2,B.drop k2,by simp,by simp;lia⟩
 have v3: ∀z∈H,X.le z x:=λz l=>X.as _ _ (by simpa using t3 z (by simpa using l));have v4: ∀z∈O,X.le x z:=λz l=>by simpa using t4 z (by simpa using l)
 have lx: ∀a∈v++E,X.le a x:=by
  rw[e,<-oW] at V ⊢;exact Cu X.tr V (X.rf x)
 cases H with
 |nil=>exact gC (done λa I=>X.tr (lx a I) (v4 y (by simp[show O=y::B' from eB])))
 |cons b H=>
  obtain rfl:b=y:=(wd eB).1;refine hW (λc=>by simp at c) λ_=>?_;rw[NG (A:=E) (T:=T++v) (R:=b::H++O++R) (by simp) (by simp;lia) (by simp;lia),NG (A:=b::H) (T:=T++(v++E)) (R:=O++R) (by simp) (by simp;lia) (by simp;lia)]
  have Z: ∀J s,Rp X (G++(D,F+K,P)::Y).toArray (T++(v++E++(b::H++O++R))) s->Rs X (E++b::H) J->Q (failedOf s).isNone (setArr s (J.toList.zipIdx.foldl (λa x=>a.setIfInBounds (D+v.length+x.2) x.1) (arrOf s))):=λJ s U ho=>by
   obtain⟨M,rfl,u,hp⟩:=ho;rw[U.f,U.a];refine fin _ (v++(M++O)) ⟨?_,U.k,U.f,U.q,List.Perm.trans ?_ U.p⟩ ?_ ?_
   ·have:=CM (M.map X.it) ((E++b::H).map X.it) ((T++v).map X.it) ((O++R).map X.it) 0 (D+v.length) (by simp;lia) (by simpa using hp.length_eq.symm);simpa[ar] using this
   ·simpa using(((hp.append_right (O++R)).append_left v).append_left T)
   ·simpa using((hp.append_right O).append_left v)
   ·rw[qY] at V W;refine upA V.1 (upA u W.2.1 λa I c m=>?_) λa I c m=>?_
    ·rcases pE.mp (hp.mem_iff.mp I) with I|I
     ·exact X.tr (lx a (by simp[I])) (v4 c m)
     ·exact W.2.2 a I c m
    ·have m:c∈E\/c∈b::H++O:=by
      rcases pE.mp m with m|m
      ·rcases pE.mp (hp.mem_iff.mp m) with m|m
       ·exact .inl m
       ·exact .inr (Ar _ m)
      ·exact .inr (oh _ m)
     rcases m with m|m
     ·exact V.2.2 a I c m
     ·exact X.tr (t1 a I) (hy c m)
  have hd: ∀z∈E,X.le (b::H)[0] z:=t2;have top: ∀z∈b::H,X.le z E[E.length-1]:=λz l=>by subst e;simpa using v3 z l
  have l2:0<(b::H).length:=by simp
  have h3: ∀z∈E,z<X.N:=λz l=>hN z (.inl (by simp[l]));have h4: ∀z∈b::H,z<X.N:=λz l=>hN z (.inr (Ar _ l));have u1:=(qY.mp V).2.1;have u2:=(qY.mp W).1;exact hW (λc=>jb (Qp S2 u1 u2 h3 h4 l1 l2 hd top λJ s U ho=>rE (mR (gC (Z J s U ho))))) λc=>jb (Qr S2 u1 u2 h3 h4 l1 l2 hd top λJ s U ho=>rE (mR (gC (Z J s U ho))))
end
section
variable {X:Cs}{st:ph}{b:Array (Nat×Nat×Nat)}{A L:iP}
theorem Rn.mod{w:Nat}: ∀{c:List (Nat×Nat×Nat)} {s:Nat} {a:List (List Nat)} (i:Nat),Rn X s a c->Rn X s a (c.modify i λx=>(x.1,x.2.1,w))
 |[],s,a,i,h=>by cases i<;>exact h
 |p::c,s,[],i,h=>h.elim
 |p::c,s,A::a,0,h=>h
 |p::c,s,A::a,i+1,h=>⟨h.1,h.2.1,h.2.2.1,h.2.2.2.1,Rn.mod i h.2.2.2.2⟩
theorem Rn.le: ∀{c:List (Nat×Nat×Nat)} {s:Nat} {a:List (List Nat)},Rn X s a c->c.length<=a.flatten.length
 |[],s,a,h=>lj _
 |p::c,s,[],h=>h.elim
 |p::c,s,A::a,h=>by
  have:=Rn.le h.2.2.2.2;have:=M3.mpr h.2.2.1;simp at*;omega
theorem Rn.push{A:iP}{w:Nat}: ∀{d:List (Nat×Nat×Nat)} {s:Nat} {c:List (List Nat)},Rn X s c d->A≠[]->A.Pairwise X.le->Rn X s (c++[A]) (d++[(s+c.flatten.length,A.length,w)])
 |[],s,[],h,a,u=>⟨rfl,rfl,a,u,trivial⟩
 |[],s,A::c,h,a,u=>h.elim
 |p::d,s,[],h,a,u=>h.elim
 |p::d,s,B::c,h,a,u=>⟨h.1,h.2.1,h.2.2.1,h.2.2.2.1,by simpa[ur] using Rn.push (w:=w) h.2.2.2.2 a u⟩
def Ld{Q:Unit->SortSt->Prop}(S:Rp X #[] L st)(h: ∀E b L,Rp X b L E->L.Pairwise X.le->Q () E):wp X sortRuns' Q st:=by
 have H:(arrOf st).size=X.N:=by rw[S.a];simpa using S.p.length_eq
 have y: ∀{b L st},Rp X b L st->L.length=X.N:=λS=>by simpa using S.p.length_eq
 rw[sortRuns'_eq];refine mR ?_;rw[H];dsimp only;refine kP (λi c s=> ∃b,∃g:List (List Nat),∃R,c=(none,g.flatten.length)/\Rp X b (g.flatten++R) s/\Rn X 0 g b.toList/\i<=g.flatten.length) (λc s=>c.1=none/\ ∃b g,Rp X b g.flatten s/\Rn X 0 g b.toList) ⟨#[],[],L,rfl,S,trivial,lj _⟩ ?_ ?_ ?_
 ·rintro i c s t ⟨b,g,R,rfl,S,d,o⟩;have r:=y S;dsimp only;refine hW (λe=>?_) λe=>?_
  ·obtain rfl:R=[]:=wg (by simp at r e;omega);exact gC ⟨rfl,b,g,by simpa using S,d⟩
  obtain⟨x,R,rfl⟩:=pG (l:=R) (by simp at r e;omega);refine jb (Ie S rfl (by simp at r ⊢;omega) λA R s S a1 u T=>?_);apply Ic λn s=> ∃A R,n=A.length/\Rp X b (g.flatten++(A++R)) s/\A≠[]/\A.Pairwise X.le
  ·intro F;have J:=M3.mpr a1;refine hW (λe=>?_) λe=>?_
   ·refine qg (jb (NN S rfl rfl J (by simp at r;omega) (by omega) u λA R s S o u=>hW (λc=>by simp at c) λ_=>?_));generalize O:min (X.N-g.flatten.length) (minRun' X.N X.N 0)=n at o ⊢;exact F n s ⟨A,R,o.symm,S,by intro z;subst z;simp at o e;omega,u⟩
   ·exact F A.length s ⟨A,R,rfl,S,a1,u⟩
  rintro _ s ⟨A,R,rfl,S,a1,u⟩;refine mR ?_;apply M6 λs=> ∃b m,Rp X b (m.flatten++(A++R)) s/\Rn X 0 m b.toList/\m.flatten.length=g.flatten.length
  ·intro F;rw[S.q]
   cases b.back? with
   |none=>exact F s ⟨b,g,S,d,rfl⟩
   |some z=>
    refine kP (λ_ c s=>c=(none,())/\ ∃b m,Rp X b (m.flatten++(A++R)) s/\Rn X 0 m b.toList/\m.flatten.length=g.flatten.length) (λc s=>c=(none,())/\ ∃b m,Rp X b (m.flatten++(A++R)) s/\Rn X 0 m b.toList/\m.flatten.length=g.flatten.length) ⟨rfl,b,g,S,d,rfl⟩ ?_ (λ_ _ h=>h) ?_
    ·rintro j c s _ ⟨rfl,b,m,S,d,o⟩;refine mR ?_;rw[S.q]
     cases G:(if b.size>1 then b[b.size-2]? else none) with
     |none=>exact gC ⟨rfl,b,m,S,d,o⟩
     |some z=>
      refine hW (λ_=>gC ⟨rfl,b,m,S,d,o⟩) λ_=>jb (M5 S d ?_ λs v w S d _ I=>hW (λc=>by simp at c) λ_=>gC ⟨rfl,v,w,S,d,I.trans o⟩);split at G
      ·omega
      ·cases G
    ·rintro c s ⟨rfl,b,m,S,d,o⟩;exact rE (F _ ⟨_,m,⟨S.a,S.k,S.f,rfl,S.p⟩,by rw[S.q,Array.toList_modify];exact d.mod _,o⟩)
  ·rintro s ⟨b,m,S,d,o⟩;refine rE (gC ⟨_,m++[A],R,?_,⟨by simpa using S.a,S.k,S.f,rfl,by simpa using S.p⟩,?_,?_⟩)
   ·rw[List.flatten_append,mx,o];simp
   ·rw[S.q,Array.toList_push,<-o,<-Nat.zero_add m.flatten.length];exact d.push a1 u
   ·have:=M3.mpr a1;simp at*;omega
 ·rintro c s ⟨b,g,R,rfl,S,d,o⟩;have r:=y S;obtain rfl:R=[]:=wg (by simp at r o;omega);exact⟨rfl,b,g,by simpa using S,d⟩
 ·rintro⟨_,c⟩ s ⟨rfl,b,g,S,d⟩;have r:=y S;have M:=d.le;refine kP (λi c s=>c=(none,())/\ ∃b g,Rp X b g.flatten s/\Rn X 0 g b.toList/\(b.size<=1\/b.size+i<=X.N)) (λc s=>c=(none,())/\ ∃b g,Rp X b g.flatten s/\Rn X 0 g b.toList/\b.size<=1) ⟨rfl,b,g,S,d,.inr (by rw[ju] at M;omega)⟩ ?_ ?_ ?_
  ·rintro i c s _ ⟨rfl,b,g,S,d,t⟩;refine mR ?_;rw[S.q];refine hW (λe=>gC ⟨rfl,b,g,S,d,e⟩) λe=>jb (M5 (R:=[]) (by simpa using S) d ((λc:Bool=>show(if c=true then b.size-2-1 else b.size-2)+1<b.size by split<;>omega) _) λs v w S d H _=>hW (λc=>by simp at c) λ_=>gC ⟨rfl,v,w,by simpa using S,d,.inr (by omega)⟩)
  ·rintro c s ⟨rfl,b,g,S,d,t⟩;exact⟨rfl,b,g,S,d,by omega⟩
  ·rintro c s ⟨rfl,b,g,S,d,t⟩;refine gC (h s b _ S ?_);obtain⟨C⟩:=b
   match C,g,d,t with
   |[],[],_,_=>exact .nil
   |[p],[A],d,_=>simpa using d.2.2.2.1
   |p::[],A::B::g,d,_=>exact d.2.2.2.2.elim
   |[],A::g,d,_=>exact d.elim
   |p::C,[],d,_=>exact d.elim
   |p::U::C,g,d,t=>simp at t
end
end TS
namespace PX
open PySem PySem.Spec PyProof.Rows L2 PySem.SeqAt
open PySem.AutoSeq1 (wpAny_loadPart')
open PySem.MeetsSeq PySem.MeetsSeq2 PySem.MeetsSeq3
noncomputable def jw(op:CmpOp)(i j:Int):Bool:=match op with
 | .Lt=>decide (i<j)| .LtE=>decide (i<=j)| .Gt=>decide (i>j)|_=>decide (i>=j)
def tH(op:CmpOp):Prop:=op= .Lt\/op= .LtE\/op= .Gt\/op= .GtE
def MZ(op:CmpOp)(A:gS)(s:gA)(y x:gD)(b:Bool):Prop:= ∀(a:gY) (w:gP) (E:ip) (Q:ip),Q (.bool b) s->wpAny (model a w) A (richCompare op y x) Q E s
def yg(op:CmpOp)(A:gS)(s:gA)(fin:Bool):List (Value×Value)->Bool->Prop
 |[],r=>r=fin
 |(y,x)::iq,r=> ∃e,EqAt A s y x e/\(if e=true then yg op A s fin iq r else MZ op A s y x r)
def Il(l b:gw)(a i:lU)(n z:Nat)(dd B:Option Addr)(C v:pj)(r:Bool):
  Meets (Builtin.«tuple.__lt__» ⟨[.ref l,.ref b],[]⟩) (λA R s=>s.heap.get? l=some {cls:= .type "tuple",dict:=dd,data:= .seq a n,slots:=C}/\s.heap.get? b=some {cls:= .type "tuple",dict:=B,data:= .seq i z,slots:=v}/\
   yg .Lt A.in1 s (jw .Lt a.size i.size) (a.toList.zip i.toList) r/\R (.ok (.ret (.bool r))) s):=
 .of_wp λf w A R s h=>by
  obtain⟨m,g,d,o,os⟩:=s;obtain⟨u,q,c,h⟩:=h;have f2:=zV
  wp_walk using wpAny_loadPart' u,wpAny_loadPart' q,sd _ (λiq b k=>b.1=none/\k=⟨m,g,d,o,os⟩/\yg .Lt A.in1 ⟨m,g,d,o,os⟩ (jw .Lt a.size i.size) iq r) _
  case turn=>
   rintro⟨y,x⟩ iq b k ⟨j,rfl,e,t,c⟩;refine gy (t f w _ _ ?_)
   cases e with
   |true=>
    simp only[jy] at c
    wp_walk
    exact⟨rfl,rfl,c⟩
   |false=>
    simp only[iB,iK] at c;have p:=c f w
    wp_walk using p
    exact⟨_,rfl,by simpa using h⟩
  case fin=>
   rintro⟨E,G⟩ k ⟨j,rfl,c⟩;simp only at j;subst j;have c:r=jw .Lt a.size i.size:=c;rw[c] at h
   wp_walk
   exact⟨_,rfl,by simpa[Builtin.Tuple.tupleCompareSizes,jw] using h⟩
  case h=>exact⟨rfl,rfl,c⟩
def Im(l b:gw)(a i:lU)(n z:Nat)(dd B:Option Addr)(C v:pj)(r:Bool):
  Meets (Builtin.«tuple.__le__» ⟨[.ref l,.ref b],[]⟩) (λA R s=>s.heap.get? l=some {cls:= .type "tuple",dict:=dd,data:= .seq a n,slots:=C}/\s.heap.get? b=some {cls:= .type "tuple",dict:=B,data:= .seq i z,slots:=v}/\
   yg .LtE A.in1 s (jw .LtE a.size i.size) (a.toList.zip i.toList) r/\R (.ok (.ret (.bool r))) s):=
 .of_wp λf w A R s h=>by
  obtain⟨m,g,d,o,os⟩:=s;obtain⟨u,q,c,h⟩:=h;have f2:=zV
  wp_walk using wpAny_loadPart' u,wpAny_loadPart' q,sd _ (λiq b k=>b.1=none/\k=⟨m,g,d,o,os⟩/\yg .LtE A.in1 ⟨m,g,d,o,os⟩ (jw .LtE a.size i.size) iq r) _
  case turn=>
   rintro⟨y,x⟩ iq b k ⟨j,rfl,e,t,c⟩;refine gy (t f w _ _ ?_)
   cases e with
   |true=>
    simp only[jy] at c
    wp_walk
    exact⟨rfl,rfl,c⟩
   |false=>
    simp only[iB,iK] at c;have p:=c f w
    wp_walk using p
    exact⟨_,rfl,by simpa using h⟩
  case fin=>
   rintro⟨E,G⟩ k ⟨j,rfl,c⟩;simp only at j;subst j;have c:r=jw .LtE a.size i.size:=c;rw[c] at h
   wp_walk
   exact⟨_,rfl,by simpa[Builtin.Tuple.tupleCompareSizes,jw] using h⟩
  case h=>exact⟨rfl,rfl,c⟩
def Io(l b:gw)(a i:lU)(n z:Nat)(dd B:Option Addr)(C v:pj)(r:Bool):
  Meets (Builtin.«tuple.__gt__» ⟨[.ref l,.ref b],[]⟩) (λA R s=>s.heap.get? l=some {cls:= .type "tuple",dict:=dd,data:= .seq a n,slots:=C}/\s.heap.get? b=some {cls:= .type "tuple",dict:=B,data:= .seq i z,slots:=v}/\
   yg .Gt A.in1 s (jw .Gt a.size i.size) (a.toList.zip i.toList) r/\R (.ok (.ret (.bool r))) s):=
 .of_wp λf w A R s h=>by
  obtain⟨m,g,d,o,os⟩:=s;obtain⟨u,q,c,h⟩:=h;have f2:=zV
  wp_walk using wpAny_loadPart' u,wpAny_loadPart' q,sd _ (λiq b k=>b.1=none/\k=⟨m,g,d,o,os⟩/\yg .Gt A.in1 ⟨m,g,d,o,os⟩ (jw .Gt a.size i.size) iq r) _
  case turn=>
   rintro⟨y,x⟩ iq b k ⟨j,rfl,e,t,c⟩;refine gy (t f w _ _ ?_)
   cases e with
   |true=>
    simp only[jy] at c
    wp_walk
    exact⟨rfl,rfl,c⟩
   |false=>
    simp only[iB,iK] at c;have p:=c f w
    wp_walk using p
    exact⟨_,rfl,by simpa using h⟩
  case fin=>
   rintro⟨E,G⟩ k ⟨j,rfl,c⟩;simp only at j;subst j;have c:r=jw .Gt a.size i.size:=c;rw[c] at h
   wp_walk
   exact⟨_,rfl,by simpa[Builtin.Tuple.tupleCompareSizes,jw] using h⟩
  case h=>exact⟨rfl,rfl,c⟩
def Ip(l b:gw)(a i:lU)(n z:Nat)(dd B:Option Addr)(C v:pj)(r:Bool):
  Meets (Builtin.«tuple.__ge__» ⟨[.ref l,.ref b],[]⟩) (λA R s=>s.heap.get? l=some {cls:= .type "tuple",dict:=dd,data:= .seq a n,slots:=C}/\s.heap.get? b=some {cls:= .type "tuple",dict:=B,data:= .seq i z,slots:=v}/\
   yg .GtE A.in1 s (jw .GtE a.size i.size) (a.toList.zip i.toList) r/\R (.ok (.ret (.bool r))) s):=
 .of_wp λf w A R s h=>by
  obtain⟨m,g,d,o,os⟩:=s;obtain⟨u,q,c,h⟩:=h;have f2:=zV
  wp_walk using wpAny_loadPart' u,wpAny_loadPart' q,sd _ (λiq b k=>b.1=none/\k=⟨m,g,d,o,os⟩/\yg .GtE A.in1 ⟨m,g,d,o,os⟩ (jw .GtE a.size i.size) iq r) _
  case turn=>
   rintro⟨y,x⟩ iq b k ⟨j,rfl,e,t,c⟩;refine gy (t f w _ _ ?_)
   cases e with
   |true=>
    simp only[jy] at c
    wp_walk
    exact⟨rfl,rfl,c⟩
   |false=>
    simp only[iB,iK] at c;have p:=c f w
    wp_walk using p
    exact⟨_,rfl,by simpa using h⟩
  case fin=>
   rintro⟨E,G⟩ k ⟨j,rfl,c⟩;simp only at j;subst j;have c:r=jw .GtE a.size i.size:=c;rw[c] at h
   wp_walk
   exact⟨_,rfl,by simpa[Builtin.Tuple.tupleCompareSizes,jw] using h⟩
  case h=>exact⟨rfl,rfl,c⟩
section
variable {A:gS}{s:gA}{l b:gw}{a c:lU}{r:Bool}
def IJ(B:tH op)(z:s.heap.IsTuple l a)(y:s.heap.IsTuple b c)(g:A.units<cLine)(i:yg op A.in1 s (jw op a.size c.size) (a.toList.zip c.toList) r):MZ op A s (.ref l) (.ref b) r:=λt w E Q h=>by
 obtain⟨⟨v,dd,p,o⟩,e,q,n,hd⟩:=id z;obtain⟨⟨C,m,data2,j⟩,d,u,k,f⟩:=id y;simp only at q hd u f;subst q hd u f;rcases B with rfl|rfl|rfl|rfl
 ·exact zU (op:= .Lt) ⟨_,e,rfl⟩ ⟨_,d,rfl⟩ PySem.F.slot_tuple_lt PySem.F.entry_tuple_lt (PySem.F.args_tuple_lt_2 _ _) (Il l b a c n k dd m o j r) ⟨e,d,i,show Value.bool r≠Value.notImplemented/\Q (.bool r) s from⟨(λx=>nomatch x),h⟩⟩ g
 ·exact zU (op:= .LtE) ⟨_,e,rfl⟩ ⟨_,d,rfl⟩ PySem.F.slot_tuple_le PySem.F.entry_tuple_le (PySem.F.args_tuple_le_2 _ _) (Im l b a c n k dd m o j r) ⟨e,d,i,show Value.bool r≠Value.notImplemented/\Q (.bool r) s from⟨(λx=>nomatch x),h⟩⟩ g
 ·exact zU (op:= .Gt) ⟨_,e,rfl⟩ ⟨_,d,rfl⟩ PySem.F.slot_tuple_gt PySem.F.entry_tuple_gt (PySem.F.args_tuple_gt_2 _ _) (Io l b a c n k dd m o j r) ⟨e,d,i,show Value.bool r≠Value.notImplemented/\Q (.bool r) s from⟨(λx=>nomatch x),h⟩⟩ g
 ·exact zU (op:= .GtE) ⟨_,e,rfl⟩ ⟨_,d,rfl⟩ PySem.F.slot_tuple_ge PySem.F.entry_tuple_ge (PySem.F.args_tuple_ge_2 _ _) (Ip l b a c n k dd m o j r) ⟨e,d,i,show Value.bool r≠Value.notImplemented/\Q (.bool r) s from⟨(λx=>nomatch x),h⟩⟩ g
end
mutual
noncomputable def lC(a:CmpOp):D->D->Option Bool
 | .int i,.int j=>some (jw a i j)
 | .tup l,.tup m=>oS a l m
 |_,_=>none
noncomputable def oS(a:CmpOp):List D->List D->Option Bool
 |[],m=>some (jw a 0 m.length)
 |x::l,[]=>some (jw a ((x::l).length) 0)
 |x::l,y::m=>if D.eqb x y=true then oS a l m else lC a x y
end
theorem oN(c:CmpOp)(a b k:Int):jw c (a+k) (b+k)=jw c a b:=by
 cases c<;>simp[jw]
section
variable {X:Cx}{c:ig}{f:L2.St}{H:Hp}{s:gA}
def B7(b:tH op):MZ op A s (.int i t) (.int j u) (jw op i j):=λa w E Q h=>by
 rcases b with rfl|rfl|rfl|rfl
 ·exact(PyProof.Rows.lt_int h:wpAny (model a w) A (compareOp .Lt _ _) Q E s)
 ·exact(PyProof.Rows.le_int h:wpAny (model a w) A (compareOp .LtE _ _) Q E s)
 ·exact(PyProof.Rows.gt_int h:wpAny (model a w) A (compareOp .Gt _ _) Q E s)
 ·exact(PyProof.Rows.ge_int h:wpAny (model a w) A (compareOp .GtE _ _) Q E s)
def IK(T:tH op)(I:Inv X c f H s): ∀(n:Nat) (d e:D) (v u:V) (a b:gD) (O B:AP') (A:gS) (r:Bool),iU X.K H O d v->iU X.K H B e u->RelV v a->RelV u b->d.dep<=n->e.dep<20000->A.units+n<cLine->lC op d e=some r->MZ op A s a b r:=by
 intro n
 induction n with
 |zero=>
  intro d e v u a b O B A r hd L M N Q R hA g
  cases d with
  |int i=>
   cases e with
   |int j=>
    have:=hZ hd;subst this;have:=hZ L;subst this;obtain⟨t,rfl⟩:=M;obtain⟨t',rfl⟩:=N;rw[lC] at g;rw[<-ji g];exact B7 T
   |_=>rw[lC] at g<;>first|cases g|(intros;simp_all)
  |tup l=>rw[D.dep] at Q;omega
  |_=>rw[lC] at g<;>first|cases g|(intros;simp_all)
 |succ n ih=>
  intro d e v u a b O B A r hd L M N Q R hA g
  cases d with
  |int i=>
   cases e with
   |int j=>
    have:=hZ hd;subst this;have:=hZ L;subst this;obtain⟨t,rfl⟩:=M;obtain⟨t',rfl⟩:=N;rw[lC] at g;rw[<-ji g];exact B7 T
   |_=>rw[lC] at g<;>first|cases g|(intros;simp_all)
  |tup l=>
   cases e with
   |tup m=>
    rw[lC] at g;rw[D.dep] at Q R;obtain⟨p,E,rfl,q,z⟩:=jZ hd;obtain⟨p2,G,rfl,q2,h⟩:=jZ L;cases M;cases N;obtain⟨o,J,pl,_⟩:=I.tuple q;obtain⟨w,C,g0,_⟩:=I.tuple q2;have P:A.in1.units=A.units+1:=rfl
    have Y: ∀(l m:List D) (E G:List V) (o w:iF) (k:Int),D.depL l+1<=n+1->D.depL m<20000->RepL X.K H O l E->RepL X.K H B m G->Vals E o->Vals G w->oS op l m=some r->yg op A.in1 s (jw op (o.length+k) (w.length+k)) (o.zip w) r:=by
     intro l
     induction l with
     |nil=>
      intro m E G o w k Z y9 z h J C g;rw[RepL] at z;subst z;cases J;rw[oS] at g;have e1:=h.length;have e2:=C.length;show r=_;rw[oN,<-ji g]
      congr 1
      omega
     |cons x l U=>
      intro m E G o w k Z y9 z h J C g;rw[RepL] at z;obtain⟨S,xr,rfl,g1,g2⟩:=z
      cases J with
      |cons a1 a2=>
       cases m with
       |nil=>
        rw[RepL] at h;subst h;cases C;rw[oS] at g;have e1:=g2.length;have e2:=a2.length;rw[List.zip_nil_right];show r=_;rw[oN,<-ji g]
        congr 1
        simp only[kO];omega
       |cons y m=>
        rw[RepL] at h;obtain⟨W,yr,rfl,g3,g4⟩:=h
        cases C with
        |cons b1 b2=>
         rw[oS] at g;rw[D.depL] at Z y9;rw[rl];refine⟨D.eqb x y,xP I n x y S W _ _ O B A.in1 (.inl g1) (.inl g3) a1 b1 (by omega) (by omega) (by rw[P];omega),?_⟩
         cases F:D.eqb x y with
         |true=>
          rw[F,gO rfl] at g;rw[gO rfl];have:=U m xr yr _ _ (k+1) (by omega) (by omega) g2 g4 a2 b2 g;simp only[kO];have e: ∀a:Nat,(((a+1:Nat):Int)+k)=(a:Int)+(k+1):=λa=>by omega
          rw[e,e];exact this
         |false=>
          rw[F,gZ jA] at g;rw[gZ jA];exact ih x y S W _ _ O B A.in1 r (.inl g1) (.inl g3) a1 b1 (by omega) (by omega) (by rw[P];omega) g
    have:=Y l m E G o w 0 (by omega) (by omega) z h J C g;refine IJ T pl g0 (by omega) ?_;simpa using this
   |_=>rw[lC] at g<;>first|cases g|(intros;simp_all)
  |_=>rw[lC] at g<;>first|cases g|(intros;simp_all)
def kd(a:CmpOp)(d e:D):Option (D×Bool):=if d.dep<=50/\e.dep<=50 then(lC a d e).map λb=>(.bl b,false) else none
def kI(b:tH op)(l:X.A.units+60<cLine):OpR X (compareOp op) (rD X.K (kd op)):=by
 intro c s f H x y v u Q I j k h;obtain⟨O,d,e,z,np,h1,g,a,G⟩:=h;unfold kd at a;split at a
 ·rename_i hd;obtain⟨r,i,rfl⟩:=ir a;have:=IK b I 50 d e x y v u O O X.A r h1 g j k hd.1 (by omega) (by omega) i X.prog X.w X.xe (EP X c f Q) ⟨.bl r,H,I,rfl,G.bl⟩;rcases b with rfl|rfl|rfl|rfl<;>exact this
 ·cases a
end
open TS
section
variable {b:gY}{w:gP}{A:gS}{E:ip}{s:gA}
def oq(h:gR)(a:gw)(c:iF):Heap:=((h.update a (Obj.mapSeq λ_=> #[])).push (seqObj "tuple" c.toArray 0)).push (seqObj "list" #[] 0)
def Kc(a:iF)(i:Nat):Keyed:=(a.getD i Value.none,a.getD i Value.none)
def qQ{a:gw}{c:iF}{n:Nat}{P:PySem.Fin->Shared->Prop}{κ:SortKind}{lt:Nat->Nat->Bool}(t:s.heap.get? a=some (seqObj "list" c.toArray n))(B:c.length<=sizeLine)(I: ∀i j,lt i j=true->lt j i=false)(O: ∀{i j k},lt j i=false->lt k j=false->lt k i=false)
  (hk:2<=c.length->wpAny (model b w) A (keyKind' c.toArray) (λg d=>d={s with heap:=oq s.heap a c}/\g=κ) (λ_ _=>False) {s with heap:=oq s.heap a c})
  (ask:2<=c.length->Ask (model b w) A (λd=>d={s with heap:=oq s.heap a c}) (Kc c) κ c.length lt)
  (h: ∀p:List Nat,p.Perm (List.range c.length)->p.Pairwise (λi j=>lt j i=false)->P (.done (.ret .none)) {s with heap:=(oq s.heap a c).update a (Obj.mapSeq λ_=>(p.map λi=>c.getD i Value.none).toArray)}):
  wpAny (model b w) A (Builtin.«list.sort» ⟨[.ref a],[]⟩) P E s:=by
 rw[list_sort_plain];have U:a<s.heap.objs.size:=iV t;refine gy (listItems_at t rfl (gy (Dy t rfl ?_ (by rw[iE];exact B) (lj _))));obtain⟨v,C⟩: ∃v,(s.heap.update a (Obj.mapSeq λ_=>(#[]:Array Value))).get? a=some (seqObj "list" #[] v):=⟨_,Dx t λ_=> #[]⟩
 refine gy (Dw C rfl (gy (wpAny_newTuple ?_ (by show c.length<=_;exact B))));refine gy (wpAny_newList ?_ (lj _));refine lV ?_;have q:(oq s.heap a c).get? a=some (seqObj "list" #[] v):=jd _ (jd _ C);show wpAny (model b w) A _ P E {s with heap:=oq s.heap a c};dsimp only;by_cases l:c.toArray.size<2
 ·rw[gO l,gO l];refine gy (gK ?_);rw[StateT.run_pure];refine gy (gK ?_);dsimp only;refine gy (Dw q rfl (gy (Dy q rfl ?_ (lj _) ?_)))
  ·simp only[sj,iB,iK];refine gK ?_;have u:c.length<2:=by simpa using l
   have:=h (List.range c.length) (uq _) (by
    rw[K7];intro i j m M Y;simp at m M;omega)
   have e:((c.toArray.zip c.toArray).map (·.2))=((List.range c.length).map λi=>c.getD i Value.none).toArray:=by
    apply Array.ext
    ·simp
    ·intro i h1 J;have m:i<c.length:=by simpa using h1
     simp[m]
   rw[e];exact this
  ·rw[Array.size_map,Array.size_zip];simp;omega
 ·rw[gZ l,gZ l];have u:2<=c.length:=by simpa using l
  refine gy (mO (hk u) (λg d z=>?_) λ_ _ x=>x.elim);obtain⟨rfl,rfl⟩:=z;refine gy (mO (Ld (X:=⟨_,A,E,λd=>d={s with heap:=oq s.heap a c},Kc c,lt,g,c.length,I,O,ask u⟩) (L:=List.range c.length) ⟨?_,rfl,rfl,rfl,.refl _⟩ (Q:=λ_ r=> ∃p,(arrOf r).map (·.2)=(p.map λi=>c.getD i Value.none).toArray/\failedOf r=none/\p.Perm (List.range c.length)/\p.Pairwise λi j=>lt j i=false) (λr _ p R y=>⟨p,?_,R.f,R.p,y⟩) _ rfl) ?_ λ_ _ e=>e)
  ·show c.toArray.zip c.toArray=_;apply Array.ext
   ·simp
   ·intro i h1 J;have m:i<c.length:=by simpa using h1
    simp[Kc,m]
  ·rw[R.a];simp[Kc]
  rintro⟨⟨⟩,r⟩ d ⟨rfl,G,o,T,H,y⟩;dsimp only;have N:G.length=c.length:=by simpa using H.length_eq
  refine gy (Dw q rfl (gy (Dy q rfl ?_ (lj _) ?_)))
  ·rw[T];simp only[sj,iB,iK];rw[o];exact gK (h G H y)
  ·rw[o,iE,jt,N];omega
end
mutual
def cT:D->D->Ordering
 | .int i,.int j=>if i<j then .lt else if i=j then .eq else .gt
 | .int _,_=> .lt
 | .tup _,.int _=> .gt
 | .tup l,.tup m=>cL l m
 | .tup _,_=> .lt
 |_,.int _=> .gt
 |_,.tup _=> .gt
 |_,_=> .eq
def cL:List D->List D->Ordering
 |[],[]=> .eq
 |[],_::_=> .lt
 |_::_,[]=> .gt
 |x::l,y::m=>match cT x y with
  | .lt=> .lt
  | .gt=> .gt
  | .eq=>cL l m
end
mutual
theorem F4: ∀x:D,cT x x= .eq
 | .int i=>by simp[cT]
 | .tup l=>by rw[cT];exact F6 l
 | .non=>by simp[cT]
 | .bl _=>by simp[cT]
 | .str _=>by simp[cT]
 | .lst _=>by simp[cT]
 | .oth _ _ _=>by simp[cT]
theorem F6: ∀l:List D,cL l l= .eq
 |[]=>by simp[cL]
 |x::l=>by rw[cL,F4 x];exact F6 l
end
mutual
theorem ud: ∀x y:D,cT y x=(cT x y).swap
 | .int i,.int j=>by
  rw[cT,cT];by_cases h1:i<j
  ·rw[gO h1,gZ (by omega),gZ (by omega)];rfl
  ·rw[gZ h1];by_cases a:i=j
   ·rw[gO a,gZ (by omega),gO a.symm];rfl
   ·rw[gZ a,gO (by omega)];rfl
 | .tup l,.tup m=>by rw[cT,cT];exact F5 l m
 | .int _,.tup _=>by simp[cT]
 | .int _,.non=>by simp[cT]
 | .int _,.bl _=>by simp[cT]
 | .int _,.str _=>by simp[cT]
 | .int _,.lst _=>by simp[cT]
 | .int _,.oth _ _ _=>by simp[cT]
 | .tup _,.int _=>by simp[cT]
 | .tup _,.non=>by simp[cT]
 | .tup _,.bl _=>by simp[cT]
 | .tup _,.str _=>by simp[cT]
 | .tup _,.lst _=>by simp[cT]
 | .tup _,.oth _ _ _=>by simp[cT]
 | .non,y=>by cases y<;>simp[cT]
 | .bl _,y=>by cases y<;>simp[cT]
 | .str _,y=>by cases y<;>simp[cT]
 | .lst _,y=>by cases y<;>simp[cT]
 | .oth _ _ _,y=>by cases y<;>simp[cT]
theorem F5: ∀l m:List D,cL m l=(cL l m).swap
 |[],[]=>by simp[cL]
 |[],_::_=>by simp[cL]
 |_::_,[]=>by simp[cL]
 |x::l,y::m=>by
  rw[cL,cL,ud x y];cases h:cT x y<;>simp[Ordering.swap]
  exact F5 l m
end
def JX(h1:cT x y≠ .gt)(a:cT y x≠ .gt):cT x y= .eq:=by
 rw[ud x y] at a
 cases h:cT x y with
 |lt=>rw[h] at a;exact absurd rfl a
 |eq=>rfl
 |gt=>exact absurd h h1
mutual
theorem uc: ∀x y z:D,cT x y≠ .gt->cT y z≠ .gt->cT x z≠ .gt
 | .int i,y,z,h1,d=>by
  cases z with
  |int k=>
   cases y with
   |int j=>
    rw[cT] at h1 d ⊢
    have a:i<=j:=by
     by_cases a:i<j
     ·omega
     ·rw[gZ a] at h1;by_cases b:i=j
      ·omega
      ·rw[gZ b] at h1;exact absurd rfl h1
    have b:j<=k:=by
     by_cases a:j<k
     ·omega
     ·rw[gZ a] at d;by_cases b:j=k
      ·omega
      ·rw[gZ b] at d;exact absurd rfl d
    by_cases c:i<k
    ·rw[gO c];simp
    ·rw[gZ c,gO (by omega)];simp
   |_=>simp[cT] at d
  |_=>simp[cT]
 | .tup l,y,z,h1,d=>by
  cases y with
  |int j=>simp[cT] at h1
  |tup m=>
   cases z with
   |int k=>simp[cT] at d
   |tup n=>rw[cT] at h1 d ⊢;exact C4 l m n h1 d
   |_=>simp[cT]
  |_=>cases z<;>simp_all [cT]
 | .non,y,z,h1,d=>by cases y<;>cases z<;>simp_all [cT]
 | .bl _,y,z,h1,d=>by cases y<;>cases z<;>simp_all [cT]
 | .str _,y,z,h1,d=>by cases y<;>cases z<;>simp_all [cT]
 | .lst _,y,z,h1,d=>by cases y<;>cases z<;>simp_all [cT]
 | .oth _ _ _,y,z,h1,d=>by cases y<;>cases z<;>simp_all [cT]
 termination_by x y z=>sizeOf x+sizeOf y+sizeOf z
theorem C4: ∀l m n:List D,cL l m≠ .gt->cL m n≠ .gt->cL l n≠ .gt
 |[],m,n,_,_=>by cases n<;>simp[cL]
 |x::l,[],n,h1,_=>by simp[cL] at h1
 |x::l,y::m,[],_,a=>by simp[cL] at a
 |x::l,y::m,z::n,h1,a=>by
  have a1:cT x y≠ .gt:=λh=>by rw[cL,h] at h1;exact h1 rfl
  have c:cT y z≠ .gt:=λh=>by rw[cL,h] at a;exact a rfl
  have g:=uc x y z a1 c;rw[cL]
  cases b:cT x z with
  |lt=>simp
  |gt=>exact absurd b g
  |eq=>
   have f:cT z x≠ .gt:=by rw[ud x z,b];simp[Ordering.swap]
   have d:cT x y= .eq:=JX a1 (uc y z x c f);have e:cT y z= .eq:=JX c (uc z x y f a1);rw[cL,d] at h1;rw[cL,e] at a;exact C4 l m n h1 a
 termination_by l m n=>sizeOf l+sizeOf m+sizeOf n
end
def ltT(x y:D):Bool:=cT x y== .lt
theorem Rl:ltT x y=true↔cT x y= .lt:=by simp[ltT]
theorem uN:ltT x y=false↔cT x y≠ .lt:=by simp[ltT]
theorem Nr:ltT y x=false↔cT x y≠ .gt:=by rw[uN,ud x y];cases cT x y<;>simp[Ordering.swap]
def RN(x y:D)(h:ltT x y=true):ltT y x=false:=by rw[Nr,Rl.mp h];simp
def Qu(h1:ltT y x=false)(a:ltT z y=false):ltT z x=false:=Nr.mpr (uc _ _ _ (Nr.mp h1) (Nr.mp a))
mutual
/-- ints,and tuples of such -/
def D.pr:D->Bool
 | .int _=>true
 | .tup l=>D.prL l
 |_=>false
def D.prL:List D->Bool
 |[]=>true
 |x::l=>D.pr x&&D.prL l
end
mutual
theorem EF: ∀x y:D,D.pr x=true->D.pr y=true->D.eqb x y=(cT x y== .eq)
 | .int i,.int j,_,_=>by
  rw[D.eqb,cT];by_cases h:i=j
  ·subst h;simp
  ·rw[gZ h];by_cases a:i<j<;>simp[h,a]
 | .int _,.tup _,_,_=>by simp[D.eqb,cT]
 | .tup _,.int _,_,_=>by simp[D.eqb,cT]
 | .tup l,.tup m,h1,a=>by rw[D.eqb,cT];rw[D.pr] at h1 a;exact FX l m h1 a
 | .non,_,h,_=>by simp[D.pr] at h
 | .bl _,_,h,_=>by simp[D.pr] at h
 | .str _,_,h,_=>by simp[D.pr] at h
 | .lst _,_,h,_=>by simp[D.pr] at h
 | .oth _ _ _,_,h,_=>by simp[D.pr] at h
 |_,.non,_,h=>by simp[D.pr] at h
 |_,.bl _,_,h=>by simp[D.pr] at h
 |_,.str _,_,h=>by simp[D.pr] at h
 |_,.lst _,_,h=>by simp[D.pr] at h
 |_,.oth _ _ _,_,h=>by simp[D.pr] at h
theorem FX: ∀l m:List D,D.prL l=true->D.prL m=true->D.eqbL l m=(cL l m== .eq)
 |[],[],_,_=>by simp[D.eqbL,cL]
 |[],_::_,_,_=>by simp[D.eqbL,cL]
 |_::_,[],_,_=>by simp[D.eqbL,cL]
 |x::l,y::m,h1,a=>by
  rw[D.prL,ko] at h1 a;rw[D.eqbL,cL,EF x y h1.1 a.1,FX l m h1.2 a.2];cases cT x y<;>simp
end
mutual
theorem ue: ∀x y:D,D.pr x=true->D.pr y=true->cT x y= .eq->x=y
 | .int i,.int j,_,_,h=>by
  rw[cT] at h;by_cases h1:i<j
  ·rw[gO h1] at h;cases h
  ·rw[gZ h1] at h;by_cases c:i=j
   ·rw[c]
   ·rw[gZ c] at h;cases h
 | .tup l,.tup m,a,b,h=>by rw[cT] at h;rw[D.pr] at a b;rw[C5 l m a b h]
 | .int _,.tup _,_,_,h=>by simp[cT] at h
 | .tup _,.int _,_,_,h=>by simp[cT] at h
 | .non,_,a,_,_=>by simp[D.pr] at a
 | .bl _,_,a,_,_=>by simp[D.pr] at a
 | .str _,_,a,_,_=>by simp[D.pr] at a
 | .lst _,_,a,_,_=>by simp[D.pr] at a
 | .oth _ _ _,_,a,_,_=>by simp[D.pr] at a
 |_,.non,_,a,_=>by simp[D.pr] at a
 |_,.bl _,_,a,_=>by simp[D.pr] at a
 |_,.str _,_,a,_=>by simp[D.pr] at a
 |_,.lst _,_,a,_=>by simp[D.pr] at a
 |_,.oth _ _ _,_,a,_=>by simp[D.pr] at a
theorem C5: ∀l m:List D,D.prL l=true->D.prL m=true->cL l m= .eq->l=m
 |[],[],_,_,_=>rfl
 |[],_::_,_,_,h=>by simp[cL] at h
 |_::_,[],_,_,h=>by simp[cL] at h
 |x::l,y::m,a,b,h=>by
  rw[D.prL,ko] at a b;rw[cL] at h
  cases e:cT x y with
  |eq=>rw[e] at h;rw[ue x y a.1 b.1 e,C5 l m a.2 b.2 h]
  |lt=>rw[e] at h;cases h
  |gt=>rw[e] at h;cases h
end
mutual
theorem Bh: ∀x y:D,D.pr x=true->D.pr y=true-> ∀b,lC .Lt x y=some b->b=ltT x y
 | .int i,.int j,_,_,b,h=>by
  rw[lC] at h;rw[<-ji h,ltT,cT,jw];by_cases h1:i<j
  ·simp[h1]
  ·rw[gZ h1];by_cases a:i=j<;>simp[h1,a]
 | .int _,.tup _,_,_,b,h=>by simp[lC] at h
 | .tup _,.int _,_,_,b,h=>by simp[lC] at h
 | .tup l,.tup m,h1,a,b,h=>by
  rw[lC] at h;rw[D.pr] at h1 a;rw[ltT,cT];exact FZ l m h1 a b h
 | .non,_,h,_,_,_=>by simp[D.pr] at h
 | .bl _,_,h,_,_,_=>by simp[D.pr] at h
 | .str _,_,h,_,_,_=>by simp[D.pr] at h
 | .lst _,_,h,_,_,_=>by simp[D.pr] at h
 |_,.non,_,h,_,_=>by simp[D.pr] at h
 |_,.bl _,_,h,_,_=>by simp[D.pr] at h
 |_,.str _,_,h,_,_=>by simp[D.pr] at h
 |_,.lst _,_,h,_,_=>by simp[D.pr] at h
theorem FZ: ∀l m:List D,D.prL l=true->D.prL m=true-> ∀b,oS .Lt l m=some b->b=(cL l m== .lt)
 |[],[],_,_,b,h=>by rw[oS] at h;rw[<-ji h];simp[jw,cL]
 |[],_::_,_,_,b,h=>by rw[oS] at h;rw[<-ji h];simp[jw,cL]<;>omega
 |_::_,[],_,_,b,h=>by rw[oS] at h;rw[<-ji h];simp[jw,cL]<;>omega
 |x::l,y::m,h1,a,b,h=>by
  rw[D.prL,ko] at h1 a;rw[oS,EF x y h1.1 a.1] at h;rw[cL]
  cases c:cT x y with
  |eq=>rw[c] at h;simp at h;exact FZ l m h1.2 a.2 b h
  |lt=>rw[c] at h;simp at h;have:=Bh x y h1.1 a.1 b h;rw[this,ltT,c]
  |gt=>rw[c] at h;simp at h;have:=Bh x y h1.1 a.1 b h;rw[this,ltT,c]
end
section
variable {a:Type}(lt:a->a->Bool)
def GU(x:a):List a->List a
 |[]=>[x]
 |y::l=>if lt y x=true then y::GU x l else x::y::l
def pP:List a->List a
 |[]=>[]
 |x::l=>GU lt x (pP l)
theorem uR(x:a): ∀l:List a,(GU lt x l).Perm (x::l)
 |[]=>uq _
 |y::l=>by
  rw[GU];split
  ·exact((uR x l).cons y).trans (List.Perm.swap x y l)
  ·exact uq _
theorem kY: ∀l:List a,(pP lt l).Perm l
 |[]=>uq _
 |x::l=>(uR lt x _).trans ((kY l).cons x)
end
theorem CB{x:D}: ∀{l:List D},(l.Pairwise λx y=>ltT y x=false)->(GU ltT x l).Pairwise λx y=>ltT y x=false
 |[],_=>HE _ _
 |y::l,h=>by
  have h:=EY.mp h;rw[GU]
  cases b:ltT y x with
  |true=>
   refine EY.mpr ⟨λz a=>?_,CB h.2⟩;rcases js.mp ((uR ltT x l).mem_iff.mp a) with rfl|a
   ·exact RN _ _ b
   ·exact h.1 z a
  |false=>
   refine EY.mpr ⟨λz a=>?_,EY.mpr h⟩;rcases js.mp a with rfl|a
   ·exact b
   ·exact Qu b (h.1 z a)
theorem oo: ∀l:List D,(pP ltT l).Pairwise λx y=>ltT y x=false
 |[]=>List.Pairwise.nil
 |x::l=>CB (oo l)
theorem srt_eq{l m:List D}(h: ∀x∈m,D.pr x=true)(a:l.Perm m)(c:l.Pairwise λx y=>ltT y x=false):l=pP ltT m:=
 List.Perm.eq_of_pairwise (λx y d e h1 b=>ue x y (h x (a.mem_iff.mp d)) (h y ((kY ltT m).mem_iff.mp e)) (JX (Nr.mp h1) (Nr.mp b))) c (oo m) (a.trans (kY ltT m).symm)
def Gm{a:List D}{p:iP}(pr: ∀x∈a,D.pr x=true)(d:p.Perm (List.range a.length))(f:p.Pairwise λi j=>ltT (a.getD j .non) (a.getD i .non)=false):p.map (λi=>a.getD i .non)=pP ltT a:=by
 have e:(List.range a.length).map (λi=>a.getD i .non)=a:=by
  apply Ad;intro i;by_cases c:i<a.length<;>simp[c]
 have b:=d.map λi=>a.getD i .non;rw[e] at b;exact srt_eq pr b (Bx.mpr f)
def kb:D->Option Nat
 | .int _=>some 0
 | .tup (.int _::_)=>some 1
 | .tup (.tup _::_)=>some 2
 |_=>none
def FL:Nat->SortKind
 |0=>oneType'
 |1=>tuples' true
 |_=>tuples' false
structure SortsBy(k:Nat)(l:List D):Prop where
 hd: ∀x∈l,kb x=some k
 pr: ∀x∈l,D.pr x=true
 dp: ∀x∈l,x.dep<=50
 cm: ∀x∈l,∀y∈l,(lC .Lt x y).isSome=true
def md(l:List D):Bool:=l.length<=1||match l with
 |[]=>true
 |x::_=>(kb x).isSome&&(l.all λy=>kb y==kb x&&D.pr y&&decide (y.dep<=50))&&l.all λy=>l.all λz=>(lC .Lt y z).isSome
def yM(h:md l=true):l.length<=1\/ ∃k,SortsBy k l:=by
 unfold md at h;rw[uo] at h;rcases h with h|h
 ·left;simpa using h
 ·right
  cases l with
  |nil=>exact⟨0,λx a=>absurd a ke,λx a=>absurd a ke,λx a=>absurd a ke,λx a=>absurd a ke⟩
  |cons x m=>
   simp only[ko,nu,rp] at h;obtain⟨⟨h1,c⟩,d⟩:=h;obtain⟨k,hk⟩:=Hd.mp h1;refine⟨k,λy b=>?_,λy b=>(c y b).1.2,λy b=>(c y b).2,λy b z e=>d y b z e⟩;have:=(c y b).1.1;rw[hk] at this;simpa using this
section
variable {X:Cx}{d:ig}{f:L2.St}{H:Hp}{s:gA}
def qj(v:Vals xs a)(b:i<a.length):RelV (xs.getD i .non) (a.getD i Value.none):=by
 have e:=v.length;have h:xs[i]?=some xs[i]:=jm (by omega);obtain⟨w,c,j⟩:=v.get h;have h1:xs.getD i .non=xs[i]:=by simp[show i<xs.length by omega]
 have g:a.getD i Value.none=w:=by
  rw[jm b] at c;have:=ji c;simp[b,this]
 rw[h1,g];exact j
def qp(r:RepL X.K H O ds xs)(a:i<ds.length):Rep X.K H O (ds.getD i .non) (xs.getD i .non):=by
 have e:=r.length;have hd:ds[i]?=some ds[i]:=jm a;obtain⟨v,b,g⟩:=r.get hd;have h1:ds.getD i .non=ds[i]:=by simp[a]
 have c:xs.getD i .non=v:=by
  rw[jm (by omega)] at b;have:=ji b;simp[show i<xs.length by omega,this]
 rw[h1,c];exact g
def xt{ds:List D}{i:Nat}(a:i<ds.length):ds.getD i .non∈ds:=by simp[a]
theorem Cz(I:Inv X d f H s){A:gS}{b:Bool}{O z:AP'}(Y:A.units+60<cLine){r:Bool}{Q:pk}(j:Q r s): ∀(l m:List D) (u v:List V) (n o:iF) (k:Int) (i:Nat),D.depL l<=50->D.depL m<=50->
  ((b&&i==0)=true-> ∀x y l' m',l=x::l'->m=y::m'->(∃a,x= .int a)/\ ∃c,y= .int c)->RepL X.K H O l u->RepL X.K H z m v->Vals u n->Vals v o->oS .Lt l m=some r->
  ∀fin:Bool,fin=jw .Lt (n.length+k) (o.length+k)->PySem.W.KatLex X.prog X.w A b fin Q (n.zip o) i s
 |[],m,u,v,n,o,k,i,_,_,_,p,q,v1,v2,g,fin,hf=>by
  rw[RepL] at p;subst p;cases v1;rw[oS] at g;have N:=q.length;have T:=v2.length;show Q fin s;rw[hf,oN];rw[<-ji g] at j;have:jw .Lt ((([]:List Value).length:Nat):Int) (o.length:Int)=jw .Lt 0 (m.length:Int):=by congr 1;omega
  rw[this];exact j
 |x::l,[],u,v,n,o,k,i,_,_,_,p,q,v1,v2,g,fin,hf=>by
  rw[RepL] at q;subst q;cases v2;rw[oS] at g;have N:=p.length;have T:=v1.length;rw[List.zip_nil_right];show Q fin s;rw[hf,oN];rw[<-ji g] at j;have:jw .Lt (n.length:Int) ((([]:List Value).length:Nat):Int)=jw .Lt (((x::l).length:Nat):Int) 0:=by congr 1;omega
  rw[this];exact j
 |x::l,y::m,u,v,n,o,k,i,x6,y9,hb,p,q,v1,v2,g,fin,hf=>by
  rw[RepL] at p q;obtain⟨G,F,rfl,g1,g2⟩:=p;obtain⟨J,P,rfl,g3,U⟩:=q
  cases v1 with
  |cons a1 L=>
   cases v2 with
   |cons B M=>
    rw[oS] at g;rw[D.depL] at x6 y9;rw[rl];refine PySem.W.kat_cons (xP I 50 x y G J _ _ O z A (.inl g1) (.inl g3) a1 B (by omega) (by omega) (by omega) X.prog X.w _ _ ?_)
    cases E:D.eqb x y with
    |true=>
     rw[E,gO rfl] at g;refine PySem.W.kat_yes (Cz I Y j l m F P _ _ (k+1) (i+1) (by omega) (by omega) (λh=>by simp at h) g2 U L M g fin ?_);rw[hf];simp only[kO];have e: ∀a:Nat,(((a+1:Nat):Int)+k)=(a:Int)+(k+1):=λa=>by omega
     rw[e,e]
    |false=>
     rw[E,gZ jA] at g;refine PySem.W.kat_no ?_
     cases C:(b&&i==0) with
     |true=>
      obtain⟨⟨a,rfl⟩,c,rfl⟩:=hb C x y l m rfl rfl;have:=g1.int;subst this;have:=g3.int;subst this;obtain⟨t,rfl⟩:=a1;obtain⟨R,rfl⟩:=B;rw[lC] at g;rw[<-ji g] at j;exact oneLt_int j
     |false=>
      exact PySem.W.kat_one _ _ (IK (.inl rfl) I 50 x y G J _ _ O z A r (.inl g1) (.inl g3) a1 B (by omega) (by omega) (by omega) g X.prog X.w _ _ j)
def RM(I:Inv X d f H s){O:AP'}{r:List D}{T:List V}{C:iF}{A:gS}(hA:A.units+60<cLine)(rr:RepL X.K H O r T)(v:Vals T C){k:Nat}(B:SortsBy k r):
  Ask (model X.prog X.w) A (λJ=>J=s) (Kc C) (FL k) C.length (λi j=>ltT (r.getD i .non) (r.getD j .non)):=by
 intro i j hi hj J y7 E';subst y7;have e1:=rr.length;have e2:=v.length;have M:r.getD i .non∈r:=xt (by omega);have N:r.getD j .non∈r:=xt (by omega);have ri:=qp rr (i:=i) (by omega);have rj:=qp rr (i:=j) (by omega);have vi:=qj v hi;have vj:=qj v hj;obtain⟨b,E⟩:=Hd.mp (B.cm _ M _ N);have i6:=Bh _ _ (B.pr _ M) (B.pr _ N) b E;have g:=B.hd _ M;have e:=B.hd _ N;have di:=B.dp _ M;have dj:=B.dp _ N;show wpAny _ _ (keyLt' (FL k) (C.getD i Value.none) (C.getD j Value.none)) _ _ _;dsimp only;rw[<-i6];generalize r.getD i .non=x at*;generalize r.getD j .non=y at*;generalize T.getD i .non=vx at*;generalize T.getD j .non=vy at*;generalize C.getD i Value.none=a at*;generalize C.getD j Value.none=c at*
 have u: ∀(l m:List D) (L:Bool),x= .tup l->y= .tup m->(L=true-> ∀x y Z m',l=x::Z->m=y::m'->(∃a,x= .int a)/\ ∃c,y= .int c)->wpAny (model X.prog X.w) A (keyLt' (tuples' L) a c) (λU R=>R=J/\U=b) E' J:=λl m L F P hh=>by
  subst F P;obtain⟨p,us,rfl,q,r1⟩:=ri.tup;obtain⟨p2,ws,rfl,q2,r2⟩:=rj.tup;cases vi;cases vj;obtain⟨S,w1,⟨o,ho,hc,n,hd⟩,_⟩:=I.tuple q.sq;obtain⟨G,w2,⟨o2,n9,x8,n2,Y⟩,_⟩:=I.tuple q2.sq;rw[lC] at E;rw[D.dep] at di dj;refine PySem.W.kat_lt ho hd n9 Y ?_;have:=Cz I (b:=L) hA (Q:=λU R=>R=J/\U=b) ⟨rfl,rfl⟩ l m us ws S G 0 0 (by omega) (by omega) (λh=>hh (by simpa using h)) r1 r2 w1 w2 E (decide (S.toArray.size<G.toArray.size)) (by simp[jw]);simpa using this
 match k,g,e with
 |0,g,e=>
  cases x with
  |int ix=>
   cases y with
   |int iy=>
    have:=ri.int;subst this;have:=rj.int;subst this;obtain⟨t,rfl⟩:=vi;obtain⟨t',rfl⟩:=vj;rw[lC] at E;rw[<-ji E];show wpAny _ _ (keyLt' oneType' _ _) _ _ _;rw[keyLt'_oneType];exact oneLt_int ⟨rfl,rfl⟩
   |tup m=>cases m with
    |nil=>simp[kb] at e
    |cons z m=>cases z<;>simp[kb] at e
   |_=>simp[kb] at e
  |tup m=>cases m with
   |nil=>simp[kb] at g
   |cons z m=>cases z<;>simp[kb] at g
  |_=>simp[kb] at g
 |1,g,e=>
  cases x with
  |tup l=>
   cases y with
   |tup m=>
    refine u l m true rfl rfl λ_ x y Z m' F P=>?_;subst F P;refine⟨?_,?_⟩
    ·cases x with
     |int a=>exact⟨a,rfl⟩
     |_=>simp[kb] at g
    ·cases y with
     |int a=>exact⟨a,rfl⟩
     |_=>simp[kb] at e
   |_=>simp[kb] at e
  |_=>simp[kb] at g
 |(n+2),g,e=>
  cases x with
  |tup l=>
   cases y with
   |tup m=>exact u l m false rfl rfl λh=>absurd h jA
   |_=>simp[kb] at e
  |_=>simp[kb] at g
end
open PySem.W
section
variable {X:Cx}{c:ig}{y:L2.St}{H:Hp}{s:gA}
theorem xM(I:Inv X c y H s){O:AP'}{T:gD}(P:D->Prop)(i: ∀x v u,P x->Rep X.K H O x v->RelV v u->Looks (model X.prog X.w) s.heap (typeOf u) T): ∀{ds:List D} {b:List V} {a:iF},RepL X.K H O ds b->Vals b a->
  (∀d∈ds,∃x l,d= .tup (x::l)/\P x)-> ∃fs,KatTups s.heap a fs/\fs.length=a.length/\ ∀f∈fs,Looks (model X.prog X.w) s.heap (typeOf f) T
 |[],b,a,r,v,_=>by
  rw[RepL] at r;subst r;cases v;exact⟨[],KatTups.nil,rfl,λf z=>absurd z ke⟩
 |d::ds,b,a,r,v,h=>by
  rw[RepL] at r;obtain⟨vx,xr,rfl,g1,g2⟩:=r
  cases v with
  |cons a1 k=>
   obtain⟨fs,B,C,E⟩:=xM I P i g2 k λd hd=>h d (iZ _ hd);obtain⟨x,l,rfl,G⟩:=h d ja;obtain⟨p,Y,rfl,q,j⟩:=g1.tup;cases a1;obtain⟨N,L,⟨o,A,t,n,hd⟩,_⟩:=I.tuple q.sq;rw[RepL] at j;obtain⟨J,F,rfl,g3,U⟩:=j
   cases L with
   |cons m M=>
    rename_i f Q;refine⟨f::fs,KatTups.cons A t hd (by simp) B,by simp[C],λg e=>?_⟩;rcases js.mp e with rfl|e
    ·exact i x J _ G g3 m
    ·exact E g e
def Po(I:Inv X c y H s){O:AP'}{ds:List D}{M:List V}{b:iF}{A:gS}(f:RepL X.K H O ds M)(v:Vals M b){k:Nat}(B:SortsBy k ds)(N:2<=b.length):
  wpAny (model X.prog X.w) A (keyKind' b.toArray) (λG s'=>s'=s/\G=FL k) (λ_ _=>False) s:=by
 have P:=f.length;have R:=v.length
 match k,B with
 |0,B=>
  refine kas_kind (T:= .type "int") N (λu Y=>?_) rfl rfl ⟨rfl,rfl⟩;obtain⟨i,J,e⟩:=DC Y;have L:=qp f (i:=i) (by omega);have E:=qj v J;have hd:=B.hd _ (xt (ds:=ds) (i:=i) (by omega));have:b.getD i Value.none=u:=by simp[J,e]
  rw[this] at E
  cases h:ds.getD i .non with
  |int a=>
   rw[h] at L;have:=L.int;rw[this] at E;obtain⟨t,rfl⟩:=E;exact Looks.of_pure rfl
  |tup l=>
   rw[h] at hd
   cases l with
   |nil=>simp[kb] at hd
   |cons z m=>cases z<;>simp[kb] at hd
  |_=>rw[h] at hd;simp[kb] at hd
 |1,B=>
  obtain⟨fs,f1,f2,g⟩:=xM I (T:= .type "int") (λx=> ∃a,x= .int a) (λx F u j C r=>by
   obtain⟨a,rfl⟩:=j;have:=C.int;subst this;obtain⟨t,rfl⟩:=r
   exact Looks.of_pure rfl) f v λd hd=>by
    have:=B.hd d hd
    cases d with
    |tup l=>
     cases l with
     |nil=>simp[kb] at this
     |cons z m=>
      cases z with
      |int a=>exact⟨_,m,rfl,a,rfl⟩
      |_=>simp[kb] at this
    |_=>simp[kb] at this
  exact kat_kind f1 (by omega) g rfl ⟨rfl,rfl⟩
 |(n+2),B=>
  obtain⟨fs,f1,f2,g⟩:=xM I (T:= .type "tuple") (λx=> ∃a,x= .tup a) (λx F u j C r=>by
   obtain⟨a,rfl⟩:=j;obtain⟨p,Z,rfl,q,W⟩:=C.tup;cases r;obtain⟨S,w1,⟨o,U,Q,n,hd⟩,_⟩:=I.tuple q.sq;have:Looks (model X.prog X.w) s.heap (typeOf (.ref p)) o.cls:=(Looks.ld U).andThen .now
   rw[Q] at this;exact this) f v λd hd=>by
    have:=B.hd d hd
    cases d with
    |tup l=>
     cases l with
     |nil=>simp[kb] at this
     |cons z m=>
      cases z with
      |tup a=>exact⟨_,m,rfl,a,rfl⟩
      |_=>simp[kb] at this
    |_=>simp[kb] at this
  exact kat_kind f1 (by omega) g rfl ⟨rfl,rfl⟩
def jN(l:List D):Option (D×Bool):=if md l=true/\l.length<=sizeLine then some (.lst (pP ltT l),true) else none
def tJ(d:D):Option (D×Bool):=(yN d).bind jN
theorem BI{b:List V}{a:iF}(v:Vals b a): ∀(p:iP),(∀i∈p,i<a.length)->Vals (p.map λi=>b.getD i .non) (p.map λi=>a.getD i Value.none)
 |[],_=> .nil
 |i::p,h=> .cons (qj v (h i ja)) (BI v p λj d=>h j (iZ _ d))
theorem BZ{O:AP'}{a:List D}{b:List V}(r:RepL X.K H O a b): ∀(p:iP),(∀i∈p,i<a.length)->RepL X.K H O (p.map λi=>a.getD i .non) (p.map λi=>b.getD i .non)
 |[],_=>RepL.nil
 |i::p,h=>RepL.cons (qp r (h i ja)) (BZ r p λj d=>h j (iZ _ d))
def D6{b:List D}{n:Nat}(e:n=b.length)(h1:b.length<=1){p:iP}(a:p.Perm (List.range n)):p.map (λi=>b.getD i .non)=pP ltT b:=by
 subst e
 match b,h1,a with
 |[],_,a=>
  have:p=[]:=by simpa using a.length_eq
  subst this;rfl
 |[d],_,a=>
  have e:p.length=1:=by simpa using a.length_eq
  match p,e,a with
  |[i],_,a=>
   have:i=0:=by have:=a.mem_iff.mp (Gd.mpr rfl);simpa using this
   subst this;rfl
def ql(hu:X.A.units+62<cLine)(I:Inv X c y H s){O:AP'}{f:List D}{N:List V}{a:iF}{x:gD}{Q:VK}{z:D×Bool}(u:RepL X.K H O f N)(v:Vals N a)(hg:jN f=some z)(G:Gen X.K H O z Q)
  (hc: ∀(Y:List Value->Shared->Prop) (E':ip) (T:gS),T.handled=X.A.handled->(∀(h':gR) (d:Nat),(∀b o,s.heap.get? b=some o->h'.get? b=some o)->Y a {s with heap:=h',toks:=d})->wpAny (model X.prog X.w) T (collect x) Y E' s):
  wpAny (model X.prog X.w) X.A (call (.builtin "sorted") [x]) (EP X c y Q) X.xe s:=by
 unfold jN at hg;obtain⟨⟨J,hz⟩,rfl⟩:=hV hg;have r:=u.length;have e2:=v.length;refine Calls.call_function_entry kind_sorted plain_sorted entry_sorted (args_sorted1 _) ?_;unfold Builtin.«sorted»;refine gy (m:=checkCount "sorted" 1 1 _) (gK ?_);refine gy (hc _ _ _ rfl λh1 d R=>?_);refine gy (wpAny_newList ?_ (by omega));have t:(h1.push (seqObj "list" a.toArray 0)).get? h1.objs.size=some (seqObj "list" a.toArray 0):=jz _ rfl;have C:Inv X c y H {s with heap:=h1,toks:=d}:=I.kept R
 have keep: ∀b o,h1.get? b=some o->(oq (h1.push (seqObj "list" a.toArray 0)) h1.objs.size a).get? b=some o:=λb o l=>by
  have P:b≠h1.objs.size:=iC (iV l);refine jd _ (jd _ ?_);rw[HB _ _ _ _ P];exact jd _ l
 have U:Inv X c y H {s with heap:=oq (h1.push (seqObj "list" a.toArray 0)) h1.objs.size a,toks:=d}:=C.kept keep;have Z: ∀i∈List.range a.length,i<a.length:=λi q=>by simpa using q
 refine gy (lV (nY (s:={s with heap:=h1.push (seqObj "list" a.toArray 0),toks:=d}) slot_list_sort ⟨_,t,rfl⟩ entry_list_sort ?body (args_list_sort _)))
 case body=>
  have fin: ∀p:List Nat,p.Perm (List.range a.length)->p.map (λi=>f.getD i .non)=pP ltT f->EP X c y Q (.ref h1.objs.size) {s with heap:=(oq (h1.push (seqObj "list" a.toArray 0)) h1.objs.size a).update h1.objs.size (Obj.mapSeq λ_=>(p.map λi=>a.getD i Value.none).toArray),toks:=d}:=λp e L=>by
   have F: ∀i∈p,i<a.length:=λi q=>by simpa using e.mem_iff.mp q
   have M: ∃n,(oq (h1.push (seqObj "list" a.toArray 0)) h1.objs.size a).get? h1.objs.size=some (seqObj "list" #[] n):=by
    obtain⟨r,S⟩: ∃r,((h1.push (seqObj "list" a.toArray 0)).update h1.objs.size (Obj.mapSeq λ_=>(#[]:Array Value))).get? h1.objs.size=some (seqObj "list" #[] r):=⟨_,Dx t λ_=> #[]⟩
    exact⟨r,jd _ (jd _ S)⟩
   obtain⟨n,M⟩:=M;obtain⟨E,W⟩: ∃E,((oq (h1.push (seqObj "list" a.toArray 0)) h1.objs.size a).update h1.objs.size (Obj.mapSeq λ_=>(p.map λi=>a.getD i Value.none).toArray)).get? h1.objs.size=some (seqObj "list" (p.map λi=>a.getD i Value.none).toArray E):=⟨_,Dx M λ_=>(p.map λi=>a.getD i Value.none).toArray⟩
   have g: ∀b o,h1.get? b=some o->((oq (h1.push (seqObj "list" a.toArray 0)) h1.objs.size a).update h1.objs.size (Obj.mapSeq λ_=>(p.map λi=>a.getD i Value.none).toArray)).get? b=some o:=λb o l=>by
    rw[HB _ _ _ _ (iC (iV l))];exact keep b o l
   have pl:p.length=a.length:=by simpa using e.length_eq
   refine⟨.ref h1.objs.size,_,C.laid (t':=d) g (iR _) (show ObjOk X.prog X.w _ _ _ (.lst (p.map λi=>N.getD i .non)) from⟨by rw[jt];omega,_,E,BI v p F,W⟩),rfl,?_⟩;refine G.lst C.fresh ?_;rw[<-L];exact BZ u p λi q=>by have:=F i q;omega
  rcases yM J with hlen|⟨k,B⟩
  ·refine qQ (κ:=general') (lt:=λ_ _=>false) (s:={s with heap:=h1.push (seqObj "list" a.toArray 0),toks:=d}) t (by omega) (λ_ _ _=>rfl) (λ_ _=>rfl) (λh=>by omega) (λh=>by omega) λp e _=>⟨_,rfl,gK ⟨_,rfl,fin p e ?_⟩⟩
   exact D6 (by omega) hlen e
  ·refine qQ (κ:=FL k) (lt:=λi j=>ltT (f.getD i .non) (f.getD j .non)) (s:={s with heap:=h1.push (seqObj "list" a.toArray 0),toks:=d}) t (by omega) (λ_ _=>RN _ _) Qu (λh=>Po U u v B h) (λ_=>RM (A:=X.A.in1.in1) U (by show X.A.units+1+1+60<cLine;omega) u v B) λp e L=>⟨_,rfl,gK ⟨_,rfl,fin p e (Gm B.pr (by rw[show f.length=a.length by omega];exact e) L)⟩⟩
def Bj(i:X.A.units+62<cLine):jq X (.builtin "sorted") (rDn X.K (g1 tJ)):=nq λc s y H x u Q O d z I j np hd a G=>by
 obtain⟨l,g,a⟩:=gu a
 have N:l.length<=sizeLine:=by
  unfold jN at a;exact(hV a).1.2
 cases d with
 |lst m=>
  cases g;obtain⟨p,M,rfl,q,r⟩:=jF hd;cases j;obtain⟨C,v,L,_⟩:=I.list q;have E:=r.length;have J:=v.length;obtain⟨o,h,f,n,hd⟩:=L.isList;refine ql i I r v a G λB w t _ e=>wpAny_collect_seq p (.inl rfl) h f hd (λb k=>by simpa using e b s.toks k) (by rw[iE];omega)
 |tup m=>
  cases g;obtain⟨p,M,rfl,q,r⟩:=jZ hd;cases j;obtain⟨C,v,⟨o,h,f,n,hd⟩,_⟩:=I.tuple q;have E:=r.length;have J:=v.length;refine ql i I r v a G λB w t _ e=>wpAny_collect_seq p (.inr rfl) h f hd (λb k=>by simpa using e b s.toks k) (by rw[iE];omega)
 |_=>cases g
end
def lT:bootBuiltins "isinstance"=some (.builtin "isinstance"):=by decide+kernel
structure Tx(mg:jY):Prop where
 n_len:mg "len"=none
 n_abs:mg "abs"=none
 n_int:mg "int"=none
 n_tuple:mg "tuple"=none
 n_list:mg "list"=none
 n_range:mg "range"=none
 n_isinstance:mg "isinstance"=none
 n_bool:mg "bool"=none
 n_max:mg "max"=none
 n_min:mg "min"=none
 n_all:mg "all"=none
 n_any:mg "any"=none
 n_sorted:mg "sorted"=none
 n_enumerate:mg "enumerate"=none
 n_zip:mg "zip"=none
 n_set:mg "set"=none
def MH{P:gY}{w:gP}{K:gW}{g:jY}{base:gR}{f:gw}{d:kS}{i:hG}{k:Nat}:FnOk P w K g base CX0 k f d i (spF K λ_=>none) where
 len:=λj H Q E h=>by
  obtain⟨T,a,r,b,_,e,_⟩:=h;cases e
 run:=λA c s H a l j Q E _ _ _ _ h=>by
  obtain⟨T,a,r,b,_,e,_⟩:=h;cases e
theorem yP{K:gW}{H:Hp}{O:AP'}: ∀a:List Int,RepL K H O (a.map .int) (a.map V.int)
 |[]=>RepL.nil
 |n::a=>RepL.cons Rep.mkInt (yP a)
def uU(d e:CmpOp)(a b c:FO):F:=λf=>(a f).bind λp=>(b p.2).bind λq=>match res q.2 p.1,res q.2 q.1 with
 |some (.int i),some (.int j)=>if jw d i j=true then(c q.2).bind λr=>match res r.2 r.1 with
   |some (.int k)=>some ((.bl (jw e j k),false),r.2)
   |_=>none
  else some ((.bl false,false),q.2)
 |_,_=>none
section
variable {X:Cx}{a b c:gG}{m l g:FO}{n:Pos}{d f:CmpOp}
def FD(h:tH d):OpR X (compareOp d) (rI0 λi j=> .bl (jw d i j)):=by
 rcases h with rfl|rfl|rfl|rfl
 ·exact Rb
 ·exact Rc
 ·exact Rg
 ·exact Rh
def G4(A:tF X.K (uU d f m l g) σ H Q):Iv (rI0 λi j=> .bl (jw d i j)) (rI0 λi j=> .bl (jw f i j)) (tO X.K m) (tO X.K l) (tO X.K g) σ H Q:=by
 obtain⟨N,T,F,O,E,e,k⟩:=A;unfold uU at e;obtain⟨⟨x,p⟩,h1,e⟩:=gu e;obtain⟨⟨L,q⟩,y,e⟩:=gu e;refine⟨N,T,x,p,E,h1,λv U h=>⟨p,Bs T x v,L,q,h.er E,y,λu Y o=>?_⟩⟩;have B:=Ops.cons E h (Ops.cons (h.er E) o (Ops.nil (o.er (h.er E))));dsimp only at e;split at e
 ·rename_i i j C G;have hv:=hZ (B.view (j:=0) rfl rfl C);have t:=hZ (B.view (j:=1) rfl rfl G);refine⟨i,j,hv,t,jw d i j,rfl,?_⟩;by_cases c:jw d i j=true
  ·rw[gO c] at e ⊢;obtain⟨⟨M,r⟩,z,e⟩:=gu e;dsimp only at e;split at e
   ·rename_i J I;obtain⟨rfl,rfl⟩:=gX e;refine⟨q,_,M,r,o.er (h.er E),z,λw D P3=>?_⟩;have s:=Ops.cons E h (Ops.cons (h.er E) o (Ops.cons (o.er (h.er E)) P3 (Ops.nil (P3.er (o.er (h.er E))))));exact⟨j,J,t,hZ (s.view (j:=2) rfl rfl I),(s.done k).bl⟩
   ·cases e
  ·rw[gZ c] at e ⊢;obtain⟨rfl,rfl⟩:=gX e;exact(B.done k).bl
 ·cases e
def IW(o:tH d)(e:tH f)(h:PO X a m)(i:PO X b l)(j:PO X c g)(k:lastMarks [d,f] [b,c]=false:=by with_unfolding_all rfl):PX X (.Compare a [d,f] [b,c] n) (uU d f m l g):=
 PX.imp (Jy (FD o) (FD e) h i j k) λq H Q p=>G4 p
end
def vIs(x:V)(c:Bool):Bool:=match x with
 | .bl b=>b==c
 |_=>false
def gIs:D->D->Option (D×Bool)
 | .bl b,.bl c=>some (.bl (b==c),false)
 |_,.bl _=>some (.bl false,false)
 | .non,.non=>some (.bl true,false)
 |_,.non=>some (.bl false,false)
 |_,_=>none
def Ey:D->D->Option (D×Bool)
 | .bl b,.bl c=>some (.bl (!(b==c)),false)
 |_,.bl _=>some (.bl true,false)
 | .non,.non=>some (.bl false,false)
 |_,.non=>some (.bl true,false)
 |_,_=>none
section
variable {X:Cx}
def Fc(a:RelV x v)(c:Bool):plainIs v (.bool c)=true/\(v== .bool c)=vIs x c:=by
 cases x<;>first
  |(cases a;exact⟨rfl,rfl⟩)
  |(obtain⟨t,rfl⟩:=a;exact⟨rfl,rfl⟩)
  |(rename_i b;cases a;refine⟨rfl,?_⟩;cases b<;>cases c<;>rfl)
def JI:OpR X (compareOp .Is) (λx y H Q=> ∃c,y= .bl c/\Q (.bl (vIs x c)) H):=by
 intro a s f H x y v u Q I d e h;obtain⟨c,rfl,q⟩:=h;cases e;obtain⟨h1,b⟩:=Fc d c;exact wpAny_is_plain h1 (Bc I q (by rw[b]))
def yU:OpR X (compareOp .IsNot) (λx y H Q=> ∃c,y= .bl c/\Q (.bl (!vIs x c)) H):=by
 intro a s f H x y v u Q I d e h;obtain⟨c,rfl,q⟩:=h;cases e;obtain⟨h1,b⟩:=Fc d c;exact wpAny_isNot_plain h1 (Bc I q (by rw[b]))
theorem pM{K H}(h:iU K H O (.bl b) v):v= .bl b:=h.elim (λh=>h.bl) λ⟨_,_,h⟩=>h.elim
theorem om{K H}(h:iU K H O .non v):v= .non:=h.elim (λh=>h.non) λ⟨_,_,h⟩=>h.elim
theorem BG{K H}(h:iU K H O d v)(f: ∀b,d≠ .bl b)(c:Bool):vIs v c=false:=by
 cases d with
 |bl b=>exact absurd rfl (f b)
 |non=>rw[om h];rfl
 |int i=>rw[hZ h];rfl
 |str x=>
   rcases h with h|⟨a,_,h⟩
   ·rw[h.str];rfl
   ·exact h.elim
 |tup l=>
   rcases h with h|⟨a,_,h⟩
   ·rw[Rep] at h;obtain⟨a,e,rfl,_⟩:=h;rfl
   ·exact h.elim
 |lst l=>
   rcases h with h|⟨a,rfl,h⟩
   ·rw[Rep] at h;obtain⟨a,e,rfl,_⟩:=h;rfl
   ·rfl
 |oth _ _ _=>
   rcases h with h|⟨a,rfl,h⟩
   ·rw[Rep] at h;obtain⟨a,e,rfl,_⟩:=h;rfl
   ·rfl
theorem vd{K H}(h:iU K H O d v)(e:d≠ .non):v≠ .non:=by
 cases d with
 |bl b=>rw[pM h];intro z;cases z
 |non=>exact absurd rfl e
 |int i=>rw[hZ h];intro z;cases z
 |str x=>
   rcases h with h|⟨a,_,h⟩
   ·rw[h.str];intro z;cases z
   ·exact h.elim
 |tup l=>
   rcases h with h|⟨a,_,h⟩
   ·rw[Rep] at h;obtain⟨a,c,rfl,_⟩:=h;intro z;cases z
   ·exact h.elim
 |lst l=>
   rcases h with h|⟨a,rfl,h⟩
   ·rw[Rep] at h;obtain⟨a,c,rfl,_⟩:=h;intro z;cases z
   ·intro z;cases z
 |oth _ _ _=>
   rcases h with h|⟨a,rfl,h⟩
   ·rw[Rep] at h;obtain⟨a,c,rfl,_⟩:=h;intro z;cases z
   ·intro z;cases z
def OX:OpR X (compareOp .Is) (rD X.K gIs):=by
 intro a s l H x y v u Q I j k h;obtain⟨O,d,e,z,np,h1,n,g,G⟩:=h
 cases e with
 |bl c=>
  have i:=pM n;by_cases f: ∃b,d= .bl b
  ·obtain⟨b,rfl⟩:=f;cases g;refine JI a s l H x y v u Q I j k ⟨c,i,?_⟩;rw[pM h1];exact G.bl
  ·have o: ∀b,d≠ .bl b:=λb z=>f ⟨b,z⟩;have m:z=(.bl false,false):=by cases d<;>first|exact absurd rfl (o _)|(cases g;rfl)
   subst m;refine JI a s l H x y v u Q I j k ⟨c,i,?_⟩;rw[BG h1 o c];exact G.bl
 |non=>
  have i:=om n;by_cases f:d= .non
  ·subst f;cases g;refine JH a s l H x y v u Q I j k ⟨i,?_⟩;rw[om h1];exact G.bl
  ·have m:z=(.bl false,false):=by cases d<;>first|exact absurd rfl f|(cases g;rfl)
   subst m;refine JH a s l H x y v u Q I j k ⟨i,?_⟩;rw[lb (vd h1 f)];exact G.bl
 |_=>cases d<;>cases g
def GH:OpR X (compareOp .IsNot) (rD X.K Ey):=by
 intro a s l H x y v u Q I j k h;obtain⟨O,d,e,z,np,h1,n,g,G⟩:=h
 cases e with
 |bl c=>
  have i:=pM n;by_cases f: ∃b,d= .bl b
  ·obtain⟨b,rfl⟩:=f;cases g;refine yU a s l H x y v u Q I j k ⟨c,i,?_⟩;rw[pM h1];exact G.bl
  ·have o: ∀b,d≠ .bl b:=λb z=>f ⟨b,z⟩;have m:z=(.bl true,false):=by cases d<;>first|exact absurd rfl (o _)|(cases g;rfl)
   subst m;refine yU a s l H x y v u Q I j k ⟨c,i,?_⟩;rw[BG h1 o c];exact G.bl
 |non=>
  have i:=om n;by_cases f:d= .non
  ·subst f;cases g;refine FC a s l H x y v u Q I j k ⟨i,?_⟩;rw[om h1];exact G.bl
  ·have m:z=(.bl true,false):=by cases d<;>first|exact absurd rfl f|(cases g;rfl)
   subst m;refine FC a s l H x y v u Q I j k ⟨i,?_⟩;rw[lb (vd h1 f)];exact G.bl
 |_=>cases d<;>cases g
end
end PX
namespace HT
open PySem PySem.Spec PyProof.Rows L2
section
variable {a:gY}{w:gP}{A:gS}{E:ip}{s:gA}
def Ex{t d:gw}{b:lU}{i j:gD}{lo e:Option Int}{Q:ip}(c:IsTup s.heap t b)(f:s.heap.IsSliceOf d i j .none)(o:IsPart i lo)(p:IsPart j e)
  (g:sIx b.size 0 lo=0/\sIx b.size b.size e=b.size)(h:Q (.ref t) s):wpAny (model a w) A (getItem (.ref t) (.ref d)) Q E s:=by
 obtain⟨os,k,l,q⟩:=id f;have n:s.TypeIs (.ref d) "slice":=⟨os,k,l⟩
 unfold getItem
 try with_reducible refine lV ?_
 first|refine gy (gK ?_)|skip
 refine gy (wpAny_sequenceKey c.typeIs (by decide) ?_)
 refine gy (va (name:=Str.ofString "__getitem__") c.typeIs yi
  (nY yi c.typeIs HN ?_ (args_tuple_getitem _ _)))
 show wpAny _ _ (Builtin.Tuple.tupleItemsOf (.ref t)>>=_) _ _ s;refine gy (tupleItemsOf_ c ?_);refine gy (sx n ?_);rw[gO (by decide)];refine gy (ou f o p ?_);rw[g.1,g.2];show wpAny _ _ (if((((0:Nat):Int)==0&&(1:Int)==1&&(b.size-0)==b.size)=true) then _ else _) _ _ s;rw[gO (by simp)];refine gy (m:=Builtin.Tuple.tupleIsExact _) ?_;unfold Builtin.Tuple.tupleIsExact;refine gy (sx c.typeIs ?_);refine gK ?_;rw[gO (by decide)];refine gy (uY ?_)
 first
  |exact gy (gK ⟨_,rfl,gK h⟩)
  |exact gK ⟨_,rfl,gK h⟩
  |exact gy (gK (gK ⟨_,rfl,gK h⟩))
  |(refine gy ?_;trace_state;done)
end
end HT
namespace PX
open PySem PySem.Spec PyProof.Rows L2 PySem.SeqAt
def zk(l:List D)(lo a:Option Int):List D:=(l.drop (HT.sIx l.length 0 lo)).take (HT.sIx l.length l.length a-HT.sIx l.length 0 lo)
def gSl(lo a:Option Int):D->Option (D×Bool)
 | .tup l=>some (.tup (zk l lo a),false)
 | .lst l=>some (.lst (zk l lo a),true)
 |_=>none
def TH(K:gW):V->Option Int->Option Int->Hp->VK->Prop:=λx lo a H Q=> ∃(O:AP') (d:D) (z:D×Bool),(∀p,¬Ow (H p)-> ¬O p)/\iU K H O d x/\gSl lo a d=some z/\Gen K H O z Q
def RepL.cut{K H}(r:RepL K H O l xs)(lo a:Option Int):RepL K H O (zk l lo a) (CW xs lo a):=by
 unfold zk CW;rw[r.length];exact(r.drop _).take _
section
variable {X:Cx}
def BR{b:ig}{s:gA}{h:L2.St}{H:Hp}{a:gw}{v e f:gD}{lo c:Option Int}{d:gw}{Q:VK}{O:AP'}{l:List D}{g:List V}(I:Inv X b h H s)(n:RelV (.ref a) v)(j:s.heap.IsSliceOf d e f .none)(k:IsPart e lo)(m:IsPart f c)
  (q:SqL X.K H a g)(r:RepL X.K H O l g)(G:Gen X.K H O (.lst (zk l lo c),true) Q): ∃T id,typeLookup (.type T) "__getitem__"=pure (some (.builtin id))/\s.TypeIs v T/\wpAny (model X.prog X.w) X.A (getItem v (.ref d)) (EP X b h Q) X.xe s:=
 Li b s h H (.ref a) v e f lo c d Q I n j k m ⟨a,g,rfl,q,λp i=>G.lst i (r.cut lo c)⟩
def SF:SlR X (TH X.K):=by
 intro f s E H x v B C lo g A Q I n i k m h;obtain⟨O,d,z,np,hd,o,G⟩:=h
 cases d with
 |tup l=>
  cases o;rcases hd with hd|⟨a,_,h⟩
  ·obtain⟨a,b,rfl,q,r⟩:=hd.tup;by_cases j:HT.sIx b.length 0 lo=0/\HT.sIx b.length b.length g=b.length
   ·cases n;obtain⟨w,y,u,J⟩:=I.tuple q.sq;have c:w.toArray.size=b.length:=by rw[iE];exact y.length.symm
    refine⟨"tuple",_,yi.lookup,u.typeIs,?_⟩;refine HT.Ex u i k m (by rw[c];exact j) ⟨.ref a,H,I,rfl,?_⟩
    have e:zk l lo g=l:=by
     unfold zk;rw[<-r.length,j.1,j.2];simp[r.length]
    rw[e] at G;exact G (.ref a) H (λ_ _ e=>e) hd
   ·exact NY f s E H (.ref a) v B C lo g A Q I n i k m ⟨a,b,rfl,q.sq,j,λp t=>G.tup t (np p (nOw t)) (r.cut lo g)⟩
  ·exact h.elim
 |lst l=>
  cases o;rcases hd with hd|⟨a,rfl,h⟩
  ·obtain⟨a,b,rfl,q,r⟩:=hd.lst;exact BR I n i k m q.sq r G
  ·obtain⟨b,e,r⟩:=h;exact BR I n i k m (.inl (.inl e)) r G
 |_=>cases o
end
def tQ(a b:FO):F:=λδ=>(a δ).bind λp=>(b p.2).bind λq=>match res q.2 q.1 with
 |some (.int i)=>(res q.2 p.1).bind λx=>(gSl none (some i) x).bind λz=>some (z,q.2)
 |_=>none
section
variable {X:Cx}{a lo b:gG}{f h d:FO}{c g:Pos}
def LA(s:PO X a f)(t:PO X b d):PX X (.Subscript a (.Slice none (some b) none g) c) (tQ f d):=
 PX.imp (Ju SF s L5 (L4 t)) λO H Q y=>by
  obtain⟨I,T,N,J,E,e,k⟩:=y;unfold tQ at e;obtain⟨⟨q,l⟩,h1,e⟩:=gu e;obtain⟨⟨G,n⟩,r,e⟩:=gu e;dsimp only at e;split at e
  ·rename_i i b;obtain⟨x,A,e⟩:=gu e;obtain⟨z,C,e⟩:=gu e;obtain⟨rfl,rfl⟩:=gX e;refine⟨I,T,q,l,E,h1,λv L m=>⟨l,Bs T q v,G,n,m.er E,r,λu M o=>?_⟩⟩;have B:=Ops.cons E m (Ops.cons (m.er E) o (Ops.nil (o.er (m.er E))));exact⟨i,hZ (B.view (j:=1) rfl rfl b),_,x,z,λp w=>B.np w,B.view (j:=0) rfl rfl A,C,B.done k⟩
  ·cases e
end
end PX
namespace L2
open PySem PySem.Spec PyProof.Rows
section
variable {X:Cx}
end
end L2
namespace PX
open PySem PySem.Spec PyProof.Rows L2 PySem.SeqAt
section
variable {X:Cx}{A:iI}{d:gw}{a:gG}{f:F}
end
section
variable {X:Cx}{e:gG}{c:qC}{iq:qD}{scope:iG}{d a p:Pos}{j:hG}{b:iP}{k:Nat}{h:FIt}{g:Tg}{f:FT}{i:FB}
end
end PX
namespace HT
open PySem PySem.Spec PyProof.Rows L2
section
variable {a:gY}{w:gP}{A:gS}{E:ip}{s:gA}
end
end HT
namespace L2
open PySem PySem.Spec PyProof.Rows
section
variable {X:Cx}{e st:gG}{c b:TE}{a d:Pos}
end
end L2
namespace PX
open PySem PySem.Spec PyProof.Rows L2 PySem.SeqAt
section
variable {X:Cx}{a st:gG}{d fs:FO}{b c:Pos}
end
section
variable {b:jh}{a:Env}
end
end PX
namespace TT
open PySem
def S:Nat->Nat
 |0=>0
 |n+1=>5*S n+1
theorem Ga(m:Nat): ∀n:Nat,S (m+n)=5^n*S m+S n
 |0=>by simp[S]
 |n+1=>by
  rw[<-ur,S,Ga m n,S,rZ,rk,<-rY,um 5 (5^n)];lia
theorem xK: ∀n:Nat,∃c,5^n=4*c+1
 |0=>⟨0,rfl⟩
 |n+1=>by
  obtain⟨c,e⟩:=xK n;exact⟨5*c+1,by rw[rZ,e];lia⟩
theorem KY: ∀k:Nat,∃c,S (2^k)=2^k*(2*c+1)
 |0=>⟨0,rfl⟩
 |k+1=>by
  obtain⟨c,e⟩:=KY k;obtain⟨d,f⟩:=xK (2^k)
  have h:S (2^(k+1))=(5^2^k+1)*S (2^k):=by
   rw[rZ,Nat.mul_two,Ga,Dv,Du]
  refine⟨2*(d*c)+d+c,?_⟩;rw[h,f,e,rZ];have:4*d+1+1=2*(2*d+1):=by lia
  rw[this,rY 2,um (2*d+1),rY (2^k),rY (2^k),<-rY 2 (2^k),um 2 (2^k),rY (2^k) 2]
  congr 2
  rw[Dv,rk,Du,uk,rY 2 c,zT c 2 d,um c d]
  lia
theorem KZ(k n:Nat):S (2^k+n)%2^k=S n%2^k:=by
 obtain⟨c,e⟩:=KY k;rw[Ga,e,zT,Nat.mul_add_mod]
theorem Bt: ∀(k e:Nat),e<2^k-> ∃n,n<2^k/\S n%2^k=e
 |0,e,h=>⟨0,by simp,by simp at h;subst h;rfl⟩
 |k+1,e,h=>by
  have l:0<2^k:=Nat.two_pow_pos k;obtain⟨n,w,s⟩:=Bt k (e%2^k) (uj _ l);obtain⟨c,m⟩:=KY k;obtain⟨d,o⟩:=xK n
  have b:S (2^k+n)=2^(k+1)*(4*d*c+2*d+c)+2^k+S n:=by
   rw[Ga,m,o,rZ,zT,rY (2^k) 2]
   have:(4*d+1)*(2*c+1)=2*(4*d*c+2*d+c)+1:=by
    rw[Dv,rk,Du,uk,zT (4*d) 2 c];lia
   rw[this,rk,uk]
  rw[rZ] at h b ⊢;generalize 2^k=P at*;have j:=Nat.div_add_mod (S n) P;have i:=Nat.div_add_mod e P;rw[s] at j;have y:e / P<2:=Nat.div_lt_of_lt_mul (by rw[um] at h;lia)
  have mk: ∀a q x,a=P*2*q+x->x<P*2->a%(P*2)=x:=λa q x h1 b=>by
   rw[h1,Nat.mul_add_mod,Nat.mod_eq_of_lt b]
  have v:=uj e l;have t:S n / P=2*(S n / P / 2)+S n / P%2:=by lia
  have g:S n=P*2*(S n / P / 2)+(P*(S n / P%2)+e%P):=by
   rw[rY,<-ur,<-rk,<-t];exact j.symm
  generalize S n / P / 2=q at g;have u:S n / P%2<2:=uj _ (by decide);generalize S n / P%2=r at g u;generalize e / P=f at*;by_cases p:r=f
  ·exact⟨n,by lia,mk _ q _ (by rw[g,p,i]) h⟩
  ·refine⟨P+n,by lia,mk _ (4*d*c+2*d+c+q+r) _ ?_ h⟩;rw[b,g,rk (P*2) _ r,rk (P*2) _ q];rcases(show r=0\/r=1 by lia) with rfl|rfl
   ·have:f=1:=by lia
    subst this;rw[Dt,Dt];rw[uk] at i;lia
   ·have:f=0:=by lia
    subst this;rw[uk,uk];rw[Dt] at i;lia
def ls(mask:Nat)(h:Int):Nat->Nat×Nat
 |0=>(SetTable.bits h%(mask+1),SetTable.bits h)
 |k+1=>SetTable.leap mask (ls mask h k).1 (ls mask h k).2
def MQ(h:Int):SetTable.bits h<2^64:=by
 unfold SetTable.bits;have:=Ds h (show(0:Int)<2^64 by decide);have:=Dr h (show(2^64:Int)≠0 by decide)
 lia
def FG(mask:Nat)(h:Int): ∀k,(ls mask h k).1<=mask
 |0=>by have:=uj (SetTable.bits h) (show 0<mask+1 by lia);show _%(mask+1)<=_;lia
 |k+1=>by
  show(_%(mask+1))<=_;have:=uj ((ls mask h k).1*5+1+(ls mask h k).2 / 32) (show 0<mask+1 by lia);lia
theorem FF(mask:Nat)(h:Int): ∀k,(ls mask h k).2=SetTable.bits h / 32^k
 |0=>by simp[ls]
 |k+1=>by
  show(ls mask h k).2 / 32=_;rw[FF mask h k,rZ,Nat.div_div_eq_div_mul]
theorem Mu(mask:Nat)(h:Int)(k:Nat)(hk:13<=k):(ls mask h k).2=0:=by
 rw[FF];refine Nat.div_eq_of_lt (lG (MQ h) ?_);exact mQ (show 2^64<=32^13 by decide) (zS (by decide) hk)
theorem JS(mask:Nat)(h:Int)(m:Nat)(a:(ls mask h 13).1=S m%(mask+1)): ∀n,(ls mask h (13+n)).1=S (m+n)%(mask+1)
 |0=>a
 |n+1=>by
  show(((ls mask h (13+n)).1*5+1+(ls mask h (13+n)).2 / 32)%(mask+1))=_;rw[Mu mask h _ (by lia),JS mask h m a n,Nat.zero_div,Nat.add_zero,<-ur m n 1,S,Nat.add_mod,Nat.mod_mul_mod,<-Nat.add_mod,um 5]
def Co(hk:mask+1=2^k)(h:Int)(g:e<=mask): ∃n,n<mask+14/\(ls mask h n).1=e:=by
 have i:=FG mask h 13;obtain⟨m,c,b⟩:=Bt k (ls mask h 13).1 (by lia);obtain⟨q,d,eq⟩:=Bt k e (by lia);rw[<-hk] at b eq c d;have a:=JS mask h m b.symm;by_cases f:m<=q
 ·exact⟨13+(q-m),by lia,by rw[a,show m+(q-m)=q by lia];exact eq⟩
 ·refine⟨13+(q+(mask+1)-m),by lia,?_⟩;rw[a,show m+(q+(mask+1)-m)=2^k+q by lia,hk,KZ,<-hk];exact eq
def Eb(mask i:Nat)(h:i<=mask):i<=SetTable.runEnd mask i/\SetTable.runEnd mask i<=mask/\SetTable.runEnd mask i<=i+9:=by
 unfold SetTable.runEnd;split<;>lia
def tm(mask:Nat)(h:Int):Nat->Nat
 |0=>0
 |k+1=>tm mask h k+(SetTable.runEnd mask (ls mask h k).1-(ls mask h k).1)+1
theorem M9(mask:Nat)(h:Int): ∀k,tm mask h k<=10*k
 |0=>iR _
 |k+1=>by
  have:=M9 mask h k;have:=Eb mask _ (FG mask h k);unfold tm;lia
def at_(mask:Nat)(h:Int)(k t:Nat):SetTable.Probe:=⟨(ls mask h k).1+t,SetTable.runEnd mask (ls mask h k).1-(ls mask h k).1-t,(ls mask h k).1,(ls mask h k).2,none⟩
theorem rJ(mask:Nat)(h:Int): ∀k t,t<=SetTable.runEnd mask (ls mask h k).1-(ls mask h k).1->pr mask h (tm mask h k+t)=at_ mask h k t
 |0,0,_=>rfl
 |k+1,0,_=>by
  have e:=rJ mask h k (SetTable.runEnd mask (ls mask h k).1-(ls mask h k).1) (iR _);show adv mask (pr mask h (tm mask h k+(SetTable.runEnd mask (ls mask h k).1-(ls mask h k).1)))=_;rw[e];unfold adv at_;simp only[Nat.sub_self,oi,iK,gt_iff_lt];rfl
 |k,t+1,a=>by
  have e:=rJ mask h k t (by lia);show adv mask (pr mask h (tm mask h k+t))=_;rw[e];unfold adv at_;rw[gO (show SetTable.runEnd mask (ls mask h k).1-(ls mask h k).1-t>0 by lia)];simp only[SetTable.Probe.mk.injEq,and_true,true_and]
  lia
def Jj(hk:mask+1=2^k)(h:Int)(a:e<=mask): ∃n,n<10*(mask+14)/\(pr mask h n).j=e:=by
 obtain⟨r,b,er⟩:=Co hk h a;have:=M9 mask h r;refine⟨tm mask h r,by lia,?_⟩;have:=rJ mask h r 0 (lj _);rw[Nat.add_zero] at this;rw[this];exact er
theorem Ji(mask:Nat)(h:Int): ∀n,(pr mask h n).dummy=none
 |0=>rfl
 |n+1=>by
  show(adv mask (pr mask h n)).dummy=none;unfold adv;split<;>exact Ji mask h n
theorem Ca(mask:Nat)(h:Int): ∀n,∃k t,n=tm mask h k+t/\t<=SetTable.runEnd mask (ls mask h k).1-(ls mask h k).1
 |0=>⟨0,0,rfl,lj _⟩
 |n+1=>by
  obtain⟨k,t,e,b⟩:=Ca mask h n;by_cases a:t+1<=SetTable.runEnd mask (ls mask h k).1-(ls mask h k).1
  ·exact⟨k,t+1,by lia,a⟩
  ·exact⟨k+1,0,by unfold tm;lia,lj _⟩
def Jh(mask:Nat)(h:Int)(n:Nat):(pr mask h n).j<=mask:=by
 obtain⟨k,t,e,a⟩:=Ca mask h n;rw[e,rJ mask h k t a];have:=Eb mask _ (FG mask h k);show(ls mask h k).1+t<=mask;lia
def AK{c:Array Nat}(g:c.toList.Pairwise (· < ·)){i j:Nat}{a b:Nat}(h:i<j)(h1:c[i]?=some a)(d:c[j]?=some b):a<b:=by
 rw[<-kW] at h1 d;obtain⟨e,rfl⟩:=qM.mp h1;obtain⟨f,rfl⟩:=qM.mp d;exact K7.mp g i j e f h
theorem xY{d:Array Nat}(n:d.toList.Pairwise (· < ·))(j:Nat): ∀(c lo b:Nat),lo<=b->b<=d.size->b-lo<=c->
  (∀i a,i<lo->d[i]?=some a->a<j)->(∀i a,b<=i->d[i]?=some a->j<=a)->
  let p:=SetTable.below.go d j c lo b
  p<=d.size/\(∀i a,i<p->d[i]?=some a->a<j)/\(∀i a,p<=i->d[i]?=some a->j<=a)
 |0,lo,b,h1,g,s,h,k=>by
  have:lo=b:=by lia
  subst this;exact⟨g,h,k⟩
 |c+1,lo,b,h1,g,s,h,k=>by
  unfold SetTable.below.go;by_cases q:lo<b
  ·rw[gO q];have o:(lo+b) / 2<d.size:=by lia
   have m:d[(lo+b) / 2]?=some d[(lo+b) / 2]:=nC o;have hd:d.getD ((lo+b) / 2) j=d[(lo+b) / 2]:=by simp[Array.getD,o]
   dsimp only;rw[hd];by_cases l:d[(lo+b) / 2]<j
   ·rw[gO l];refine xY n j c ((lo+b) / 2+1) b (by lia) g (by lia) (λi a r f=>?_) k;by_cases e:i=(lo+b) / 2
    ·subst e;rw[m] at f;cases f;exact l
    ·exact Ag (AK n (by lia) f m) l
   ·rw[gZ l];refine xY n j c lo ((lo+b) / 2) (by lia) (by lia) (by lia) h (λi a r f=>?_);by_cases e:i=(lo+b) / 2
    ·subst e;rw[m] at f;cases f;lia
    ·have:=AK n (show(lo+b) / 2<i by lia) m f;lia
  ·rw[gZ q];have:lo=b:=by lia
   subst this;exact⟨g,h,k⟩
def nr{b:Array Nat}(d:b.toList.Pairwise (· < ·))(j:Nat):SetTable.below b j<=b.size/\(∀i a,i<SetTable.below b j->b[i]?=some a->a<j)/\(∀i a,SetTable.below b j<=i->b[i]?=some a->j<=a):=
 xY d j b.size 0 b.size (lj _) (iR _) (by lia) (λi a h=>by lia) (λi a h1 c=>by
  have:=(Hg.mp c).1;lia)
theorem xZ{a:Array Nat}(c:a.toList.Pairwise (· < ·)){i j:Nat}(h:a[i]?=some j):SetTable.below a j=i:=by
 obtain⟨h1,d,e⟩:=nr c j;by_cases g:i<SetTable.below a j
 ·exact absurd (d i j g h) (oi _)
 ·by_cases f:SetTable.below a j<i
  ·have k:=(Hg.mp h).1;have b:a[SetTable.below a j]?=some a[SetTable.below a j]:=nC (by lia);have:=e _ _ (iR _) b;have:=AK c f b h
   lia
  ·lia
theorem A8(j:Nat):SetTable.has #[] j=false:=rfl
theorem ot{t:kT}(a:t.place.toList.Pairwise (· < ·)){i j:Nat}(h:t.place[i]?=some j):t.slot j= .live i:=by
 unfold SetTable.slot;dsimp only;rw[xZ a h,h];simp
theorem D7{t:kT}(hd:t.dummies= #[]){j:Nat}(h:j∉t.place.toList):t.slot j= .empty:=by
 unfold SetTable.slot;dsimp only
 have:(t.place[SetTable.below t.place j]?==some j)=false:=by
  rw[vI];intro e;rw[<-kW] at e;exact h (lE e)
 rw[this,hd,A8];rfl
theorem KQ(t:kT)(p:SetTable.Probe):t.advance p=adv t.mask p:=by
 unfold SetTable.advance adv;split<;>rfl
theorem B9{k:ik}{t:kT}(ok:TabOk k t)(hashAt:Nat->Int)(h:Int): ∀(a n:Nat),(∃M,n<=M/\M<n+a/\(pr t.mask h M).j∉t.place.toList)->
    ∃m,n<=m/\(∀q,n<=q->q<m-> ∃i,t.place[i]?=some (pr t.mask h q).j/\hashAt i≠h)/\
      (((pr t.mask h m).j∉t.place.toList/\SetTable.probe.go t hashAt h a (pr t.mask h n)=some (.empty (pr t.mask h m).j none))\/
       (∃i,t.place[i]?=some (pr t.mask h m).j/\hashAt i=h/\SetTable.probe.go t hashAt h a (pr t.mask h n)=some (.candidate (pr t.mask h m).j i (pr t.mask h (m+1)))))
  |0,n,⟨M,h1,f,g⟩=>by lia
  |a+1,n,⟨M,h1,f,g⟩=>by
    unfold SetTable.probe.go;by_cases d:(pr t.mask h n).j∈t.place.toList
    · obtain⟨i,c⟩:=si d
      rw[kW] at c;rw[ot ok.ris c];dsimp only;by_cases b:hashAt i=h
      · refine⟨n,iR _,λq h1 f=>by lia,.inr ⟨i,c,b,?_⟩⟩
        rw[gO (by simpa using b),KQ];rfl
      · rw[gZ (by simpa using b),KQ]
        have o:M≠n:=λe=>g (e▸d);obtain⟨m,g1,g2,g3⟩:=B9 ok hashAt h a (n+1) ⟨M,by lia,by lia,g⟩;refine⟨m,by lia,λq p l=>?_,g3⟩;by_cases e:q=n
        · subst e;exact⟨i,c,b⟩
        · exact g2 q (by lia) l
    · rw[D7 ok.dum d]
      dsimp only;rw[Ji];exact⟨n,iR _,λq h1 f=>by lia,.inl ⟨d,rfl⟩⟩
theorem xu: ∀(n:Nat) (l:iP),l.length<=n-> ∃e,e<=n/\e∉l
 |0,l,h=>⟨0,iR _,by cases l with|nil=>simp|cons _ _=>simp at h⟩
 |n+1,l,h=>by
  by_cases a:n+1∈l
  ·obtain⟨e,h1,b⟩:=xu n (l.erase (n+1)) (by rw[List.length_erase_of_mem a];lia);exact⟨e,by lia,λz=>b ((HA (by lia)).mpr z)⟩
  ·exact⟨n+1,iR _,a⟩
theorem TabOk.free(ok:TabOk f t)(h:Int): ∃M,M<10*(t.mask+14)/\(pr t.mask h M).j∉t.place.toList:=by
 obtain⟨k,_,_,hk⟩:=ok.pow
 have h1:t.place.toList.length<=t.mask:=by
  have:=ok.len;have:=ok.room;rw[ju];lia
 obtain⟨e,c,d⟩:=xu t.mask _ h1;obtain⟨n,a,b⟩:=Jj hk h c;exact⟨n,a,by rw[b];exact d⟩
theorem kB{b:Type}(a:Array b)(p:Nat)(x:b):(SetTable.insertAt a p x).toList=a.toList.take p++x::a.toList.drop p:=by
 unfold SetTable.insertAt;simp[Array.toList_extract,List.extract];rw[List.take_of_length_le (by simp)]
def Ed(h:xs.toList.Pairwise (· < ·))(n:j∉xs.toList):(SetTable.insertAt xs (SetTable.below xs j) j).toList.Pairwise (· < ·):=by
 obtain⟨h1,l,k⟩:=nr h j;rw[kB,qY];refine⟨h.sublist (uB _ _),?_,?_⟩
 ·rw[EY];refine⟨λa d=>?_,h.sublist (DA _ _)⟩;obtain⟨i,c⟩:=si d;rw[List.getElem?_drop] at c;have m:=k _ _ (show SetTable.below xs j<=SetTable.below xs j+i by lia) (by rw[<-kW];exact c);have:a≠j:=λe=>n (e▸lE c)
  lia
 ·intro a d b g
  have f:a<j:=by
   obtain⟨i,c⟩:=si d;rw[List.getElem?_take] at c;split at c
   ·rename_i o;exact l i a o (by rw[<-kW];exact c)
   ·cases c
  rcases js.mp g with rfl|g
  ·exact f
  ·obtain⟨i,c⟩:=si g;rw[List.getElem?_drop] at c;have m:=k _ _ (show SetTable.below xs j<=SetTable.below xs j+i by lia) (by rw[<-kW];exact c)
   lia
theorem TabOk.fresh(finger moves:Nat)(led:Bool):TabOk [] (SetTable.fresh finger moves led) where
 pow:=⟨3,by lia,by lia,rfl⟩
 dum:=rfl
 len:=rfl
 room:=by show 5*0<3*7;lia
 ris:= .nil
 bd:=λj h=>by simp[SetTable.fresh] at h
 road:=λi h j h1=>by simp at h1
def TabOk.put(ok:TabOk g t)(A:(pr t.mask h n).j∉t.place.toList)(z: ∀m,m<n->(pr t.mask h m).j∈t.place.toList)(H:5*(g.length+1)<3*t.mask)(C:j=(pr t.mask h n).j)(E:p=SetTable.below t.place j):
  TabOk (g.take p++h::g.drop p) (t.put j).1/\(t.put j).2=p:=by
 subst C;subst E
 have v:(t.put (pr t.mask h n).j).1={t with place:=SetTable.insertAt t.place (SetTable.below t.place (pr t.mask h n).j) (pr t.mask h n).j,dummies:= #[]}:=by
  unfold SetTable.put;dsimp only;rw[ok.dum,A8];rfl
 obtain⟨h1,_,_⟩:=nr ok.ris (pr t.mask h n).j;have G:=ok.len
 have c: ∀x,x∈t.place.toList->x∈(SetTable.insertAt t.place (SetTable.below t.place (pr t.mask h n).j) (pr t.mask h n).j).toList:=λx a=>by
  rw[kB];rw[<-uw (SetTable.below t.place (pr t.mask h n).j) t.place.toList] at a;rcases pE.mp a with a|a
  ·exact pE.mpr (.inl a)
  ·exact pE.mpr (.inr (iZ _ a))
 refine⟨?_,rfl⟩;rw[v];generalize y:SetTable.below t.place (pr t.mask h n).j=P at*;refine⟨ok.pow,rfl,?_,?_,?_,λx a=>?_,λi f k g1 g2=>?_⟩
 ·show(SetTable.insertAt t.place P (pr t.mask h n).j).size=_;rw[<-ju,kB];simp only[mx,kO,pD,List.length_drop,ju];lia
 ·show 5*_<3*t.mask;simp only[mx,kO,pD,List.length_drop];lia
 ·have:=Ed ok.ris A;rw[y] at this;exact this
 ·have s:x∈(SetTable.insertAt t.place P (pr t.mask h n).j).toList:=a;rw[kB] at s;show x<=t.mask;rcases pE.mp s with a|a
  ·exact ok.bd x (uv a)
  ·rcases js.mp a with rfl|a
   ·exact Jh _ _ _
   ·exact ok.bd x (zW a)
 ·have b:(SetTable.insertAt t.place P (pr t.mask h n).j).toList[i]?=some k:=by rw[kW];exact g2
  rw[kB] at b;show ∃u,(pr t.mask f u).j=k/\ ∀m,m<u->(pr t.mask f m).j∈(SetTable.insertAt t.place P (pr t.mask h n).j).toList;have w:(t.place.toList.take P).length=P:=by rw[pD,ju];lia
  have l:(g.take P).length=P:=by rw[pD];lia
  by_cases B:i<P
  ·rw[qK (by lia),HS B] at g1 b;rw[kW] at b;obtain⟨q,o,r⟩:=ok.road i f k g1 b;exact⟨q,o,λm e=>c _ (r m e)⟩
  ·rw[nZ (by lia),w] at b;rw[nZ (by lia),l] at g1
   cases hd:i-P with
   |zero=>
    rw[hd] at g1 b;simp at g1 b;subst g1;subst b;exact⟨n,rfl,λm e=>c _ (z m e)⟩
   |succ d=>
    rw[hd] at g1 b;simp only[zQ,List.getElem?_drop] at g1 b;rw[kW] at b;obtain⟨q,o,r⟩:=ok.road _ f k g1 b;exact⟨q,o,λm e=>c _ (r m e)⟩
def occ(ow:rX)(j:Nat):Prop:= ∃i,ow.getD j none=some i
theorem A9{ow:rX}{j:Nat}{d:Option Nat}(h:j<ow.size):ow.getD j d=ow.getD j none:=by simp[Array.getD,h]
theorem ze{mask:Nat}{ow:rX}(z:ow.size=mask+1)(h:Int): ∀(a k:Nat),(∃r,k<=r/\r<k+a/\ ¬occ ow (ls mask h r).1)->(∀m,m<tm mask h k->occ ow (pr mask h m).j)->
  ∃n,SetTable.layClean.free mask ow a (ls mask h k).1 (ls mask h k).2=some (pr mask h n).j/\ ¬occ ow (pr mask h n).j/\ ∀m,m<n->occ ow (pr mask h m).j
 |0,k,⟨r,h1,v,_⟩,_=>by lia
 |a+1,k,⟨r,h1,v,g⟩,l=>by
  unfold SetTable.layClean.free;have x:=FG mask h k;have y:=Eb mask _ x
  cases c:(List.range (SetTable.runEnd mask (ls mask h k).1+1-(ls mask h k).1)).find? λt=>(ow.getD ((ls mask h k).1+t) (some 0)).isNone with
  |some t=>
   rw[List.find?_range_eq_some] at c;obtain⟨a1,q,s⟩:=c;rw[rW] at q;have p:t<=SetTable.runEnd mask (ls mask h k).1-(ls mask h k).1:=by lia
   have e:=rJ mask h k t p;refine⟨tm mask h k+t,by rw[e];rfl,?_,λm o=>?_⟩
   ·rw[e];rintro⟨i,w⟩;rw[A9 (by show(ls mask h k).1+t<_;lia)] at a1;have u:ow.getD ((ls mask h k).1+t) none=some i:=w;rw[u] at a1;simp at a1
   ·by_cases f:m<tm mask h k
    ·exact l m f
    ·have b:=rJ mask h k (m-tm mask h k) (by lia);rw[show tm mask h k+(m-tm mask h k)=m by lia] at b;rw[b];have:=s (m-tm mask h k) (by lia);rw[A9 (by show(ls mask h k).1+(m-tm mask h k)<_;lia)] at this;show occ ow ((ls mask h k).1+(m-tm mask h k));unfold occ
     cases d:ow.getD ((ls mask h k).1+(m-tm mask h k)) none with
     |none=>rw[d] at this;simp at this
     |some i=>exact⟨i,rfl⟩
  |none=>
   rw[List.find?_range_eq_none] at c
   have all: ∀t,t<=SetTable.runEnd mask (ls mask h k).1-(ls mask h k).1->occ ow ((ls mask h k).1+t):=λt p=>by
    have:=c t (by lia);rw[A9 (by lia)] at this;unfold occ
    cases d:ow.getD ((ls mask h k).1+t) none with
    |none=>rw[d] at this;simp at this
    |some i=>exact⟨i,rfl⟩
   have A:r≠k:=λe=>g (by subst e;have:=all 0 (lj _);simpa using this)
   have:=ze z h a (k+1) ⟨r,by lia,by lia,g⟩ (λm o=>by
    by_cases f:m<tm mask h k
    ·exact l m f
    ·unfold tm at o;have b:=rJ mask h k (m-tm mask h k) (by lia);rw[show tm mask h k+(m-tm mask h k)=m by lia] at b;rw[b];exact all _ (by lia))
   exact this
theorem xJ{a c:Type}{f g:a->Option c}: ∀{l:List a},(∀x∈l,f x=g x)->l.filterMap f=l.filterMap g
 |[],_=>rfl
 |x::l,h=>by rw[qL,qL,h x ja,xJ λy b=>h y (iZ _ b)]
def ng(mask:Nat)(ow:rX):List (Nat×Nat):=(List.range (mask+1)).filterMap λj=>(ow.getD j none).map (j,·)
def K5:(j,i)∈ng mask ow↔j<=mask/\ow.getD j none=some i:=by
 unfold ng;simp only[List.mem_filterMap,rW,Option.map_eq_some_iff,Prod.mk.injEq];constructor
 ·rintro⟨a,h1,b,c,rfl,rfl⟩;exact⟨by lia,c⟩
 ·rintro⟨h1,c⟩;exact⟨j,by lia,i,c,rfl,rfl⟩
def JW(mask:Nat)(ow:rX):((ng mask ow).map (·.1)).Pairwise (· < ·):=by
 unfold ng;rw[List.map_filterMap,List.pairwise_filterMap];refine List.pairwise_lt_range.imp λ{a b} c x d y e=>?_;simp only[Option.mem_def,Option.map_map,Option.map_eq_some_iff,Function.comp] at d e;obtain⟨_,_,rfl⟩:=d;obtain⟨_,_,rfl⟩:=e;exact c
def JV{mask:Nat}{ow:rX}(f:ow.size=mask+1){j k:Nat}(d:j<=mask)(c:ow.getD j none=none):(ng mask (ow.setIfInBounds j (some k))).Perm ((j,k)::ng mask ow):=by
 have g: ∀i,(ow.setIfInBounds j (some k)).getD i none=if i=j then some k else ow.getD i none:=λi=>by
  simp only[rh,zP];by_cases e:i=j
  ·subst e;simp[show i<ow.size by lia]
  ·rw[gZ (λz=>e z.symm),gZ e]
 have split:List.range (mask+1)=List.range j++j::(List.range (mask-j)).map (λx=>j+1+x):=by
  rw[show mask+1=j+(mask-j+1) by lia,List.range_add,List.range_succ_eq_map];simp[wq,ur,Nat.add_comm 1]
 unfold ng;rw[split,Hz,Hz,qL,qL];simp only[g,c,gO rfl,Option.map_none,Option.map_some]
 have a1:(List.range j).filterMap (λi=>(if i=j then some k else ow.getD i none).map (i,·))=(List.range j).filterMap (λi=>(ow.getD i none).map (i,·)):=
  xJ λi a=>by rw[rW] at a;rw[gZ (by lia)]
 have b:((List.range (mask-j)).map (λx=>j+1+x)).filterMap (λi=>(if i=j then some k else ow.getD i none).map (i,·))=((List.range (mask-j)).map (λx=>j+1+x)).filterMap (λi=>(ow.getD i none).map (i,·)):=
  xJ λi a=>by
   obtain⟨x,_,rfl⟩:=nv.mp a;rw[gZ (by lia)]
 rw[a1,b];exact K8
structure LayOk(mask:Nat)(hs:ik)(ow:rX):Prop where
 size:ow.size=mask+1
 perm:((ng mask ow).map (·.2)).Perm (List.range hs.length)
 road: ∀j i h,ow.getD j none=some i->hs[i]?=some h-> ∃n,(pr mask h n).j=j/\ ∀m,m<n->occ ow (pr mask h m).j
def FE(h:occ ow x):occ (ow.setIfInBounds j (some k)) x:=by
 obtain⟨i,a⟩:=h;unfold occ;simp only[rh,zP] at a ⊢;by_cases e:j=x
 ·subst e;rw[gO rfl];split
  ·exact⟨k,rfl⟩
  ·rename_i b;rw[zO (by lia)] at a;simp at a
 ·rw[gZ e];exact⟨i,a⟩
def LayOk.step{mask k:Nat}(hk:mask+1=2^k){a:ik}{ow:rX}(ok:LayOk mask a ow)(h:Int)(E:a.length<=mask):
  ∃j,SetTable.layClean.free mask ow (SetTable.turns mask) (SetTable.bits h%(mask+1)) (SetTable.bits h)=some j/\LayOk mask (a++[h]) (ow.setIfInBounds j (some a.length)):=by
 have o:(ng mask ow).length=a.length:=by have:=ok.perm.length_eq;simpa using this
 obtain⟨e,l,x⟩:=xu mask ((ng mask ow).map (·.1)) (by rw[jt];lia)
 have s: ¬occ ow e:=by
  rintro⟨i,f⟩;exact x (nv.mpr ⟨(e,i),K5.mpr ⟨l,f⟩,rfl⟩)
 obtain⟨r,A,u⟩:=Co hk h l;obtain⟨n,f1,f2,t⟩:=ze ok.size h (SetTable.turns mask) 0 ⟨r,lj _,by unfold SetTable.turns;lia,by rw[u];exact s⟩ (λm c=>by simp[tm] at c);have w:=Jh mask h n
 have p:ow.getD (pr mask h n).j none=none:=by
  cases y:ow.getD (pr mask h n).j none with
  |none=>rfl
  |some i=>exact absurd ⟨i,y⟩ f2
 refine⟨_,f1,⟨by rw[Array.size_setIfInBounds];exact ok.size,?_,λj i v g1 g2=>?_⟩⟩
 ·refine((JV ok.size w p).map _).trans ?_;rw[iT,mx,wx,List.range_succ];exact(List.Perm.cons _ ok.perm).trans (Hy _ _).symm
 ·by_cases b:j=(pr mask h n).j
  ·subst b
   have:i=a.length:=by
    simp only[rh,zP,gO rfl] at g1;rw[gO True.intro,gO (by rw[ok.size];lia)] at g1;exact(ji g1).symm
   subst this;rw[nZ (iR _)] at g2;simp at g2;subst g2;exact⟨n,rfl,λm c=>FE (t m c)⟩
  ·have d:ow.getD j none=some i:=by
    simp only[rh,zP] at g1 ⊢;rw[gZ (λz=>b z.symm)] at g1;exact g1
   have f:i<a.length:=by
    have g:j<=mask:=by
     by_cases q:j<ow.size
     ·have:=ok.size;lia
     ·rw[rh,zO (by lia)] at d;simp at d
    have:=ok.perm.mem_iff.mp (nv.mpr ⟨(j,i),K5.mpr ⟨g,d⟩,rfl⟩);exact rW.mp this
   rw[qK f] at g2;obtain⟨q,B,C⟩:=ok.road j i v d g2;exact⟨q,B,λm c=>FE (C m c)⟩
def LayOk.start(mask:Nat):LayOk mask [] (Array.replicate (mask+1) none) where
 size:=by simp
 perm:=by
  have:ng mask (Array.replicate (mask+1) none)=[]:=by
   unfold ng;refine List.filterMap_eq_nil_iff.mpr λj a=>?_;rw[rh,Hx];split<;>rfl
  rw[this];exact uq _
 road:=λj i h h1=>by
  rw[rh,Hx] at h1;split at h1<;>cases h1
def tx(mask:Nat)(a:Option (Array (Option Nat)×Nat))(h:Int):Option (Array (Option Nat)×Nat):=do
 let(owner,k) <-a
 let j <-SetTable.layClean.free mask owner (SetTable.turns mask) (SetTable.bits h%(mask+1)) (SetTable.bits h)
 pure (owner.setIfInBounds j (some k),k+1)
theorem Cr{mask k:Nat}(hk:mask+1=2^k): ∀(l a:ik) (ow:rX),LayOk mask a ow->a.length+l.length<=mask+1->
  ∃c,l.foldl (tx mask) (some (ow,a.length))=some (c,a.length+l.length)/\LayOk mask (a++l) c
 |[],a,ow,ok,_=>⟨ow,rfl,by rw[rB];exact ok⟩
 |h::l,a,ow,ok,g=>by
  rw[kO] at g;obtain⟨j,e,d⟩:=ok.step hk h (by lia);obtain⟨c,f,b⟩:=Cr hk l (a++[h]) _ d (by rw[mx,wx];lia);refine⟨c,?_,by rw[oW] at b;exact b⟩;rw[rm]
  have:tx mask (some (ow,a.length)) h=some (ow.setIfInBounds j (some a.length),a.length+1):=by
   unfold tx;show(SetTable.layClean.free mask ow (SetTable.turns mask) (SetTable.bits h%(mask+1)) (SetTable.bits h)>>=_)=_;rw[e];rfl
  rw[this];rw[mx,wx] at f;rw[f,kO]
  congr 2;lia
def Ct(hk:mask+1=2^k)(a:ik)(c:a.length<=mask): ∃ow,SetTable.layClean mask a.toArray=some ow/\LayOk mask a ow:=by
 obtain⟨ow,e,ok⟩:=Cr hk a [] _ (LayOk.start mask) (by simp;lia);refine⟨ow,?_,by simpa using ok⟩;unfold SetTable.layClean;rw[<-Array.foldl_toList];show Option.map _ (List.foldl (tx mask) _ a)=_;have b:List.foldl (tx mask) (some (Array.replicate (mask+1) none,0)) a=some (ow,a.length):=by simpa using e
 rw[b];rfl
def Mz(hk:mask+1=2^k)(w:3<=k)(o:k<=11)(finger moves:Nat)(led plain:Bool)(d:ik)(E:5*d.length<3*mask):
  ∃t c,SetTable.laid mask finger moves led plain d.toArray=some (t,c)/\c.toList.Perm (List.range d.length)/\TabOk (c.toList.map λi=>d.getD i 0) t/\t.plain=plain/\t.led=led:=by
 obtain⟨ow,e,ok⟩:=Ct hk d (by lia);refine⟨{mask,place:=((ng mask ow).map (·.1)).toArray,dummies:= #[],finger,led,moves,plain},((ng mask ow).map (·.2)).toArray,?_,by simpa using ok.perm,?_,rfl,rfl⟩
 ·unfold SetTable.laid;rw[e];rfl
 ·have g:(ng mask ow).length=d.length:=by have:=ok.perm.length_eq;simpa using this
  refine⟨⟨k,w,o,hk⟩,rfl,by simp,by simp[g];lia,by simpa using JW mask ow,λj z=>?_,λi h j g1 g2=>?_⟩
  ·have v:j∈(ng mask ow).map (·.1):=by simpa using z
   obtain⟨⟨a,b⟩,q,rfl⟩:=nv.mp v;exact(K5.mp q).1
  ·have r:((ng mask ow).map (·.2)).map (λi=>d.getD i 0)=(((ng mask ow).map (·.2)).toArray).toList.map λi=>d.getD i 0:=by simp
   rw[<-r,jJ,jJ] at g1;have f:((ng mask ow).map (·.1))[i]?=some j:=by simpa using g2
   rw[jJ] at f
   cases l:(ng mask ow)[i]? with
   |none=>rw[l] at f;cases f
   |some p=>
    obtain⟨a,b⟩:=p;rw[l] at g1 f;simp at g1 f;subst f;have q:=K5.mp (lE l)
    have x:b<d.length:=by
     have:=ok.perm.mem_iff.mp (nv.mpr ⟨(a,b),lE l,rfl⟩);exact rW.mp this
    have y:d[b]?=some h:=by rw[jm x] at g1 ⊢;simpa using g1
    obtain⟨n,B,C⟩:=ok.road a b h q.2 y;refine⟨n,B,λm u=>?_⟩;obtain⟨A,s⟩:=C m u;show(pr mask h m).j∈(((ng mask ow).map (·.1)).toArray).toList;have:(pr mask h m).j∈(ng mask ow).map (·.1):=nv.mpr ⟨(_,A),K5.mpr ⟨Jh mask h m,s⟩,rfl⟩;simpa using this
def AG: ∀n,n<2048-> ∃k,3<=k/\k<=11/\SetTable.sizeAbove n=2^k/\n<2^k:=by
 intro n h
 have step: ∀(f k:Nat),3<=k->k<=11->11<k+f-> ∃b,3<=b/\b<=11/\SetTable.sizeAbove.go n f (2^k)=2^b/\n<2^b:=by
  intro f
  induction f with
  |zero=>intro k h1 c d;lia
  |succ f g=>
   intro k h1 c d;unfold SetTable.sizeAbove.go;by_cases a:2^k<=n
   ·rw[gO a,<-rZ];have:k≠11:=λe=>by subst e;lia
    exact g (k+1) (by lia) (by lia) (by lia)
   ·rw[gZ a];exact⟨k,h1,c,rfl,by lia⟩
 exact step 64 3 (by lia) (by lia) (by lia)
open PyProof.Rows PySem.SeqAt
def GC{g:ik}{t:kT}(ok:TabOk g t){hashAt:Nat->Int}{h:Int}{p:SetTable.Probe}{n:Nat}(f:p=pr t.mask h n)(e: ∀m,m<n->(pr t.mask h m).j∈t.place.toList):
    ∃m,n<=m/\m<10*(t.mask+14)/\(∀q,n<=q->q<m-> ∃i,t.place[i]?=some (pr t.mask h q).j/\hashAt i≠h)/\
      (((pr t.mask h m).j∉t.place.toList/\t.probe hashAt h p=some (.empty (pr t.mask h m).j none))\/
       (∃i,t.place[i]?=some (pr t.mask h m).j/\hashAt i=h/\t.probe hashAt h p=some (.candidate (pr t.mask h m).j i (pr t.mask h (m+1))))):=by
  subst f;obtain⟨M,h1,a⟩:=ok.free h
  have c:n<=M:=by
    by_cases b:M<n
    · exact absurd (e M b) a
    · lia
  obtain⟨m,g1,g2,g3⟩:=B9 ok hashAt h (10*SetTable.turns t.mask) n ⟨M,c,by unfold SetTable.turns;lia,a⟩
  have k:m<=M:=by
    by_cases b:M<m
    · obtain⟨i,d,_⟩:=g2 M c b
      rw[<-kW] at d;exact absurd (lE d) a
    · lia
  exact⟨m,g1,by lia,g2,g3⟩
section
variable {prog:gY}{w:gP}{A:gS}{E:ip}{s:gA}
structure Srch(A:gS)(s:gA)(a:gw)(es:qz)(n:Nat)(t:kT)(x:gD)(h:Int)(eqs:Nat->Bool):Prop where
 at_: ∃o,s.heap.get? a=some o/\o.data= .set es n t
 tab:TabOk (es.toList.map (·.1)) t
 refs: ∀(i:Nat) (e:Int×Value),es[i]?=some e-> ∃b,e.2= .ref b
 eq: ∀(i:Nat) (e:Int×Value),es[i]?=some e->EqAt A s e.2 x (eqs i)
 hash: ∀(i:Nat) (e:Int×Value),es[i]?=some e->eqs i=true->e.1=h
 quiet: ∀(l:iF) (prog:gY) (w:gP) (E:ip) (Q:pk),(∀v∈l,∃e∈es.toList,e.2=v)->Q false s->wpAny (model prog w) A (searchCouldBeSeen x l) Q E s
theorem JK(ok:TabOk c t):t.gaveWay=false:=by
 obtain⟨k,h1,_,b⟩:=ok.pow;obtain⟨a,rfl⟩: ∃a,k=a+1:=⟨k-1,by lia⟩
 rw[rZ] at b;unfold SetTable.gaveWay;rw[vI];lia
def FV(ok:TabOk a t)(h:a.length=n):t.fits n=true:=by
 have:=ok.len;have:=ok.room;unfold SetTable.fits SetTable.fill;rw[ok.dum];simp only[ko,beq_iff_eq,rp];exact⟨by lia,by show _+0<=_;lia⟩
def Srch.fits{a b n t x h eqs}(S:Srch A s a b n t x h eqs):t.fits b.size=true:=FV S.tab (by simp)
theorem pQ{a:gw}{l:qz}{nn:Nat}{t:kT}{x:gD}{h:Int}{c:Nat->Bool}{adding:Bool}(S:Srch A s a l nn t x h c){Q:SetFound->Shared->Prop}
  (u: ∀i r,c i=true->i<l.size->(r=none\/r=some i)->(adding=false->r=some i)->Q (.there r) s)
  (N:(∀i,i<l.size->c i=false)-> ∀n,(pr t.mask h n).j∉t.place.toList->(∀m,m<n->(pr t.mask h m).j∈t.place.toList)->Q (.free (pr t.mask h n).j false) s):
  ∀(d n:Nat) (B:Option SetTable.Probe),B.getD (t.probeStart h)=pr t.mask h n->(∀q,q<n-> ∃i,t.place[i]?=some (pr t.mask h q).j/\c i=false)->10*(t.mask+14)<n+d->n<=10*(t.mask+14)->
   wpAny (model prog w) A (setSearchFrom a x h adding d B) Q E s
 |0,n,B,_,_,hf,hn=>by lia
 |d+1,n,B,n8,Y,hf,hn=>by
  obtain⟨o,L,hd⟩:=S.at_
  have occ: ∀m,m<n->(pr t.mask h m).j∈t.place.toList:=λm X=>by
   obtain⟨i,k,_⟩:=Y m X;rw[<-kW] at k;exact lE k
  unfold setSearchFrom;refine gy (qE L hd S.fits ?_);dsimp only;rw[JK S.tab];simp only[iB,↓reduceIte];generalize W:t.probe _ h _=P;obtain⟨m,m1,m2,m3,K⟩:=GC S.tab n8 occ (hashAt:=λi=>(l[i]?.map (·.1)).getD 0);have J:t.probe (λi=>(l[i]?.map (·.1)).getD 0) h (B.getD (t.probeStart h))=P:=W;rw[J] at K
  have U: ∀(i:Nat) (j:Nat),t.place[i]?=some j-> ∃e,l[i]?=some e/\(l[i]?.map (·.1)).getD 0=e.1:=λi j k=>by
   have h1:=(Hg.mp k).1;have I:=S.tab.len;rw[jt,ju] at I;exact⟨l[i],nC (by lia),by rw[nC (by lia)];rfl⟩
  have ne: ∀(i:Nat) (j:Nat),t.place[i]?=some j->(l[i]?.map (·.1)).getD 0≠h->c i=false:=λi j k O=>by
   obtain⟨e,g,D⟩:=U i j k
   cases f:c i with
   |false=>rfl
   |true=>exact absurd (D.trans (S.hash i e g f)) O
  have seen: ∀q,q<m-> ∃i,t.place[i]?=some (pr t.mask h q).j/\c i=false:=λq f=>by
   by_cases p:q<n
   ·exact Y q p
   ·obtain⟨i,k,O⟩:=m3 q (by lia) f;exact⟨i,k,ne i _ k O⟩
  rcases K with⟨a1,a2⟩|⟨i,a1,a2,a3⟩
  ·subst a2;dsimp only;refine gK (N (λi k=>?_) m a1 λq f=>?_)
   ·cases f:c i with
    |false=>rfl
    |true=>
     exfalso;have g:l[i]?=some l[i]:=nC k;have h1:=S.hash i _ g f;have I:=S.tab.len;rw[jt,ju] at I;have G:t.place[i]?=some t.place[i]:=nC (by lia);obtain⟨T,R,r2⟩:=S.tab.road i h t.place[i] (by rw[jJ,kW,g];exact mM some h1) G
     have:T<m:=by
      by_cases p:T<m
      ·exact p
      ·exfalso;rcases Nat.lt_or_eq_of_le (K0.mp p) with p|heq
       ·exact a1 (r2 m p)
       ·subst heq;rw[<-kW] at G;rw[R] at a1;exact a1 (lE G)
     obtain⟨Z,g1,g2⟩:=seen T this;rw[R] at g1;have:Z=i:=by rw[<-xZ S.tab.ris g1,xZ S.tab.ris G]
     rw[this,f] at g2;cases g2
   ·obtain⟨i,k,_⟩:=seen q f;rw[<-kW] at k;exact lE k
  ·subst a3;dsimp only;obtain⟨e,g,D⟩:=U i _ a1;obtain⟨h',y⟩:=e;obtain⟨b,F⟩:=S.refs i _ g;dsimp only at F;subst F;have H:t.sameMemory t.moves t.mask=some true:=by simp[SetTable.sameMemory]
   have C:i<l.size:=(Hg.mp g).1;cases hl:t.led
   ·simp only[Bool.not_false,↓reduceIte];refine gy (S.quiet _ _ _ _ _ (λv hv=>?_) ?_)
    ·obtain⟨e,V,rfl⟩:=nv.mp hv;exact⟨e,(Qn.mp (by simpa using(Array.mem_filter.mp (Qn.mp V)).1) |> λz=>by simpa using z),rfl⟩
    simp only[iB,↓reduceIte];rw[g];dsimp only;refine gy (lV (S.eq i _ g _ _ _ _ ?_));refine gy (qE L hd S.fits ?_);dsimp only
    cases f:c i with
    |true=>
     cases adding with
     |true=>simp only[Bool.and_self,↓reduceIte];exact gK (u i none f C (.inl rfl) (λz=>by cases z))
     |false=>
      simp only[Bool.false_and,iB,↓reduceIte,H,ot S.tab.ris a1,g];refine gy (zM ?_);simp only[↓reduceIte];exact gy (gK (gK (u i _ f C (.inr rfl) λ_=>rfl)))
    |false=>
     simp only[Bool.and_false,iB,↓reduceIte,H,ot S.tab.ris a1,g];refine gy (zM ?_);simp only[↓reduceIte];refine gy (gK ?_)
     exact pQ S u N d (m+1) _ rfl (λq M=>by
      by_cases e:q=m
      ·subst e;exact⟨i,a1,f⟩
      ·exact seen q (by lia)) (by lia) (by lia)
   ·simp only[nB,iB,↓reduceIte];rw[g];dsimp only;refine gy (lV (S.eq i _ g _ _ _ _ ?_));refine gy (qE L hd S.fits ?_);dsimp only
    cases f:c i with
    |true=>
     cases adding with
     |true=>simp only[Bool.and_self,↓reduceIte];exact gK (u i none f C (.inl rfl) (λz=>by cases z))
     |false=>
      simp only[Bool.false_and,iB,↓reduceIte,H,ot S.tab.ris a1,g];refine gy (zM ?_);simp only[↓reduceIte];exact gy (gK (gK (u i _ f C (.inr rfl) λ_=>rfl)))
    |false=>
     simp only[Bool.and_false,iB,↓reduceIte,H,ot S.tab.ris a1,g];refine gy (zM ?_);simp only[↓reduceIte];refine gy (gK ?_)
     exact pQ S u N d (m+1) _ rfl (λq M=>by
      by_cases e:q=m
      ·subst e;exact⟨i,a1,f⟩
      ·exact seen q (by lia)) (by lia) (by lia)
end
abbrev jr(a:qz)(n:Nat)(t:kT):Obj:={cls:= .type "set",data:= .set a n t}
section
variable {c:gY}{w:gP}{A:gS}{E:ip}{s:gA}
def BM{h:gR}{a:gw}{b es':qz}{n:Nat}{t t':kT}(d:h.get? a=some (jr b n t)):(h.update a (Obj.putSet es' t')).get? a=some (jr es' (n+1) t'):=by
 have:=qI (Obj.putSet es' t') d (by rw[putSet_of es' t' rfl];rfl);rw[putSet_of es' t' rfl] at this;exact this
theorem IM{b:Type}(a:Array b):(List.range a.size).filterMap (λi=>a[i]?)=a.toList:=by
 have: ∀(l:List b),(List.range l.length).filterMap (λi=>l[i]?)=l:=by
  intro l
  induction l with
  |nil=>rfl
  |cons x l d=>
   rw[kO,List.range_succ_eq_map,qL];simp only[List.getElem?_cons_zero,List.filterMap_map,wq,zQ,d]
 have h:=this a.toList;simpa using h
theorem FU{a:qz}: ∀(l:iP),(∀i∈l,i<a.size)->(l.filterMap (λi=>a[i]?)).map (·.1)=l.map λi=>(a.toList.map (·.1)).getD i 0
 |[],_=>rfl
 |i::l,h=>by
  have b:=h i ja;rw[qL,nC b];simp only[iT];rw[FU l λj d=>h j (iZ _ d)]
  congr 1
  simp[b]
def II{a:gw}{d:qz}{n:Nat}{t:kT}(j:s.heap.get? a=some (jr d n t))(v:t.fits d.size=true)(G:5<=d.size)(I:d.size<=500){Q:Unit->Shared->Prop}
  (h: ∀g es' C t',Heap.SameBut a s.heap g->g.get? a=some (jr es' C t')->es'.toList.Perm d.toList->TabOk (es'.toList.map (·.1)) t'->t'.plain=t.plain->t'.led=t.led->Q () {s with heap:=g}):
  wpAny (model c w) A (setRelay a (SetTable.grown d.size)) Q E s:=by
 have x:SetTable.grown d.size=d.size*4:=by unfold SetTable.grown;rw[gZ (by lia)]
 obtain⟨k,B,l,u,lk⟩:=AG (d.size*4) (by lia);have z:SetTable.sizeAbove (d.size*4)-1+1=2^k:=by have:=Nat.two_pow_pos k;lia
 obtain⟨t',b,o,f,p,q,r⟩:=Mz z B l t.finger (t.movedTo (SetTable.sizeAbove (d.size*4)-1)) t.led t.plain (d.toList.map (·.1)) (by rw[jt,ju];lia);rw[jt,ju] at f
 have er:t.relaid (d.map (·.1)) (d.size*4)=some (t',b):=by
  unfold SetTable.relaid;rw[<-o,<-Array.toList_map]
 have e: ∀i∈b.toList,i<d.size:=λi y=>rW.mp (f.mem_iff.mp y);have m:(b.filterMap (d[·]?)).toList=b.toList.filterMap (λi=>d[i]?):=by simp
 have perm:(b.filterMap (d[·]?)).toList.Perm d.toList:=by
  rw[m];refine(f.filterMap _).trans ?_;rw[IM]
 have sz:(b.filterMap (d[·]?)).size=d.size:=by rw[<-ju,perm.length_eq,ju]
 rw[x];unfold setRelay;refine gy (qE j rfl v ?_);dsimp only
 have H:2^k<=sizeLine:=by
  have:2^k<=2^11:=zS (by decide) l;rw[iM];lia
 rw[gZ (by rw[u];lia),er];refine gy ?_;change wpAny _ _ (if((b.filterMap (d[·]?)).size !=d.size)=true then _ else _) _ _ _;rw[gZ (by rw[sz];simp)];refine gK ?_;dsimp only;refine wpAny_storeSet_of j rfl ?_ (by rw[sz,iM];lia);refine h _ (b.filterMap (d[·]?)) (n+1) t' (se s.heap a _) (BM j) perm ?_ q r;rw[m,FU _ e];exact p
theorem nK{b:Type}(a:Array b)(p:Nat)(x:b):(SetTable.insertAt a p x).toList.Perm (x::a.toList):=by
 rw[kB];refine K8.trans ?_;rw[uw]
def Sb{a b:gw}{d:qz}{n:Nat}{t:kT}{h:Int}{p:Nat->Bool}(S:Srch A s a d n t (.ref b) h p)(H:s.heap.get? a=some (jr d n t))(h9:t.plain=true)(hz:d.size+1<=500)
  (O: ∀(Y:pk),Y true s->wpAny (model c w) A (hashByValue 8 (.ref b)) Y E s){Q:pk}
  (B:(∃i,i<d.size/\p i=true)->Q false s)
  (u5:(∀i,i<d.size->p i=false)-> ∀h' es' U t',Heap.SameBut a s.heap h'->h'.get? a=some (jr es' U t')->es'.toList.Perm ((h,.ref b)::d.toList)->TabOk (es'.toList.map (·.1)) t'->t'.plain=true->t'.led=t.led->Q true {s with heap:=h'}):
  wpAny (model c w) A (setAddHashed a (.ref b) h) Q E s:=by
 unfold setAddHashed setAddHashedIn;refine lV (gy (qE H rfl S.fits ?_));dsimp only;have N:byScan (.ref b) d=false:=rfl;rw[N];simp only[iB,↓reduceIte]
 have hm:t.mask+1<=2048:=by
  obtain⟨k,_,P,V⟩:=S.tab.pow;have:2^k<=2^11:=zS (by decide) P
  lia
 refine gy (pQ S (adding:=true) (λi r h1 M _ _=>?_) (λD m h1 M=>?_) 100000 0 none rfl (λq hq=>by lia) (by lia) (by lia))
 ·dsimp only;exact gK (B ⟨i,M,h1⟩)
 ·dsimp only;refine gy (qE H rfl S.fits ?_);dsimp only
  have x:(t.put (pr t.mask h m).j).1={t with place:=SetTable.insertAt t.place (SetTable.below t.place (pr t.mask h m).j) (pr t.mask h m).j,dummies:= #[]}:=by
   unfold SetTable.put;dsimp only;rw[S.tab.dum,A8];rfl
  have R:(t.put (pr t.mask h m).j).2=SetTable.below t.place (pr t.mask h m).j:=rfl;have L:(t.put (pr t.mask h m).j).1.plain=true:=by rw[x];exact h9
  rw[gO L];refine gy (O _ ?_);simp only[↓reduceIte]
  have v:(SetTable.insertAt d (t.put (pr t.mask h m).j).2 (h,Value.ref b)).size=d.size+1:=by
   rw[<-ju,(nK d _ _).length_eq,kO,ju]
  refine gy (wpAny_storeSet_of H rfl ?_ (by rw[v,iM];lia));have K:=BM (es':=SetTable.insertAt d (t.put (pr t.mask h m).j).2 (h,Value.ref b)) (t':=(t.put (pr t.mask h m).j).1) H;have G:=se s.heap a (Obj.putSet (SetTable.insertAt d (t.put (pr t.mask h m).j).2 (h,Value.ref b)) (t.put (pr t.mask h m).j).1);have f:d.toList.length=d.size:=ju;have o:=S.tab.len;rw[jt,f] at o
  have l:(t.put (pr t.mask h m).j).1.place.size=d.size+1:=by
   rw[x];show(SetTable.insertAt t.place _ _).size=_;rw[<-ju,(nK t.place _ _).length_eq,kO,ju,o]
  have I:(t.put (pr t.mask h m).j).1.fill=d.size+1:=by
   unfold SetTable.fill;rw[l,x];rfl
  have J:(t.put (pr t.mask h m).j).1.mask=t.mask:=by rw[x]
  have g:(t.put (pr t.mask h m).j).1.led=t.led:=by rw[x]
  by_cases e:(t.put (pr t.mask h m).j).1.tooFull=true
  ·rw[e];simp only[Bool.not_false,Bool.and_self,↓reduceIte];have u:=S.tab.room;rw[jt,f] at u
   have F:3*t.mask<=5*(d.size+1):=by
    unfold SetTable.tooFull at e;rw[I,J] at e;have:=of_decide_eq_true e;lia
   have m7:7<=t.mask:=by
    obtain⟨k,k3,_,V⟩:=S.tab.pow;have:2^3<=2^k:=zS (by decide) k3
    lia
   have y:(t.put (pr t.mask h m).j).1.fits (SetTable.insertAt d (t.put (pr t.mask h m).j).2 (h,Value.ref b)).size=true:=by
    unfold SetTable.fits;rw[l,v,I,J];simp only[BEq.rfl,Bool.true_and,rp];lia
   rw[<-v];refine gy (II K y (by rw[v];lia) (by rw[v];lia) λh' es' U t' g1 g2 g3 W X Z=>?_);exact gK (u5 D h' es' U t' (G.trans g1) g2 (g3.trans (nK d _ _)) W (by rw[X];exact L) (by rw[Z];exact g))
  ·have C:(t.put (pr t.mask h m).j).1.tooFull=false:=by simpa using e
   rw[C];simp only[Bool.and_false,iB,↓reduceIte]
   have T:5*(d.size+1)<3*t.mask:=by
    unfold SetTable.tooFull at e;rw[I,J] at e;have: ¬(d.size+1)*5>=t.mask*3:=λz=>e (oX z)
    lia
   obtain⟨p1,p2⟩:=S.tab.put h1 M (by rw[jt,f];exact T) rfl rfl;refine gK (u5 D _ _ _ _ G K (nK d _ _) ?_ L g);rw[kB,pF,iT,<-List.map_take,<-List.map_drop] at*;rw[R];exact p1
end
def xR:entryFor table "set.__iter__"=some Builtin.«frozenset.__iter__»:=entryFor_alias (id':="frozenset.__iter__") (by kernel_rfl) rfl (by decide+kernel) (by kernel_rfl)
def mf:Slot "set_iterator" "__next__" "set_iterator.__next__":= .of (owner:="set_iterator") (n:="__next__") (by rw[typeLookup_type,Hw];kernel_rfl) (by decide+kernel) (by decide+kernel) (by decide+kernel) (by first|exact .inl (by decide+kernel)|exact .inr (by decide+kernel)) (by rw[zL];kernel_rfl)
def sM:Slot "set_iterator" "__iter__" "set_iterator.__iter__":= .of (owner:="set_iterator") (n:="__iter__") (by rw[typeLookup_type,Hw];kernel_rfl) (by decide+kernel) (by decide+kernel) (by decide+kernel) (by first|exact .inl (by decide+kernel)|exact .inr (by decide+kernel)) (by rw[zL];kernel_rfl)
def qW:entryFor table "set_iterator.__next__"=some Builtin.«set_iterator.__next__»:=entryFor_of_fast (by kernel_rfl)
def yz:entryFor table "set_iterator.__iter__"=some Builtin.«dict_keyiterator.__iter__»:=entryFor_alias (id':="dict_keyiterator.__iter__") (by kernel_rfl) rfl (by decide+kernel) (by kernel_rfl)
def ug(a:gD):argsOk "set_iterator.__next__" ⟨[a],[]⟩:=by unfold argsOk;kernel_rfl
def Bq(a:gD):argsOk "set_iterator.__iter__" ⟨[a],[]⟩:=by unfold argsOk;kernel_rfl
theorem oZ{a:Type}: ∀(l:List a) {i:Nat} (h:i<l.length),(l[i]::l.eraseIdx i).Perm l
 |x::l,0,_=>by simp
 |x::l,i+1,h=>by
  have:=oZ l (i:=i) (by simpa using h);simp only[List.getElem_cons_succ,List.eraseIdx_cons_succ];exact(List.Perm.swap x _ _).trans (List.Perm.cons x this)
theorem sU{d:Type}(next:Nat->Nat): ∀(a k:Nat) (left:List d) (b:Array d),left.length<=a->(pickOrder.go next a k left b).toList.Perm (b.toList++left)
 |0,k,left,b,h=>by
  have:left=[]:=Qd.mp (by omega);subst this;unfold pickOrder.go;simp
 |a+1,k,left,b,h=>by
  unfold pickOrder.go
  cases left with
  |nil=>simp
  |cons y l=>
   have c:next k%(y::l).length<(y::l).length:=uj _ (by simp);rw[jm c];dsimp only;refine(sU next a (k+1) _ _ (by rw[zK,gO c];simp at h ⊢;omega)).trans ?_;rw[Array.toList_push,oW];refine List.Perm.append_left _ ?_;exact oZ _ c
def wX{b:Type}(next:Nat->Nat)(a:Array b):(pickOrder next a).toList.Perm a.toList:=by
 unfold pickOrder;have:=sU next a.size 0 a.toList #[] (by simp);simpa using this
def ma(w:gP)(a:gw)(n:Nat)(b:qz):Array (Int×Value):=if w.params.followText "set-order"=true then pickOrder (w.params.setOrder a n) b else b
theorem De(w:gP)(a:gw)(n:Nat)(b:qz):(ma w a n b).toList.Perm b.toList:=by
 unfold ma;split
 ·exact wX _ _
 ·exact uq _
theorem mS(w:gP)(a:gw)(n:Nat)(b:qz):(ma w a n b).size=b.size:=by
 rw[<-ju,(De w a n b).length_eq,ju]
def Fj(t:kT):Nat->Nat
 |0=>0
 |i+1=>t.place.getD i 0+1
def kQ(w:gP)(t:kT)(i:Nat):Nat:=if w.params.followText "set-order"=true then 0 else Fj t i
structure SetIs(w:gP)(h:gR)(a:gw)(es:qz)(n:Nat)(t:kT):Prop where
 at_:h.get? a=some (jr es n t)
 tab:TabOk (es.toList.map (·.1)) t
 plain:t.plain=true
 led:t.led=!w.params.followText "set-order"
def SetIter(w:gP)(h:gR)(c a:gw)(t:kT)(b n i:Nat):Prop:= ∃o,h.get? c=some o/\o.cls= .type "set_iterator"/\o.data= .fields #[.int (kQ w t i) 0,.int i 0,.ref a,.int b 0,.int n 0]
section
variable {prog:gY}{w:gP}{A:gS}{E:ip}{s:gA}
def SetIs.fits{h a b n t}(S:SetIs w h a b n t):t.fits b.size=true:=FV S.tab (by simp)
def EO(c:t.place.toList.Pairwise (· < ·))(j:i<=t.place.size):SetTable.below t.place (Fj t i)=i:=by
 cases i with
 |zero=>
  obtain⟨h1,a,_⟩:=nr c 0
  cases g:SetTable.below t.place 0 with
  |zero=>exact g
  |succ k=>
   have h:0<t.place.size:=by omega
   have:=a 0 _ (by omega) (nC h);omega
 |succ i=>
  have hd:t.place.getD i 0=t.place[i]:=by simp[Array.getD,show i<t.place.size by omega]
  show SetTable.below t.place (t.place.getD i 0+1)=i+1;rw[hd];have e:t.place[i]?=some t.place[i]:=nC (by omega);obtain⟨h1,a,f⟩:=nr c (t.place[i]+1);by_cases l:SetTable.below t.place (t.place[i]+1)<i+1
  ·have:=f i _ (by omega) e;omega
  ·by_cases b:i+1<SetTable.below t.place (t.place[i]+1)
   ·have d:t.place[i+1]?=some t.place[i+1]:=nC (by omega);have:=a (i+1) _ b d;have:=AK c (sh i) e d;omega
   ·omega
def wJ{a:gw}{b:qz}{n:Nat}{t:kT}(S:SetIs w s.heap a b n t){i:Nat}(q:i<=b.size){Q:Option (Value×Nat)->Shared->Prop}
  (h1: ∀e,(ma w a n b)[i]?=some e->Q (some (e.2,kQ w t (i+1))) s)(h:i=b.size->Q none s):wpAny (model prog w) A (setNext a (kQ w t i) i n) Q E s:=by
 have p:=S.tab.len;rw[jt,ju] at p;unfold setNext;refine gy (qE S.at_ rfl S.fits ?_);dsimp only;unfold setsByText;refine gy (gy (uz (gK ?_)));by_cases c:w.params.followText "set-order"=true
 ·have f:(model prog w).w.params.followText "set-order"=true:=c;rw[gO f,gZ (by simp)];unfold setWalk setsByText;refine gy (gy (qE S.at_ rfl S.fits ?_));dsimp only;refine gy (gy (uz (gK ?_)));rw[gO f];refine gy (uz (gK (gK ?_)));have g:ma w a n b=pickOrder (w.params.setOrder a n) b:=by unfold ma;rw[gO c]
  have d: ∀k,kQ w t k=0:=λk=>by unfold kQ;rw[gO c]
  show Q (((pickOrder (w.params.setOrder a n) b)[i]?).map λe=>(e.2,kQ w t i)) s;rw[<-g];rw[d] at h1;rw[d]
  cases j:(ma w a n b)[i]? with
  |some e=>exact h1 e j
  |none=>
   have:=Array.getElem?_eq_none_iff.mp j;rw[mS] at this;exact h (by omega)
 ·have f: ¬(model prog w).w.params.followText "set-order"=true:=c;rw[gZ f];change wpAny _ _ (if(!t.plain&&decide (b.size>1))=true then _ else _) _ _ _;rw[gZ (by rw[S.plain];simp)];have m:t.led=true:=by rw[S.led];simpa using c
  refine gy ?_;change wpAny _ _ (if(!t.led&&!b.isEmpty)=true then _ else _) _ _ _;rw[gZ (by rw[m];simp)];refine gK ?_;have g:ma w a n b=b:=by unfold ma;rw[gZ c]
  have d: ∀k,kQ w t k=Fj t k:=λk=>by unfold kQ;rw[gZ c]
  have l:SetTable.below t.place (kQ w t i)=i:=by rw[d];exact EO S.tab.ris (by omega)
  rw[l];rw[g] at h1;by_cases o:i<b.size
  ·have g1:b[i]?=some b[i]:=nC o;have g2:t.place[i]?=some t.place[i]:=nC (by omega);rw[g1,g2];have:=h1 b[i] g1;rw[d] at this;rw[show Fj t (i+1)=t.place.getD i 0+1 from rfl] at this;have hd:t.place.getD i 0=t.place[i]:=by simp[Array.getD,show i<t.place.size by omega]
   rw[hd] at this;exact gK this
  ·rw[zO (by omega)];exact gK (h (by omega))
def SetIs.typeIs{a b n t}(S:SetIs w s.heap a b n t):s.TypeIs (.ref a) "set":=⟨_,S.at_,rfl⟩
def SetIter.typeIs{it a t z n i}(S:SetIter w s.heap it a t z n i):s.TypeIs (.ref it) "set_iterator":=let⟨o,c,b,_⟩:=S;⟨o,c,b⟩
def J9(S:SetIs w s.heap a d n t) 
  (f: ∀c,SetIter w c s.heap.objs.size a t d.size n 0->(∀b o,s.heap.get? b=some o->c.get? b=some o)->c.objs.size=s.heap.objs.size+1->Q (.ref s.heap.objs.size) {s with heap:=c}):
  wpAny (model prog w) A (pyIter (.ref a)) Q E s:=by
 refine Dq S.typeIs Hv (nY Hv S.typeIs xR ?_ (PySem.F.args_set_iter_1 _));unfold Builtin.«frozenset.__iter__» Builtin.Frozenset.slot0 slotArgs;simp only[List.isEmpty_nil,nB,iB,↓reduceIte,uZ,qH,sj];unfold Builtin.Frozenset.addrOf Builtin.Frozenset.sizeOf;refine gy (gK ?_);dsimp only;refine gy (gK ?_);refine gy (gy (Dp S.at_ rfl S.fits (gK ?_)));unfold setDrawn setsByText;refine gy (gy (qE S.at_ rfl S.fits ?_));dsimp only;refine gy (gy (uz (gK ?_)));refine gK ?_;change wpAny _ _ (if(!w.params.followText "set-order"&&(!t.plain&&decide (d.size>1)))=true then _ else _) _ _ _;rw[gZ (by rw[S.plain];simp)];refine gy (gK ?_);unfold setEpoch;refine gy (gy (qE S.at_ rfl S.fits (gK ?_)));refine gy (lD (gK ⟨_,rfl,"set_iterator",_,⟨_,jz _ rfl,rfl⟩,mf.lookup,?_⟩));refine f _ ⟨_,jz _ rfl,rfl,?_⟩ (λb o e=>jd _ e) (oV _ _);have:kQ w t 0=0:=by unfold kQ;split<;>rfl
 rw[this];rfl
def yu{c a:gw}{b:qz}{n:Nat}{t:kT}(S:SetIs w s.heap a b n t){i:Nat}(f:SetIter w s.heap c a t b.size n i)(x:c≠a){e:Int×Value}(j:(ma w a n b)[i]?=some e){Q:Hf}
  (p: ∀d,SetIter w d c a t b.size n (i+1)->Heap.SameBut c s.heap d->Q (some e.2) {s with heap:=d}):wpAny (model prog w) A (pyNext (.ref c)) Q E s:=by
 obtain⟨o,g,q,hd⟩:=id f;have r:i<b.size:=by have:=(Hg.mp j).1;rw[mS] at this;exact this
 unfold pyNext;refine gy (pH (va (name:=Str.ofString "__next__") f.typeIs mf (nY mf f.typeIs qW ?_ (ug _))));unfold Builtin.«set_iterator.__next__» slotArgs;simp only[List.isEmpty_nil,nB,iB,↓reduceIte,uZ,qH,sj];refine gy (gK ?_);unfold fieldsOf;simp only[uZ];refine gy (uC g ?_);rw[hd];refine gy (gK ?_);dsimp only;refine gy (Dp S.at_ rfl S.fits ?_);rw[gZ (by simp)];have h1:((kQ w t i:Nat):Int).toNat=kQ w t i:=pB _;have l:((i:Nat):Int).toNat=i:=pB _;have m:((n:Nat):Int).toNat=n:=pB _;rw[h1,l,m];refine gy (wJ S (vb r) (λv h=>?_) λz=>by omega);rw[j] at h;cases h;dsimp only;refine gy (rn g hd (by simp) ?_);have k:=qI (Obj.mapFields λu=>u.setIfInBounds 0 (rawInt (kQ w t (i+1)))) g (Ab (qF hd _));refine gy (rn k (qF hd _) (by simp) (gK ⟨_,rfl,gK (p _ ?_ ((se ..).trans (se ..)))⟩));refine⟨_,qI _ k (Ab (qF (qF hd _) _)),?_,?_⟩
 ·rw[Aa,Aa];exact q
 ·rw[qF (qF hd _)];simp[rawInt]
def AW(k:A.handled=none)(S:SetIs w s.heap a c n t)(d:SetIter w s.heap it a t c.size n c.size)(q:it≠a) 
  (j: ∀e,Heap.ExtBut it s.heap e->Q none {s with heap:=e}):wpAny (model prog w) A (pyNext (.ref it)) Q E s:=by
 obtain⟨o,f,p,hd⟩:=id d;unfold pyNext;refine gy (pH (va (name:=Str.ofString "__next__") d.typeIs mf (nY mf d.typeIs qW ?_ (ug _))));unfold Builtin.«set_iterator.__next__» slotArgs;simp only[List.isEmpty_nil,nB,iB,↓reduceIte,uZ,qH,sj];refine gy (gK ?_);unfold fieldsOf;simp only[uZ];refine gy (uC f ?_);rw[hd];refine gy (gK ?_);dsimp only;refine gy (Dp S.at_ rfl S.fits ?_);rw[gZ (by simp)];have h1:((kQ w t c.size:Nat):Int).toNat=kQ w t c.size:=pB _;have h:((c.size:Nat):Int).toNat=c.size:=pB _;have i:((n:Nat):Int).toNat=n:=pB _;rw[h1,h,i];refine gy (wJ S (iR _) (λl g=>?_) λ_=>?_)
 ·have:=(Hg.mp g).1;rw[mS] at this;omega
 dsimp only;refine gy (rn f hd (by simp) ?_);show wpAny _ _ (newExc (.type "StopIteration") []>>=_) _ _ _;refine gy ?_;simp only[newExc,newTuple];refine gy (lD ?_ (by size_fits));refine gy (m:=firstArgMember _ _) (pz (a:=Value.none) (by first|rfl|(simp only[firstArgMember];rfl)) ?_);refine lD ?_ (by size_fits);simp only[raiseNew];refine gy (DG ?_);rw[show A.in1.handled=none from k];refine gy (gK (DF ?_));refine gy (ux (T:="StopIteration") (b:=true) ⟨_,jz _ rfl,rfl⟩ DE ?_);exact gK (j _ (((se ..).extBut.push _).push _))
def GR(b:SetIter w s.heap it a t z n i)(c:Q (.ref it) s):wpAny (model prog w) A (pyIter (.ref it)) Q E s:=by
 refine Dq b.typeIs sM (nY sM b.typeIs yz ?_ (Bq _));unfold Builtin.«dict_keyiterator.__iter__» slotArgs;simp only[List.isEmpty_nil,nB,iB,↓reduceIte,uZ,qH,sj];exact gy (gK (gK ⟨_,rfl,"set_iterator",_,b.typeIs,mf.lookup,c⟩))
def SetIs.stay{a b n t}(S:SetIs w h a b n t)(k: ∀o,h.get? a=some o->c.get? a=some o):SetIs w c a b n t:=⟨k _ S.at_,S.tab,S.plain,S.led⟩
def Gq(q:A.handled=none)(I a:gw)(j:I≠a)(c:qz)(n:Nat)(t:kT):
  Walks prog w A I [I,a] [I] c.size (λi v=> ∃e,(ma w a n c)[i]?=some e/\v=e.2) (λi h=>SetIter w h I a t c.size n i/\SetIs w h a c n t) where
 sub:=λb d=>by simp at d;simp[d]
 frame:=λ_ _ _ st hk=>⟨(by obtain⟨o,h1,p⟩:=st.1;exact⟨o,hk I (by simp) o h1,p⟩),st.2.stay λo e=>hk a (by simp) o e⟩
 item:=λi s Q E r st f=>by
  have u:i<(ma w a n c).size:=by rw[mS];exact r
  have k:(ma w a n c)[i]?=some (ma w a n c)[i]:=nC u;refine yu st.2 st.1 j k λg x l=>?_;exact f _ g s.toks ⟨_,k,rfl⟩ ⟨x,st.2.stay λo e=>l.extBut a o (λh=>j h.symm) e⟩ λb o d e=>l.extBut b o (λh=>d (by simp[h])) e
 done:=λs Q E st f=>AW q st.2 st.1 j λg m=>f g s.toks λb o d e=>m b o (λh=>d (by simp[h])) e
 self:=λ_ _ _ _ st f=>GR st.1 f
def MN(hh:A.handled=none)(S:SetIs w s.heap a d n t)(hn:d.size<=sizeLine) 
  (hQ: ∀i tk,(∀b o,s.heap.get? b=some o->i.get? b=some o)->Q ((ma w a n d).toList.map (·.2)) {s with heap:=i,toks:=tk}):wpAny (model prog w) A (collect (.ref a)) Q E s:=by
 have B:a<s.heap.objs.size:=iV S.at_;have r:a≠s.heap.objs.size:=iC B;have O:a≠s.heap.objs.size+1:=iC (pL B);have z:s.heap.objs.size≠s.heap.objs.size+1:=iC (sh _);unfold collect;refine gy (Ac (oU Hu ?_));rw[qG Ht _];show wpAny _ A.in1 (newList []>>=λl=>again (.builtin "list.__iadd__" ⟨[l,.ref a],[]⟩)) _ _ s;refine gy (lD ?_);refine gK ⟨pJ zJ _,oU Hs ?_⟩;rw[qG zJ _];show wpAny _ A.in1 (Builtin.List.listExtendWith (.ref s.heap.objs.size) (.ref a) (.ref s.heap.objs.size)) _ _ _;generalize C:({cls:= .type "list",data:= .seq ([]:List Value).toArray}:Obj)=g;have p:SetIs w (s.heap.push g) a d n t:=S.stay λo e=>jd _ e;unfold Builtin.List.listExtendWith;refine gy (sx (T:="set") (s:={s with heap:=s.heap.push g}) p.typeIs ?_);have h1:Builtin.List.listSameRef (.ref s.heap.objs.size) (.ref a)=false:=by simp only[Builtin.List.listSameRef,vI];exact r.symm
 have c:(Value.type "set"==Value.type "list")=false:=by decide
 have Z:(Value.type "set"==Value.type "tuple")=false:=by decide
 simp only[h1,c,Z,Bool.or_false,iB,iK];refine gy (J9 (s:={s with heap:=s.heap.push g}) p λc y q z2=>?_);have u:(s.heap.push g).objs.size=s.heap.objs.size+1:=oV _ _;have h:SetIs w c a d n t:=p.stay λo e=>q _ _ e;refine gy (lV ?_);unfold Builtin.List.listLengthHint;refine gy (rg (T:="set") (s:={s with heap:=c}) h.typeIs PySem.F.slot_set_len.lookup ?_);generalize G:("set.__len__":String)=id0;dsimp only;rw[show splitId id0=some ("set","__len__") from by subst G;decide+kernel];dsimp only;refine gy (ux (T:="set") (s:={s with heap:=c}) (b:=true) h.typeIs (by rw[zL];kernel_rfl) ?_);simp only[nB,iB,iK];change wpAny _ _ (if _=true then _ else _) _ _ _;rw[gO (by subst G;decide+kernel)];refine gy (sx (T:="set") (s:={s with heap:=c}) h.typeIs ?_);dsimp only;refine gK ?_;change wpAny _ _ (if _=true then _ else _) _ _ _;rw[gO (by decide+kernel)];refine gy (uY ?_);have x:c.get? s.heap.objs.size=some g:=q _ _ (jz _ (by subst C;rfl));subst C;refine gy ?_;show wpAny _ A.in1 (updateSeq s.heap.objs.size (·.push .none)>>=λ_=>updateSeq s.heap.objs.size (·.pop)) _ _ _;refine gy (zH (s:={s with heap:=c}) x rfl ?_);have v:=qI (Obj.mapSeq (·.push Value.none)) x rfl;refine zH v rfl ?_;have R:=qI (Obj.mapSeq (·.pop)) v rfl
 have oth: ∀b o,b≠s.heap.objs.size->c.get? b=some o->((c.update s.heap.objs.size (Obj.mapSeq (·.push Value.none))).update s.heap.objs.size (Obj.mapSeq (·.pop))).get? b=some o:=
  λb o f e=>(uA _ _ (lF f)).trans ((uA _ _ (lF f)).trans e)
 have W:=(Gq (prog:=prog) (w:=w) (A:=A.in1) (by show A.handled=none;exact hh) (s.heap.objs.size+1) a O.symm d n t).toS;rw[u] at y;refine gK ⟨pJ Hr _,?_⟩;rw[u];refine Hq W hn s.heap.objs.size (by simp only[js,ke,kU,nX];exact⟨z,r.symm⟩) _ d.size 0 _ _ _ rfl (lj _) ?_ R (ItemsOf.nil _) λI m c' k L l6=>?_
 ·refine⟨?_,h.stay λo e=>oth a o r e⟩;obtain⟨o,g1,g2⟩:=y;exact⟨o,oth _ o z.symm g1,g2⟩
 show wpAny _ A (load s.heap.objs.size>>=_) _ _ I;refine gy (uC L ?_);obtain⟨i,V,Y,M,N⟩:=I;have K:V=s.gens:=k.gens;have D:Y=s.drawn:=k.drawn;have P:N=s.os:=k.os;subst K;subst D;subst P
 have U:m.toList=(ma w a n d).toList.map (·.2):=by
  obtain⟨a1,J⟩:=l6;apply DI
  ·rw[jt,ju,ju,a1,mS]
  ·intro j g1 g2;have X:m[j]?=some m.toList[j]:=by rw[<-kW];exact jm g1
   obtain⟨e,H,hv⟩:=J j _ X;rw[hv];rw[jt,ju] at g2;rw[List.getElem_map];rw[<-kW,jm (by rw[ju];exact g2)] at H;cases H;rfl
 refine gK ?_;show Q m.toList _;rw[U];refine hQ i M λb o e=>?_;have f:=iV e;exact k.heap b o (by simp only[js,ke,kU,nX];exact⟨iC f,iC (pL f)⟩) (oth b o (iC f) (q _ _ (jd _ e)))
end
section
variable {a:gY}{w:gP}{A:gS}{R:Result->Shared->Prop}{I:gw}{d c:jx}{G:Array GenState->Array GenState->Prop}{n:Nat}{P:Nat->Value->Prop}{St:Nat->Shared->Prop}
def Ih(W:WalksS a w A.in1 I d c G n P St)(S:gw)(M:S∉d)(s0:gA)(j:Nat->Heap->Prop)(stay: ∀i h g,j i h->(∀o,h.get? S=some o->g.get? S=some o)->j i g)
  (step: ∀i v (f:gA) (Q:pk) (E:ip),i<n->P i v->j i f.heap->Moved (S::c) G s0 f->(∀r g H,f.toks<=H->Heap.SameBut S f.heap g->j (i+1) g->Q r {f with heap:=g,toks:=H})->wpAny (model a w) A.in1 (setAdd S v) Q E f):
  ∀(k i:Nat) (s:gA),n-i=k->i<=n->St i s->j i s.heap->Moved (S::c) G s0 s->(∀f,Moved (S::c) G s0 f->j n f.heap->R (.ok (.ret .none)) f)->
   codeAny (model a w) A (.builtin "set.update.loop" ⟨[.ref S,.ref I],[]⟩) R s:=by
 have l:S∉c:=λh=>M (W.sub _ h);have N: ∀b∈c,b∈S::c:=λb m=>iZ _ m;intro k
 induction k with
 |zero=>
  intro i s hk U C y u x;have O:i=n:=by omega
  subst O;refine oU Ho ?_;rw[qG Dm _];show wpAny _ A.in1 (pyNext (.ref I)>>=_) _ _ s;refine gy (W.done s _ _ C λf p=>?_);show wpAny _ A.in1 (ret Value.none) _ _ f;exact gK (x f (Moved.trans W.gtrans u (p.mono N)) (stay _ _ _ y λo e=>p.heap S o l e))
 |succ k Y=>
  intro i s hk U C y u x;have B:i<n:=by omega
  refine oU Ho ?_;rw[qG Dm _];show wpAny _ A.in1 (pyNext (.ref I)>>=_) _ _ s;refine gy (W.item i s _ _ B C λv f T t p=>?_);have q:=Moved.trans W.gtrans u (p.mono N);show wpAny _ A.in1 (holding [v] (setAdd S v)>>=_) _ _ f;refine gy (lV (step i v f _ _ B T (stay _ _ _ y λo e=>p.heap S o l e) q λr g H J L z=>?_));refine gK ⟨pJ Dm _,Y (i+1) _ (by omega) B (W.frame _ f _ _ t J λb m o e=>?_) z (q.then_heap J λb o m e=>?_) x⟩
  ·rw[L.2 b (λh:b=S=>M (by rw[<-h];exact m))];exact e
  ·rw[L.2 b (λh:b=S=>m (by rw[h];exact ja))];exact e
end
section
variable {f:gY}{w:gP}{A:gS}{E:ip}{s:gA}
def Mq(a:gD)(h:Q₁ (.ref s.heap.objs.size) {s with heap:=s.heap.push (jr #[] 0 (.fresh 0 0 (!w.params.followText "set-order")))}):
  codeAny (model f w) A (.call (.builtin "set.__new__") ⟨[.type "set",a],[]⟩) (wants Q₁ E) s:=by
 refine wu ?_;show wpAny _ A.in1 (do checkBuiltinCall "set.__new__" ⟨[.type "set",a],[]⟩;again (.builtin "set.__new__" ⟨[.type "set",a],[]⟩)) _ _ s;refine gy (pz (PySem.F.newCall_set_1 a) (gK ⟨pJ Hn _,oU PySem.F.entry_set_new ?_⟩));rw[qG Hn _];unfold Builtin.«set.__new__» Builtin.Frozenset.newClass;have e:=sub_set_self;obtain⟨b,g,d,c,os⟩:=s;dsimp only
 wp_walk
 refine uz (gK ?_);dsimp only;simp only[newObj];refine gy (wpAny_alloc (gK ?_));exact gK h
abbrev kn(w:gP):SetTable:= .fresh 0 0 (!w.params.followText "set-order")
def Qi{h:gR}{a:gw}(e:h.get? a=some (jr #[] 0 (kn w))):SetIs w h a #[] 0 (kn w):=⟨e,TabOk.fresh _ _ _,rfl,rfl⟩
set_option maxHeartbeats 8000000 in
def Qj{l:gw}{a:lU}{Q:ip}(hh:A.handled=none)(p:s.heap.IsList l a\/s.heap.IsTuple l a)(m:Nat->Heap->Prop)
  (stay: ∀i h d,m i h->(∀o,h.get? s.heap.objs.size=some o->d.get? s.heap.objs.size=some o)->m i d)
  (mz: ∀d,d.get? s.heap.objs.size=some (jr #[] 0 (kn w))->m 0 d)
  (step: ∀i v (g:gA) (B:gS) (Q:pk) (E:ip),B.units<=A.units+20->a[i]?=some v->m i g.heap->(∀b o,s.heap.get? b=some o->g.heap.get? b=some o)->g.gens=s.gens->g.drawn=s.drawn->g.os=s.os->
   (∀r d z,g.toks<=z->Heap.SameBut s.heap.objs.size g.heap d->m (i+1) d->Q r {g with heap:=d,toks:=z})->wpAny (model f w) B (setAdd s.heap.objs.size v) Q E g)
  (h: ∀(d:gR) (z:Nat),m a.size d->(∀b o,s.heap.get? b=some o->d.get? b=some o)->Q (.ref s.heap.objs.size) {s with heap:=d,toks:=z}):
  wpAny (model f w) A (call (.type "set") [.ref l]) Q E s:=by
 obtain⟨c,tl,S⟩:=HX.mro;have T:=HX.made;have v9:=HX.sub;refine wy (wu ?_);show wpAny _ _ (callAny (.type "set") _) _ _ _;refine gK ⟨Code.quiet_builtin _ (by decide+kernel),oU PySem.F.entry_type_call ?_⟩;rw[Around.under_plain (weight_type_call_type "set" [.ref l] []) rfl];have h1:=HX.notType;have h2:=HX.canCreate;have hct:=PySem.F.typeCall_set_1 (.ref l)
 repeat (any_goals (first|assumption|wp_step))
 refine sD (Mq (.ref l) (E:=E) (Q₁:=λobj t=>obj= .ref s.heap.objs.size/\t={s with heap:=s.heap.push (jr #[] 0 (kn w))}) ⟨rfl,rfl⟩) λr t U=>?_
 cases r with
 |error e=>exact U
 |ok fl=>
  cases fl with
  |ret obj=>
   obtain⟨rfl,rfl⟩:=U;have P:(s.heap.push (jr #[] 0 (kn w))).get? s.heap.objs.size=some (jr #[] 0 (kn w)):=jz _ rfl;have hT:Shared.TypeIs {s with heap:=s.heap.push (jr #[] 0 (kn w))} (.ref s.heap.objs.size) "set":=⟨_,P,rfl⟩
   have hli:=HX.init.lookup;have hbi:=HX.init.bind (.ref s.heap.objs.size)
   repeat (any_goals (first|assumption|wp_step))
   refine sD (Dl (R:=wants (λr u=>r= .none/\ ∃d z,u={s with heap:=d,toks:=z}/\m a.size d/\(∀b o,s.heap.get? b=some o->d.get? b=some o)) E) HX.init.plain PySem.F.entry_set_init (check_set_init_1 hT ?_)) λI u L=>?_
   ·obtain⟨c,hc,ol,K,l8,nl,D⟩: ∃c,(c="list"\/c="tuple")/\ ∃o,s.heap.get? l=some o/\o.cls= .type c/\ ∃n,o.data= .seq a n:=p.elim (λh=>⟨_,.inl rfl,h⟩) (λh=>⟨_,.inr rfl,h⟩)
    obtain⟨Z,X,l4⟩:isSubtype (.type c) (.type "set")=pure false/\isSubtype (.type c) (.type "frozenset")=pure false/\(Value.type c==Value.type "dict")=false:=by
     rcases hc with rfl|rfl
     ·exact⟨PySem.F.sub_list_set,PySem.F.sub_list_frozenset,by decide⟩
     ·exact⟨PySem.F.sub_tuple_set,PySem.F.sub_tuple_frozenset,by decide⟩
    obtain⟨ocls,y,Y,k⟩:=ol;simp only at l8 D;subst l8;subst D;have V:(s.heap.push (jr #[] 0 (kn w))).get? l=some {cls:= .type c,dict:=y,data:= .seq a nl,slots:=k}:=jd _ K;have H:l<s.heap.objs.size:=iV K;have G:A.in1.in1.in1.handled=none:=by simp[hh]
    have sz:(s.heap.push (jr #[] 0 (kn w))).objs.size=s.heap.objs.size+1:=oV _ _;have q:l≠(s.heap.push (jr #[] 0 (kn w))).objs.size:=by rw[sz];exact iC (pL H)
    have eN:s.heap.objs.size∉[(s.heap.push (jr #[] 0 (kn w))).objs.size,l]:=by
     rw[sz];simp only[js,ke,kU,nX];exact⟨iC (sh _),nD H⟩
    obtain⟨St,W,o0,h0,M⟩: ∃St,Walks f w A.in1.in1.in1 (s.heap.push (jr #[] 0 (kn w))).objs.size [(s.heap.push (jr #[] 0 (kn w))).objs.size,l] [(s.heap.push (jr #[] 0 (kn w))).objs.size] a.size (λi v=>a[i]?=some v) St/\ ∃o0,St 0 ((s.heap.push (jr #[] 0 (kn w))).push o0)/\
      ∀{A':gS} {Q:ip} {E},Q (.ref (s.heap.push (jr #[] 0 (kn w))).objs.size) {s with heap:=(s.heap.push (jr #[] 0 (kn w))).push o0}->wpAny (model f w) A' (pyIter (.ref l)) Q E {s with heap:=s.heap.push (jr #[] 0 (kn w))}:=by
     rcases p with p|p
     ·exact⟨_,Walks.list G _ l q a,_,⟨⟨_,jz _ rfl,rfl,rfl⟩,(p.push _).push _⟩,λh=>Ap (p.push _) h⟩
     ·exact⟨_,Walks.tuple G _ l q a,_,⟨⟨_,jz _ rfl,rfl,rfl⟩,(p.push _).push _⟩,λh=>DT (p.push _) h⟩
    unfold Builtin.«set.__init__» noKeywords Builtin.Frozenset.updateFrom;generalize N:pyIter=PI
    wp_walk
    subst N;refine M ?_;refine gy (Ac ?_);refine Ih W.toS s.heap.objs.size eN _ m stay (λi v g Q' E' hi hP O j hk=>?_) (a.size-0) 0 _ (by omega) (lj _) h0 (mz _ (jd _ P)) (Moved.refl λ_=>rfl) ?hR
    ·refine step i v g _ Q' E' ?_ hP O (λb o e=>?_) j.gens j.drawn j.os hk
     ·show A.units+1+1+1<=A.units+20;omega
     ·have C:=iV e;exact j.heap b o (by rw[sz];simp only[js,ke,kU,nX];exact⟨iC C,iC (pL C)⟩) (jd _ (jd _ e))
    case hR=>
     intro g j J;obtain⟨d,g',d',bB,bO⟩:=g;have eg:g'=s.gens:=j.gens;have ed:d'=s.drawn:=j.drawn;have eo:bO=s.os:=j.os;subst eg;subst ed;subst eo;show wpAny _ _ _ _ _ _;refine gK ?_;show wpAny _ _ (ret Value.none) _ _ _;refine gK ⟨rfl,d,bB,rfl,J,λb o e=>?_⟩;have C:=iV e;exact j.heap b o (by rw[sz];simp only[js,ke,kU,nX];exact⟨iC C,iC (pL C)⟩) (jd _ (jd _ e))
   ·cases I with
    |error e=>exact L
    |ok x=>
     cases x with
     |ret r=>
      obtain⟨rfl,d,z,rfl,J,dv⟩:=L
      repeat (any_goals (first|assumption|wp_step))
      exact h _ _ J dv
     |_=>exact L.elim
  |_=>exact U.elim
end
structure DRaw(h:gR)(d:gw)(es:Array DictEntry)(ep:Nat):Prop where
 at_: ∃o,h.get? d=some o/\o.ExactDict/\o.data= .dict es ep
def DRaw.stay{d b a}(x:DRaw h d b a)(k: ∀o,h.get? d=some o->c.get? d=some o):DRaw c d b a:=let⟨o,h1,r⟩:=x.at_;⟨o,k _ h1,r⟩
section
variable {prog:gY}{w:gP}{A:gS}{E:ip}{s:gA}
def DRaw.typeIs{d b a}(x:DRaw s.heap d b a):s.TypeIs (.ref d) "dict":=let⟨o,h1,r,_⟩:=x.at_;⟨o,h1,r.1⟩
def GS(hd:(d==sysModules)=false)(c:DRaw s.heap d g f)
  (h:Q (.ref s.heap.objs.size) {s with heap:=s.heap.push {cls:= .type "dict_keyiterator",data:= .fields #[.ref d,.int 0 0,.int g.size 0,.int f 0]}}):wpAny (model prog w) A (pyIter (.ref d)) Q E s:=by
 have b:=c.typeIs;obtain⟨o,e,i,a⟩:=c.at_;refine Dq b Hm (nY Hm b PySem.F.entry_dict_iter ?_ (PySem.F.args_dict_iter_1 _));unfold Builtin.«dict.__iter__»;refine gy ?_;unfold Builtin.Dict.dictSlotNone;refine gy (wpAny_notOrdered_dict b ?_);change wpAny _ _ (pure (Value.ref d)) _ _ s;refine gK ?_;change wpAny _ _ (Builtin.Dict.showsAll d>>=_) _ _ s;unfold Builtin.Dict.showsAll;rw[gZ (by rw[hd];exact jA)];refine gy (gK ?_);refine gy (Dk e a ?_);refine gy (Dj e a ?_);refine gy (lD (gK ⟨_,rfl,"dict_keyiterator",_,⟨_,jz _ rfl,rfl⟩,yI.lookup,?_⟩));simpa[rawInt] using h
def xp{b d:gw}{i f:Nat}{c:Array DictEntry}{e:DictEntry}{Q:Hf}(a:s.heap.IsKeyIter b d i c.size f)(q:DRaw s.heap d c f)(r:c[i]?=some e)
  (n: ∀g,g.IsKeyIter b d (i+1) c.size f->Heap.SameBut b s.heap g->Q (some e.key) {s with heap:=g}):wpAny (model prog w) A (pyNext (.ref b)) Q E s:=by
 obtain⟨o,h,p,hd⟩:=id a;obtain⟨u,k,t,j⟩:=q.at_;unfold pyNext;refine gy (pH (va (name:=Str.ofString "__next__") a.typeIs yI (nY yI a.typeIs Hl ?_ (Hk _))));refine gy (gK ?_);refine gy ?_;refine gy ?_;refine gy (zG a.typeIs (gK ?_));refine gy (wpAny_fieldsOf h hd ?_);have m:Builtin.Dict_items.ownsTuple "dict_keyiterator"=false:=by decide
 simp only[m,iB,iK];change wpAny _ _ (if(Value.ref d==Value.none)=true then _ else _) _ _ s;rw[gZ (show ¬((Value.ref d==Value.none)=true) from jA)];refine gy (gK ?_);refine gy (Dk k j ?_);rw[gZ (by simp)];refine gy (gK ?_);refine gy (Dj k j ?_);rw[gZ (by simp)];refine gK ?_;simp only[show ¬((i:Int)<0) from by omega,iK,pB,r];refine gy ?_;refine gy (zG a.typeIs (gK ?_));refine gy (Hj a.typeIs ?_);change wpAny _ _ (setField (.ref b) 1 (rawInt ((i:Int)+1))>>=_) _ _ s;refine gy (rn h hd (by simp) ?_)
 have l:(s.heap.update b (Obj.mapFields (·.setIfInBounds 1 (rawInt ((i:Int)+1))))).IsKeyIter b d (i+1) c.size f:=
  ⟨_,qI _ h (Ab (qF hd _)),(Aa ..).trans p,by rw[qF hd];simp[rawInt]⟩
 refine gy (lV ?_);refine gy (Hj (s:={s with heap:=s.heap.update b (Obj.mapFields (·.setIfInBounds 1 (rawInt ((i:Int)+1))))}) l.typeIs ?_);change wpAny _ _ (pure e.key) _ _ _;exact gK (gK ⟨_,rfl,gK (n _ l (se ..))⟩)
def yv(n:A.handled=none)(c:s.heap.IsKeyIter it d e.size e.size k)(p:DRaw s.heap d e k)
  (l: ∀h,Heap.ExtBut it s.heap h->Q none {s with heap:=h}):wpAny (model prog w) A (pyNext (.ref it)) Q E s:=by
 obtain⟨o,i,q,hd⟩:=id c;obtain⟨t,g,r,f⟩:=p.at_;unfold pyNext;refine gy (pH (va (name:=Str.ofString "__next__") c.typeIs yI (nY yI c.typeIs Hl ?_ (Hk _))));refine gy (gK ?_);refine gy ?_;refine gy ?_;refine gy (zG c.typeIs (gK ?_));refine gy (wpAny_fieldsOf i hd ?_);have j:Builtin.Dict_items.ownsTuple "dict_keyiterator"=false:=by decide
 simp only[j,iB,iK];change wpAny _ _ (if(Value.ref d==Value.none)=true then _ else _) _ _ s;rw[gZ (show ¬((Value.ref d==Value.none)=true) from jA)];refine gy (gK ?_);refine gy (Dk g f ?_);rw[gZ (by simp)];refine gy (gK ?_);refine gy (Dj g f ?_);rw[gZ (by simp)];refine gK ?_;simp only[show ¬((e.size:Int)<0) from by omega,iK,pB,zO (iR e.size)];refine gy ?_;refine gy (zG c.typeIs (gK ?_));change wpAny _ _ (setField (.ref it) 0 .none>>=_) _ _ s;refine gy (rn i hd (by simp) ?_);change wpAny _ _ (newExc (.type "StopIteration") []>>=_) _ _ _;refine gy ?_;simp only[newExc,newTuple];refine gy (lD ?_ (by size_fits));refine gy (m:=firstArgMember _ _) (pz (a:=Value.none) (by first|rfl|(simp only[firstArgMember];rfl)) ?_);refine lD ?_ (by size_fits);simp only[raiseNew];refine gy (DG ?_);rw[show A.in1.handled=none from n];refine gy (gK (DF ?_));refine gy (ux (T:="StopIteration") (b:=true) ⟨_,jz _ rfl,rfl⟩ DE ?_);exact gK (l _ (((se ..).extBut.push _).push _))
def EG(n:A.handled=none)(I d:gw)(q:I≠d)(a:Array DictEntry)(j:Nat):Walks prog w A I [I,d] [I] a.size (λi v=> ∃e,a[i]?=some e/\v=e.key) (λi h=>h.IsKeyIter I d i a.size j/\DRaw h d a j) where
 sub:=λb c=>by simp at c;simp[c]
 frame:=λ_ _ _ st hk=>⟨st.1.at λo e=>hk I (by simp) o e,st.2.stay λo e=>hk d (by simp) o e⟩
 item:=λi s Q E p st f=>by
  have k:a[i]?=some a[i]:=nC p;refine xp st.1 st.2 k λg r l=>?_;exact f _ g s.toks ⟨_,k,rfl⟩ ⟨r,st.2.stay λo e=>l.extBut d o (λh=>q h.symm) e⟩ λb o c e=>l.extBut b o (λh=>c (by simp[h])) e
 done:=λs Q E st f=>yv n st.1 st.2 λg m=>f g s.toks λb o c e=>m b o (λh=>c (by simp[h])) e
 self:=λ_ _ _ _ st f=>wpAny_pyIter_keyiter st.1 f
def K6(hd:(a==sysModules)=false)(hh:A.handled=none)(S:DRaw s.heap a d n)(hn:d.size<=sizeLine) 
  (hQ: ∀i tk,(∀b o,s.heap.get? b=some o->i.get? b=some o)->Q (d.toList.map (·.key)) {s with heap:=i,toks:=tk}):wpAny (model prog w) A (collect (.ref a)) Q E s:=by
 have B:a<s.heap.objs.size:=let⟨_,h1,_⟩:=S.at_;iV h1;have t:a≠s.heap.objs.size:=iC B;have O:a≠s.heap.objs.size+1:=iC (pL B);have z:s.heap.objs.size≠s.heap.objs.size+1:=iC (sh _);unfold collect;refine gy (Ac (oU Hu ?_));rw[qG Ht _];show wpAny _ A.in1 (newList []>>=λl=>again (.builtin "list.__iadd__" ⟨[l,.ref a],[]⟩)) _ _ s;refine gy (lD ?_);refine gK ⟨pJ zJ _,oU Hs ?_⟩;rw[qG zJ _];show wpAny _ A.in1 (Builtin.List.listExtendWith (.ref s.heap.objs.size) (.ref a) (.ref s.heap.objs.size)) _ _ _;generalize C:({cls:= .type "list",data:= .seq ([]:List Value).toArray}:Obj)=f;have p:DRaw (s.heap.push f) a d n:=S.stay λo e=>jd _ e;unfold Builtin.List.listExtendWith;refine gy (sx (T:="dict") (s:={s with heap:=s.heap.push f}) p.typeIs ?_);have h1:Builtin.List.listSameRef (.ref s.heap.objs.size) (.ref a)=false:=by simp only[Builtin.List.listSameRef,vI];exact t.symm
 have c:(Value.type "dict"==Value.type "list")=false:=by decide
 have Z:(Value.type "dict"==Value.type "tuple")=false:=by decide
 simp only[h1,c,Z,Bool.or_false,iB,iK];refine gy (GS (s:={s with heap:=s.heap.push f}) hd p ?_);obtain⟨c,q⟩: ∃c,c=(s.heap.push f).push {cls:= .type "dict_keyiterator",data:= .fields #[.ref a,.int 0 0,.int d.size 0,.int n 0]}:=⟨_,rfl⟩
 have y:c.IsKeyIter (s.heap.push f).objs.size a 0 d.size n:=by rw[q];exact⟨_,jz _ rfl,rfl,rfl⟩
 have r: ∀b o,(s.heap.push f).get? b=some o->c.get? b=some o:=λb o e=>by rw[q];exact jd _ e
 rw[<-q];have u:(s.heap.push f).objs.size=s.heap.objs.size+1:=oV _ _;have h:DRaw c a d n:=p.stay λo e=>r _ _ e;refine gy (lV ?_);unfold Builtin.List.listLengthHint;refine gy (rg (T:="dict") (s:={s with heap:=c}) h.typeIs PySem.F.slot_dict_len.lookup ?_);generalize G:("dict.__len__":String)=id0;dsimp only;rw[show splitId id0=some ("dict","__len__") from by subst G;decide+kernel];dsimp only;refine gy (ux (T:="dict") (s:={s with heap:=c}) (b:=true) h.typeIs (by rw[zL];kernel_rfl) ?_);simp only[nB,iB,iK];change wpAny _ _ (if _=true then _ else _) _ _ _;rw[gO (by subst G;decide+kernel)];refine gy (sx (T:="dict") (s:={s with heap:=c}) h.typeIs ?_);dsimp only;refine gK ?_;change wpAny _ _ (if _=true then _ else _) _ _ _;rw[gO (by decide+kernel)];refine gy (uY ?_);have x:c.get? s.heap.objs.size=some f:=r _ _ (jz _ (by subst C;rfl));subst C;refine gy ?_;show wpAny _ A.in1 (updateSeq s.heap.objs.size (·.push .none)>>=λ_=>updateSeq s.heap.objs.size (·.pop)) _ _ _;refine gy (zH (s:={s with heap:=c}) x rfl ?_);have v:=qI (Obj.mapSeq (·.push Value.none)) x rfl;refine zH v rfl ?_;have R:=qI (Obj.mapSeq (·.pop)) v rfl
 have oth: ∀b o,b≠s.heap.objs.size->c.get? b=some o->((c.update s.heap.objs.size (Obj.mapSeq (·.push Value.none))).update s.heap.objs.size (Obj.mapSeq (·.pop))).get? b=some o:=
  λb o g e=>(uA _ _ (lF g)).trans ((uA _ _ (lF g)).trans e)
 have W:=(EG (prog:=prog) (w:=w) (A:=A.in1) (by show A.handled=none;exact hh) (s.heap.objs.size+1) a O.symm d n).toS;rw[u] at y;refine gK ⟨pJ Hr _,?_⟩;rw[u];refine Hq W hn s.heap.objs.size (by simp only[js,ke,kU,nX];exact⟨z,t.symm⟩) _ d.size 0 _ _ _ rfl (lj _) ?_ R (ItemsOf.nil _) λI m c' k L l6=>?_
 ·refine⟨?_,h.stay λo e=>oth a o t e⟩;obtain⟨o,g1,g2⟩:=y;exact⟨o,oth _ o z.symm g1,g2⟩
 show wpAny _ A (load s.heap.objs.size>>=_) _ _ I;refine gy (uC L ?_);obtain⟨i,V,Y,M,N⟩:=I;have K:V=s.gens:=k.gens;have D:Y=s.drawn:=k.drawn;have P:N=s.os:=k.os;subst K;subst D;subst P
 have U:m.toList=d.toList.map (·.key):=by
  obtain⟨a1,J⟩:=l6;apply DI
  ·rw[jt,ju,ju,a1]
  ·intro j g1 g2;have X:m[j]?=some m.toList[j]:=by rw[<-kW];exact jm g1
   obtain⟨e,H,hv⟩:=J j _ X;rw[hv];rw[jt,ju] at g2;rw[List.getElem_map];rw[<-kW,jm (by rw[ju];exact g2)] at H;cases H;rfl
 refine gK ?_;show Q m.toList _;rw[U];refine hQ i M λb o e=>?_;have g:=iV e;exact k.heap b o (by simp only[js,ke,kU,nX];exact⟨iC g,iC (pL g)⟩) (oth b o (iC g) (r _ _ (jd _ e)))
end
end TT
namespace PX
open PySem PySem.Spec PyProof.Rows L2 PySem.SeqAt TS
theorem D.hashL_map: ∀l:List D,D.hashL l=l.map D.hash
 |[]=>by rw[D.hashL];rfl
 |d::l=>by rw[D.hashL,D.hashL_map l];rfl
theorem wV: ∀{l:List D} {d:D},D.prL l=true->d∈l->D.pr d=true
 |[],d,_,h=>by simp at h
 |e::l,d,a,h=>by
  rw[D.prL,ko] at a;rcases js.mp h with rfl|h
  ·exact a.1
  ·exact wV a.2 h
def oQ: ∀{l:List D} {d:D},d∈l->d.dep<=D.depL l:=λ{l d} h=>by
 obtain⟨j,a⟩:=si h;exact D.dep_mem a
section
variable {X:Cx}{c:ig}{f:L2.St}{H:Hp}{s:gA}
def RepV(X:Cx)(H:Hp)(O:AP')(d:List D)(b:iF):Prop:= ∃a,RepL X.K H O d a/\Vals a b
theorem RepV.cons(h:RepV X H O (d::ds) (v::e)):(∃x,Rep X.K H O d x/\RelV x v)/\RepV X H O ds e:=by
 obtain⟨k,r,vs⟩:=h;rw[RepL] at r;obtain⟨x,j,rfl,g,i⟩:=r
 cases vs with
 |cons a b=>exact⟨⟨x,g,a⟩,j,i,b⟩
def RepV.nil_of{O:AP'}{a:List D}(h:RepV X H O a []):a=[]:=by
 obtain⟨g,r,b⟩:=h;cases b
 cases a with
 |nil=>rfl
 |cons d a=>rw[RepL] at r;obtain⟨_,_,e,_⟩:=r;cases e
def RepV.cons_of(h:RepV X H O a (v::g)): ∃d b,a=d::b:=by
 cases a with
 |nil=>obtain⟨i,r,e⟩:=h;rw[RepL] at r;subst r;cases e
 |cons d a=>exact⟨d,a,rfl⟩
def Pw: ∀(n:Nat) {s:gA} (I:Inv X c f H s) (d:D) (v:V) (u:gD) (O:AP') (A:gS) (E:ip) (Q:Int->Shared->Prop),Rep X.K H O d v->RelV v u->D.pr d=true->d.dep<=n->A.units+n<cLine->(∀j,s.toks<=j->Q d.hash {s with toks:=j})->
  wpAny (model X.prog X.w) A (pyHash u) Q E s:=by
 intro n
 induction n with
 |zero=>
  intro s I d v u O A E Q g J m hd R z
  cases d with
  |int i=>
   have:=g.int;subst this;obtain⟨t,rfl⟩:=J;have:=z (s.toks+1) (Ai _);rw[D.hash] at this;exact DV this
  |tup l=>rw[D.dep] at hd;omega
  |_=>simp[D.pr] at m
 |succ n ih=>
  intro s I d v u O A E Q g J m hd R z
  cases d with
  |int i=>
   have:=g.int;subst this;obtain⟨t,rfl⟩:=J;have:=z (s.toks+1) (Ai _);rw[D.hash] at this;exact DV this
  |tup l=>
   rw[D.pr] at m;rw[D.dep] at hd;obtain⟨a,xs,rfl,q,r⟩:=g.tup;cases J;obtain⟨b6,Z,⟨o,U,S,nn,Y⟩,_⟩:=I.tuple q.sq;have B:s.TypeIs (.ref a) "tuple":=⟨o,U,S⟩
   have W:A.units<cLine:=by omega
   unfold pyHash;unfold pyHashByItsType;refine gy (wpAny_cRoomFor_or (.inr W) ?_);refine gy (rg B EZ.lookup ?_);show wpAny _ _ (if(some (Value.builtin "tuple.__hash__")==some Value.none)=true then _ else _) Q E s;rw[gZ (by rw[beq_builtin_none];exact jA)];refine gy (rg B EZ.lookup ?_);show wpAny _ _ (callSpecialIfBoundUnlessNone? (.ref a) "__hash__" _>>=_) Q E s;refine gy (wpAny_callSpecialIfBoundUnlessNone?_slot B EZ (nY EZ B PySem.F.entry_tuple_hash ?_ (PySem.F.args_tuple_hash_1 _)));show wpAny _ _ (Builtin.Tuple.tupleItemsOf (.ref a)>>=_) _ _ s;refine gy (wpAny_tupleItemsOf U Y ?_);refine gy ?_;rw[<-zF]
   refine sd _
    (λiq (b:Array Int) L=> ∃done left,l=done++left/\RepV X H (λa=>O a) left iq/\b.toList=done.map D.hash/\ ∃j,s.toks<=j/\L={s with toks:=j})
    _ ?_ ?_ _ _ ⟨[],l,rfl,⟨xs,r,by simpa using Z⟩,rfl,s.toks,iR _,rfl⟩
   ·rintro x iq b L ⟨done,left,rfl,G,C,j,p,rfl⟩;obtain⟨d,left,rfl⟩:=G.cons_of;obtain⟨⟨y,h1,P⟩,N⟩:=G.cons;have T:d∈done++d::left:=by simp
    have bt:=oQ T;refine gy (ih (I.kept (h':=s.heap) (t':=j) λ_ _ e=>e) d y x O A.in1 E _ h1 P (wV m T) (by omega) (by show A.units+1+n<cLine;omega) λM k=>?_)
    first
     |exact gK ⟨done++[d],left,by simp,N,by simp[C],M,mQ p k,rfl⟩
     |exact gy (gK (gK ⟨done++[d],left,by simp,N,by simp[C],M,mQ p k,rfl⟩))
   ·rintro b L ⟨done,left,rfl,G,C,j,p,rfl⟩;have:=G.nil_of;subst this;have h:=z (j+1) (Nat.le_succ_of_le p);rw[D.hash,D.hashL_map,rB] at h;show wpAny _ _ (retInt (Builtin.Tuple.tupleHashOf b.toList)) _ _ _;rw[C];refine wpAny_ret_mkInt ?_;show wpAny _ _ (if(decide (-(2:Int)^63<=Builtin.Tuple.tupleHashOf (done.map D.hash))&&decide (Builtin.Tuple.tupleHashOf (done.map D.hash)<2^63))=true then _ else _) Q E _;unfold reduceHash at h;by_cases g:(decide (-(2:Int)^63<=Builtin.Tuple.tupleHashOf (done.map D.hash))&&decide (Builtin.Tuple.tupleHashOf (done.map D.hash)<2^63))=true
    ·rw[gO g];rw[gO g] at h;exact gK h
    ·rw[gZ g];rw[gZ g] at h;exact gy (uY (gK h))
  |_=>simp[D.pr] at m
def Rw(I:Inv X c f H s): ∀(n:Nat) (d:D) (v:V) (u:gD) (O:AP') (A:gS) (E:ip) (Q:pk),Rep X.K H O d v->RelV v u->D.pr d=true->d.dep<=n->Q true s->wpAny (model X.prog X.w) A (hashByValue n u) Q E s:=by
 intro n
 induction n with
 |zero=>
  intro d v u O A E Q g j b hd e
  cases d with
  |int i=>
   have:=g.int;subst this;obtain⟨t,rfl⟩:=j;exact pz (show hashByValue 0 (.int i t)=pure true by simp[hashByValue]) e
  |tup l=>rw[D.dep] at hd;omega
  |_=>simp[D.pr] at b
 |succ n U=>
  intro d v u O A E Q g j b hd e
  cases d with
  |int i=>
   have:=g.int;subst this;obtain⟨t,rfl⟩:=j;exact pz (show hashByValue (n+1) (.int i t)=pure true by simp[hashByValue]) e
  |tup l=>
   rw[D.pr] at b;rw[D.dep] at hd;obtain⟨a,F,rfl,q,r⟩:=g.tup;cases j;obtain⟨G,Y,⟨o,B,T,R,J⟩,_⟩:=I.tuple q.sq;have N:s.TypeIs (.ref a) "tuple":=⟨o,B,T⟩
   unfold hashByValue;refine gy (rg N EZ.lookup ?_);dsimp only;refine gy (pI B J ?_);refine gy ?_;show wpAny _ _ (forIn G.toArray _ _) _ _ s;rw[<-zF];refine sd _ (λiq C m=>C.1=none/\m=s/\ ∃left,(∀d∈left,d∈l)/\RepV X H O left iq) _ ?_ ?_ _ _ ⟨rfl,rfl,l,λd h=>h,F,r,by simpa using Y⟩
   ·rintro x iq C m ⟨k,rfl,left,hm,z⟩;obtain⟨d,left,rfl⟩:=z.cons_of;obtain⟨⟨y,h1,L⟩,M⟩:=z.cons;have p:=hm d ja;have P:=oQ p;refine gy (U d y x O A E _ h1 L (wV b p) (by omega) ?_);simp only[nB,iB,iK];exact gK ⟨rfl,rfl,left,λd h=>hm d (iZ _ h),M⟩
   ·rintro⟨S,W⟩ m ⟨k,rfl,_⟩;simp only at k;subst k;exact gK e
  |_=>simp[D.pr] at b
def Lv{P:gY}{W:gP}(I:Inv X c f H s): ∀(n:Nat) (d:D) (v:V) (u:gD) (O:AP') (A:gS) (E:ip) (Q:pk),Rep X.K H O d v->RelV v u->D.pr d=true->d.dep<=n->Q true s->wpAny (model P W) A (eqIsQuiet n u) Q E s:=by
 intro n
 induction n with
 |zero=>
  intro d v u O A E Q g j b hd e
  cases d with
  |int i=>
   have:=g.int;subst this;obtain⟨t,rfl⟩:=j;exact pz (eqIsQuiet_byValue 0 rfl) e
  |tup l=>rw[D.dep] at hd;omega
  |_=>simp[D.pr] at b
 |succ n T=>
  intro d v u O A E Q g j b hd e
  cases d with
  |int i=>
   have:=g.int;subst this;obtain⟨t,rfl⟩:=j;exact pz (eqIsQuiet_byValue (n+1) rfl) e
  |tup l=>
   rw[D.pr] at b;rw[D.dep] at hd;obtain⟨a,Y,rfl,q,r⟩:=g.tup;cases j;obtain⟨G,U,⟨o,B,N,S,J⟩,_⟩:=I.tuple q.sq;have w:s.TypeIs (.ref a) "tuple":=⟨o,B,N⟩
   unfold eqIsQuiet;refine gy (rg w PySem.F.slot_tuple_eq.lookup ?_);show wpAny _ _ (isInstance (.ref a) (.type "tuple")>>=_) _ _ s;refine gy (ux w isSubtype_tuple_tuple ?_);simp only[nB,iB,iK];refine gy (pI B J ?_);refine gy ?_;show wpAny _ _ (forIn G.toArray _ _) _ _ s;rw[<-zF];refine sd _ (λiq C m=>C.1=none/\m=s/\ ∃left,(∀d∈left,d∈l)/\RepV X H O left iq) _ ?_ ?_ _ _ ⟨rfl,rfl,l,λd h=>h,Y,r,by simpa using U⟩
   ·rintro x iq C m ⟨k,rfl,left,hm,z⟩;obtain⟨d,left,rfl⟩:=z.cons_of;obtain⟨⟨y,h1,L⟩,M⟩:=z.cons;have p:=hm d ja;have R:=oQ p;refine gy (T d y x O A E _ h1 L (wV b p) (by omega) ?_);simp only[nB,iB,iK];exact gK ⟨rfl,rfl,left,λd h=>hm d (iZ _ h),M⟩
   ·rintro⟨Z,r2⟩ m ⟨k,rfl,_⟩;simp only at k;subst k;exact gK e
  |_=>simp[D.pr] at b
def GL{P:gY}{W:gP}(I:Inv X c f H s): ∀(n:Nat) (d:D) (v:V) (u:gD) (O:AP') (A:gS) (E:ip) (Q:pk),Rep X.K H O d v->RelV v u->D.pr d=true->d.dep<=n->Q false s->wpAny (model P W) A (ofAClassStatement n u) Q E s:=by
 intro n
 induction n with
 |zero=>
  intro d v u O A E Q g j b hd e
  cases d with
  |int i=>
   have:=g.int;subst this;obtain⟨t,rfl⟩:=j;exact pz (show ofAClassStatement 0 (.int i t)=pure false by simp[ofAClassStatement]) e
  |tup l=>rw[D.dep] at hd;omega
  |_=>simp[D.pr] at b
 |succ n T=>
  intro d v u O A E Q g j b hd e
  cases d with
  |int i=>
   have:=g.int;subst this;obtain⟨t,rfl⟩:=j;exact pz (show ofAClassStatement (n+1) (.int i t)=pure false by simp[ofAClassStatement]) e
  |tup l=>
   rw[D.pr] at b;rw[D.dep] at hd;obtain⟨a,Y,rfl,q,r⟩:=g.tup;cases j;obtain⟨C,U,⟨o,z,N,R,G⟩,_⟩:=I.tuple q.sq;have M:s.TypeIs (.ref a) "tuple":=⟨o,z,N⟩
   unfold ofAClassStatement;refine gy (sx M ?_);dsimp only;rw[gO (by decide)];refine gy (gK ?_);simp only[nB,iB,iK];refine gy (pI z G ?_);dsimp only;refine gy ?_;show wpAny _ _ (forIn C.toArray _ _) _ _ s;rw[<-zF];refine sd _ (λiq B m=>B.1=none/\m=s/\ ∃left,(∀d∈left,d∈l)/\RepV X H O left iq) _ ?_ ?_ _ _ ⟨rfl,rfl,l,λd h=>h,Y,r,by simpa using U⟩
   ·rintro x iq B m ⟨k,rfl,left,hm,w⟩;obtain⟨d,left,rfl⟩:=w.cons_of;obtain⟨⟨y,h1,J⟩,L⟩:=w.cons;have p:=hm d ja;have F:=oQ p;refine gy (T d y x O A E _ h1 J (wV b p) (by omega) ?_);simp only[iB,iK];exact gK ⟨rfl,rfl,left,λd h=>hm d (iZ _ h),L⟩
   ·rintro⟨S,Z⟩ m ⟨k,rfl,_⟩;simp only at k;subst k;exact gK e
  |_=>simp[D.pr] at b
end
def okS:D->Bool
 | .tup l=>D.prL l&&decide (D.depL l<=6)
 |_=>false
def oK(h:okS d=true): ∃l,d= .tup l:=by cases d<;>first|exact⟨_,rfl⟩|(simp[okS] at h)
theorem rM(h:okS d=true):D.pr d=true:=by
 obtain⟨l,rfl⟩:=oK h;simp only[okS,ko] at h;rw[D.pr];exact h.1
def qr(h:okS d=true):d.dep<=7:=by
 obtain⟨l,rfl⟩:=oK h;simp only[okS,ko,rp] at h;rw[D.dep];omega
theorem EE(h1:D.pr x=true)(a:D.pr y=true):D.eqb x y=true↔x=y:=by
 rw[EF x y h1 a];constructor
 ·intro h;exact ue x y h1 a (by simpa using h)
 ·rintro rfl;rw[F4];rfl
def qe(a:List D)(d:D):List D:=if a.any (D.eqb · d)=true then a else a++[d]
def nV(l:List D):List D:=l.foldl qe []
def MU(h1:b.all okS=true)(a:okS d=true):(qe b d).all okS=true:=by
 unfold qe;split
 ·exact h1
 ·rw[List.all_append,h1];simp[a]
def KR(a:List D)(d:D):(qe a d).length<=a.length+1:=by unfold qe;split<;>simp
def lP{d i:Type}(f:d->i){g m:List i}(h:g.Perm m): ∀l:List d,m=l.map f-> ∃c:List d,c.Perm l/\g=c.map f:=by
 induction h with
 |nil=>
  intro l e;have:l=[]:=by simpa using e.symm
  subst this;exact⟨[],.refl _,rfl⟩
 |cons x _ n=>
  intro l e
  cases l with
  |nil=>simp at e
  |cons y l=>
   simp only[iT,List.cons.injEq] at e;obtain⟨c,p,q⟩:=n l e.2;exact⟨y::c,p.cons y,by rw[q,e.1];rfl⟩
 |swap x y w=>
  intro l e
  cases l with
  |nil=>simp at e
  |cons a l=>
   cases l with
   |nil=>simp at e
   |cons b l=>
    simp only[iT,List.cons.injEq] at e;exact⟨b::a::l,.swap a b l,by rw[e.1,e.2.1,e.2.2];rfl⟩
 |trans _ _ k j=>
  intro l e;obtain⟨o,s,u⟩:=j l e;obtain⟨r,t,v⟩:=k o u;exact⟨r,t.trans s,v⟩
def vp{b d:Type}{F:b->d->Prop}{c m:List d}(h:c.Perm m): ∀{z:List b},Paired F z m-> ∃a:List b,Paired F a c/\a.Perm z:=by
 induction h with
 |nil=>intro z p;exact⟨z,p,.refl _⟩
 |cons x _ i=>
  intro z p
  cases p with
  |cons r t=>
   obtain⟨a,h1,g⟩:=i t;exact⟨_::a,.cons r h1,g.cons _⟩
 |swap x y s=>
  intro z p
  cases p with
  |cons r t=>
   cases t with
   |cons o t=>exact⟨_,.cons o (.cons r t),.swap _ _ _⟩
 |trans _ _ f e=>
  intro z p;obtain⟨u,j,l⟩:=e p;obtain⟨q,k,n⟩:=f j;exact⟨q,k,n.trans l⟩
theorem RepL.zip{K H}{O:AP'}: ∀{l:List D} {b:List V},RepL K H O l b-> ∀p∈l.zip b,Rep K H O p.1 p.2
 |[],b,h,p,a=>by simp at a
 |d::l,b,h,p,a=>by
  rw[RepL] at h;obtain⟨v,r,rfl,h1,c⟩:=h;rw[rl] at a;rcases js.mp a with rfl|a
  ·exact h1
  ·exact RepL.zip c p a
theorem RepL.ofZip{K H}{O:AP'}: ∀{l:List (D×V)},(∀p∈l,Rep K H O p.1 p.2)->RepL K H O (l.map (·.1)) (l.map (·.2))
 |[],_=>RepL.nil
 |p::l,h=>RepL.cons (h p ja) (RepL.ofZip λq a=>h q (iZ _ a))
abbrev hv(p:D×V):Int×V:=(D.hash p.1,p.2)
theorem wA: ∀(b:List D) (a:List V),(D.hashL b).zip a=(b.zip a).map hv
 |[],a=>by simp[D.hashL]
 |d::b,[]=>by simp
 |d::b,u::a=>by rw[D.hashL,rl,rl,iT,wA b a]
section
variable {X:Cx}{pins:ig}{σ:L2.St}{H:Hp}{s:gA}
structure SetV(X:Cx)(H:Hp)(O:AP')(h:gR)(a:gw)(vs:List D)(es:qz)(n:Nat)(t:kT)(l:List (D×V)):Prop where
 is:TT.SetIs X.w h a es n t
 perm:(l.map (·.1)).Perm vs
 rep: ∀p∈l,Rep X.K H O p.1 p.2
 par:Paired (λ(z:Int×V) (e:Int×Value)=>z.1=e.1/\RelV z.2 e.2) (l.map hv) es.toList
def SetV.stay{a c b n t l}(S:SetV X H O h a c b n t l)(k: ∀o,h.get? a=some o->d.get? a=some o):SetV X H O d a c b n t l:=⟨S.is.stay k,S.perm,S.rep,S.par⟩
theorem xa{d c:Type}{F:d->c->Prop}: ∀{l:List d} {m:List c},Paired F l m-> ∀{i:Nat} {b:c},m[i]?=some b-> ∃a,l[i]?=some a/\F a b
 |_,_,.nil,i,b,h=>by simp at h
 |_,_,.cons r t,0,b,h=>by simp at h;subst h;exact⟨_,rfl,r⟩
 |_,_,.cons r t,i+1,b,h=>by
  obtain⟨a,h1,e⟩:=xa t (i:=i) (b:=b) (by simpa using h);exact⟨a,by simpa using h1,e⟩
theorem wZ{a b:Type}{F:a->b->Prop}: ∀{l:List a} {m:List b},Paired F l m->l.length=m.length
 |_,_,.nil=>rfl
 |_,_,.cons r t=>by simp[wZ t]
theorem rK: ∀{l:List (Int×V)} {m:List (Int×Value)},Paired (λ(z:Int×V) (e:Int×Value)=>z.1=e.1/\RelV z.2 e.2) l m->l.map (·.1)=m.map (·.1)
 |_,_,.nil=>rfl
 |_,_,.cons r t=>by rw[iT,iT,r.1,rK t]
def SetV.srch(I:Inv X pins σ H s){O U:AP'}{a:gw}{vs:List D}{L n t l}(S:SetV X H O s.heap a vs L n t l)(hok:vs.all okS=true){d:D}{v:V}{u:gD}(hd:iU X.K H U d v)(ru:RelV v u)(T:okS d=true){A:gS}(hA:A.units+60<cLine):
  ∃b,u= .ref b/\TT.Srch A s a L n t u d.hash (λi=>match l[i]? with|some p=>D.eqb p.1 d|none=>false):=by
 obtain⟨ld,rfl⟩:=oK T;obtain⟨b,xs,rfl,q,r⟩:=jZ hd;cases ru;have hdp:=qr T;have fE:=rM T;have h: ∀p∈l,okS p.1=true:=λp M=>nu.mp hok _ (S.perm.mem_iff.mp (zE M))
 have at_: ∀(i:Nat) (e:Int×Value),L[i]?=some e-> ∃p,l[i]?=some p/\p∈l/\D.hash p.1=e.1/\RelV p.2 e.2:=λi e m=>by
  obtain⟨z,h1,f,C⟩:=xa S.par (i:=i) (b:=e) (by rw[kW];exact m);rw[jJ] at h1
  cases Z:l[i]? with
  |none=>rw[Z] at h1;cases h1
  |some p=>rw[Z] at h1;cases h1;exact⟨p,rfl,lE Z,f,C⟩
 have N: ∀(e:D) (y:V) (J:gD) (x:AP') (B:gS) (P:gY) (W:gP) (Q:pk) (E:ip),okS e=true->iU X.K H x e y->RelV y J->Q true s->wpAny (model P W) B (eqIsQuiet 8 J) Q E s:=λe y J x B P W Q E G hv hr o=>by
  obtain⟨le,rfl⟩:=oK G;rcases hv with hv|⟨_,_,hv⟩
  ·exact Lv I 8 _ _ _ x B E Q hv hr (rM G) (by have:=qr G;omega) o
  ·exact hv.elim
 have l8: ∀(e:D) (y:V) (J:gD) (x:AP') (B:gS) (P:gY) (W:gP) (Q:pk) (E:ip),okS e=true->iU X.K H x e y->RelV y J->Q false s->wpAny (model P W) B (ofAClassStatement 8 J) Q E s:=λe y J x B P W Q E G hv hr o=>by
  obtain⟨le,rfl⟩:=oK G;rcases hv with hv|⟨_,_,hv⟩
  ·exact GL I 8 _ _ _ x B E Q hv hr (rM G) (by have:=qr G;omega) o
  ·exact hv.elim
 refine⟨b,rfl,⟨_,S.is.at_,rfl⟩,S.is.tab,λi e m=>?_,λi e m=>?_,λi e m o=>?_,λls g w E Q hls o=>?_⟩
 ·obtain⟨p,h1,f,C,j⟩:=at_ i e m;obtain⟨lp,M⟩:=oK (h p f);have:=S.rep p f;rw[M] at this;obtain⟨c,xs,F,_⟩:=this.tup;rw[F] at j;exact⟨c,j⟩
 ·obtain⟨p,h1,f,C,j⟩:=at_ i e m;rw[h1];have:=qr (h p f);exact xP I 50 p.1 (.tup ld) p.2 (.ref b) _ _ O U A (.inl (S.rep p f)) hd j rfl (by omega) (by omega) (by omega)
 ·obtain⟨p,h1,f,C,j⟩:=at_ i e m;rw[h1] at o;rw[(EE (rM (h p f)) fE).mp o] at C;exact C.symm
 ·unfold searchCouldBeSeen;refine gy ?_;refine sd _ (λiq rr s'=>rr.1=none/\s'=s/\ ∀v∈iq,∃e∈L.toList,e.2=v) _ ?_ ?_ _ _ ⟨rfl,rfl,hls⟩
  ·rintro y iq rr s' ⟨R,rfl,hm⟩;have k: ∀v∈iq,∃e∈L.toList,e.2=v:=λv hv=>hm v (iZ _ hv);obtain⟨e,m,rfl⟩:=hm y ja;obtain⟨i,hi⟩:=si m;rw[kW] at hi;obtain⟨p,h1,f,C,j⟩:=at_ i e hi;obtain⟨lp,M⟩:=oK (h p f);have Y:=S.rep p f
   obtain⟨c,ec⟩: ∃c,e.2= .ref c:=by
    rw[M] at Y;obtain⟨c,xs,F,_⟩:=Y.tup;rw[F] at j;exact⟨c,j⟩
   rw[ec] at j ⊢;dsimp only;split
   ·exact gK ⟨rfl,rfl,k⟩
   ·refine gy (N _ _ _ U A g w _ _ T hd rfl ?_);simp only[nB,iB,iK];refine gy (N _ _ _ O A g w _ _ (h p f) (.inl Y) j ?_);simp only[nB,iB,iK];refine gy (l8 _ _ _ U A g w _ _ T hd rfl ?_);simp only[iB,iK];refine gy (l8 _ _ _ O A g w _ _ (h p f) (.inl Y) j ?_);simp only[iB,iK];exact gK ⟨rfl,rfl,k⟩
  ·rintro⟨r1,r2⟩ s' ⟨R,rfl,_⟩;simp only at R;subst R;exact gK o
def OthB.setV(I:Inv X pins σ H s)(h:OthB X.K (H a) .set o f us)(r:RepL X.K H O f us): ∃b n t l,SetV X H O s.heap a f b n t l:=by
 obtain⟨_,m,e,p⟩:=h;obtain⟨b,n,t,h1,c,g,i,j⟩:=(show ObjOk X.prog X.w H s.heap a (.stt m) from I.hok a _ e)
 rw[wA] at p;obtain⟨l,d,rfl⟩:=lP hv p _ rfl;refine⟨b,n,t,l,⟨h1,by rw[<-rK c];exact g,i,j⟩,?_,λq k=>r.zip q (d.mem_iff.mp k),c⟩;have:=d.map (·.1);rw[List.map_fst_zip (by rw[r.length];exact iR _)] at this;exact this
def SetV.objOk{b n t l}(S:SetV X H O h a d b n t l):ObjOk X.prog X.w c h a (.stt (l.map hv)):=
 ⟨b,n,t,S.is.at_,S.par,by rw[rK S.par];exact S.is.tab,S.is.plain,S.is.led⟩
def SetV.lens{b n t l}(S:SetV X H O h a c b n t l):b.size=c.length/\l.length=c.length:=by
 have h1:=wZ S.par;have d:=S.perm.length_eq;simp only[jt,ju] at h1 d;omega
def SetV.oth{O:AP'}{h:gR}{a:gw}{vs:List D}{g n t l}(S:SetV X H O h a vs g n t l){K c}{f:AP'}(k: ∀p∈l,Rep K c f p.1 p.2)(i:c a=some (.stt (l.map hv))): ∃us,OthB K (c a) .set [] vs us/\RepL K c f vs us:=by
 obtain⟨b,d,e⟩:=lP (·.1) S.perm.symm l rfl;refine⟨b.map (·.2),⟨rfl,l.map hv,i,?_⟩,?_⟩
 ·rw[e,wA]
  have:(b.map (·.1)).zip (b.map (·.2))=b:=by
   clear d e
   induction b with
   |nil=>rfl
   |cons x l m=>rw[iT,iT,rl,m]
  rw[this];exact(d.map hv).symm
 ·rw[e];exact RepL.ofZip λp j=>k p (d.mem_iff.mp j)
def SetV.add(I:Inv X pins σ H s){B n t l}(S:SetV X H O s.heap a c B n t l)(J:c.all okS=true)(hd:iU X.K H O' d v)(y:Rep X.K H O d v)(q:RelV v u)(o:okS d=true)(hz:c.length<500)
  (hA:A.units+60<cLine) 
  (h: ∀r h' f g N t' L,s.toks<=f->Heap.SameBut a s.heap h'->SetV X H O h' a (qe c d) g N t' L->Q r {s with heap:=h',toks:=f}):wpAny (model X.prog X.w) A (setAdd a u) Q E s:=by
 obtain⟨ax,y8⟩:=S.lens;unfold setAdd;refine lV (gy (Pw 50 I d v u O A E _ y q (rM o) (by have:=qr o;omega) (by omega) λf Y=>?_));have U:Inv X pins σ H {s with toks:=f}:=I.kept (h':=s.heap) (t':=f) λ_ _ e=>e;obtain⟨b,rfl,R⟩:=SetV.srch (s:={s with toks:=f}) U S J hd q o hA;have M: ∀p∈l,p.1∈c:=λp j=>S.perm.mem_iff.mp (zE j);refine TT.Sb R S.is.at_ S.is.plain (by omega) (λP k=>Rw U 8 d v _ O A E P y q (rM o) (by have:=qr o;omega) k) (λ⟨i,C,k⟩=>?_) (λZ h' g N t' g1 g2 g3 g4 g5 g6=>?_)
 ·have:qe c d=c:=by
   unfold qe
   cases G:l[i]? with
   |none=>rw[G] at k;cases k
   |some p=>
    rw[G] at k;rw[gO (List.any_eq_true.mpr ⟨p.1,M p (lE G),k⟩)]
  exact h false s.heap f B n t l Y (Af a s.heap) (by rw[this];exact S)
 ·have W:c.any (D.eqb · d)=false:=by
   rw[List.any_eq_false];intro x hx;have cF:=S.perm.mem_iff.mpr hx;obtain⟨p,j,rfl⟩:=nv.mp cF;obtain⟨i,C⟩:=si j;have:=Z i (by have:=(qM.mp C).1;omega);rw[C] at this;simpa using this
  have m:qe c d=c++[d]:=by unfold qe;rw[W,gZ jA]
  have T:Paired (λ(z:Int×V) (e:Int×Value)=>z.1=e.1/\RelV z.2 e.2) (((d,v)::l).map hv) ((d.hash,Value.ref b)::B.toList):= .cons ⟨rfl,q⟩ S.par;obtain⟨z',p1,p2⟩:=vp g3 T;obtain⟨L,F,rfl⟩:=lP hv p2 _ rfl;refine h true h' f g N t' L Y g1 ⟨⟨g2,g4,g5,g6.trans S.is.led⟩,?_,λp j=>?_,p1⟩
  ·rw[m];refine(F.map (·.1)).trans ?_;rw[iT];exact(S.perm.cons d).trans (Hy d c).symm
  ·rcases js.mp (F.mem_iff.mp j) with rfl|j
   ·exact y
   ·exact S.rep p j
def yy:D->Option (D×Bool)
 | .lst l| .tup l=>if l.all okS=true/\l.length<500 then some (.oth .set [] (nV l),true) else none
 |_=>none
theorem EI{l:List D}{i:Nat}{d:D}(h:l[i]?=some d):nV (l.take (i+1))=qe (nV (l.take i)) d:=by
 unfold nV;rw[Dz,h,List.foldl_append];rfl
theorem CU: ∀(l a:List D),l.all okS=true->a.all okS=true->(l.foldl qe a).all okS=true
 |[],a,_,h=>h
 |d::l,a,h1,b=>by
  rw[List.all_cons,ko] at h1;exact CU l _ h1.2 (MU b h1.1)
theorem zi: ∀(l a:List D),(l.foldl qe a).length<=a.length+l.length
 |[],a=>by simp
 |d::l,a=>by
  have:=zi l (qe a d);have:=KR a d;simp only[rm,kO];omega
def KO{l:List D}(h:l.all okS=true)(i:Nat):(l.take i).all okS=true:=by
 rw[nu] at h ⊢;exact λx a=>h x (uv a)
def qx(hc:X.calm=true)(hu:X.A.units+90<cLine):jq X (.type "set") (rDn X.K (g1 yy)):=nq λpins s σ H x u Q O d z I ru np hd f G=>by
 obtain⟨l,p,c,a,rfl,r,v,L,f⟩: ∃l p c a,x= .ref p/\RepL X.K H O l c/\Vals c a/\(s.heap.IsList p a.toArray\/s.heap.IsTuple p a.toArray)/\(if l.all okS=true/\l.length<500 then some (D.oth .set [] (nV l),true) else none)=some z:=by
  cases d with
  |lst l=>obtain⟨p,c,rfl,q,r⟩:=jF hd;obtain⟨a,v,L,_⟩:=I.list q;exact⟨l,p,c,a,rfl,r,v,.inl L.isList,f⟩
  |tup l=>obtain⟨p,c,rfl,q,r⟩:=jZ hd;obtain⟨a,v,L,_⟩:=I.tuple q;exact⟨l,p,c,a,rfl,r,v,.inr L,f⟩
  |_=>cases f
 obtain⟨⟨E,hz⟩,rfl⟩:=hV f;cases ru;have e1:=r.length;have e2:=v.length;have hh:X.A.handled=none:=I.ok.hd hc;have M:=I.fresh
 refine TT.Qj hh L (λi h=> ∃m n t j,SetV X H O h s.heap.objs.size (nV (l.take i)) m n t j) (λi h h' ⟨m,n,t,j,S⟩ k=>⟨m,n,t,j,S.stay k⟩)
  (λh' e=>⟨#[],0,_,[],⟨TT.Qi e,by simp[nV],λp U=>by simp at U,.nil⟩⟩) (λi w s' B Q' E' hB hi T hk f C W y=>?_) (λh' tk T hk=>?_)
 ·obtain⟨m,n,t,j,S⟩:=T
  have hil:i<a.length:=by
   have:=(Hg.mp hi).1;simpa using this
  have hw:a[i]?=some w:=by simpa using hi
  have J:c[i]?=some c[i]:=jm (by omega);have Z:l[i]?=some l[i]:=jm (by omega);obtain⟨w',w1,w2⟩:=v.get J;rw[hw] at w1;cases w1;have g:Rep X.K H O l[i] c[i]:=r.views Z J;have w9:okS l[i]=true:=nu.mp E _ (zD _);obtain⟨h1,g1,dr1,P,os1⟩:=s';dsimp only at hk f C W y S;subst f;subst C;subst W;have I':Inv X pins σ H {s with heap:=h1,toks:=P}:=I.kept hk;refine SetV.add I' S (CU _ _ (KO E i) rfl) (.inl g) g w2 w9 ?_ (by omega) λrr h2 R N n' t' F a1 a2 V=>?_
  ·have:=zi (l.take i) [];rw[pD] at this;unfold nV;simp only[qH] at this;omega
  ·rw[<-EI Z] at V;exact y rr h2 R a1 a2 ⟨N,n',t',F,V⟩
 ·obtain⟨m,n,t,j,S⟩:=T;have Y:a.toArray.size=l.length:=by simp;omega
  rw[Y,List.take_length] at S;refine⟨.ref s.heap.objs.size,upd H s.heap.objs.size (.stt (j.map hv)),I.laid hk (iR _) S.objOk,rfl,?_⟩;refine G s.heap.objs.size _ M (kr M) ?_;exact S.oth (λp U=>Rep.mono (λb o e _=>kr M b o e) (λb hb z=>z.elim id λz=>absurd (z▸M) hb) (S.rep p U)) ie
end
def IC(a:l.Perm m)(b: ∀x∈l,D.pr x=true):pP ltT l=pP ltT m:=srt_eq (λx c=>b x (a.mem_iff.mpr c)) ((kY ltT l).trans a) (oo l)
def Gn{k:Nat}{l:List D}(h:SortsBy k l):md l=true:=by
 unfold md;rw[uo];right
 cases l with
 |nil=>rfl
 |cons x m=>
  simp only[ko,nu,rp];refine⟨⟨by rw[h.hd x ja];rfl,λy a=>⟨⟨?_,h.pr y a⟩,h.dp y a⟩⟩,λy a z b=>h.cm y a z b⟩;rw[h.hd x ja,h.hd y a];simp
theorem BO(b:l.Perm m)(h:md m=true):md l=true:=by
 rcases yM h with c|⟨k,B⟩
 ·unfold md;rw[uo];left;rw[b.length_eq];simpa using c
 ·exact Gn (k:=k) ⟨λx a=>B.hd x (b.mem_iff.mp a),λx a=>B.pr x (b.mem_iff.mp a),λx a=>B.dp x (b.mem_iff.mp a),λx a y d=>B.cm x (b.mem_iff.mp a) y (b.mem_iff.mp d)⟩
def pX(d:D):Option (D×Bool):=match d with
 | .oth .set [] a=>if a.all okS=true then jN a else none
 |_=>tJ d
section
variable {X:Cx}
def Bi(hc:X.calm=true)(J:X.A.units+62<cLine):jq X (.builtin "sorted") (rDn X.K (g1 pX)):=nq λg s σ H x u Q O d z I N np hd C G=>by
 by_cases E: ∃h,d= .oth .set [] h
 ·obtain⟨h,rfl⟩:=E;have e:(if h.all okS=true then jN h else none)=some z:=C;split at e
  ·rename_i y;obtain⟨a,us,rfl,q,r⟩:=oj hd;cases N;obtain⟨i,n,t,l,S⟩:=q.setV I r;obtain⟨T,y8⟩:=S.lens;have wp:=TT.De X.w a n i;obtain⟨z',o,L⟩:=vp wp S.par;obtain⟨c,B,rfl⟩:=lP hv L _ rfl;have M:RepL X.K H O (c.map (·.1)) (c.map (·.2)):=RepL.ofZip λp V=>S.rep p (B.mem_iff.mp V)
   have vv:Vals (c.map (·.2)) ((TT.ma X.w a n i).toList.map (·.2)):=by
    clear L B M wp;generalize (TT.ma X.w a n i).toList=m at o;revert o;generalize f:c.map hv=zz;intro o
    induction o generalizing c with
    |nil=>
      have:c=[]:=by simpa using f
      subst this;exact .nil
    |cons r t ih=>
     cases c with
     |nil=>simp at f
     |cons p c=>
      simp only[iT,List.cons.injEq] at f;rw[iT,iT];refine .cons ?_ (ih c f.2);have:=r.2;rw[<-f.1] at this;exact this
   have v:(c.map (·.1)).Perm h:=(B.map (·.1)).trans S.perm
   have U:jN (c.map (·.1))=some z:=by
    unfold jN at e ⊢;obtain⟨⟨h1,F⟩,rfl⟩:=hV e;rw[gO ⟨BO v h1,by rw[v.length_eq];exact F⟩,IC v λx W=>rM (nu.mp y x (v.mem_iff.mp W))]
   have R:X.A.handled=none:=I.ok.hd hc
   have f:i.size<=sizeLine:=by
    unfold jN at e;rw[T];exact(hV e).1.2
   exact ql J I M vv U G λQ' E' A' Y P=>TT.MN (by rw[Y];exact R) S.is f λD Z k=>P D Z k
  ·cases e
 ·have e:g1 tJ [d]=some z:=by
   have:pX d=tJ d:=by
    unfold pX;split
    ·exact absurd ⟨_,rfl⟩ E
    ·rfl
   show tJ d=some z;rw[<-this];exact C
  exact Bj J g s σ H [x] [u] Q I (.cons N .nil) ⟨O,[d],z,np,rfl,(λj d' v' a b=>by
   cases j with
   |zero=>simp at a b;subst a;subst b;exact hd
   |succ j=>simp at a),e,G⟩
end
def rO:D->Option Key
 | .int i=>some (.inl i)
 | .str x=>some (.inr x)
 |_=>none
def J6:List D->Option (List Key)
 |[]=>some []
 |d::l=>(rO d).bind λk=>(J6 l).map (k:: ·)
def Eu:D->Option (List Key)
 | .tup l=>J6 l
 |_=>none
theorem oA(h:rO d=some k):d=jv k:=by
 cases d<;>simp[rO] at h<;>subst h<;>rfl
theorem Cw: ∀{l:List D} {a:List Key},J6 l=some a->l=a.map jv
 |[],a,h=>by cases h;rfl
 |d::l,a,h=>by
  rw[J6] at h;obtain⟨k,h1,h⟩:=gu h;obtain⟨m,b,rfl⟩:=ir h;rw[oA h1,Cw b];rfl
theorem tD(h:Eu d=some a):d= .tup (a.map jv):=by
 cases d with
 |tup l=>rw[Cw (show J6 l=some a from h)]
 |_=>cases h
theorem tR(a b:Key):D.eqb (jv a) (jv b)=decide (a=b):=by
 cases a with
 |inl i=>cases b with
  |inl j=>simp only[jv,D.eqb,J5]
  |inr y=>simp only[jv,D.eqb,J3]
 |inr x=>cases b with
  |inl j=>simp only[jv,D.eqb,J2]
  |inr y=>simp only[jv,D.eqb,J1];rfl
theorem qw: ∀a b:List Key,D.eqbL (a.map jv) (b.map jv)=decide (a=b)
 |[],[]=>by simp[D.eqbL]
 |[],_::_=>by simp[D.eqbL]
 |_::_,[]=>by simp[D.eqbL]
 |x::a,y::b=>by
  simp only[iT];rw[D.eqbL,tR,qw a b];simp only[List.cons.injEq,Bool.decide_and]
def lH:List D->List D->D->Option D
 |a::b,v::c,k=>if D.eqb a k=true then some v else lH b c k
 |_,_,_=>none
def pS:List D->List D->D->D->List D
 |b::c,v::a,k,w=>(if D.eqb b k=true then w else v)::pS c a k w
 |_,a,_,_=>a
def qB(a b:List D)(k w:D):List D×List D:=if a.any (D.eqb · k)=true then(a,pS a b k w) else(a++[k],b++[w])
def vA(a:List D)(k:D):Bool:=((rO k).isSome&&a.all λx=>(rO x).isSome)||((Eu k).isSome&&a.all λx=>(Eu x).isSome)
section
variable {K:gW}{H:Hp}{O:AP'}
theorem B6(h:Rep K H O (jv k) v):v=kV k:=by
 cases k with
 |inl i=>exact Rep.int h
 |inr x=>exact Rep.str h
theorem yQ: ∀{b:List Key} {a:List V},RepL K H O (b.map jv) a->a=b.map kV
 |[],a,h=>by rw[pA,RepL] at h;exact h
 |k::b,a,h=>by
  rw[iT,RepL] at h;obtain⟨v,r,rfl,h1,c⟩:=h;rw[B6 h1,yQ c];rfl
def uH(hk:rO d=some k)(h:iU K H O d v):v=kV k:=by
 rw[oA hk] at h;rcases h with h|⟨a,rfl,h⟩
 ·exact B6 h
 ·cases k<;>exact h.elim
def uG(hk:Eu d=some c)(h:iU K H O d v): ∃b,v= .ref b/\H b=some (.tup (c.map kV)):=by
 rw[tD hk] at h;rcases h with h|⟨a,rfl,h⟩
 ·obtain⟨b,e,rfl,q,r⟩:=h.tup;rw[yQ r] at q;exact⟨b,rfl,q.1⟩
 ·exact h.elim
theorem JU{k:Key}: ∀{a:List (Key×V)} {b:List D},RepL K H O b (a.map (·.2))->(∀d,lH (a.map λp=>jv p.1) b (jv k)=some d-> ∃v,qA a k=some v/\Rep K H O d v)/\(lH (a.map λp=>jv p.1) b (jv k)=none->qA a k=none)
 |[],b,_=>⟨λd h=>by cases b<;>simp[lH] at h,λ_=>rfl⟩
 |(c,v)::a,[],h=>by rw[iT,RepL] at h;cases h
 |(c,v)::a,m::b,h=>by
  rw[iT,RepL] at h;obtain⟨w,r,e,h1,f⟩:=h;obtain⟨rfl,rfl⟩:=wd e;obtain⟨j,l⟩:=JU (k:=k) f;simp only[iT,lH,tR];by_cases hk:c=k
  ·simp only[hk,decide_true,jy];exact⟨λd h=>by cases h;exact⟨v,pN (p:=(k,v)) rfl,h1⟩,λh=>by cases h⟩
  ·simp only[hk,decide_false,iB,iK];refine⟨λd h=>?_,λh=>?_⟩
   ·obtain⟨u,g,i⟩:=j d h;exact⟨u,by rw[mU (p:=(c,v)) hk];exact g,i⟩
   ·rw[mU (p:=(c,v)) hk];exact l h
theorem JT{k:List Key}: ∀{a:List (List Key×V)} {b:List D},RepL K H O b (a.map (·.2))->(∀d,lH (a.map λp=> .tup (p.1.map jv)) b (.tup (k.map jv))=some d-> ∃v,qA a k=some v/\Rep K H O d v)/\(lH (a.map λp=> .tup (p.1.map jv)) b (.tup (k.map jv))=none->qA a k=none)
 |[],b,_=>⟨λd h=>by cases b<;>simp[lH] at h,λ_=>rfl⟩
 |(c,v)::a,[],h=>by rw[iT,RepL] at h;cases h
 |(c,v)::a,m::b,h=>by
  rw[iT,RepL] at h;obtain⟨w,r,e,h1,f⟩:=h;obtain⟨rfl,rfl⟩:=wd e;obtain⟨j,l⟩:=JT (k:=k) f;simp only[iT,lH,D.eqb,qw];by_cases hk:c=k
  ·simp only[hk,decide_true,jy];exact⟨λd h=>by cases h;exact⟨v,pN (p:=(k,v)) rfl,h1⟩,λh=>by cases h⟩
  ·simp only[hk,decide_false,iB,iK];refine⟨λd h=>?_,λh=>?_⟩
   ·obtain⟨u,g,i⟩:=j d h;exact⟨u,by rw[mU (p:=(c,v)) hk];exact g,i⟩
   ·rw[mU (p:=(c,v)) hk];exact l h
end
section
variable {P:gY}{w:gP}{H H':Hp}{h:gR}{a:gw}
def RH(x:ObjOk P w H h a (.dT [])):ObjOk P w H' h a (.dK []):=by
 obtain⟨z,y,k,r,o,b,c,h1,d,f,g,j⟩:=x;cases r
 have:b= #[]:=by
  have:b.toList=[]:=by simpa using g
  exact Qm.mp this
 subst this;refine⟨z,y,[],.nil,o,#[],c,h1,d,f,?_,?_,la⟩
 ·first|exact λe i=>by simp at i|(intro;simp)
 ·first|exact .nil|trivial|simp[Pairs]
def RI(x:ObjOk P w H h a (.dK [])):ObjOk P w H' h a (.dT []):=by
 obtain⟨z,y,n,r,o,c,d,h1,f,g,k,b,m⟩:=x;cases r
 have:c= #[]:=by
  have j:c.toList.length=0:=by
   first
    |simpa using b.length
    |simpa using(Au b)
    |(
      cases i:c.toList with
      |nil=>rfl
      |cons e l=>rw[i] at b;cases b)
  exact Qm.mp (Qd.mp j)
 subst this;exact⟨z,y,[],.nil,o,#[],d,h1,f,g,rfl,la⟩
end
section
variable {X:Cx}{f:ig}{g:L2.St}{H:Hp}{s:gA}
def tE(h:vA d k=true):(∃e,rO k=some e/\ ∀x∈d,∃c,rO x=some c)\/(∃i,Eu k=some i/\ ∀x∈d,∃c,Eu x=some c):=by
 unfold vA at h;rw[uo,ko,ko,nu,nu] at h;rcases h with⟨h1,a⟩|⟨h1,a⟩
 ·exact .inl ⟨_,(Hd.mp h1).choose_spec,λx b=>Hd.mp (a x b)⟩
 ·exact .inr ⟨_,(Hd.mp h1).choose_spec,λx b=>Hd.mp (a x b)⟩
def Fe{a:List Key}{c:Key}(h:rO (.tup (a.map jv))=some c):False:=by cases h
def Cy(h:Eu (jv k)=some c):False:=by cases k<;>cases h
def P0(L:A.units+1<cLine)(I:Inv X f g H s)(q:OthB X.K (H a) .dct M m us)(r:RepL X.K H O m us)(hk:vA M k=true)(j:lH M m k=some d)(T:iU X.K H O k y)(N:RelV y u) 
  (h: ∀v w l,Inv X f g H l->Rep X.K H O d v->RelV v w->Q w l):wpAny (model X.prog X.w) A (getItem (.ref a) u) Q E s:=by
 have nil: ∀m:List D,lH [] m k=none:=λm=>by cases m<;>rfl
 rcases q with⟨i,e,rfl,rfl⟩|⟨i,e,rfl,rfl⟩
 ·rcases tE hk with⟨J,h1,_⟩|⟨U,h1,x⟩
  ·have:=uH h1 T;subst this;have o:=oA h1;subst o;obtain⟨v,z,B⟩:=(JU (k:=J) r).1 d j;refine zj L I (v:=v) (y:=kV J) ?_ N λw l n G=>h v w l n B G;rw[<-z];exact DGet.k e
  ·cases i with
   |nil=>rw[pA,nil] at j;cases j
   |cons p i=>obtain⟨c,C⟩:=x (jv p.1) (by simp);exact(Cy C).elim
 ·rcases tE hk with⟨J,h1,x⟩|⟨U,h1,_⟩
  ·cases i with
   |nil=>rw[pA,nil] at j;cases j
   |cons p i=>obtain⟨c,C⟩:=x (.tup (p.1.map jv)) (by simp);exact(Fe C).elim
  ·obtain⟨b,rfl,Y⟩:=uG h1 T;have o:=tD h1;subst o;obtain⟨v,z,B⟩:=(JT (k:=U) r).1 d j;refine zj L I (v:=v) (y:= .ref b) ?_ N λw l n G=>h v w l n B G;rw[<-z];exact DGet.t e Y
end
def CG(d k:D):Option (D×Bool):=match d with
 | .oth .dct a b=>if vA a k=true then(lH a b k).map λv=>(v,false) else none
 |_=>gIx d k
section
variable {X:Cx}
def Rq(J:X.A.units+1<cLine):IxR X (rD X.K CG):=by
 intro b slice c s B H x y v u Q I o p h n;obtain⟨O,d,e,z,np,h1,l,i,G⟩:=h;by_cases hd: ∃g k,d= .oth .dct g k
 ·obtain⟨g,k,rfl⟩:=hd;have j:(if vA g e=true then(lH g k e).map λv=>(v,false) else none)=some z:=i;split at j
  case isFalse=>cases j
  rename_i hk;obtain⟨w,L,rfl⟩:=ir j;obtain⟨a,T,rfl,q,r⟩:=oj h1;cases o;have m:s.TypeIs (.ref a) "dict":=xb I q;unfold subscriptTail;refine gy ?_;rw[getitemInPython_of_ne m.not_modules];refine gy (rg m PySem.F.slot_dict_getitem.lookup ?_)
  have fin:wpAny (model X.prog X.w) X.A (subscripted slice false (.ref a) u) (λr f=>wpAny (model X.prog X.w) X.A (letTemporaryGo b (.ref a) r>>=λ_=>pure r) (EP X c B Q) X.xe f) X.xe s:=by
   rw[n];exact wpAny_operating (P0 J I q r hk L l p λt U N C E M=>gy (wpAny_letTemporaryGo (gK ⟨t,H,C,M,G t H (λ_ _ e=>e) E⟩)))
  first
   |exact gK (gy fin)
   |exact gy (gK (gy fin))
   |exact gy fin
 ·have:CG d e=gIx d e:=by
   unfold CG;split
   ·exact absurd ⟨_,_,rfl⟩ hd
   ·rfl
  rw[this] at i;exact Nt b slice c s B H x y v u Q I o p ⟨O,d,e,z,np,h1,l,i,G⟩ n
def Ol(h:X.A.units+1<cLine)(e:PO X a c)(f:PO X b d)(g:ui b):PX X (.Subscript a b pos) (gB CG c d):=px2 (Nm (Rq h) e f g)
def Kt:F:=λa=>some ((.oth .dct [] [],true),a)
def LG{a:Pos}:PX X (.Dict [] [] a) Kt:=PX.imp Jx λh H Q c=>by
 obtain⟨g,T,f,d,E,e,k⟩:=c;cases e;intro p b;have B:=Ops.nil E;exact(B.done k) p _ b (kr b) ⟨[],.inl ⟨[],ie,rfl,rfl⟩,RepL.nil⟩
end
section
variable {K:gW}{T:AP'}{d:L2.St}{c:Dn}{H:Hp}{i:Nat}{g d':D}{a:gw}{o:HO}
def OwnI.writeG{j:Nat}{b:gw}(hd:c[i]?=some (some (g,true)))(h:OwnI d (c.set i (some (d',true))) j b):OwnI d c j b:=by
 obtain⟨e,h1,f⟩:=h;rcases ky h1 with⟨rfl,_,_⟩|⟨_,q⟩
 ·exact⟨_,hd,f⟩
 ·exact⟨e,q,f⟩
def ER.writeG(E:ER K H T d c)(hd:c[i]?=some (some (g,true)))(p:d[i]?=some (some (.ref a)))(r:OwnOk K (upd H a o) (λb=>OwnA d c b\/T b) d' a):
  ER K (upd H a o) T d (c.set i (some (d',true)))/\Keep d c H (c.set i (some (d',true))) (upd H a o):=by
 have O:i<c.length:=(qM.mp hd).1;have s:OwnA d c a:=⟨i,_,hd,p⟩
 have B: ∀b,OwnA d (c.set i (some (d',true))) b->OwnA d c b:=λb ⟨j,e,h1,m⟩=>by
  obtain⟨G,t,v⟩:=OwnI.writeG hd ⟨e,h1,m⟩;exact⟨j,G,t,v⟩
 have A: ∀b u,H b=some u-> ¬(OwnA d c b\/T b)->upd H a o b=some u:=λb u e n=>by rw[hU (by intro z;subst z;exact n (.inl s))];exact e
 have C: ∀b,H b≠none->upd H a o b≠none:=λb z=>by
  by_cases y:b=a
  ·subst y;rw[ie];simp
  ·rw[hU y];exact z
 have sub: ∀b,(OwnA d (c.set i (some (d',true))) b\/T b)->OwnA d c b\/T b:=λb z=>z.imp (B b) id;refine⟨⟨by rw[sv];exact E.len,λj e h=>?_,λj e h=>?_,λj k e f b h hk h1 m=>?_,λb z=>E.nT b (B b z),λb z=>by have ne:b≠a:=λe=>E.nT a s (e▸z);rw[hU ne];exact E.dom b z⟩,⟨λb u e n=>by rw[hU (by intro z;subst z;exact n s)];exact e,λj b z=>OwnI.writeG hd z,C⟩⟩
 ·rcases ky h with⟨_,_,q⟩|⟨_,q⟩
  ·cases q
  ·obtain⟨w,l,x⟩:=E.val j e q;exact⟨w,l,Rep.mono A (λb _ z=>sub b z) x⟩
 ·rcases ky h with⟨rfl,_,q⟩|⟨ne,q⟩
  ·cases q;exact⟨a,p,r.mono (λ_ _ e _=>e) (λb _ z=>sub b z) λ_ e=>e⟩
  ·obtain⟨b,l,x⟩:=E.own j e q;refine⟨b,l,x.mono A (λb _ z=>sub b z) λu L=>?_⟩;rw[hU]
   ·exact L
   ·intro z;subst z;exact ne (E.inj i j _ _ _ hd q p l)
 ·obtain⟨I,t,v⟩:=OwnI.writeG hd ⟨e,h,h1⟩;obtain⟨J,M,N⟩:=OwnI.writeG hd ⟨f,hk,m⟩;exact E.inj j k I J b t M v N
end
section
variable {X:Cx}{c:ig}{d:L2.St}{H:Hp}{s:gA}{a:gw}
def N4(I:Inv X c d H s)(e:H a=some (.dT [])):Inv X c d (upd H a (.dK [])) s:=by
 have:=wc (t':=s.toks) (h':=s.heap) I (by rw[e];exact True.intro) (Af a s.heap) (by obtain⟨z,y,g,r,o,f,b,h1,_⟩:=(show ObjOk X.prog X.w H s.heap a (.dT []) from I.hok a _ e);exact⟨o,h1⟩) (RH (H':=upd H a (.dK [])) (I.hok a _ e));exact this
def N3(I:Inv X c d H s)(e:H a=some (.dK [])):Inv X c d (upd H a (.dT [])) s:=by
 have:=wc (t':=s.toks) (h':=s.heap) I (by rw[e];exact True.intro) (Af a s.heap) (by obtain⟨z,y,g,r,o,f,b,h1,_⟩:=(show ObjOk X.prog X.w H s.heap a (.dK []) from I.hok a _ e);exact⟨o,h1⟩) (RI (H':=upd H a (.dT [])) (I.hok a _ e));exact this
def Q0:MY:=λo i v H Q=> ∃a,o= .ref a/\((∃e,DPut H a i v e/\Q e)\/(∃f,H a=some (.dT [])/\i=kV f/\Q (upd H a (.dK [(f,v)])))\/
 (∃g b,H a=some (.dK [])/\i= .ref b/\H b=some (.tup (g.map kV))/\Q (upd H a (.dT [(g,v)]))))
def IE(j:X.A.units+1<cLine):Qc X Q0:=by
 intro c s d H o i v E C u Q I x l m h;obtain⟨a,rfl,h⟩:=h;cases x;rcases h with⟨r,g,q⟩|⟨y,e,rfl,q⟩|⟨B,b,e,rfl,n,q⟩
 ·exact uV j I g l m λp f=>⟨r,f,q⟩
 ·refine uV j (N4 I e) (DPut.k (k:=y) (v:=v) ie (by rw[iM];decide)) l m λp f=>⟨_,f,?_⟩
  rw[Fd];exact q
 ·have w:b≠a:=Nq n e (λz=>nomatch z);refine uV j (N3 I e) (DPut.t (k:=B) (v:=v) (b:=b) ie (by rw[hU w];exact n) (by rw[iM];decide)) l m λp f=>⟨_,f,?_⟩
  rw[Fd];exact q
end
section
variable {K:gW}{H:Hp}{O:AP'}
theorem IH{k:Key}{w:D}{v:V}(d:Rep K H O w v): ∀{a:List (Key×V)} {b:List D},RepL K H O b (a.map (·.2))->RepL K H O (pS (a.map λp=>jv p.1) b (jv k) w) ((a.map λc=>if c.1=k then(c.1,v) else c).map (·.2))
 |[],b,h=>by cases b<;>simpa[pS] using h
 |(f,u)::a,[],h=>by rw[iT,RepL] at h;cases h
 |(f,u)::a,i::b,h=>by
  rw[iT,RepL] at h;obtain⟨x,r,e,h1,g⟩:=h;obtain⟨rfl,rfl⟩:=wd e;simp only[iT,pS,tR];refine RepL.cons ?_ (IH d g);by_cases hk:f=k
  ·simp only[hk,decide_true,jy];exact d
  ·simp only[hk,decide_false,iB,iK];exact h1
theorem IG{k:List Key}{w:D}{v:V}(d:Rep K H O w v): ∀{a:List (List Key×V)} {b:List D},RepL K H O b (a.map (·.2))->RepL K H O (pS (a.map λp=> .tup (p.1.map jv)) b (.tup (k.map jv)) w) ((a.map λc=>if c.1=k then(c.1,v) else c).map (·.2))
 |[],b,h=>by cases b<;>simpa[pS] using h
 |(f,u)::a,[],h=>by rw[iT,RepL] at h;cases h
 |(f,u)::a,i::b,h=>by
  rw[iT,RepL] at h;obtain⟨x,r,e,h1,g⟩:=h;obtain⟨rfl,rfl⟩:=wd e;simp only[iT,pS,D.eqb,qw];refine RepL.cons ?_ (IG d g);by_cases hk:f=k
  ·simp only[hk,decide_true,jy];exact d
  ·simp only[hk,decide_false,iB,iK];exact h1
def Nj(a:Rep K H O w v)(h:RepL K H O b (kvs.map (·.2))):
  (qB (kvs.map λp=>jv p.1) b (jv k) w).1=(pd kvs k v).map (λp=>jv p.1)/\RepL K H O (qB (kvs.map λp=>jv p.1) b (jv k) w).2 ((pd kvs k v).map (·.2)):=by
 have c:(kvs.map λp=>jv p.1).any (D.eqb · (jv k))=kvs.any λd=>decide (d.1=k):=by
  rw[Ae];congr 1;funext p;exact tR _ _
 unfold qB pd;rw[c];split
 ·refine⟨?_,IH a h⟩;rw[kh];apply pv;intro p _;simp only[Function.comp];split<;>rfl
 ·exact⟨by simp,by rw[pF];exact h.append (RepL.one a)⟩
def Ni{k:List Key}{w:D}{v:V}(b:Rep K H O w v){kvs:List (List Key×V)}{a:List D}(h:RepL K H O a (kvs.map (·.2))):
  (qB (kvs.map λp=> .tup (p.1.map jv)) a (.tup (k.map jv)) w).1=(pd kvs k v).map (λp=> .tup (p.1.map jv))/\RepL K H O (qB (kvs.map λp=> .tup (p.1.map jv)) a (.tup (k.map jv)) w).2 ((pd kvs k v).map (·.2)):=by
 have c:(kvs.map λp=>D.tup (p.1.map jv)).any (D.eqb · (.tup (k.map jv)))=kvs.any λd=>decide (d.1=k):=by
  rw[Ae];congr 1;funext p;simp only[Function.comp,D.eqb,qw]
 unfold qB pd;rw[c];split
 ·refine⟨?_,IG b h⟩;rw[kh];apply pv;intro p _;simp only[Function.comp];split<;>rfl
 ·exact⟨by simp,by rw[pF];exact h.append (RepL.one b)⟩
end
def BY(i:Nat)(f:F)(g:FO):FS:=λc=>(f c).bind λp=>match p.2[i]? with
 |some (some _)=>(g p.2).bind λq=>match res q.2 q.1,q.2[i]? with
  |some k,some (some (.oth .dct a b,true))=>if vA a k=true/\a.length<10000 then some (.nx (q.2.set i (some (.oth .dct (qB a b k p.1.1).1 (qB a b k p.1.1).2,true)))) else none
  |_,_=>none
 |_=>none
section
variable {X:Cx}{e d:gG}{f:F}{l:FO}{h g m s:Pos}{i:Nat}{x:Str}{A L:iI}{q:Hp}
def I9{J:Pos}(hu:X.A.units+1<cLine)(hv:PO X (.Name x g) (gv i))(he:PX X e f)(hi:PO X d l)
  (ha: ∀v,assign (.Subscript (.Name x g) d J) X.env v=(do
   let ov <-holding [v] (eval (.Name x g) X.env)
   let iv <-holding [v,ov] (eval d X.env)
   standAt J
   holding [v,ov,iv] (setItem ov iv v)
   release [v,ov,iv] []))
  (hs:swapsWithSole [.Subscript (.Name x g) d J] e h.line X.env=pure false)(hw:swappedStores [.Subscript (.Name x g) d J] e X.env=pure none)
  (h1:(assignEach [.Subscript (.Name x g) d J] X.env).map (·.2)=[assign (.Subscript (.Name x g) d J) X.env]):
  PSX X A L q (.Assign [.Subscript (.Name x g) d J] e h) (BY i f l):=PS.imp' (Eh he (Js hv hi (IE hu) ha) hs hw h1) λD U H hw=>by
 obtain⟨δ,T,out,E,fi,e,k⟩:=hw;obtain⟨⟨r,w⟩,h1,e⟩:=gu e;dsimp only at e;split at e
 case h_2=>cases e
 rename_i y0 h0;obtain⟨⟨o,y⟩,h2,e⟩:=gu e;dsimp only at e;split at e
 ·rename_i S V W hk h3;obtain⟨⟨R,C⟩,e⟩:=hV e;cases e;refine⟨δ,T,r,w,E,h1,λv H1 Y=>⟨w,Tmp T r v,.slot i,w,Y.er E,by unfold gv;rw[h0],λv2 H2 P=>⟨w,Tmp T r v,o,y,P.er (Y.er E),h2,λv3 F P3=>?_⟩⟩⟩;have gm:PostO X.K T U δ H (.val r) w v H1:=Y;have B:=Ops.cons E gm (Ops.cons (Y.er E) P (Ops.cons (P.er (Y.er E)) P3 (Ops.nil (P3.er (P.er (Y.er E))))));have E3:ER X.K F T U y:=B.er.mono (λ_ _ e _=>e) (λb _ z=>B.tt b z) (λa z=>B.er.dom a (B.tt a z));have N:U[i]?=some (some v2):=P.2.2;obtain⟨a,q1,us,q2,q3⟩:=E3.own i _ h3;rw[N] at q1;cases q1;have vk:=B.view (j:=2) rfl rfl hk;have rv:=B.rep E (j:=0) (r:=r) rfl rfl;have oa:OwnA U y a:=⟨i,_,h3,N⟩
  have kp: ∀(G:HO) b u,F b=some u-> ¬(OwnA U y b\/T b)->upd F a G b=some u:=λG b u e n=>by rw[hU (by intro z;subst z;exact n (.inl oa))];exact e
  have ks10:10000<sizeLine:=by rw[iM];decide
  have fin: ∀G Z,OthB X.K (some G) .dct (qB V W S r.1).1 (qB V W S r.1).2 Z->RepL X.K F (λa=>OwnA U y a\/T a) (qB V W S r.1).2 Z->D.nx U (upd F a G):=λG Z g1 g2=>by
   obtain⟨E4,K4⟩:=E3.writeG (o:=G) (d':= .oth .dct (qB V W S r.1).1 (qB V W S r.1).2) h3 N ⟨Z,by rw[ie];exact g1,RepL.mono (kp G) (λ_ _ z=>z) g2⟩;exact k _ _ (B.keep.trans K4).sk E4
  refine⟨a,rfl,?_⟩;rcases q2 with⟨kvs,eH,rfl,rfl⟩|⟨kvs,eH,rfl,rfl⟩
  ·rw[jt] at C;rcases tE R with⟨κ,g1,_⟩|⟨τ,g1,g2⟩
   ·have M:=uH g1 vk;have I:=oA g1;subst I;obtain⟨O,Q⟩:=Nj (k:=κ) rv q3;refine .inl ⟨_,by rw[M];exact DPut.k eH (by omega),fin _ _ (.inl ⟨_,rfl,O,rfl⟩) Q⟩
   ·have fG:kvs=[]:=by
     cases kvs with
     |nil=>rfl
     |cons p kvs=>obtain⟨c,hc⟩:=g2 (jv p.1) (by simp);exact(Cy hc).elim
    subst fG;obtain⟨b,M,eb⟩:=uG g1 vk;have I:=tD g1;subst I;obtain⟨O,Q⟩:=Ni (k:=τ) (kvs:=[]) rv q3;exact .inr (.inr ⟨τ,b,eH,M,eb,fin _ _ (.inr ⟨[(τ,v)],rfl,O,rfl⟩) Q⟩)
  ·rw[jt] at C;rcases tE R with⟨κ,g1,g2⟩|⟨τ,g1,_⟩
   ·have fG:kvs=[]:=by
     cases kvs with
     |nil=>rfl
     |cons p kvs=>obtain⟨c,hc⟩:=g2 (.tup (p.1.map jv)) (by simp);exact(Fe hc).elim
    subst fG;have M:=uH g1 vk;have I:=oA g1;subst I;obtain⟨O,Q⟩:=Nj (k:=κ) (kvs:=[]) rv q3;exact .inr (.inl ⟨κ,eH,M,fin _ _ (.inl ⟨[(κ,v)],rfl,O,rfl⟩) Q⟩)
   ·obtain⟨b,M,eb⟩:=uG g1 vk;have I:=tD g1;subst I;obtain⟨O,Q⟩:=Ni (k:=τ) rv q3;refine .inl ⟨_,by rw[M];exact DPut.t eH eb (by omega),fin _ _ (.inr ⟨_,rfl,O,rfl⟩) Q⟩
 ·cases e
end
def jk(d:D):Option (D×Bool):=match d with
 | .oth .dct a b=>if(a.all λk=>(rO k).isSome)=true/\a≠[] then jN a else none
 |_=>pX d
section
variable {X:Cx}
theorem yJ{P:gY}{w:gP}: ∀{e:List DictEntry} {f:List (Key×Value)} {a:List (Key×V)},Pairs (kx P w) e f->KV a f->Vals (a.map λp=>kV p.1) (e.map (·.key))
 |_,_,_,.nil,.nil=> .nil
 |_,_,_,.cons h1 g t,.cons r q=>by
  refine .cons ?_ (yJ t q);dsimp only;rw[r.1];rcases jB (show xv _ _=true from h1) with⟨i,d,b,c⟩|⟨x,d,b,c⟩
  ·rw[b,c];exact⟨d,rfl⟩
  ·rw[b,c];exact⟨d,rfl⟩
theorem yO{K:gW}{H:Hp}{O:AP'}: ∀(a:List (Key×V)),RepL K H O (a.map λp=>jv p.1) (a.map λp=>kV p.1)
 |[]=>RepL.nil
 |(k,v)::a=>by
  refine RepL.cons ?_ (yO a)
  cases k with
  |inl i=>exact Rep.mkInt
  |inr x=>exact Rep.mkStr
def Ra{X:Cx}{id:String}{g f:D->Option (D×Bool)}(i:jq X (.builtin id) (rDn X.K (g1 f))){c:ig}{s:gA}{e:L2.St}{H:Hp}{x:V}{u:gD}{Q:VK}{O:AP'}{d:D}{z:D×Bool}(I:Inv X c e H s)(k:L2.RelV x u)(np: ∀p,¬Ow (H p)-> ¬O p)(hd:iU X.K H O d x)(h:f d=some z)(G:Gen X.K H O z Q):
  wpAny (model X.prog X.w) X.A (call (.builtin id) [u]) (EP X c e Q) X.xe s:=
 i c s e H [x] [u] Q I (.cons k .nil) ⟨O,[d],z,np,rfl,(λj l m a b=>by
   cases j with
   |zero=>simp at a b;subst a;subst b;exact hd
   |succ j=>simp at a),h,G⟩
def lB(j:X.calm=true)(n:X.A.units+62<cLine):jq X (.builtin "sorted") (rDn X.K (g1 jk)):=nq λt s σ H x u Q O d z I v np hd l G=>by
 by_cases m: ∃f w,d= .oth .dct f w
 ·obtain⟨f,w,rfl⟩:=m;have h:(if(f.all λk=>(rO k).isSome)=true/\f≠[] then jN f else none)=some z:=l;split at h
  ·rename_i c;obtain⟨a,us,rfl,q,r⟩:=oj hd;cases v;rcases q with⟨b,e,rfl,rfl⟩|⟨b,e,rfl,rfl⟩
   ·obtain⟨zl,B,D,i,o,V,S,h1,J,L,W,M,Z⟩:=ND I.hok e;have y:=yJ M i;have U:=y.length;simp only[jt,ju] at U;have T:X.A.handled=none:=I.ok.hd j;exact ql n I (yO (O:=O) b) y h G λR P F C N=>TT.K6 B (by rw[C];exact T) ⟨o,h1,J,L⟩ (by omega) λE Y k=>N E Y k
   ·exfalso
    cases b with
    |nil=>exact c.2 rfl
    |cons p b=>
     have:=nu.mp c.1 (.tup (p.1.map jv)) (by simp);simp[rO] at this
  ·cases h
 ·have:jk d=pX d:=by
   unfold jk;split
   ·exact absurd ⟨_,_,rfl⟩ m
   ·rfl
  exact Ra (g:=jk) (Bi j n) I v np hd (by rw[<-this];exact l) G
def LF(a:Gl X x)(b:X.mg x=some (.int i t))(hd:(x==("__debug__":Str))=false):PX X (.Name x pos) (fC (.int i)):=PX.imp (Fw (v:= .int i) a b ⟨t,rfl⟩ hd) λf H Q h=>by
 obtain⟨d,T,r,c,E,e,k⟩:=h;cases e;exact k _ _ (Post.val .refl E Rep.mkInt)
def pR:FS:=λ_=>none
def Gz{A L:iI}{b:Hp}{st:Stmt}:PSX X A L b st pR:=λa s g H D I h=>by
 obtain⟨f,T,c,E,d,e,k⟩:=h;cases e
end
section
variable {X:Cx}{e:gG}{f:F}{b d a c:Pos}{i:Nat}{x:Str}
end
structure PXs(X:Cx)(es:jh)(fs:List F):Prop where
 pa:PA X es (tA X.K (fs.map gx))
section
variable {X:Cx}{e:gG}{a:jh}{f:F}{fs:List F}{b:Pos}
def Lw:PXs X [] []:=⟨AO⟩
def IT(h:PX X e f)(c:PXs X a fs)(d:starEach (e::a) X.env=(false,eval e X.env)::starEach a X.env):PXs X (e::a) (f::fs):=⟨sY (PX.po h) c.pa d⟩
def LB(h:PXs X a fs):PX X (.List a b) (jG fs):=Oj h.pa
def Lz{x1}(h:PXs X a fs):PX X (.Tuple a x1 b) (nS fs):=Oa h.pa
def Jl{c:FT}(h:PTX X e c):PIf X [e] (tT X.K c):=L7 h
def Ov{c:FT}(h:PWX X e c):PTX X e c:=PW.pt h
end
structure QX(X:Cx)(e:gG)(f:F):Prop where
 h:PX X e f
structure QO(X:Cx)(e:gG)(f:FO):Prop where
 h:PX.PO X e f
structure QA(X:Cx)(es:jh)(fs:List FO):Prop where
 h:PA X es (tA X.K fs)
structure QL(X:Cx)(es:jh)(fs:List F):Prop where
 h:PXs X es fs
structure QT(X:Cx)(e:gG)(f:FT):Prop where
 h:PTX X e f
structure QW(X:Cx)(e:gG)(f:FT):Prop where
 h:PWX X e f
structure QG(X:Cx)(A:iI)(e:gG)(t:Tg):Prop where
 h:PGX X A e t
structure QI(X:Cx)(B:SB)(tg e:gG)(f:FIt):Prop where
 h:PIX X B tg e f
structure QF(X:Cx)(es:jh)(f:FT):Prop where
 h:PIf X es (tT X.K f)
structure QB(X:Cx)(A:iI)(d:gw)(e:gG)(n:Nat)(f:FB):Prop where
 h:PB X (jQ e n (.ref d) X.env) (tBx false X.K A d f)
structure QS(X:Cx)(A L:iI)(H0:Hp)(st:Stmt)(f:FS):Prop where
 h:PSX X A L H0 st f
structure QQ(X:Cx)(A L:iI)(H0:Hp)(st:List Stmt)(f:FS):Prop where
 h:yG X A L H0 st f
structure QC(X:Cx)(v:gD)(g:List D->Option (D×Bool)):Prop where
 h:jq X v (rDn X.K g)
structure QP(X:Cx)(o:uX)(g:D->D->Option (D×Bool)):Prop where
 h:OpR X o (rD X.K g)
abbrev SE(X:Cx)(e:gG)(a:jh):Prop:=starEach (e::a) X.env=(false,eval e X.env)::starEach a X.env
abbrev BA(X:Cx)(p:Pos)(a:jh):Prop:=(backTo p (starEach a X.env)).any (·.1)=false
abbrev DB(x:Str):Prop:=(x==("__debug__":Str))=false
abbrev un(A:gS)(n:Nat):Prop:=A.units+n<cLine
structure ZZ where
 P:Program
 w:World
 K:PySem.W.Frag
 mg:Str->Option Value
 base:Heap
def Oz(Z:ZZ)(k:Nat)(x:Str)(b:hG)(c:EvF):Prop:= ∃f a,FnOk Z.P Z.w Z.K Z.mg Z.base CX0 k f a b (spF Z.K c)/\Z.mg x=some (.ref f)/\PySem.W.keepIn Z.K (.ref f)=true/\Binds Z.K a b []
theorem Oz.up{Z:ZZ}{k j:Nat}{x:Str}{d:hG}{c:EvF}(o:Oz Z k x d c)(h:k<=j:=by decide):Oz Z j x d c:=let⟨f,e,a,b⟩:=o;⟨f,e,a.mono h,b⟩
abbrev zX(X:Cx):ZZ:=⟨X.prog,X.w,X.K,X.mg,X.base⟩
def btT:List (Str×Value):=[("len",.builtin "len"),("abs",.builtin "abs"),("int",.type "int"),("tuple",.type "tuple"),("list",.type "list"),("bool",.type "bool"),("max",.builtin "max"),("min",.builtin "min"),("all",.builtin "all"),("any",.builtin "any"),("sorted",.builtin "sorted"),("set",.type "set")]
def btA{c:jY}(T:Tx c): ∀p∈btT,c p.1=none/\bootBuiltins p.1=some p.2:=by
 have h: ∀p∈btT,bootBuiltins p.1=some p.2:=by decide+kernel
 intro p b;refine⟨?_,h p b⟩;have a:p∈btT:=b;unfold btT at a;simp only[js,ke,kU] at a;rcases a with rfl|rfl|rfl|rfl|rfl|rfl|rfl|rfl|rfl|rfl|rfl|rfl
 ·exact T.n_len
 ·exact T.n_abs
 ·exact T.n_int
 ·exact T.n_tuple
 ·exact T.n_list
 ·exact T.n_bool
 ·exact T.n_max
 ·exact T.n_min
 ·exact T.n_all
 ·exact T.n_any
 ·exact T.n_sorted
 ·exact T.n_set
theorem Er{z:Str}{v:gD}: ∀{l:List (Str×Value)},l.lookup z=some v->(z,v)∈l
 |[],h=>by cases h
 |(y,u)::l,h=>by
  rw[mw] at h;split at h
  ·rename_i q;cases h;rw[qJ q];exact .head _
  ·exact .tail _ (Er h)
def btM{a:jY}{z:Str}{v:gD}(T:Tx a)(h:btT.lookup z=some v):a z=none:=(btA T _ (Er h)).1
def btN{z:Str}{v:gD}(h:btT.lookup z=some v):bootBuiltins z=some v:=(show ∀p∈btT,bootBuiltins p.1=some p.2 from by decide+kernel) _ (Er h)
section
variable {X:Cx}{x z:Str}{e a b c st lo G:gG}{m:jh}{q s fc U fl fh:FO}{f g:F}{y fu:FT}{p I J l r H:Pos}{A L:iI}{B:SB}{E:Hp}{fs:List FO}{Y:List F}{i j k:Nat}{Q:gG}{S:Stmt}{M Ts:List Stmt}{u v:FS}
def xV(h1:X.N[i]?=some x:=by rfl)(d:Vis X.env.scope x:=by first|exact Or.inl rfl|exact Or.inr (Or.inl rfl)|exact Or.inr (Or.inr rfl))(h:DB x:=by decide)(n:(x==("__classdict__":Str))=false:=by decide):QO X (.Name x l) (gv i):=⟨OL h1 d h n⟩
def xW(h1:X.N[i]?=some x:=by rfl)(d:Vis X.env.scope x:=by first|exact Or.inl rfl|exact Or.inr (Or.inl rfl)|exact Or.inr (Or.inr rfl))(h:DB x:=by decide)(n:(x==("__classdict__":Str))=false:=by decide):QX X (.Name x l) (iH i):=⟨N9 h1 d h n⟩
def xO(h:QX X e f):QO X e (gx f):=⟨PX.po h.h⟩
def x1{j}:QX X (.Constant .none j l) (fC .non):=⟨Oh⟩
def x2{i j}:QX X (.Constant (.bool i) j l) (fC (.bl i)):=⟨Nh⟩
theorem x3{i j}:QX X (.Constant (.int i) j l) (fC (.int i)):=⟨Oo⟩
theorem x4{i j}:QX X (.Constant (.str i) j l) (fC (.str i)):=⟨Ob⟩
theorem x5{i:Int}(h: ∃t,X.mg x=some (.int i t))(g:Gl X x:=by rfl)(d:DB x:=by decide):QX X (.Name x l) (fC (.int i)):=let⟨_,h⟩:=h;⟨LF g h d⟩
def x7:QX X (.Dict [] [] l) Kt:=⟨LG⟩
def jI{d:Operator}{g:D->D->Option (D×Bool)}(o:QP X (binaryOp d) g)(n:QO X a q)(t:QO X b s):QX X (.BinOp a d b l) (gB g q s):=⟨Ot o.h n.h t.h⟩
def Ax(d:QO X a q):QX X (.UnaryOp .USub a l) (jn mI q):=⟨Oi d.h⟩
def Sk(d:QX X a f):QX X (.UnaryOp .Not a l) (MK f):=⟨Og d.h⟩
def H9{d:CmpOp}{g:D->D->Option (D×Bool)}(o:QP X (compareOp d) g)(n:QO X a q)(t:QO X b s)(w:behindInMarks d b=false:=by first|exact JL _|with_unfolding_all rfl):QX X (.Compare a [d] [b] l) (gB g q s):=⟨Oq o.h n.h t.h w⟩
def tCmp{d:CmpOp}{g:D->D->Option (D×Bool)}(o:QP X (compareOp d) g)(n:QO X a q)(t:QO X b s)(w:behindInMarks d b=false:=by first|exact JL _|with_unfolding_all rfl):QT X (.Compare a [d] [b] l) (fT (gB g q s)):=⟨LR o.h n.h t.h w⟩
def xCh{d n:CmpOp}(o:QO X a q)(t:QO X b s)(w:QO X c fc)(N:tH d:=by first|exact .inl rfl|exact .inr (.inl rfl)|exact .inr (.inr (.inl rfl))|exact .inr (.inr (.inr rfl)))(O:tH n:=by first|exact .inl rfl|exact .inr (.inl rfl)|exact .inr (.inr (.inl rfl))|exact .inr (.inr (.inr rfl)))(C:lastMarks [d,n] [b,c]=false:=by with_unfolding_all rfl):QX X (.Compare a [d,n] [b,c] l) (uU d n q s fc):=⟨IW N O o.h t.h w.h C⟩
def xBo{op}(d:QX X a f):QX X (.BoolOp op [a] l) f:=⟨LK d.h⟩
def Lc(d:QX X a f)(n:QX X (.BoolOp .And (b::m) l) g):QX X (.BoolOp .And (a::b::m) l) (CP f g):=⟨Ou d.h n.h⟩
def Qt(d:QT X a y)(n:QW X (.BoolOp .And (b::m) l) fu):QW X (.BoolOp .And (a::b::m) l) (ni y fu):=⟨LM d.h n.h⟩
def wOr(d:QT X a y)(n:QW X (.BoolOp .Or (b::m) l) fu):QW X (.BoolOp .Or (a::b::m) l) (Ks y fu):=⟨Ox d.h n.h⟩
def M8(d:QT X a y):QW X (.BoolOp .And [a] l) y:=⟨IY d.h⟩
def Qs(d:QT X a y):QW X (.BoolOp .Or [a] l) y:=⟨LL d.h⟩
def tW{op}(h:QW X (.BoolOp op m l) y):QT X (.BoolOp op m l) y:=⟨Ov h.h⟩
def tNot(d:QT X a y):QT X (.UnaryOp .Not a l) (lz y):=⟨LQ d.h⟩
def AD(h:QX X e f)(n: ∀d,isTrue e X.env d=(do let v <-d;standAt e.pos;holding [v] (truthy v)):=by intro _;rfl):QT X e (fT f):=⟨LP h.h n⟩
def xIf(o:QT X c y)(d:QX X a f)(n:QX X b g):QX X (.IfExp c a b l) (fIf y f g):=⟨Q4 o.h d.h n.h⟩
def xIx(d:QO X a q)(n:QO X b s)(o:ui b:=by exact λ_ _=>rfl):QX X (.Subscript a b l) (gB gIx q s):=⟨Q3 d.h n.h o⟩
def Sm(t:un X.A 1)(d:QO X a q)(n:QO X b s)(o:ui b:=by exact λ_ _=>rfl):QX X (.Subscript a b l) (gB CG q s):=⟨Ol t d.h n.h o⟩
def Qo(d:QO X a q)(n:QO X G fh):QX X (.Subscript a (.Slice none (some G) none I) l) (tQ q fh):=⟨LA d.h n.h⟩
def xL0:QL X [] []:=⟨Lw⟩
def xL(d:QX X e f)(n:QL X m Y)(o:SE X e m:=by rfl):QL X (e::m) (f::Y):=⟨IT d.h n.h o⟩
def xA0:QA X [] []:=⟨AO⟩
def xA(d:QO X e q)(n:QA X m fs)(o:SE X e m:=by rfl):QA X (e::m) (q::fs):=⟨sY d.h n.h o⟩
def yj{k}(h:QL X m Y):QX X (.Tuple m k l) (nS Y):=⟨Lz h.h⟩
def ny(h:QL X m Y):QX X (.List m l) (jG Y):=⟨LB h.h⟩
def xB{id:String}{g:List D->Option (D×Bool)}(T:Tx X.mg)(hv:btT.lookup z=some (.builtin id))(o:QC X (.builtin id) g)(n:QA X (e::m) fs)(w:Gl X z:=by rfl)(C:z≠"__name__":=by decide)(N:DB z:=by decide)(t:SE X e m:=by rfl)(d:BA X l m:=by rfl):QX X (.Call (.Name z p) (e::m) [] l) (gL g fs):=⟨Ft o.h w (btM T hv) (btN hv) n.h C N t d⟩
def xT{id:String}{g:List D->Option (D×Bool)}(T:Tx X.mg)(hv:btT.lookup z=some (.type id))(o:QC X (.type id) g)(n:QA X (e::m) fs)(w:Gl X z:=by rfl)(C:z≠"__name__":=by decide)(N:DB z:=by decide)(t:SE X e m:=by rfl)(d:BA X l m:=by rfl):QX X (.Call (.Name z p) (e::m) [] l) (gL g fs):=⟨Ly o.h w (btM T hv) (btN hv) n.h C N t d⟩
def xI{t:Ty}(T:Tx X.mg)(d:btT.lookup z=some (.type t.n))(C:QO X e q)(N:Gl X "isinstance":=by rfl)(o:Gl X z:=by rfl)(O:z≠"__name__":=by decide)(i5:DB z:=by decide)
  (s1:SE X e [.Name z I]:=by rfl)(s2:SE X (.Name z I) []:=by rfl)(w:BA X l [.Name z I]:=by rfl):
  QX X (.Call (.Name "isinstance" p) [e,.Name z I] [] l) (jn (tL [t]) q):=⟨Om C.h N T.n_isinstance o (btM T d) (btN d) O i5 lT s1 s2 w⟩
def xI2{t O:Ty}{d:Str}{w:Pos}{o}(T:Tx X.mg)(N:btT.lookup z=some (.type t.n))(C:btT.lookup d=some (.type O.n))(ha:QO X e q)(hg:Gl X "isinstance":=by rfl)(aB:Gl X z:=by rfl)(hn:z≠"__name__":=by decide)(i5:DB z:=by decide)(cf:Gl X d:=by rfl)(cc:d≠"__name__":=by decide)(cu:DB d:=by decide)
  (s1:SE X e [.Tuple [.Name z I,.Name d J] o w]:=by rfl)(s2:SE X (.Tuple [.Name z I,.Name d J] o w) []:=by rfl)
  (s3:SE X (.Name z I) [.Name d J]:=by rfl)(s4:SE X (.Name d J) []:=by rfl)
  (h9:BA X l [.Tuple [.Name z I,.Name d J] o w]:=by rfl):
  QX X (.Call (.Name "isinstance" p) [e,.Tuple [.Name z I,.Name d J] o w] [] l) (jn (tL [t,O]) q):=⟨LD ha.h hg T.n_isinstance aB (btM T N) (btN N) hn i5 cf (btM T C) (btN C) cc cu lT s1 s2 s3 s4 h9⟩
def xU{k:Nat}{ps:hG}{d:EvF}(O:Oz (zX X) k x ps d)(T:Room k X.A)(t:QA X (e::m) fs)(C:Gl X x:=by rfl)(i5:DB x:=by decide)
  (w:SE X e m:=by rfl)(o:BA X l m:=by rfl):QX X (.Call (.Name x p) (e::m) [] l) (gM d fs):=
 let⟨_,_,ok,N,D,n⟩:=O;⟨Lx ok T C N D n t.h i5 w o⟩
def Si{T:String}{mk:List D->D}{o:Bool}(d:Tx X.mg)(hv:btT.lookup z=some (.type T))(N:QA X [a,b] [q,s])(C:(T="list"/\mk= .lst/\o=true)\/(T="tuple"/\mk= .tup/\o=false):=by first|exact .inl ⟨rfl,rfl,rfl⟩|exact .inr ⟨rfl,rfl,rfl⟩)(O:X.calm=true:=by rfl)(hg:Gl X z:=by rfl)(hn:z≠"__name__":=by decide)(i5:DB z:=by decide)(t:Gl X "range":=by rfl)
  (s1:SE X (.Call (.Name "range" I) [a,b] [] J) []:=by rfl)(s2:SE X a [b]:=by rfl)
  (w:BA X l []:=by rfl)(n:BA X J [b]:=by rfl):
  QX X (.Call (.Name z p) [.Call (.Name "range" I) [a,b] [] J] [] l) (gL (gRg mk o) [q,s]):=⟨Oc C O hg (btM d hv) (btN hv) hn i5 t d.n_range N.h s1 s2 w n⟩
def Gf(hv:QO X (.Name x r) (gv i))(d:QX X e f)(w:attributeBase (.Name x r) "append" X.env (eval (.Name x r) X.env)=eval (.Name x r) X.env:=by rfl)
  (C:((backTo l (starEach [e] X.env)).all (λx=>!x.1)&&(backToKw l (keywordEach [] X.env)).all (λx=>x.1.isSome)&&decide ([e].length+([]:List Keyword).length+(if([]:List Keyword).isEmpty then 0 else 1)<30))=true:=by rfl)
  (t:(H.endLine==l.line)=true:=by rfl)(n:SE X e []:=by rfl)(o:BA X l []:=by rfl):QX X (.Call (.Attribute (.Name x r) "append" H) [e] [] l) (jW i f):=⟨Gx hv.h d.h w C t n o⟩
def Sj(hv:QO X (.Name x r) (gv i))(d:QO X e U)(w:attributeBase (.Name x r) "pop" X.env (eval (.Name x r) X.env)=eval (.Name x r) X.env:=by rfl)
  (C:((backTo l (starEach [e] X.env)).all (λx=>!x.1)&&(backToKw l (keywordEach [] X.env)).all (λx=>x.1.isSome)&&decide ([e].length+([]:List Keyword).length+(if([]:List Keyword).isEmpty then 0 else 1)<30))=true:=by rfl)
  (t:(H.endLine==l.line)=true:=by rfl)(n:SE X e []:=by rfl)(o:BA X l []:=by rfl):QX X (.Call (.Attribute (.Name x r) "pop" H) [e] [] l) (rP i U):=⟨IU hv.h d.h w C t n o⟩
def iR1(T:Tx X.mg)(d:QA X [a] [q])(n:Gl X "range":=by rfl)(o:starEach [a] X.env=[(false,eval a X.env)]:=by rfl):QI X B Q (.Call (.Name "range" p) [a] [] l) (vN q):=⟨Ek n T.n_range d.h o⟩
def iR2(T:Tx X.mg)(n:QA X [a,b] [q,s])(o:Gl X "range":=by rfl)(t:starEach [a,b] X.env=[(false,eval a X.env),(false,eval b X.env)]:=by rfl)(d:starEach [b] X.env=[(false,eval b X.env)]:=by rfl):QI X B Q (.Call (.Name "range" p) [a,b] [] l) (A5 q s):=⟨Ej o T.n_range n.h t d⟩
def iS(h:QX X e f):QI X B Q e (iN f):=⟨L6 h.h⟩
def iSV(h:QO X e (gv i))(d:B i:=by decide):QI X B Q e (xw (gv i)):=⟨Cb h.h (AF d)⟩
def iZV{d:jh}{k1:Nat}{v7:Pos}(T:Tx X.mg)(C:QO X a (gv i))(N:QO X b (gv j))(o:B i:=by decide)(t:B j:=by decide)(O:Gl X "zip":=by rfl)(hs:SE X a [b]:=by rfl)(n:SE X b []:=by rfl)(w:BA X l [b]:=by rfl):
  QI X B (.Tuple d k1 v7) (.Call (.Name "zip" p) [a,b] [] l) (uQ (gv i) (gv j)):=⟨Jk O T.n_zip C.h N.h (AF o) (AF t) hs n w⟩
def gN(d:X.N.Nodup)(G:X.N[i]?=some x:=by rfl)(o:Loc X.env.scope x:=by first|exact Or.inl rfl|exact Or.inr rfl)(n:X.fn x=true\/X.env.scope.names.lookup x=some .local:=by first|exact Or.inl rfl|exact Or.inr rfl)(h:A i:=by decide):QG X A (.Name x l) (gH i):=⟨Jp d G o n h⟩
def gT{d n:Tg}{k:Nat}(h1:QG X A a d)(o:QG X A b n)(t:X.calm=true:=by rfl)(N:(assignEach [a,b] X.env).map (·.2)=assign a X.env::(assignEach [b] X.env).map (·.2):=by rfl)(O:(assignEach [b] X.env).map (·.2)=assign b X.env::(assignEach [] X.env).map (·.2):=by rfl)
  (w:(assignEach [a,b] X.env).length=2:=by rfl)(C:(assignEach [a,b] X.env).findIdx? (·.1)=none:=by rfl):QG X A (.Tuple [a,b] k l) (pO [d,n]):=⟨Ma t (yR h1.h (yR o.h Jq O) N) w rfl C⟩
def f0:QF X [] jK:=⟨Jm⟩
theorem f1(h:QT X e y):QF X [e] y:=⟨Jl h.h⟩
def bE{o:qD}{C:iG}{d:gw}{n:Nat}(t:QX X e f)(w:o[n+1]?=none:=by rfl):QB X A d (.ListComp e o C p) n (iY f):=⟨JB w t.h⟩
def cOk{N P:hG}{n scope:iG}{N':hG}{d:iP}(S:FnScope N P n)(h:Bg N n scope N' d k=true:=by decide+kernel)(o:X.N=N:=by rfl)(t:X.env.scope=n:=by rfl):CompOk X N' scope d k:=KA o t h
def xC{c:qC}{iq:qD}{elt:gG}{scope:iG}{fi:FIt}{tt:Tg}{ti:FT}{s:FB}{o:iP}{N':hG}(C:CompOk X N' scope o k)(nd:N'.Nodup)(pi:QI X (λi=>i∉o) c.target c.iter fi)
  (x9: ∀(w:jL) (C:gw) (T:gA) (t:Hp) (O:jx) (n:ig),(X.comp N' scope w C T t O n).N.Nodup->
   QG (X.comp N' scope w C T t O n) (λi=>o.length<=i) c.target tt/\QF (X.comp N' scope w C T t O n) c.ifs ti/\ ∀d,QB (X.comp N' scope w C T t O n) (λi=>o.length<=i) d (.ListComp elt (c::iq) scope l) 0 s)
  (hc:X.calm=true:=by rfl)(ha:c.is_async=0:=by rfl)(o7: ∀g',iq[0]?=some g'->g'.is_async=0:=by intro g' h;cases h;try rfl)(hs: ∀x,foldedSetIterable c.iter X.env x=pure x:=by intro _;rfl):QX X (.ListComp elt (c::iq) scope l) (iO o k fi tt ti s):=⟨LH C hc ha o7 hs pi.h λw C T t O n=>let⟨a,b,c⟩:=x9 w C T t O n nd;⟨a.h,b.h,λd=>(c d).h⟩⟩
def sC{c:qC}{iq:qD}{t:gG}{scope:iG}{fi:FIt}{tt:Tg}{ti:FT}{s:FB}{o:iP}{N':hG}{py f9:Pos}(hN:X.N.Nodup)(C:CompOk X N' scope o k)(nd:N'.Nodup)(pi:QI X (λi=>i∉o) c.target c.iter fi)
  (x9: ∀(O:jL) (C:gw) (s3:gA) (w:Hp) (T:jx) (n:ig),(X.comp N' scope O C s3 w T n).N.Nodup->
   QG (X.comp N' scope O C s3 w T n) (λi=>o.length<=i) c.target tt/\QF (X.comp N' scope O C s3 w T n) c.ifs ti/\ ∀d,QB (X.comp N' scope O C s3 w T n) (λi=>o.length<=i) d (.ListComp t (c::iq) scope l) 0 s)
  (bg:swapsWith (.ListComp t (c::iq) scope l) (some (.Name x py)) f9.line X.env=pure true:=by rfl)(G:X.N[i]?=some x:=by rfl)(hx:X.env.scope.names.lookup x=some .local:=by rfl)(hf:X.fn x=true:=by rfl)(hA:A i:=by decide)
  (hc:X.calm=true:=by rfl)(ha:c.is_async=0:=by rfl)(o7: ∀g',iq[0]?=some g'->g'.is_async=0:=by intro g' h;cases h;try rfl)(hs: ∀x,foldedSetIterable c.iter X.env x=pure x:=by intro _;rfl):QS X A L E (.Assign [.Name x py] (.ListComp t (c::iq) scope l) f9) (iz i (iO o k fi tt ti s)):=⟨Ja bg C hc ha o7 hs pi.h (Fv hN G (Or.inl hx) (Or.inl hf)) hA λO C s3 w T n=>let⟨a,b,c⟩:=x9 O C s3 w T n nd;⟨a.h,b.h,λd=>(c d).h⟩⟩
def s0:QQ X A L E [] gQ:=⟨Jb⟩
def s1(h:QS X A L E S u)(d:QQ X A L E M v):QQ X A L E (S::M) (gE u v):=⟨GB h.h d.h⟩
def sX:QS X A L E S pR:=⟨Gz⟩
def sR(h:QX X e f):QS X A L E (.Return (some e) l) (jM f):=⟨LY h.h⟩
def sRV(o: ¬L i)(h1:X.N[i]?=some x:=by rfl)(d:Vis X.env.scope x:=by first|exact Or.inl rfl|exact Or.inr (Or.inl rfl)|exact Or.inr (Or.inr rfl))(h:DB x:=by decide)(n:(x==("__classdict__":Str))=false:=by decide):QS X A L E (.Return (some (.Name x p)) l) (oG i):=⟨Eg h1 d h n o⟩
def sE(h:QX X e f)(d:swapsWith e none l.line X.env=pure false:=by rfl):QS X A L E (.Expr e l) (mB f):=⟨IZ h.h d⟩
def sI(o:QT X c y)(d:QQ X A L E M u)(n:QQ X A L E Ts v):QS X A L E (.If c M Ts l) (sIf y u v):=⟨OF o.h d.h n.h⟩
def sW{n:Nat}(o:QT X c y)(d:QQ X A L E M u)(t:PassesOwn (model X.prog X.w) X.A X.env X.xe:=by exact PassesOwn.never):QS X A L E (.While c M [] l) (nh y u n):=⟨Gy t o.h d.h⟩
def sF{d:FIt}{t:Tg}(G:QI X (λ_=>False) Q e d)(C:QG X A Q t)(n:QQ X A L E M u)(N:PassesOwn (model X.prog X.w) X.A X.env X.xe:=by exact PassesOwn.never)(o:X.calm=true:=by rfl)(O: ∀x,foldedSetIterable e X.env x=pure x:=by intro _;rfl):QS X A L E (.For Q e M [] l) (oH d t u):=⟨LZ N o G.h C.h n.h O⟩
def sS(d:X.N.Nodup)(o:QX X e f)(G:X.N[i]?=some x:=by rfl)(C:Loc X.env.scope x:=by first|exact Or.inl rfl|exact Or.inr rfl)(t:X.fn x=true\/X.env.scope.names.lookup x=some .local:=by first|exact Or.inl rfl|exact Or.inr rfl)(n:A i:=by decide)(w:swapsWith e (some (.Name x p)) l.line X.env=pure false:=by rfl):QS X A L E (.Assign [.Name x p] e l) (iz i f):=⟨LX d G C o.h w t n⟩
def sT{t:Tg}{pt:Pos}(d:QX X e f)(n:QG X A (.Tuple m k pt) t)(o:swapsWithSole [.Tuple m k pt] e l.line X.env=pure false:=by rfl)(w:swappedStores [.Tuple m k pt] e X.env=pure none:=by rfl)(h1:(assignEach [.Tuple m k pt] X.env).map (·.2)=[assign (.Tuple m k pt) X.env]:=by rfl):QS X A L E (.Assign [.Tuple m k pt] e l) (Ea t f):=⟨LW d.h n.h o w h1⟩
theorem sIx{d:Pos}(hv:QO X (.Name x r) (gv i))(w:QX X e f)(G:QO X a U)
  (t: ∀v,assign (.Subscript (.Name x r) a d) X.env v=(do
   let n <-holding [v] (eval (.Name x r) X.env)
   let o <-holding [v,n] (eval a X.env)
   standAt d
   holding [v,n,o] (setItem n o v)
   release [v,n,o] []):=by intro _;rfl)
  (C:swapsWithSole [.Subscript (.Name x r) a d] e l.line X.env=pure false:=by rfl)(N:swappedStores [.Subscript (.Name x r) a d] e X.env=pure none:=by rfl)
  (h1:(assignEach [.Subscript (.Name x r) a d] X.env).map (·.2)=[assign (.Subscript (.Name x r) a d) X.env]:=by rfl):QS X A L E (.Assign [.Subscript (.Name x r) a d] e l) (uI i f U):=⟨GA hv.h w.h G.h t C N h1⟩
def sDP{d:Pos}(N:un X.A 1)(hv:QO X (.Name x r) (gv i))(w:QX X e f)(G:QO X a U)
  (t: ∀v,assign (.Subscript (.Name x r) a d) X.env v=(do
   let n <-holding [v] (eval (.Name x r) X.env)
   let o <-holding [v,n] (eval a X.env)
   standAt d
   holding [v,n,o] (setItem n o v)
   release [v,n,o] []):=by intro _;rfl)
  (C:swapsWithSole [.Subscript (.Name x r) a d] e l.line X.env=pure false:=by rfl)(O:swappedStores [.Subscript (.Name x r) a d] e X.env=pure none:=by rfl)
  (h1:(assignEach [.Subscript (.Name x r) a d] X.env).map (·.2)=[assign (.Subscript (.Name x r) a d) X.env]:=by rfl):QS X A L E (.Assign [.Subscript (.Name x r) a d] e l) (BY i f U):=⟨I9 N hv.h w.h G.h t C O h1⟩
end
def Fz(K:gW)(b:jY)(x:Str)(st:Stmt):Prop:= ∃f a,b x=some (.ref f)/\Fun K x x st f a
def fz{K:gW}{h:gR}{e:jY}{x:Str}{st:Stmt}{f:gw}{i:gD}{j g:Option Addr}{n:pj}{kV b m d ct:gD}(X:K.In h)(G:h.Ns mainGlobals e)(a:PySem.W.nsIn K mainGlobals x=some (some (.ref f)))
  (l:K.lookup f=some ⟨i,j,.func (PySem.W.fnOf x x (oR st) (jX st) (gz st) .none kV b m g d ct),n⟩)(c:PySem.W.codeIn K d x=true)(k:PySem.W.keepIn K (.ref f)=true):Fz K e x st:=⟨f,_,PySem.W.mg_of X G a,Ki l c k⟩
def BdA(x:Str)(st:Stmt)(c:hG):Prop:= ∀(kV a f:gD) (d:Option Addr) (e ct:gD) (b:iF),b.length=c.length->bindArgs (PySem.W.fnOf x x (oR st) (jX st) (gz st) .none kV a f d e ct) ⟨b,[]⟩=pure (c.zip b)
def scM{N P:hG}{a:iG}(h1:a.kind= .function:=by rfl)(b:a.isCoroutine=false:=by rfl)(c:a.isGenerator=false:=by rfl)(d:N.Nodup:=by decide+kernel)(e:N.take P.length=P:=by rfl)(f: ∀x∈P,a.names.lookup x=some .local\/a.names.lookup x=some .cell:=by decide+kernel)(g: ∀y∈a.names,y.2≠ .free:=by decide+kernel):FnScope N P a:=⟨h1,b,c,d,e,f,g⟩
def Bd(Z:ZZ)(k:Nat)(x:Str)(st:Stmt)(N d:hG)(c:iP)(fs:FS):Prop:= ∀(f:gw) (b:gD) (A:gS) (a:List Env) (s:gA) (H:Hp) (E:XK) (L:iI),(∀i,L i->i<d.length)->Room k (A.deeper (envOfC x (gz st) s.heap.objs.size f b))->
 un (A.deeper (envOfC x (gz st) s.heap.objs.size f b)) 60->un (A.deeper (envOfC x (gz st) s.heap.objs.size f b)) 1->un (A.deeper (envOfC x (gz st) s.heap.objs.size f b)) 62->un (A.deeper (envOfC x (gz st) s.heap.objs.size f b)) 90->N.Nodup->
 QQ (nk CX0 Z.P Z.w Z.K Z.mg Z.base N x (gz st) f b A a s H E).nox (λi=>i∈c) L H (jX st) fs
def fnB{Z:ZZ}{k:Nat}{x:Str}{st:Stmt}{N c:hG}{b:iP}{fs:FS}{f:gw}{d:kS}(F:Fun Z.K x x st f d)(S:FnScope N c (gz st))(j:Bd Z k x st N c b fs):FnOk Z.P Z.w Z.K Z.mg Z.base CX0 (k+1) f d c (spF Z.K (evF N.length c.length b fs)):=
 Pz F S λg A a s H E L i e=>by
  have:=e.un;exact(j f g A a s H E L i e (by unfold un;omega) (by unfold un;omega) (by unfold un;omega) (by unfold un;omega) S.nd).h
def ozB{Z:ZZ}{k:Nat}{x:Str}{st:Stmt}{N c:hG}{asg:iP}{fs:FS}(a:Fz Z.K Z.mg x st)(S:FnScope N c (gz st))(b:BdA x st c)(e:Bd Z k x st N c asg fs):Oz Z (k+1) x c (evF N.length c.length asg fs):=
 let⟨f,d,m,F⟩:=a;⟨f,d,fnB F S e,m,F.kp,F.binds b⟩
def us0{P:List Value->Prop}(h:P []): ∀b:List Value,b.length=0->P b:=λb e=>by cases b with|nil=>exact h|cons a l=>cases e
def us1{P:List Value->Prop}{n:Nat}(h: ∀a,∀b:List Value,b.length=n->P (a::b)): ∀b:List Value,b.length=n+1->P b:=λb e=>by cases b with|nil=>cases e|cons a l=>exact h a l (Nat.succ.inj e)
def oz0{Z:ZZ}{x:Str}{st:Stmt}{c:hG}(a:Fz Z.K Z.mg x st)(b:BdA x st c):Oz Z 0 x c (λ_=>none):=
 let⟨f,d,m,F⟩:=a;⟨f,d,MH,m,F.kp,F.binds b⟩
def fzL{K:gW}{h:jY}{x y:Str}{st:Stmt}{g:gw}(a:Fz K h x st)(k:h x=some (.ref g))(b:BdA x st [y]): ∃c,Fun K x x st g c/\ ∀(s:gA) (v:gD),BindsTo s c ⟨[v],[]⟩ [(y,v)]:=by
 obtain⟨f,c,m,F⟩:=a;have e:=k.symm.trans m;cases e;obtain⟨n,o,kV,d,l,i,j,ct,p,e,_⟩:=F.ex;exact⟨c,F,λs v=>by subst e;exact .of_eq (b kV d l i j ct [v] rfl)⟩
def txK{K:gW}{h:gR}{g:jY}(X:K.In h)(G:h.Ns mainGlobals g)(i:PySem.W.nsIn K mainGlobals "len"=some none)(j:PySem.W.nsIn K mainGlobals "abs"=some none)(k:PySem.W.nsIn K mainGlobals "int"=some none)(l:PySem.W.nsIn K mainGlobals "tuple"=some none)(m:PySem.W.nsIn K mainGlobals "list"=some none)(n:PySem.W.nsIn K mainGlobals "range"=some none)(o:PySem.W.nsIn K mainGlobals "isinstance"=some none)(p:PySem.W.nsIn K mainGlobals "bool"=some none)(q:PySem.W.nsIn K mainGlobals "max"=some none)(r:PySem.W.nsIn K mainGlobals "min"=some none)(a:PySem.W.nsIn K mainGlobals "all"=some none)(b:PySem.W.nsIn K mainGlobals "any"=some none)(c:PySem.W.nsIn K mainGlobals "sorted"=some none)(d:PySem.W.nsIn K mainGlobals "enumerate"=some none)(e:PySem.W.nsIn K mainGlobals "zip"=some none)(f:PySem.W.nsIn K mainGlobals "set"=some none):Tx g:=⟨mq X G i,mq X G j,mq X G k,mq X G l,mq X G m,mq X G n,mq X G o,mq X G p,mq X G q,mq X G r,mq X G a,mq X G b,mq X G c,mq X G d,mq X G e,mq X G f⟩
section
variable {a:gY}{w:gP}{A:gS}{E:ip}{s:gA}
end
def isI:D->Bool
 | .int _=>true
 |_=>false
section
variable {X:Cx}{c:ig}{e:L2.St}{H:Hp}{s:gA}
theorem QN{O:AP'}: ∀{l:List D} {j:List V} {f:iF},l.all isI=true->RepL X.K H O l j->Vals j f-> ∃g:List Int,l=g.map .int/\IntsAre f g
 |[],j,f,_,r,v=>by
  rw[RepL] at r;subst r;cases v;exact⟨[],rfl,.nil⟩
 |d::l,j,f,h,r,v=>by
  rw[RepL] at r;obtain⟨x,o,rfl,m,n⟩:=r;rw[List.all_cons,ko] at h
  cases d with
  |int i=>
   cases v with
   |cons a b=>
    obtain⟨g,rfl,k⟩:=QN h.2 n b;rw[hZ (.inl m)] at a;obtain⟨t,rfl⟩:=a;exact⟨i::g,rfl,.cons _ _ k⟩
  |_=>exact absurd h.1 (by simp[isI])
end
section
variable {a:gY}{w:gP}{A:gS}{E:ip}{s:gA}
end
def fPop(i:Nat):F:=λa=>match a[i]? with
 |some (some (.lst l,true))=>(l[l.length-1]?).bind λd=>some ((d,false),a.set i (some (.lst l.dropLast,true)))
 |_=>none
section
variable {X:Cx}{x:Str}{i:Nat}{c a b:Pos}
end
section
variable {X:Cx}
variable {a:gG}{f:FO}{p c d e g b:Pos}{x:Str}{i:Nat}
end
section
variable {X:Cx}{a:ig}{b:L2.St}{H:Hp}{s:gA}
end
section
variable {X:Cx}
end
section
variable {a:gY}{w:gP}{A:gS}{E:ip}{I:gw}{c b:jx}{n:Nat}{P:Nat->Value->Prop}{St:Nat->Heap->Prop}
end
section
variable {X:Cx}{A:iI}{a:Pos}{c:jh}{b:List Tg}
end
section
variable {X:Cx}{A:iI}{a b:gG}{c:Pos}
variable {e d:gG}{f:F}{x z:Str}{p j g h:Pos}{i k:Nat}{L:iI}{l:Hp}
end
section
variable {X:Cx}{a:ig}{b:L2.St}{H:Hp}{s:gA}
end
end PX
namespace L2
open PySem PySem.Spec PyProof.Rows PySem.W
def uP(q:Str):HO:= .tbl #[.str q 0]
structure OnlyT(TB:List (Addr×Str))(H:Hp):Prop where
 one: ∀b,H b=none\/(∃o xs,H b=some (.frz o (.lst xs)))\/ ∃q,(b,q)∈TB/\H b=some (uP q)
 all: ∀p∈TB,H p.1=some (uP p.2)
def GO{P:gY}{w:gP}{K:gW}{C mb:jY}{CX:CXT}{k:Nat}{fa a:gw}{fd:kS}{x:Str}{sp:Sp}{c:gA}{J:iF}{L:ik}{TB:List (Addr×Str)}
  (KX:K.In c.heap)(aR:c.heap.Ns mainGlobals C)(g:c.heap.Ns builtinsNs mb)(hbb: ∀x:Str,x≠"__name__"->mb x=bootBuiltins x)(Y:c.heap.NoLimit)(hg:c.gens= #[])
  (Q: ∀p∈TB,c.heap.get? p.1=some (tabObj #[]))(eM: ∀p∈TB,K.lookup p.1=none)(eL: ∀p∈TB,isCodeTable c.heap p.1)(dC:(TB.map (·.1)).Nodup)(U: ∀p∈TB,c.heap.BuiltinsAt C p.1)
  (T:c.heap.get? a=some {cls:= .type "list",data:= .seq J.toArray})(hi:IntsAre J L)(hl:L.length<=sizeLine)(hr:Room k callerA)
  (F: ∀base:Heap,K.In base->base.Ns mainGlobals C->(∀p∈TB,base.BuiltinsAt C p.1)->FnOk P w K C base CX k fa fd [x] sp)(l9: ∀(s:gA) (u:gD),BindsTo s fd ⟨[u],[]⟩ [(x,u)])
  (bT: ∀H:Hp,OnlyT TB H->SqL K H a (L.map V.int)->sp [.ref a] H (λv H'=>v= .bl true/\ ∀p∈TB,H' p.1=some (uP p.2)) λ_ _ _=>False)
  (hCX: ∀H e j,CX [] H c (λ_ _ _=>False) e j->False):
  codeAny (model P w) callerA (.call (.ref fa) ⟨[.ref a],[]⟩) (λr j=>r= .ok (.ret (.bool true))/\OldK c.heap j.heap/\j.os=c.os/\AllBare j.gens) c:=by
 have rv:=yK hi;have R:=hi.length
 have Z: ∀p∈TB,p.1≠a:=λp f e=>by
  have:=Q p f;rw[e,T] at this;cases this
 have t: ∀H:Hp,OnlyT TB H->SqL K H a (L.map V.int)->HOk P w H c.heap->(∀b,H b≠none->b=a\/ ∃p∈TB,b=p.1)->(H a≠none->K.lookup a=none)->
   codeAny (model P w) callerA (.call (.ref fa) ⟨[.ref a],[]⟩) (λr j=>r= .ok (.ret (.bool true))/\OldK c.heap j.heap/\j.os=c.os/\AllBare j.gens) c:=by
  intro H hO hS D hA hK;have r6: ∀{b:gw} {o:Obj},c.heap.get? b=some o->H b=none->(yx c.heap H).get? b=some o:=λe n=>Kd e n
  have aM: ∀{b:gw} {o:Obj},c.heap.get? b=some o->(∀b6 n,o.data≠ .seq b6 n)->(∀G,o.data≠ .fields G)->H b=none:=λ{b o} e d d2=>by
   cases q:H b with
   |none=>rfl
   |some u=>
    rcases hA b (by rw[q];simp) with rfl|⟨p,f,rfl⟩
    ·rw[T] at e;cases e;exact absurd rfl (d _ _)
    ·rw[Q p f] at e;cases e;exact absurd rfl (d2 _)
  have X: ∀{b:gw} {m:jY},c.heap.Ns b m->(yx c.heap H).Ns b m:=λ{b m} ⟨o,es,ep,e,d,r⟩=>⟨o,es,ep,r6 e (aM e (λ_ _ z=>by rw[d] at z;cases z) λ_ z=>by rw[d] at z;cases z),d,r⟩
  have O:K.In (yx c.heap H):=λb o e=>r6 (KX b o e) (by
   cases q:H b with
   |none=>rfl
   |some u=>
    rcases hA b (by rw[q];simp) with rfl|⟨p,f,rfl⟩
    ·rw[hK (by rw[q];simp)] at e;cases e
    ·rw[eM p f] at e;cases e)
  have hBA: ∀p∈TB,(yx c.heap H).BuiltinsAt C p.1:=λp f=>by
   obtain⟨bm,o,h1,h2,h3,h4,h5,h6,h7,h8⟩:=U p f;exact⟨bm,o,h1,h2,h3,h4,r6 h5 (aM h5 (λ_ _ z=>by rw[h8] at z;cases z) λ_ z=>by rw[h8] at z;cases z),h6,h7,h8⟩
  have hM:Mod K C (yx c.heap H):=⟨O,X aR,⟨mb,X g,hbb⟩,let⟨mc,h1,h2⟩:=Y;⟨mc,X h1,h2⟩⟩
  have e0:Env0 P w K C (yx c.heap H) callerA [] c H:=⟨rfl,hM,λb o e=>Mm e,Nat.le_of_eq (GV _ _),trivial,λb g=>absurd (show b∈([]:List Addr) from g) (by simp),D,.of_eq hg⟩
  refine sD ((F _ O (X aR) hBA).run callerA [] c H ⟨[.ref a],[]⟩ [.ref a] [.ref a] _ _ hr e0 (l9 c (.ref a)) (.cons rfl .nil) (bT H hO hS)) λr j h=>?_
  cases r with
  |error e=>exact(hCX H e j h).elim
  |ok fl=>
   cases fl with
   |next=>exact False.elim h
   |brk=>exact False.elim h
   |cont=>exact False.elim h
   |ret u=>
    obtain⟨v,H',os,M,un,B,r',q,I⟩:=h;subst q;obtain rfl:u=Value.bool true:=r'
    have W: ∀p∈TB,∃G,j.heap.get? p.1=some (tabObj G):=λp f=>by
     obtain⟨_,_,G,_,e,_⟩:=(show ObjOk P w H' j.heap p.1 (.tbl #[.str p.2 0]) from B _ _ (I p f))
     exact⟨G,e⟩
    have keep: ∀b o,c.heap.get? b=some o->(∀p∈TB,b≠p.1)->j.heap.get? b=some o:=λb o e n=>by
     cases q:H b with
     |none=>exact un.keep b o e q (by intro z;exact absurd (show b∈([]:List Addr) from z) (by simp)) (by simp)
     |some u=>
      rcases hO.one b with z|⟨ob,xs,z⟩|⟨qq,hm,z⟩
      ·rw[q] at z;cases z
      ·have z2:=un.frzs b ob _ z;obtain⟨e1,_⟩:=D b _ z;obtain⟨N,_⟩:=B b _ z2;rw[e] at e1;cases e1;exact N
      ·exact absurd rfl (n _ hm)
    refine⟨rfl,⟨λb o e=>?_,λb o e=>?_⟩,os,M⟩
    ·by_cases g: ∃p∈TB,b=p.1
     ·obtain⟨p,f,rfl⟩:=g;obtain⟨G,N⟩:=W p f;rw[Q p f] at e;cases e;refine .inr (.inl ⟨eL p f,rfl,#[],G,rfl,?_⟩);rw[N];simp
     ·exact .inl (keep b o e λp f z=>g ⟨p,f,z⟩)
    ·by_cases g: ∃p∈TB,b=p.1
     ·obtain⟨p,f,rfl⟩:=g;obtain⟨G,N⟩:=W p f;exact⟨_,N⟩
     ·exact⟨o,keep b o e λp f z=>g ⟨p,f,z⟩⟩
 have A: ∀{b q},TB.lookup b=some q->(b,q)∈TB:=λh=>by
  revert h;generalize TB=l
  induction l with
  |nil=>intro h;simp at h
  |cons x l ih=>
   intro h;rw[mw] at h;split at h
   ·rename_i g;cases h;rw[beq_iff_eq.mp g];exact ja
   ·exact iZ _ (ih h)
 have S: ∀p∈TB,TB.lookup p.1=some p.2:=by
  clear A t Z bT eM eL U F Q
  induction TB with
  |nil=>intro p f;simp at f
  |cons x l ih=>
   intro p f;rw[iT,DY] at dC;rw[mw];rcases js.mp f with rfl|f
   ·simp
   ·have:(p.1==x.1)=false:=by
     rw[vI];exact λe=>dC.1 (e▸zE f)
    rw[this];exact ih dC.2 p f
 have E: ∀(H:Hp) (b:gw) (q:Str),(b,q)∈TB->ObjOk P w H c.heap b (uP q):=λH b q hm=>⟨q,0,#[],rfl,Q _ hm,trivial,λpos cv z=>by simp[codeAmong] at z⟩
 cases hk:K.lookup a with
 |some o=>
  have e:=KX a o hk;rw[T] at e;cases e;refine t (λb=>(TB.lookup b).map uP) ⟨λb=>?_,λp f=>by rw[S p f];rfl⟩ (.inr ⟨_,J.toArray,_,hk,rfl,rfl,rfl,by rw[iE,R];exact hl,by simpa using rv⟩) (λb u z=>?_) (λb z=>?_) (λz=>?_)
  ·cases q:TB.lookup b with
   |none=>exact .inl rfl
   |some y=>exact .inr (.inr ⟨y,A q,rfl⟩)
  ·have i:(TB.lookup b).map uP=some u:=z
   cases q:TB.lookup b with
   |none=>rw[q] at i;cases i
   |some y=>rw[q] at i;cases i;exact E _ b y (A q)
  ·have i:(TB.lookup b).map uP≠none:=z
   cases q:TB.lookup b with
   |none=>rw[q] at i;exact absurd rfl i
   |some y=>exact .inr ⟨_,A q,rfl⟩
  ·have i:(TB.lookup a).map uP≠none:=z
   cases q:TB.lookup a with
   |none=>rw[q] at i;exact absurd rfl i
   |some y=>exact absurd rfl (Z _ (A q))
 |none=>
  have hat: ∀p∈TB,(if p.1=a then some (HO.frz {cls:= .type "list",data:= .seq J.toArray} (.lst (L.map V.int))) else(TB.lookup p.1).map uP)=some (uP p.2):=λp f=>by rw[gZ (Z p f),S p f];rfl
  refine t (λb=>if b=a then some (.frz {cls:= .type "list",data:= .seq J.toArray} (.lst (L.map V.int))) else(TB.lookup b).map uP) ⟨λb=>?_,hat⟩ (.inl (.inr ⟨{cls:= .type "list",data:= .seq J.toArray},gO rfl⟩)) (λb u z=>?_) (λb z=>?_) λ_=>hk
  ·by_cases g:b=a
   ·exact .inr (.inl ⟨_,_,gO g⟩)
   ·cases q:TB.lookup b with
    |none=>exact .inl (by simp[g,q])
    |some y=>exact .inr (.inr ⟨y,A q,by simp[g,q]⟩)
  ·by_cases g:b=a
   ·have i:=(gO g).symm.trans z;cases i;subst g;exact⟨T,by rw[jt];exact hl,J,_,rv,T⟩
   ·have i:=(gZ g).symm.trans z
    cases q:TB.lookup b with
    |none=>rw[q] at i;cases i
    |some y=>rw[q] at i;cases i;exact E _ b y (A q)
  ·by_cases g:b=a
   ·exact .inl g
   ·cases q:TB.lookup b with
    |none=>exact absurd (by simp[g,q]) z
    |some y=>exact .inr ⟨_,A q,rfl⟩
end L2
namespace PX
open PySem PySem.Spec PyProof.Rows L2
def Mx{TB:List (Addr×Str)}{K:gW}{k:EvF}{H:Hp}{a:gw}{f:ik}(m: ∀p∈TB,H p.1=some (uP p.2))(l:SqL K H a (f.map V.int)){o:Bool}{c:Dn}(h:k [(.lst (f.map .int),false)]=some ((.bl true,o),c)):spF K k [.ref a] H (λv g=>v= .bl true/\ ∀p∈TB,g p.1=some (uP p.2)) λ_ _ _=>False:=by
 have no: ∀b,¬OwnA [some (V.ref a)] [some (D.lst (f.map .int),false)] b:=λb ⟨i,d,h1,q⟩=>by
  cases i with
  |zero=>simp at h1
  |succ i=>simp at h1
 refine⟨λ_=>False,[(.lst (f.map .int),false)],_,c,⟨rfl,λi d hd=>?_,λi d hd=>?_,λi j d e b h1=>?_,λb z=>absurd z (no b),λb z=>z.elim⟩,h,λv g P=>?_⟩
 ·cases i with
  |zero=>
   simp at hd;subst hd;refine⟨_,rfl,Rep.mkLst (a:=a) (xs:=f.map V.int) ?_ (yP f)⟩;exact l.imp (λz=>⟨z,λz=>z.elim (no a) id⟩) id
  |succ i=>simp at hd
 ·cases i with
  |zero=>simp at hd
  |succ i=>simp at hd
 ·cases i with
  |zero=>simp at h1
  |succ i=>simp at h1
 ·refine⟨?_,λp n=>P.1.kp _ _ (m p n) (no _)⟩
  cases o with
  |false=>exact P.2.2.bl
  |true=>
   obtain⟨p,_,_,_,ok⟩:=P.2;exact ok.elim
end PX
namespace L2
open PySem PySem.Spec PyProof.Rows PySem.W
structure Fly(P:gY)(w:gP)(outer:List Env)(H:Hp)(s:gA)(C:gw)(H':Hp)(ea:gw)(s':gA)(h0 B:gR)(F:jx):Prop where
 os:s'.os=s.os
 bare:AllBare s'.gens
 un:Un (frs outer) [] H H' s.heap h0
 hok:HOk P w H' h0
 fr: ∀b∈F,H' b=none/\(b∈frs outer\/s.heap.objs.size<=b)
 st: ∀b o,h0.get? b=some o->b∉F->B.get? b=some o
 fl: ∃a0,Heap.FlyingW B outer ea (.ref C) a0 s'.heap
 up:h0.UpToSlots s'.heap
 ne:h0.get? ea=none
def CXx(P:gY)(w:gP):CXT:=λa H s E e f=> ∃C b c d B F,e= .ref c/\Fly P w a H s C b c f d B F/\E (.ref C) none b
section
variable {P:gY}{w:gP}{c:List Env}{H h:Hp}{s s':gA}{C i:gw}{g B d:gR}{F:jx}
def Fly.end(f:Fly P w c H s C h i s' g B F)(t: ∀b∈frs c,∃o,s.heap.get? b=some o/\(∀J,o.data≠ .fields J)/\H b=none)(E:B.StaysIn d)(v:g.UpToSlots d):Un (frs c) [] H h s.heap d/\HOk P w h d:=by
 have keep: ∀b o,g.get? b=some o->b∉F->d.get? b=some o:=λb o e n=>E b o (f.st b o e n)
 have y: ∀b o,s.heap.get? b=some o->b∉frs c->b∉F:=λb o e n z=>by
  rcases(f.fr b z).2 with q|q
  ·exact n q
  ·exact absurd (iV e) (K0.mpr q)
 refine⟨⟨λb o e n j k=>keep b o (f.un.keep b o e n j k) (y b o e j),λb o e n j k=>?_,f.un.free,λb o e k=>?_,f.un.tups,f.un.frzs,f.un.tbls⟩,λa o e=>?_⟩
 ·obtain⟨G,m,r,_⟩:=t b j;rw[e] at m;cases m;obtain⟨I,l⟩:=f.un.slot b o e n j k;obtain⟨x,p⟩:=v b _ l r;exact⟨x,p⟩
 ·by_cases j:b∈frs c
  ·obtain⟨G,m,r,n⟩:=t b j;rw[e] at m;cases m;obtain⟨I,l⟩:=f.un.slot b o e n j k;obtain⟨x,p⟩:=v b _ l r;exact⟨_,p⟩
  ·obtain⟨A,l⟩:=f.un.there b o e k;exact⟨A,keep b A l (y b o e j)⟩
 ·refine(f.hok a o e).stay (λb u j q=>keep b u q λz=>?_) (λ_ q=>q) λ_ _ q=>q;have:=(f.fr b z).1;rcases j with rfl|j
  ·rw[e] at this;cases this
  ·rw[j] at this;cases this
end
section
variable {X:Cx}{g:ig}{k:St}{H:Hp}{s s':gA}{C j:gw}
def Inv.frsOk(I:Inv X g k H s): ∀b∈frs X.stack,∃o,s.heap.get? b=some o/\(∀d,o.data≠ .fields d)/\H b=none:=λb a=>by
 obtain⟨_,o,c,hd⟩:=I.stack.mem a;exact⟨o,c,hd,I.stkFree b a⟩
def XeOk(X:Cx)(P:gY)(w:gP)(d:List Env)(i:Hp)(s0:gA)(E:XK):Prop:=X.prog=P/\X.w=w/\X.stack=X.env::d/\X.outer=d/\X.H₀=i/\X.s₀=s0/\X.ex=[]/\X.env.frame=some X.env.locals/\
 ∀e s',wpAny (model P w) X.A (leaving X.env e) (λ_ a=>CXx P w d i s0 E e a) (λb a=>CXx P w d i s0 E b a) s'->X.xe e s'
def uE{P:gY}{w:gP}{K:gW}{a:jY}{base:gR}{N:hG}{qual:Str}{scope:iG}{f:gw}{cd:gD}{A:gS}{d:List Env}{s:gA}{H:Hp}{E:XK}:
  XeOk (nk (CXx P w) P w K a base N qual scope f cd A d s H E) P w d H s E:=⟨rfl,rfl,rfl,rfl,rfl,rfl,rfl,rfl,λ_ _ h=>h⟩
variable {P:gY}{w:gP}{d:List Env}{i:Hp}{s0:gA}{E:XK}
def Gg{r:Hp}{u:gR}{L:gw}(a:Un (frs d) [] i H s0.heap s.heap)(b:Un (L::frs d) [] H r s.heap u)(A:s0.heap.objs.size<=L):Un (frs d) [] i r s0.heap u where
 keep:=λc o q n h e=>b.keep c o (a.keep c o q n h e) (a.free c o q n e) (λz=>(js.mp z).elim (λz=>by subst z;exact absurd (iV q) (K0.mpr A)) h) e
 slot:=λc o q n h e=>by
  obtain⟨J,f⟩:=a.slot c o q n h e;obtain⟨y,m⟩:=b.slot c _ f (a.free c o q n e) (iZ _ h) e;exact⟨y,m⟩
 free:=λc o q n e=>by
  obtain⟨p,f⟩:=a.there c o q e;exact b.free c p f (a.free c o q n e) e
 there:=λc o q e=>by
  obtain⟨p,f⟩:=a.there c o q e;exact b.there c p f e
 tups:=λc l q=>b.tups c l (a.tups c l q)
 frzs:=λc o l q=>b.frzs c o l (a.frzs c o l q)
 tbls:=λc I q=>by
  obtain⟨B,f⟩:=a.tbls c I q;obtain⟨G,m⟩:=b.tbls c _ f;exact⟨B++G,by rw[m,As]⟩
theorem xH{a:Env}{L:gw}(h:a.frame=some L):frs (a::d)=L::frs d:=by unfold frs;rw[qL,h]
def XeOk.made(x:XeOk X P w d i s0 E)(I:Inv X g k H s){r:gR}{f:iF}(p:Heap.MadeExcOf s.heap r j (.ref C) f)(q:E (.ref C) none H):X.xe (.ref j) {s with heap:=r}:=by
 obtain⟨rfl,rfl,c,B,rfl,rfl,hex,u,v⟩:=x;refine v _ _ (wpAny_leaves_madeW (base:=hideAll s.heap (frs X.stack)) (h:=s.heap) (L:=X.env.locals) (I.ok.frames.trans (by rw[c])) u (λb o e=>of_hideAll _ e) ?_ p λG t y _ _ up=>?_)
 ·rw[<-c];exact funFrames_hide I.stack λm A a z=>List.mem_filterMap.mpr ⟨m,A,z⟩
 ·refine⟨C,H,j,s.heap,_,frs X.stack,rfl,⟨I.os,I.bare,?_,I.hok,λb l=>⟨I.stkFree b l,?_⟩,λb o e n=>hideAll_get _ e n,⟨_,y⟩,(Heap.UpToSlots.of_keeps p.keeps).trans up,p.new⟩,q⟩
  ·have:=I.base;unfold Cx.fs at this
   rwa [B,hex] at this
  ·rw[c,xH u] at l;rcases js.mp l with rfl|l
   ·exact .inr I.ok.above
   ·exact .inl l
def XeOk.pass(x:XeOk X P w d i s0 E):Bu (CXx P w) X E:=λg k H s e s' I h=>by
 obtain⟨rfl,rfl,c,v,rfl,rfl,hex,l,t⟩:=x;obtain⟨C,o,j,u,B,F,rfl,f,q⟩:=h;obtain⟨p,m⟩:=f.fl;rw[c] at m;refine t _ _ (wpAny_leaves_onW (L:=X.env.locals) (I.ok.frames.trans (by rw[c])) l m λy r up=>?_);refine⟨C,o,j,u,B,F,rfl,⟨f.os.trans I.os,f.bare,?_,f.hok,λb n=>⟨(f.fr b n).1,?_⟩,f.st,⟨p,r⟩,f.up.trans up,f.ne⟩,q⟩
 ·have a:=I.base;unfold Cx.fs at a;rw[v,hex] at a;have b:=f.un;rw[c,xH l] at b;exact Gg a b I.ok.above
 ·rcases(f.fr b n).2 with z|z
  ·rw[c,xH l] at z;rcases js.mp z with rfl|z
   ·exact .inr I.ok.above
   ·exact .inl z
  ·exact .inr (mQ I.sz z)
end
abbrev veB:List Value:=[.type "ValueError",.type "Exception",.type "BaseException",.type "object"]
def MO{K:Frag}{h:gR}{C:gw}{b:iF}{e:String}(c:K.In h)(q:excIn K C b e=true):
  ∃a N nm g bs hd sn sub ab col dd k0 k1 k2 k3 k5 j,h.get? C=some (excClassObj nm g C N bs a hd sn sub ab col dd k0 k1 k2 k3 k5 e)/\h.Ns N j/\j "__init__"=none/\OwnTail h b a:=by
 unfold excIn at q;split at q
 case h_2=>cases q
 rename_i dd cd i lk;split at q
 case h_2=>cases q
 rename_i y a k0 k1 k2 k3 n k5 p r;rw[ko,ko,ko,ko,ko] at q;obtain⟨⟨⟨⟨⟨t,u⟩,v⟩,w⟩,k⟩,x⟩:=q;cases beq_iff_eq.mp t;cases beq_iff_eq.mp u;obtain⟨nm,bs,f,s,g,hd,sn,sub,ab,col,d⟩:=cd;have l:f= .ref C::a:=p;have m:d=false:=by simpa using v
 obtain⟨i⟩:=i;have o:i=[k0,k1,k2,k3,some (.builtin e),k5]:=r;subst l m o;exact⟨a,s,nm,g,bs,hd,sn,sub,ab,col,dd,k0,k1,k2,k3,k5,_,c _ _ lk,.of_isNs (isNs_of_in c k),nsMap_none_of_in c k (beq_iff_eq.mp x),tail_of_in c w⟩
section
variable {X:Cx}{P:gY}{w:gP}{b:List Env}{g:Hp}{s0:gA}{E:XK}{x:Str}{C:gw}{a:gG}{d:TE}{np f c:Pos}
def Jf(M:XeOk X P w b g s0 E)(z:X.calm=true)(t:excIn X.K C veB "ValueError.__new__"=true)(B:X.mg x=some (.ref C))(A:Gl X x)(y:PE X a d)(hd:(x==("__debug__":Str))=false)
  (n:starEach [a] X.env=[(false,eval a X.env)]):PS X (.Raise (some (.Call (.Name x np) [a] [] f)) none c) (λD k H=>d k H λ_ l=>E (.ref C) none l):=by
 intro i s k H D I h;obtain⟨O,N,nm,L,bs,o,sn,sub,ab,col,dd,k0,k1,k2,k3,k5,T,h1,p,r,m⟩:=MO I.ok.mod.kin t;have G:(backTo f (starEach [a] X.env)).any (·.1)=false:=by rw[n];rfl
 refine wpAny_Raise_call_subT (nm:=nm) (q:=L) (N:=N) (bs:=bs) (hdct:=o) (sn:=sn) (sub:=sub) (ab:=ab) (col:=col) (dd:=dd) (k0:=k0) (k1:=k1) (k2:=k2) (k3:=k3) (k5:=k5) PySem.F.excBase_ValueError (m.hasType (by decide)) (I.ok.hd z) G r (qu I A B ⟨rfl,?_⟩ hd);rw[n];refine HL (DR (thn (y i s k H _ I h) λu s1 ⟨v,l,j,U,J⟩=>DS ⟨rfl,(show 1<=sizeLine by decide),j.bk _ _ h1,p.keeps j.bk,m.keeps j.bk,λQ e mk=>M.made j mk J⟩))
end
theorem sJ{a b:Int}{t u:Nat}{c:gD}: ∀l:List Value,TriplesOk l->TriplesOk (l++[.int a t,.int b u,c])
 |[],_=>trivial
 | .int _ _:: .int _ _::_::iq,h=>sJ iq h
theorem ye{a b:Int}{t u:Nat}{e:Pos}{c f:gD}: ∀l:List Value,TriplesOk l->codeAmong e (l++[.int a t,.int b u,c])=some f->codeAmong e l=some f\/f=c
 |[],_,h=>by
  simp only[rd,codeAmong] at h;split at h
  ·exact .inr (ji h).symm
  ·cases h
 | .int i _:: .int j _::d::iq,h0,h=>by
  simp only[List.cons_append,codeAmong] at h ⊢;split at h
  ·rename_i q;rw[gO q];exact .inl h
  ·rename_i q;rw[gZ q];exact ye iq h0 h
structure LamAt(q:Str)(params:Arguments)(body:gG)(scope:iG)(b9:jL)(H:Hp)(h:gR)(fl:gw):Prop where
 fn: ∃pm c' m6,h.get? fl=some (kla_obj "<lambda>" q params body scope b9 pm c' m6)/\ ∃ob u vs t,H c'=some (.frz ob u)/\ob.data= .fields vs/\vs[1]?=some (.str q t)
 un:H fl=none
section
variable {X:Cx}{i:ig}{m:St}{H:Hp}{s:gA}{P c:gw}{f:Arguments}{g:gG}{scope:iG}{j:jL}{l:Pos}
def Np{h:gR}{a:gw}(e:h.objs.size<=a):h.get? a=none:=by
 cases q:h.get? a with
 |none=>rfl
 |some o=>exact absurd (iV q) (K0.mpr e)
def JY{M:Model}{A:gS}{E:ip}{Q:ip}(I:Inv X i m H s){more:lU}(T:H P=some (.tbl (#[.str (X.env.qual++"<lambda>") 0]++more)))(hc:X.env.code= .ref c)(C:CodeHd X.base c P)(hB:X.base.BuiltinsAt X.mg P)(fN:mainGlobals≠P)
  (l8:closureFor scope X.env=pure j)(aE:defaultsOf f X.env=([],[]))
  (k: ∀s1 L fl,Inv X i m L s1->(∀b o,H b=some o->L b=some o)->LamAt (X.env.qual++"<lambda>") f g scope j L s1.heap fl->(∀b o,s.heap.get? b=some o->H b=none->s1.heap.get? b=some o)->(∀b o,s.heap.get? b=some o->H b=none->L b=none)->s.heap.get? fl=none->Q (.ref fl) s1):
  wpAny M A (eval (.Lambda f g scope l) X.env) Q E s:=by
 refine kla_eval aE ?_;obtain⟨qq,tq,ps,O,B,Y,hm⟩:=(show ObjOk X.prog X.w H s.heap P (.tbl (#[.str (X.env.qual++"<lambda>") 0]++more)) from I.hok P _ T)
 have W:qq=X.env.qual++"<lambda>":=by
  rw[Array.getElem?_append_left (by simp)] at O;simp at O;exact O.1.symm
 subst W;have l5:s.heap.BuiltinsAt X.mg P:=let⟨bm,o,h1,F,K,R,h5,h6⟩:=hB;⟨bm,o,h1,F,K,R,I.bk _ _ h5,h6⟩
 have hg:s.heap.Ns mainGlobals X.mg:=I.ok.mod.glob.keeps I.bk
 cases S:codeAmong l ps.toList with
 |some cv=>
  refine kla_makeFunctionHit l8 I.ok.glob hg hc (C.keeps I.bk) B Y S l5 λh v D p sz=>?_;obtain⟨a,ob,u,vs,t,rfl,F,K,R⟩:=hm l cv S;have cC: ∀b o,s.heap.get? b=some o->(v.push (kla_obj "<lambda>" (X.env.qual++"<lambda>") f g scope j ((X.mg "__name__").getD .none) a h)).get? b=some o:=λb o e=>jd _ (p b o e);exact k _ H _ (I.kept (t':=D) cC) (λ_ _ e=>e) ⟨⟨_,a,h,jz _ rfl,ob,u,vs,t,F,K,R⟩,I.hok.fresh sz⟩ (λb o e _=>cC b o e) (λ_ _ _ n=>n) (Np sz)
 |none=>
  refine kla_makeFunction l8 I.ok.glob hg hc (C.keeps I.bk) B Y S fN l5 λa h v D ex N x cr tb=>?_;obtain⟨c0,r,vs,t,ec,dh,cO,hq⟩:=cr;cases ec;have nc:H a=none:=I.hok.fresh N;have p: ∀b o,b≠P->s.heap.get? b=some o->(v.push (kla_obj "<lambda>" (X.env.qual++"<lambda>") f g scope j ((X.mg "__name__").getD .none) a h)).get? b=some o:=λb o n e=>jd _ (ex b o n e);have up: ∀b o,H b=some o->upd H a (.frz r (.own 0)) b=some o:=λb o e=>by rw[hU (jT e nc)];exact e
  have Z: ∀b,H b=none->b≠P:=λb n z=>by rw[z,T] at n;cases n
  have y:=jd (kla_obj "<lambda>" (X.env.qual++"<lambda>") f g scope j ((X.mg "__name__").getD .none) a h) tb
  have un:Un (frs X.stack) [] H (upd H a (.frz r (.own 0))) s.heap (v.push (kla_obj "<lambda>" (X.env.qual++"<lambda>") f g scope j ((X.mg "__name__").getD .none) a h)):=
   ⟨λb o e n _ _=>p b o (Z b n) e,λb o e n _ _=>⟨o.slots,p b o (Z b n) e⟩,λb o e n _=>by rw[hU (iC (lG (iV e) N))];exact n,λb o e _=>by
    by_cases z:b=P
    ·subst z;exact⟨_,y⟩
    ·exact⟨o,p b o z e⟩,λb xs e=>up b _ e,λb o xs e=>up b _ e,λb ps e=>⟨#[],by rw[up b _ e];simp⟩⟩
  have V:HOk X.prog X.w (upd H a (.frz r (.own 0))) (v.push (kla_obj "<lambda>" (X.env.qual++"<lambda>") f g scope j ((X.mg "__name__").getD .none) a h)):=λb u e=>by
   by_cases U:b=a
   ·subst U;rw[ie] at e;cases e;exact⟨jd _ dh,⟨r,jd _ dh⟩⟩
   ·rw[hU U] at e;by_cases G:b=P
    ·subst G;rw[T] at e;cases e;refine⟨_,tq,_,O,y,?_,λJ cv z=>?_⟩
     ·rw[Hh];exact sJ _ Y
     ·rw[Hh] at z;rcases ye _ Y z with z|z
      ·obtain⟨x,ob,u,vs,t,r1,r2,r3,r4⟩:=hm J cv z;exact⟨x,ob,u,vs,t,r1,up _ _ r2,r3,r4⟩
      ·exact⟨a,r,_,vs,t,z,ie,cO,hq⟩
    ·refine(I.hok b u e).stay (λd w hd q=>p d w (λz=>?_) q) (λd q=>up d _ q) (λd xs q=>up d _ q) λd _ _ q=>up d _ q;subst z;rcases hd with z|z
     ·exact G z.symm
     ·rw[T] at z;cases z
  have I1:Inv X i m (upd H a (.frz r (.own 0))) {s with heap:=v.push (kla_obj "<lambda>" (X.env.qual++"<lambda>") f g scope j ((X.mg "__name__").getD .none) a h),toks:=D}:=I.call (g':=s.gens) (d':=s.drawn) (t':=D) un V I.bare λb U=>absurd U (by simp);refine k _ _ _ I1 up ⟨⟨_,a,h,jz _ rfl,r,_,vs,t,ie,cO,hq⟩,?_⟩ (λb o e n=>p b o (Z b n) e) (λb o e n=>un.free b o e n (by simp)) (Np (vb (Di N x)));rw[hU (nD x)];exact I.hok.fresh (vb (Di N x))
end
def xQ(q:Str)(scope:iG)(L fl:gw)(cd:gD)(a:jL):Env:=
 newEnv scope L mainGlobals a (q++".<locals>.") (some fl) cd none builtinsNs
def qd(CX:CXT)(P:gY)(w:gP)(K:Frag)(d:jY)(base:gR)(N:hG)(q:Str)(scope:iG)(fl:gw)(cd:gD)(b:jL)(A:gS)(a:List Env)(s:gA)(H:Hp)(E:XK):Cx where
 prog:=P
 w:=w
 K:=K
 mg:=d
 base:=base
 A:=A.deeper (xQ q scope s.heap.objs.size fl cd b)
 N:=N
 s₀:=s
 H₀:=H
 env:=xQ q scope s.heap.objs.size fl cd b
 outer:=a
 stack:=xQ q scope s.heap.objs.size fl cd b::a
 ex:=[]
 calm:=true
 fn:=λ_=>false
 pn:=[]
 xe:=λe h=>wpAny (model P w) (A.deeper (xQ q scope s.heap.objs.size fl cd b)) (leaving (xQ q scope s.heap.objs.size fl cd b) e) (λ_ c=>CX a H s E e c) (λg c=>CX a H s E g c) h
structure LamScope(scope:iG):Prop where
 kind:scope.kind= .function
 co:scope.isCoroutine=false
 gen:scope.isGenerator=false
 cell: ∀y∈scope.names,y.2≠ .cell
structure LamCells(N:hG)(scope:iG)(b9:jL)(σ:St)(H:Hp)(h:gR):Prop where
 inj: ∀x y c,b9.lookup x=some c->b9.lookup y=some c->x=y
 has: ∀x,scope.names.lookup x=some .free-> ∃c,b9.lookup x=some c
 cell: ∀x c,b9.lookup x=some c->(∃v,h.IsCell c v)/\H c=none
 val: ∀(i:Nat) (x:Str) (v:V),N[i]?=some x->σ[i]?=some (some v)->scope.names.lookup x=some .free/\ ∃c u,b9.lookup x=some c/\h.IsCell c (some u)/\RelV v u
 len:σ.length=N.length
section
variable {CX:CXT}{P:gY}{w:gP}{K:Frag}{g:jY}{base:gR}{N:hG}{q:Str}{scope:iG}{fl:gw}{cd:gD}{d:jL}{A:gS}{a:List Env}{s:gA}{H:Hp}{E:XK}{f:St}
def MC(S:LamScope scope)(hd:A.handled=none)(e:Env0 P w K g base A a s H)(C:LamCells N scope d f H s.heap){h1:gR}{t1:Nat}(l:h1.Ns s.heap.objs.size (λ_=>none))(hk: ∀b o,s.heap.get? b=some o->h1.get? b=some o):
  Inv (qd CX P w K g base N q scope fl cd d A a s H E) [] f H {s with heap:=h1,toks:=t1}:=by
 have k: ∀b:Addr,b∉(qd CX P w K g base N q scope fl cd d A a s H E).ex:=λb z=>absurd (show b∈([]:List Addr) from z) (by simp)
 refine⟨⟨e.mod,S.kind,rfl,rfl,iR _,C.inj,λy j=>?_,λy c z _=>absurd z (by simp[qd]),λ_=>hd,HU e.frames,.inr ⟨rfl,rfl⟩,λb z=>absurd z (k b),e.bs,e.bsz,λb _ _=>k b,λb z=>absurd z (k b),e.funs,e.frf⟩,
  rfl,e.bare,Un.kept hk,⟨_,l,λi y v h1 m _=>?_⟩,λy c h=>?_,e.hok.fresh (iR _),λy c h=>(C.cell y c h).2,λp x=>absurd (show p∈([]:List (Addr×Obj)) from x) (by simp),e.hok.kept hk,C.len⟩
 ·have j:scope.names.lookup y=some .cell\/scope.names.lookup y=some .free:=j;rcases j with j|j
  ·exact absurd rfl (S.cell _ (og j))
  ·exact C.has y j
 ·obtain⟨t,c,u,n,B,r⟩:=C.val i y v h1 m;exact⟨u,r,.inr ⟨.inr t,c,n,B.keeps hk⟩⟩
 ·obtain⟨⟨v,hv⟩,_⟩:=C.cell y c h;exact⟨v,hv.keeps hk⟩
def My{h:Arguments}{c:gG}{k:Nat}{t:TE}{Q:VK}(S:LamScope scope)(n:Room (k+1) A)(m:Env0 P w K g base A a s H)(C:LamCells N scope d f H s.heap)(L:LamAt q h c scope d H s.heap fl)
  (l9: ∀G i B,bindArgs (kla_fn "<lambda>" q h c scope d G (.ref i) B) ⟨[],[]⟩=pure [])
  (Y: ∀i:Addr,Room k (A.deeper (xQ q scope s.heap.objs.size fl (.ref i) d))->PE (qd CX P w K g base N q scope fl (.ref i) d A a s H E) c t)(ht:t f H Q):
  codeAny (model P w) A (.call (.ref fl) ⟨[],[]⟩) (CR CX a P w H s Q E) s:=by
 obtain⟨G,i,B,D,V,u,vs,tk,h1,T,U⟩:=L.fn;have R:s.heap.CodeRec (.ref i) q:=⟨i,V,vs,tk,rfl,(m.hok i _ h1).1,T,U⟩
 have r:s.heap.NoLimit:=m.mod.nolimit.keeps λb o e=>(m.bs b o e).1;refine kla_callFunE n.depth D rfl S.co S.gen rfl R ?_;rw[l9];refine gK (wpAny_newFunctionEnv S.cell (by intro y F;simp at F) (λl O z=>⟨r.fresh _ z,?_⟩) S.kind);show codeAny _ _ (.expr c (xQ q scope s.heap.objs.size fl (.ref i) d)) _ _;have j: ∀b o,s.heap.get? b=some o->l.get? b=some o:=λb o e=>z.extBut b o (iC (iV e)) (jd _ e);have I:=MC (CX:=CX) (q:=q) (fl:=fl) (cd:= .ref i) (E:=E) (t1:=s.toks+([]:List (Str×Value)).length) S n.hd m C (by simpa using O) j;refine kla_codeExpr (mO (Y i (n.deeper _) [] _ f H Q I ht) (λv Z p=>?_) λe Z p=>p);obtain⟨x,M,J,X,W⟩:=p;exact⟨x,M,J.os,J.bare,J.base,J.hok,X,W⟩
end
open PySem.Calls Builtin Builtin.ObjectAttr Builtin.Getset_descriptor
structure ExcK(K:Frag)(C:gw):Prop where
 ga:findIn K (.ref C) "__getattribute__"=some (some (.builtin "BaseException.__getattribute__"))
 gb:findIn K (.ref C) "__getattr__"=some none
 mrB:mroIn K C (.type "BaseException")=some true
 dct:hasDictIn K C=true
 fnd:findIn K (.ref C) "__class__"=some (some (.builtin "object.__class__"))
 spc:specialIn K (.builtin "object.__class__") "__get__"=some (some (.builtin "getset_descriptor.__get__"))
 tks:takesIn K (.builtin "object.__class__")=some true
 mro:mroIn K C (.type "object")=some true
section
variable {K:Frag}{C x:gw}{o:Obj}
def Kk{M:Model}{h:gR}(Z:ExcK K C)(X:K.In h):Looks M h (find (.ref x) (.ref C) "__class__") (.bind (.builtin "getset_descriptor.__get__") (.builtin "object.__class__")):=by
 have a:=looks_takesIn (M:=M) X Z.tks;exact(looks_findIn X Z.fnd).andThen ((show Looks M h (getOf (some (.builtin "object.__class__"))) _ from looks_specialIn X Z.spc).andThen ((show Looks M h (dataDescriptor? (some (.builtin "object.__class__")) (some (.builtin "getset_descriptor.__get__"))) (some (.builtin "getset_descriptor.__get__",.builtin "object.__class__")) from a.andThen .now).andThen (Looks.tag .now)))
def JZ(Z:ExcK K C)(v:o.cls= .ref C):KitX K (.ref x) (.ref C) λh=>h.get? x=some o:=by
 have ty: ∀(M:Model) (h:gR),h.get? x=some o->Looks M h (typeOf (.ref x)) (.ref C):=λM h e=>v▸(Looks.ld e).andThen .now;obtain⟨r,f,_⟩:=any_some Z.dct;unfold clsIn at f;split at f
 case h_2=>cases f
 rename_i U Y p D i;refine⟨λM h _ e=>ty M h e,λM h X _=>?_,λh G dd T n S X m=>?_,λ{a w A E Q s} X e k=>?_⟩
 ·intro H O I R B q;unfold isType loadHead;exact gy (wpAny_loadPart (B _ _ (X _ _ i)) (gK q))
 ·refine Bool.eq_false_iff.mpr λq=>?_;have e:C=G:=Value.ref.inj (beq_iff_eq.mp q);subst e;have z:=(X _ _ i).symm.trans m;cases z
 ·obtain⟨y,g,d,t,os⟩:=s;have T0:=ty (model a w) y e;have j:=looks_findIn (M:=model a w) X Z.ga;have l:=looks_findIn (M:=model a w) X Z.gb;have J:=Kk (x:=x) (M:=model a w) Z X;have L:=looks_mroIn (M:=model a w) X Z.mro;unfold getAttr? getAttrBy? getAttrBy;refine gy (wpAny_mkText (gy (pH (lV (gy (T0.at (gy (j.at ?_))))))));have N:=looks_mroIn (M:=model a w) X Z.mrB;have u:(Value.builtin "BaseException.__getattribute__"==Value.builtin "object.__getattribute__")=false:=by decide+kernel
  show wpAny _ _ (if onTheHeap (Value.ref C)&&Value.builtin "BaseException.__getattribute__"==Value.builtin "object.__getattribute__" then _ else getAttrByItsOwn _ _ _ _ _ _) _ _ _;rw[gZ (by rw[u];simp)];unfold getAttrByItsOwn;refine gy ((show Looks _ _ (hookBefore (.ref C)) none from l).at (gy (pH (lV ?_))));show wpAny _ _ (boundAndCalled (.builtin "BaseException.__getattribute__") (.ref x) (.str "__class__" _)) _ _ _;unfold boundAndCalled;rw[show bindSpecial (.builtin "BaseException.__getattribute__") (.ref x)=pure (.builtin "BaseException.__getattribute__",[.ref x]) from Ql.ga.bind _];refine gy (gK (wy (Dl Ql.ga.plain F.entry_bexc_ga ?_)));have hk:builtinKind "BaseException.__getattribute__"=some .slot:=by decide+kernel
  have b:splitId "BaseException.__getattribute__"=some ("BaseException","__getattribute__"):=by decide+kernel
  have P:=F.args_bexc_ga (.ref x) (.str "__class__" t);simp only[checkBuiltinCall,hk,b];refine gy ?_;unfold isInstance
  repeat lk
  refine wpAny_run (h:=none) (c:= .call (.builtin "getset_descriptor.__get__") ⟨[.builtin "object.__class__",.ref x,.ref C],[]⟩) ?_;refine Dl KF.slot_gs.plain KF.entry_gs (KF.slot_gs.check _ _ _ _ _ _ _ _ (show Shared.TypeIs _ (.builtin "object.__class__") "getset_descriptor" from KF.type_class) (KF.args_gs _ _ _) ?_);unfold Builtin.«getset_descriptor.__get__» descrGet;rw[dga_obj];refine gy (gK ?_);unfold descrGetter descrCheckInstance descrNameAndClass isInstance;simp only[KF.owner_class]
  repeat lk
  refine⟨Code.quiet_builtin _ (by decide+kernel),oU KF.entry_class ?_⟩;unfold Builtin.«object.__class__» shownTypeOf
  repeat lk
  exact k
end
section
variable {X:Cx}{f:ig}{h g:St}{H:Hp}{s:gA}{a:gw}{o:Obj}{j:gR}
def Inv.track(I:Inv X f h H s)(G:H a=none)(B:X.s₀.heap.get? a=none)(r:s.heap.get? a=some o)(C: ∀v,o.data≠ .cell v)(E:a≠X.env.locals)(J: ∀p∈X.pn++f,p.1≠a):Inv X f h (upd H a (.frz o (.own 0))) s:=by
 have up: ∀b u,H b=some u->upd H a (.frz o (.own 0)) b=some u:=λb u e=>by rw[hU (jT e G)];exact e
 refine⟨I.ok,I.os,I.bare,⟨I.base.keep,I.base.slot,λb k e n i=>?_,I.base.there,λb y e=>up _ _ (I.base.tups b y e),λb k u e=>up _ _ (I.base.frzs b k u e),λb L e=>?_⟩,I.loc,I.cell,?_,λx c i=>?_,λp w=>?_,λb u e=>?_,I.len⟩
 ·rw[hU (λz=>by subst z;rw[B] at e;cases e)];exact I.base.free b k e n i
 ·obtain⟨m,d⟩:=I.base.tbls b L e;exact⟨m,up _ _ d⟩
 ·rw[hU (lF E)];exact I.free
 ·rw[hU (λz=>?_)];exact I.freeC x c i;obtain⟨v,k,d,l⟩:=I.cell x c i;subst z;rw[r] at d;cases d;exact C v l
 ·obtain⟨d,l,A⟩:=I.pin p w;exact⟨d,by rw[hU (J p w)];exact l,A⟩
 ·by_cases t:b=a
  ·subst t;rw[ie] at e;cases e;exact⟨r,⟨o,r⟩⟩
  ·rw[hU t] at e;exact(I.hok b u e).stay (λ_ _ _ q=>q) (λc q=>up c _ q) (λc y q=>up c _ q) λc _ _ q=>up c _ q
theorem Inv.names(I:Inv X f h H s){t':Nat}(E:Heap.SameBut X.env.locals s.heap j)(U:g.length=h.length)(w: ∀(i:Nat) v,g[i]?=some (some v)->h[i]?=some (some v))
  (Y: ∀m,s.heap.Ns X.env.locals m-> ∃B,j.Ns X.env.locals B/\ ∀(i:Nat) x v,X.N[i]?=some x->g[i]?=some (some v)->B x=m x):Inv X f g H {s with heap:=j,toks:=t'}:=by
 obtain⟨m,D,L⟩:=id I.loc;obtain⟨B,M,Q⟩:=Y m D;have oth: ∀b l,b≠X.env.locals->s.heap.get? b=some l->j.get? b=some l:=λb l n e=>(E.2 b n).trans e;have G: ∀{b l},X.s₀.heap.get? b=some l->b≠X.env.locals:=λe=>iC (lG (iV e) I.ok.above);refine⟨I.ok,I.os,I.bare,⟨λb l e n C A=>oth b l (G e) (I.base.keep b l e n C A),λb l e n C A=>?_,I.base.free,λb l e A=>?_,I.base.tups,I.base.frzs,I.base.tbls⟩,⟨B,M,λi x v t J O=>?_⟩,λx c e=>?_,I.free,I.freeC,λp F=>?_,λb u e=>?_,U.trans I.len⟩
 ·obtain⟨R,t⟩:=I.base.slot b l e n C A;exact⟨R,oth b _ (G e) t⟩
 ·obtain⟨P,t⟩:=I.base.there b l e A;exact⟨P,oth b _ (G e) t⟩
 ·obtain⟨u,r,q⟩:=L i x v t (w i v J) O;refine⟨u,r,?_⟩;rcases q with⟨k,z⟩|⟨k,c,z,y⟩
  ·exact .inl ⟨k,(Q i x v t J).trans z⟩
  ·exact .inr ⟨k,c,z,y.sameBut E (I.cne x c z)⟩
 ·obtain⟨v,z⟩:=I.cell x c e;exact⟨v,z.sameBut E (I.cne x c e)⟩
 ·obtain⟨e,n,ne,K,d⟩:=I.pin p F;exact⟨oth _ _ ne e,n,ne,K,d⟩
 ·refine(I.hok b u e).stay (λc v T q=>oth c v (λz=>?_) q) (λ_ q=>q) λ_ _ q=>q;subst z;rcases T with z|z
  ·subst z;rw[I.free] at e;cases e
  ·rw[I.free] at z;cases z
def Cx.mark(X:Cx)(e:gD)(E:ip):Cx:={X with A:=X.A.mark (some e),calm:=false,xe:=E}
def Inv.mark(I:Inv X f h H s)(e:gD)(E:ip):Inv (X.mark e E) f h H s:=
 ⟨⟨I.ok.mod,I.ok.kind,I.ok.glob,I.ok.blt,I.ok.above,I.ok.inj,I.ok.has,I.ok.cab,(λz=>by cases z),I.ok.frames,I.ok.stk,I.ok.exf,I.ok.bs,I.ok.bsz,I.ok.noex,I.ok.exfs,I.ok.funs,I.ok.frf⟩,I.os,I.bare,I.base,I.loc,I.cell,I.free,I.freeC,I.pin,I.hok,I.len⟩
def Inv.unmark{e:gD}{E:ip}(I:Inv (X.mark e E) f h H s)(hd:X.calm=true->X.A.handled=none):Inv X f h H s:=
 ⟨⟨I.ok.mod,I.ok.kind,I.ok.glob,I.ok.blt,I.ok.above,I.ok.inj,I.ok.has,I.ok.cab,hd,I.ok.frames,I.ok.stk,I.ok.exf,I.ok.bs,I.ok.bsz,I.ok.noex,I.ok.exfs,I.ok.funs,I.ok.frf⟩,I.os,I.bare,I.base,I.loc,I.cell,I.free,I.freeC,I.pin,I.hok,I.len⟩
end
def ObjOk.there{P:gY}{w:gP}{H:Hp}{h:gR}{a:gw}{o:HO}(x:ObjOk P w H h a o): ∃c,h.get? a=some c:=by
 cases o with
 |lst d=>obtain⟨_,_,_,_,e⟩:=x;exact⟨_,e⟩
 |tup d=>obtain⟨_,_,_,c,e,_⟩:=x;exact⟨_,e⟩
 |dK b=>obtain⟨_,_,_,_,o,_,_,e,_⟩:=x;exact⟨_,e⟩
 |dT b=>obtain⟨_,_,_,_,o,_,_,e,_⟩:=x;exact⟨_,e⟩
 |set S n=>obtain⟨o,_,_,_,e,_⟩:=x;exact⟨_,e⟩
 |stt k=>obtain⟨_,_,_,e,_⟩:=x;exact⟨_,e⟩
 |ins C g fs=>obtain⟨_,_,_,e,_⟩:=x;exact⟨_,e⟩
 |own y=>exact x
 |xd fs=>obtain⟨_,⟨_,_,_,e,_⟩,_⟩:=x;exact⟨_,e⟩
 |rng lo i=>obtain⟨_,_,_,e⟩:=x;exact⟨_,e⟩
 |frz c u=>exact⟨_,x.1⟩
 |tbl j=>obtain⟨_,_,_,_,e,_⟩:=x;exact⟨_,e⟩
 |met f y=>exact⟨_,x⟩
 |ext l=>exact x.2.1
section
variable {X:Cx}{c:ig}{g:St}{H d:Hp}{s s':gA}{C a:gw}{n B h':gR}{F:jx}{r:gD}
def Fly.inv(I:Inv X c g H s)(f:Fly X.prog X.w X.stack H s C d a s' n B F)(h:B.StaysIn h')(j:n.UpToSlots h'):Inv X c g d {s' with heap:=h'}:=by
 obtain⟨un,e⟩:=f.end I.frsOk h j;exact I.call' (s':={s' with heap:=h'}) f.os un e f.bare λb i=>absurd i (by simp)
theorem Fly.fresh(I:Inv X c g H s)(hex:X.ex=[])(f:Fly X.prog X.w X.stack H s C d a s' n B F):d a=none/\X.s₀.heap.get? a=none/\s.heap.get? a=none:=by
 have h:s.heap.get? a=none:=by
  cases e:s.heap.get? a with
  |none=>rfl
  |some o=>
   obtain⟨i,b⟩:=f.un.there a o e (by simp);rw[f.ne] at b;cases b
 refine⟨?_,?_,h⟩
 ·cases e:d a with
  |none=>rfl
  |some o=>
   obtain⟨j,z⟩:=(f.hok a o e).there;rw[f.ne] at z;cases z
 ·cases e:X.s₀.heap.get? a with
  |none=>rfl
  |some o=>
   obtain⟨i,b⟩:=I.base.there a o e (by rw[hex];simp);rw[h] at b;cases b
def TQ{E:XK}{e:gD}{xr xx t:Str}{CR:gw}{i j:Nat}{D:Ends}{p4 p5 p6 p7 p8:Pos}(n8:X.stack=X.env::X.outer)(dA:X.env.frame=some X.env.locals)(hex:X.ex=[])(I:Inv X c g H s)(h:CXx X.prog X.w X.stack H s E e s')
  (hg:Gl X xr)(hm:X.mg xr=some (.ref CR))(i5:(xr==("__debug__":Str))=false)(cj: ∀C d,E (.ref C) none d->exmOne X.K (.ref C) (.ref CR)=some true)
  (hN:X.N.Nodup)(hi:X.N[i]?=some xx)(hj:X.N[j]?=some t)(n4:i≠j)(lx:X.env.scope.names.lookup xx=some .local)(U:X.env.scope.names.lookup t=some .local)(fP:(t==("__debug__":Str))=false)(fR:(t==("__classdict__":Str))=false)
  (bg:swapsWith (.Name t p6) (some (.Name xx p5)) p7.line X.env=pure false)
  (k: ∀C d a o,E (.ref C) none d->d a=none->o.cls= .ref C->D.nx ((g.set j none).set i (some (.ref a))) (upd d a (.frz o (.own 0)))):
  wpAny (model X.prog X.w) X.A (noteFrame e X.env) (λ_ Y=>wpAny (model X.prog X.w) X.A (setFlight e none) (λ_ s₃=>wpAny (model X.prog X.w) X.A (handleBy e X.env [.ExceptHandler (some (.Name xr p4)) (some t) [.Assign [.Name xx p5] (.Name t p6) p7] p8]) (SP X c D) X.xe s₃) X.xe Y) X.xe s':=by
 obtain⟨C,d,a,n,B,F,rfl,f,q⟩:=h;obtain⟨r,V⟩:=f.fl;obtain⟨n1,n2,n3⟩:=f.fresh I hex;rw[n8] at V;have eI:i<g.length:=by rw[I.len];exact(qM.mp hi).1
 have fH:j<g.length:=by rw[I.len];exact(qM.mp hj).1
 have bu:(X.env.scope.kind== .class||(X.env.scope.kind== .module&&X.env.locals !=X.env.globals))=false:=by rw[I.ok.kind];rfl
 refine wpAny_looks_onW (I.ok.frames.trans (by rw[n8])) dA V λh2 Q aJ=>?_;refine wpAny_landsW Q λh3 gg cU=>?_;have I3:Inv X c g d {s' with heap:=h3}:=f.inv I gg.1 (f.up.trans (aJ.trans cU));obtain⟨ob3,he3,hc3⟩:=gg.there;refine wpAny_handleBy_cons (codeAny_handlers_test ?_) (by intro q;cases q);refine qu (X:=X.mark (.ref a) λ_ _=>False) (I3.mark _ _) hg hm ?_ i5;refine(exm_one (M:=model X.prog X.w) I3.kIn (hc3▸(Looks.ld he3).andThen .now) (cj C d q)).here ?_;refine codeAny_handlers_suite_as ?_;obtain⟨g1,g2,g3,g4⟩:=id gg;refine wpAny_setFlight_noneW g1 g3 g4 λh4 k1 k2 k3 k4=>?_;have up4:h3.UpToSlots h4:=λb o hb W=>⟨o.slots,k4 b o hb W⟩
 have I4:Inv X c g d {s' with heap:=h4}:=f.inv I k1 (f.up.trans (aJ.trans (cU.trans up4)));obtain⟨oe,vs,T,oT,ts,he,⟨y,_⟩,hd,_⟩:=id k3
 have I5:Inv X c g (upd d a (.frz oe (.own 0))) {s' with heap:=h4}:=by
  refine I4.track n1 n2 he (λv z=>by rw[hd] at z;cases z) (λz=>?_) (λp hp z=>?_)
  ·have:=I.lt;obtain⟨m,⟨o,_,_,ho,_⟩,_⟩:=id I.loc;rw[<-z,n3] at ho;cases ho
  ·obtain⟨S,_⟩:=I.pin p hp;rw[z,n3] at S;cases S
 refine wG I5 hN hj (.inl U) (v:= .ref a) rfl (λs6 I6=>?_) (.inr U);have ps:=λE0:Value->Shared->Prop=>ox (X:=X.mark (.ref a) E0) (Jd (X:=X.mark (.ref a) E0) hN hi (.inl lx) (wY (X:=X.mark (.ref a) E0) hj (.inl U) fP fR) bg (.inr lx)) (Fu (X:=X.mark (.ref a) E0));refine thn (ps _ c s6 _ _ {nx:=λP H7=>P=(g.set j (some (.ref a))).set i (some (.ref a))/\H7=upd d a (.frz oe (.own 0)),rt:=λ_ _=>False} (I6.mark (.ref a) _) ⟨.ref a,by rw[my fH],rfl,rfl⟩) λV s7 Z=>?_
 cases V with
 |ret u=>obtain⟨_,_,_,_,_,z⟩:=Z;exact z.elim
 |brk=>obtain⟨_,_,_,z⟩:=Z;exact z.elim
 |cont=>obtain⟨_,_,_,z⟩:=Z;exact z.elim
 |next=>
  obtain⟨P,H7,R,rfl,rfl⟩:=Z;have R:=R.unmark I.ok.hd;obtain⟨m,W,_⟩:=id R.loc;refine gy (wpAny_bindName (HW U W (λh₁ G L=>?_) bu));unfold unbindBehindTheSuite;refine wj ?_;unfold unbindName;refine gy (wpAny_point (gy ?_));unfold deleteName;have ln':X.env.kindOf t=some .local:=U;simp only[ln',bu];rw[gZ (by decide)];refine gy (wpAny_nsDel_keeps G λh₂ v₂ J O=>?_);simp only[jy,Option.isSome_some,nB,iB,iK];refine gK (wpAny_point ⟨(g.set j none).set i (some (.ref a)),_,R.names (L.trans O) (by simp) (λl v z=>?_) (λm0 dq=>?_),k C d a oe q n1 y⟩)
  ·by_cases hl:l=i
   ·subst hl;rw[my (by simpa using eI)] at z ⊢;exact z
   ·rw[mP (lF hl)] at z ⊢;by_cases y8:l=j
    ·subst y8;rw[my fH] at z;cases z
    ·rw[mP (lF y8)] at z ⊢;exact z
  ·refine⟨_,J,λl x v S e2=>?_⟩
   have hx:x≠t:=λz=>by
    subst z;have:=xo hN S hj;subst this;rw[mP n4,my fH] at e2;cases e2
   simp only[hx,iK];obtain⟨o1,es1,ep1,z1,z2,_,z3⟩:=id W;obtain⟨o2,es2,ep2,y1,y2,_,y3⟩:=id dq;rw[z1] at y1;cases y1;rw[z2] at y2;cases y2;exact(z3 x).symm.trans (y3 x)
end
end L2
namespace PX
open PySem PySem.Spec PyProof.Rows L2 PySem.SeqAt PySem.W
abbrev XS:=Dn->Option Str
def tZ(K:gW)(f:jY)(E:XK)(x:XS):L2.St->Hp->Prop:=λe H=> ∃b T c,ER K H T e b/\(∀a,¬OwnA e b a)/\x b=some c/\ ∀d C,(∀a o,H a=some o->d a=some o)->f c=some (.ref C)->E (.ref C) none d
def PZ(X:Cx)(E:XK)(st:Stmt)(x:XS):Prop:=PS X st λ_=>tZ X.K X.mg E x
def PZs(X:Cx)(E:XK)(st:List Stmt)(x:XS):Prop:=PSs X st λ_=>tZ X.K X.mg E x
def PZE(X:Cx)(E:XK)(e:gG)(x:XS):Prop:=PE X e λa H _=>tZ X.K X.mg E x a H
def spR(K:gW)(f:jY)(h:List D->Option Str):Sp:=λg H _ E=> ∃T e c,ER K H T (g.map some) ((e.map λd=>(d,false)).map some)/\h e=some c/\ ∀C b,(∀a o,H a=some o->b a=some o)->f c=some (.ref C)->E (.ref C) none b
def xcF(n np:Nat)(x:XS):List D->Option Str:=λa=>if a.length=np/\np<=n then x (((a.map λd=>(d,false)).map some)++List.replicate (n-np) none) else none
def By(c:List D->Option Str)(fs:List FO):XS:=λd=>(iX fs d).bind λp=>(jf p.2 p.1).bind λb=>if(b.all λa=>!a.2)=true then c (b.map (·.1)) else none
def wB(c:Str)(f:F):XS:=λa=>(f a).bind λ_=>some c
def EA(a:Dn):Bool:=a.all λx=>match x with
 |some (_,true)=>false
 |_=>true
def Ge(f:FS)(x:XS):XS:=λb=>(f b).bind λo=>match o with
 | .nx a=>if EA a=true then x a else none
 |_=>none
def zIf(t:FT)(x y:XS):XS:=λa=>(t a).bind λp=>if EA p.2=true then(if p.1=true then x p.2 else y p.2) else none
def zOr(x y:XS):XS:=λa=>match x a with
 |some c=>some c
 |none=>y a
def zNo:XS:=λ_=>none
def Ba{b:Dn}(h:EA b=true)(c:L2.St)(a:gw): ¬OwnA c b a:=λ⟨i,d,h1,_⟩=>by
 have:=nu.mp h _ (lE h1);simp at this
section
variable {X:Cx}{P:gY}{w:gP}{g:List Env}{G:Hp}{s0:gA}{E:XK}{A:iI}{st:Stmt}{j a b:List Stmt}{x y:XS}{e:gG}{i:Pos}
def Se:PZs X E j zNo:=λc s d H D I h=>by obtain⟨_,_,_,_,_,e,_⟩:=h;cases e
def Sd(h1:PZs X E j x)(m:PZs X E j y):PZs X E j (zOr x y):=λd s l H D I h=>by
 obtain⟨f,T,c,E0,no,e,k⟩:=h;unfold zOr at e;split at e
 ·rename_i q;cases e;exact h1 d s l H D I ⟨f,T,_,E0,no,q,k⟩
 ·exact m d s l H D I ⟨f,T,c,E0,no,e,k⟩
def OG:PSs X j λ_ _ _=>False:=λ_ _ _ _ _ _ h=>h.elim
def Av(h:PZ X E st x):PZs X E (st::j) x:=PSs.imp' (ox h OG) λ_ _ _ h=>h
def NJ{f:FS}(h1:PSX X A (λ_=>True) (λ_=>none) st f)(r:PZs X E j x):PZs X E (st::j) (Ge f x):=PSs.imp' (ox h1 r) λD B H h=>by
 obtain⟨u,T,c,E0,no,e,k⟩:=h;obtain⟨o,h1,e⟩:=gu e
 cases o with
 |nx d=>
  have e:(if EA d=true then x d else none)=some c:=e;split at e
  case isFalse=>cases e
  rename_i fz;exact⟨u,T,_,E0,⟨λ_ _ _=> .inl trivial,λ_ z=>absurd rfl z⟩,h1,λl v p m=>⟨d,T,c,m,Ba fz l,e,λn C t s=>k n C (λa o q=>t a o (p.kp a o q (no a))) s⟩⟩
 |_=>cases e
def Lb{z:Str}{C:gw}{a:gG}{f:F}{np p:Pos}(J:XeOk X P w g G s0 E)(u:X.calm=true)(s:excIn X.K C veB "ValueError.__new__"=true)(l:X.mg z=some (.ref C))(B:Gl X z)(t:PX X a f)(hd:(z==("__debug__":Str))=false)
  (I:starEach [a] X.env=[(false,eval a X.env)]):PZ X E (.Raise (some (.Call (.Name z np) [a] [] p)) none i) (wB z f):=PS.imp' (Jf J u s l B t hd I) λD M H h=>by
 obtain⟨L,T,c,E0,no,e,k⟩:=h;obtain⟨⟨r,d⟩,h1,e⟩:=gu e;cases e;exact⟨L,T,r,d,E0,h1,λv m n=>k m C (λa o q=>n.1.kp a o q (no a)) l⟩
def Sf{c:gG}{f:FT}(v:PTX X c f)(s:PZs X E a x)(u:PZs X E b y):PZ X E (.If c a b i) (zIf f x y):=PS.imp' (Nk v s u) λD l H h=>by
 obtain⟨L,T,c,E0,no,e,k⟩:=h;obtain⟨⟨t,d⟩,h1,e⟩:=gu e;dsimp only at e;split at e
 case isFalse=>cases e
 rename_i fz;refine⟨L,T,t,d,E0,h1,λp r m=>?_⟩;have fin: ∀z:XS,z d=some c->tZ X.K X.mg E z l p:=λz I=>⟨d,T,c,m,Ba fz l,I,λn C J B=>k n C (λa o q=>J a o (r.kp a o q (no a))) B⟩
 cases t with
 |true=>exact Pq (fin x (by simpa using e))
 |false=>exact Pr (fin y (by simpa using e))
variable {k:Nat}{f:gw}{u:kS}{n:hG}{m:List D->Option Str}{l:jh}{fs:List FO}{z:Str}{p:Pos}
def NK(xk:XeOk X P w g G s0 E)(F:FnOk X.prog X.w X.K X.mg X.base (CXx P w) k f u n (spR X.K X.mg m))(hr:Room k X.A)(hg:Gl X z)(hm:X.mg z=some (.ref f))(hk:PySem.W.keepIn X.K (.ref f)=true)(hb:Binds X.K u n [])
  (t:PA X (e::l) (tA X.K fs))(i5:(z==("__debug__":Str))=false)(he:starEach (e::l) X.env=(false,eval e X.env)::starEach l X.env)(h9:(backTo i (starEach l X.env)).any (·.1)=false):
  PZE X E (.Call (.Name z p) (e::l) [] i) (By m fs):=PE.imp' (Fx F hr hg hm hk hb (.nil) xk.pass t i5 he h9) λσ H Q h=>by
 obtain⟨δ,T,c,E0,no,e,S⟩:=h;obtain⟨⟨os,I⟩,h1,e⟩:=gu e;obtain⟨r,L,e⟩:=gu e;dsimp only at e L;split at e
 case isFalse=>cases e
 rename_i Y;refine⟨δ,T,os,I,E0,h1,λvs O T1 B=>?_⟩;show spR X.K X.mg m (vs++[]) O Q E;rw[rB]
 have M: ∀a∈r,a=(a.1,false):=λa t=>by
  have:=nu.mp Y a t;obtain⟨d,f⟩:=a
  cases f with
  |false=>rfl
  |true=>cases this
 have v:r=(r.map (·.1)).map λd=>(d,false):=by
  rw[kh]
  conv=>lhs;rw[<-qZ r]
  exact pv λa t=>M a t
 have Z: ∀(os:List Opd) (s:List (D×Bool)),(∀a∈s,a=(a.1,false))->hJ os s=[]:=λos=>by
  induction os with
  |nil=>intro s _;cases s<;>simp[hJ]
  |cons o os ih=>
   intro s h
   cases s with
   |nil=>simp[hJ]
   |cons a s=>
    have U:=h a ja;obtain⟨d,f⟩:=a;cases U;cases o<;>simp[hJ,ih s λa t=>h a (iZ _ t)]
 have J:=tY E0 B L (by rw[Z os r M];exact la);rw[v] at J;exact⟨_,r.map (·.1),c,J,e,λC N V R=>S N C (λa o q=>V a o (B.keep.kp a o q (no a))) R⟩
end
def ME{P:gY}{w:gP}{K:gW}{j:jY}{base:gR}{x qual:Str}{st:Stmt}{f:gw}{n:kS}{N b:hG}{k:Nat}{t:XS}(F:Fun K x qual st f n)(S:FnScope N b (gz st))
  (I: ∀(i:gD) (A:gS) (a:List Env) (s:gA) (H:Hp) (E:XK),Room k (A.deeper (envOfC qual (gz st) s.heap.objs.size f i))->PZs (nk (CXx P w) P w K j base N qual (gz st) f i A a s H E) E (jX st) t):
  FnOk P w K j base (CXx P w) (k+1) f n b (spR K j (xcF N.length b.length t)):=by
 obtain⟨U,Y,kV,v,D,O,i,ct,R,e,lk,J⟩:=F.ex;subst e;refine Kj lk J S (λr H Q E h=>?_) λA a s H r Q E G h=>?_
 ·obtain⟨T,l,c,E0,e,_⟩:=h;unfold xcF at e;split at e
  case isFalse=>cases e
  rename_i q;have:=E0.len;simp at this;rw[this,q.1]
 ·obtain⟨T,l,c,E0,e,L⟩:=h;unfold xcF at e;split at e
  case isFalse=>cases e
  rename_i q;have o:=E0.len;simp at o;refine⟨_,I i A a s H E G,((l.map λd=>(d,false)).map some)++List.replicate (N.length-b.length) none,T,c,?_,?_,e,λu C M y=>L C u M y⟩
  ·have:=E0.pad (m:=N.length-b.length);unfold L2.mz;rw[show r.length=b.length by rw[o,q.1]];exact this
  ·refine Ba ?_ _;unfold EA;rw[nu];intro z g;rcases pE.mp g with g|g
   ·obtain⟨p,B,rfl⟩:=nv.mp g;obtain⟨d,_,rfl⟩:=nv.mp B;rfl
   ·rw[(List.mem_replicate.mp g).2]
end PX
namespace L2
open PySem PySem.Spec PyProof.Rows PySem.W
def Rz{CX:CXT}{P:gY}{w:gP}{K:Frag}{B:jY}{base:gR}{k:Nat}{f:gw}{j qual:Str}{c:Arguments}{d:List Stmt}{scope:iG}{Y kV p pm l ct oc:gD}{U od:Option Addr}
  {r9:pj}{N C:hG}{A:gS}{a:List Env}{s:gA}{H:Hp}{i:Args}{us:iF}{vs:List V}{Q:VK}{E:XK}(lk:K.lookup f=some ⟨oc,od,.func (fnOf j qual c d scope Y kV p pm U l ct),r9⟩)(k7:codeIn K l qual=true)(S:FnScope N C scope)
  (G:Room (k+1) A)(z:Env0 P w K B base A a s H)(hb:BindsTo s (fnOf j qual c d scope Y kV p pm U l ct) i (C.zip us))(r:Vals vs us)(hl:vs.length=C.length)
  (j7:Room k (A.deeper (envOfC qual scope s.heap.objs.size f l))-> ∃t,PSs (nk CX P w K B base N qual scope f l A a s H E) d t/\t {nx:=λ_ h=>Q .non h,rt:=Q} (mz N vs) H):
  codeAny (model P w) A (.call (.ref f) i) (CR CX a P w H s Q E) s:=by
 have T:K.In s.heap:=z.mod.kin.keeps λb o e=>(z.bs b o e).1;have L:s.heap.NoLimit:=z.mod.nolimit.keeps λb o e=>(z.bs b o e).1
 have D: ∀y∈C.zip us,scope.names.lookup y.1=some .local\/(scope.names.lookup y.1=some .cell/\((cellsFrom (s.heap.objs.size+1) scope.names []).lookup y.1).isSome=true):=λ⟨n,v⟩ hy=>by
  rcases S.par n (Am hy).1 with q|q
  ·exact .inl q
  ·exact .inr ⟨q,cellsFrom_some _ _ _ (.inl q)⟩
 refine HQ G.depth (T _ _ lk) rfl S.co S.gen rfl (codeRec_of T k7) (hb _ _ _ _ ?_);refine HP S.kind D λF W s1 x=>?_;subst W;refine⟨L.keeps x.toInCall.keep,codeAny_func ?_⟩;obtain⟨t,Z,X⟩:=j7 (G.deeper _);have I:Inv (nk CX P w K B base N qual scope f l A a s H E) [] (mz N vs) H s1:=zc S G.hd z hl r x;refine mO (Z [] s1 (mz N vs) H _ I X) (λR O m=>?_) λe O m=>m
 have fin: ∀{g:St} {h:Hp} {v:V} {u:gD},Inv (nk CX P w K B base N qual scope f l A a s H E) [] g h O->RelV v u->Q v h->CE a P w H s Q u O:=
  λ{g h v u} J M q=>⟨v,h,J.os,J.bare,J.base,J.hok,M,q⟩
 cases R with
 |ret u=>
  obtain⟨v,g,h,J,M,q⟩:=m;exact fin J M q
 |next=>
  obtain⟨g,h,J,q⟩:=m;exact fin (v:=V.non) (u:=Value.none) J rfl q
 |brk=>
  obtain⟨_,_,_,q⟩:=m;exact False.elim q
 |cont=>
  obtain⟨_,_,_,q⟩:=m;exact False.elim q
section
variable {fs:jx}{N:hG}{scope:iG}{d:jL}{j:St}{H g:Hp}{h h':gR}{q:Str}{a:Arguments}{b:gG}{f:gw}
def LamCells.keep(C:LamCells N scope d j H h)(u:Un fs [] H g h h')(n: ∀x c,d.lookup x=some c->c∉fs):LamCells N scope d j g h':=by
 have p: ∀{x c v},d.lookup x=some c->h.IsCell c v->h'.IsCell c v:=λ{x c v} e z=>by
  obtain⟨o,k,l⟩:=z;exact⟨o,u.keep c o k (C.cell x c e).2 (n x c e) (by simp),l⟩
 refine⟨C.inj,C.has,λx c e=>?_,λi x v h1 s=>?_,C.len⟩
 ·obtain⟨⟨v,o,k,l⟩,y⟩:=C.cell x c e;exact⟨⟨v,p e ⟨o,k,l⟩⟩,u.free c o k y (by simp)⟩
 ·obtain⟨t,c,w,m,A,r⟩:=C.val i x v h1 s;exact⟨t,c,w,m,p m A,r⟩
def LamAt.keep(L:LamAt q a b scope d H h f)(u:Un fs [] H g h h')(n:f∉fs):LamAt q a b scope d g h' f:=by
 obtain⟨m,c,k,e,l,w,o,t,h1,i⟩:=L.fn;exact⟨⟨m,c,k,u.keep f _ e L.un n (by simp),l,w,o,t,u.frzs _ _ _ h1,i⟩,u.free f _ e L.un (by simp)⟩
end
section
variable {X:Cx}{N:hG}{scope:iG}{b9:jL}{σl:St}{q:Str}{params:Arguments}{body:gG}{fl:gw}{k:Nat}{t:XK->TE}
structure LamIn(X:Cx)(N:hG)(scope:iG)(b9:jL)(σl:St)(q:Str)(params:Arguments)(body:gG)(fl:gw)(k:Nat)(t:XK->TE):Prop where
 sc:LamScope scope
 cel:LamCells N scope b9 σl X.H₀ X.s₀.heap
 lam:LamAt q params body scope b9 X.H₀ X.s₀.heap fl
 nfl:fl∉X.fs
 ncl: ∀x c,b9.lookup x=some c->c∉X.fs
 bnd: ∀pm c' m6,bindArgs (kla_fn "<lambda>" q params body scope b9 pm (.ref c') m6) ⟨[],[]⟩=pure []
 run: ∀(E:XK) (c':gw) (s:gA) (H:Hp),Room k (X.A.deeper (xQ q scope s.heap.objs.size fl (.ref c') b9))->PE (qd (CXx X.prog X.w) X.prog X.w X.K X.mg X.base N q scope fl (.ref c') b9 X.A X.stack s H E) body (t E)
def OH{g y B b:Str}{CR:gw}{l i j:Nat}{T U Y p4 p5 p6 p7 p8 p9:Pos}(L:LamIn X N scope b9 σl q params body fl k t)(n8:X.stack=X.env::X.outer)(dA:X.env.frame=some X.env.locals)(hex:X.ex=[])(hr:Room (k+1) X.A)
  (hc:X.N[l]?=some g)(vc:Vis X.env.scope g)(cO:(g==("__debug__":Str))=false)(eK:(g==("__classdict__":Str))=false)
  (J:swapsWith (.Call (.Name g T) [] [] U) none Y.line X.env=pure false)
  (hg:Gl X y)(hm:X.mg y=some (.ref CR))(i5:(y==("__debug__":Str))=false)
  (hN:X.N.Nodup)(hi:X.N[i]?=some B)(hj:X.N[j]?=some b)(n4:i≠j)(lx:X.env.scope.names.lookup B=some .local)(ln:X.env.scope.names.lookup b=some .local)(fP:(b==("__debug__":Str))=false)(fR:(b==("__classdict__":Str))=false)
  (bg:swapsWith (.Name b p6) (some (.Name B p5)) p7.line X.env=pure false):
  PS X (.Try [.Expr (.Call (.Name g T) [] [] U) Y] [.ExceptHandler (some (.Name y p4)) (some b) [.Assign [.Name B p5] (.Name b p6) p7] p8] [] [] p9)
   (λD c H=>c[l]?=some (some (.ref fl))/\ ∃E:XK,t E σl H (λ_ a=>D.nx c a)/\(∀C a,E (.ref C) none a->exmOne X.K (.ref C) (.ref CR)=some true)/\
    ∀C a G o,E (.ref C) none a->a G=none->o.cls= .ref C->D.nx ((c.set j none).set i (some (.ref G))) (upd a G (.frz o (.own 0)))):=by
 intro p s c H D I h;obtain⟨W,E,ht,V,hk⟩:=h;have un:Un X.fs [] X.H₀ H X.s₀.heap s.heap:=by have:=I.base;rwa [hex] at this
 have C1:=L.cel.keep un L.ncl;have L1:=L.lam.keep un L.nfl;refine wpAny_Try_except ?_;refine wpAny_execs_cons (wpAny_Expr_any ?_ I.quiet J);refine rA ?_;refine mO (wY (X:=X.nox) hc vc cO eK p s c H (λv a=>v= .ref fl/\a=H) (I.wish _) ⟨.ref fl,W,rfl,rfl⟩) (λf s1 Z=>?_) λ_ _ z=>False.elim z;obtain⟨v,M,d,rv,rfl,rfl⟩:=Z;cases rv;have d:=d.unwish;have x:Un X.fs [] X.H₀ M X.s₀.heap s1.heap:=by have:=d.base;rwa [hex] at this
 have F:=L.cel.keep x L.ncl;have m:=L.lam.keep x L.nfl;obtain⟨pm,O,m6,e,_⟩:=id m.fn;refine callWith_F0 ⟨_,_,_,_,e⟩ (wy (sD (My (CX:=CXx X.prog X.w) (E:=E) (t:=t E) (Q:=λ_ a=>D.nx c a) L.sc hr d.env0 F m L.bnd (λO S=>L.run E O s1 M S) ht) λr s2 n=>?_))
 cases r with
 |error e=>exact TQ n8 dA hex d n hg hm i5 V hN hi hj n4 lx ln fP fR bg hk
 |ok f=>
  cases f with
  |next=>exact False.elim n
  |brk=>exact False.elim n
  |cont=>exact False.elim n
  |ret u=>
   obtain⟨v,P,R,_,qq⟩:=d.after n;exact wz (wz ⟨c,P,R,qq⟩)
end
end L2
namespace PX
open PySem PySem.Spec PyProof.Rows L2 PySem.SeqAt PySem.W
def sim:D->Bool
 | .non| .bl _| .int _| .str _=>true
 |_=>false
def Fl{K c:Frag}{H a:Hp}{O e:AP'}{d:D}{v:V}(h:sim d=true)(r:Rep K H O d v):Rep c a e d v:=by
 cases d with
 |non=>rw[Rep] at r ⊢;exact r
 |bl b=>rw[Rep] at r ⊢;exact r
 |int b=>rw[Rep] at r ⊢;exact r
 |str b=>rw[Rep] at r ⊢;exact r
 |_=>cases h
def vg(n i:Nat)(fs:FS)(d:D):Option D:=match fs ((List.replicate n none).set i (some (d,false))) with
 |some (.rt (r,false) _)=>if sim r=true then some r else none
 |_=>none
def Kr(e:iP)(f:F)(x:XS)(n i:Nat)(fs:FS)(h:Str->Option Nat):F:=λg=>(jf g (e.map .slot)).bind λb=>if(b.all λa=>!a.2)=true then
  (match f (b.map some) with
   |some _=>vg n i fs .non
   |none=>(x (b.map some)).bind λc=>(h c).bind λC=>vg n i fs (.oth (.exc C) [] [])).bind λd=>some ((d,false),g)
 else none
def vY{n i:Nat}{d:D}(c:L2.St)(a:gw): ¬OwnA c ((List.replicate n none).set i (some (d,false))) a:=λ⟨j,e,h1,_⟩=>by
 by_cases b:j=i
 ·subst b;rw[wt] at h1;split at h1
  ·split at h1<;>simp at h1
  ·rename_i z;exact z rfl
 ·rw[mP (lF b),sA] at h1;split at h1<;>cases h1
def PR{K:Frag}{H:Hp}{f:L2.St}{n i:Nat}{d:D}{v:V}(o:f.length=n)(k:f[i]?=some (some v))(r:Rep K H (λ_=>False) d v):ER K H (λ_=>False) f ((List.replicate n none).set i (some (d,false))):=by
 have c: ∀{j:Nat} {e:D} {b:Bool},((List.replicate n none).set i (some (d,false)))[j]?=some (some (e,b))->j=i/\e=d/\b=false:=λ{j e b} h=>by
  by_cases m:j=i
  ·subst m;rw[my (by rw[HR,<-o];exact(qM.mp k).1)] at h;cases h;exact⟨rfl,rfl,rfl⟩
  ·rw[mP (lF m),sA] at h;split at h<;>cases h
 refine⟨by simp[o],λj e h=>?_,λj e h=>?_,λj l e g a h=>?_,λa z=>absurd z (vY f a),λ_ z=>z.elim⟩
 ·obtain⟨rfl,rfl,_⟩:=c h;exact⟨v,k,Rep.mono (λ_ _ e _=>e) (λb _ z=>z.elim (vY f b) id) r⟩
 ·obtain⟨_,_,z⟩:=c h;cases z
 ·obtain⟨_,_,z⟩:=c h;cases z
structure ClK(K:Frag)(C CR:gw):Prop where
 k:ExcK K C
 ty: ∀n∈["int","bool","str","tuple","list","dict"],kitOne K (.ref C) (.type n)=some false
 up:exmOne K (.ref C) (.ref CR)=some true
def MF{b:List (D×Bool)}(h:(b.all λa=>!a.2)=true): ∀a∈b,a=(a.1,false):=λa c=>by
 have:=nu.mp h a c;obtain⟨d,f⟩:=a
 cases f with
 |false=>rfl
 |true=>cases this
theorem CJ: ∀(os:List Opd) (b:List (D×Bool)),(∀a∈b,a=(a.1,false))->hJ os b=[]
 |[],b,_=>by cases b<;>simp[hJ]
 |o::os,[],_=>by simp[hJ]
 |o::os,a::b,h=>by
  have c:=h a ja;obtain⟨d,f⟩:=a;cases c;cases o<;>simp[hJ,CJ os b λa e=>h a (iZ _ e)]
def PC{b:List (D×Bool)}(h: ∀a∈b,a=(a.1,false))(f:L2.St)(a:gw): ¬OwnA f (b.map some) a:=λ⟨i,d,h1,_⟩=>by
 rw[jJ] at h1;obtain⟨p,c,e⟩:=ir h1;cases e;have:=h _ (lE c);simp at this
section
variable {X:Cx}
def PE.or{e:gG}{t u:TE}(h1:PE X e t)(c:PE X e u):PE X e λb H Q=>t b H Q\/u b H Q:=λa s b H Q I h=>h.elim (h1 a s b H Q I) (c a s b H Q I)
def KC{T:AP'}{g:L2.St}{l:Dn}{H:Hp}{d:iP}{f:List (D×Bool)}{K:Frag}(m:ER K H T g l)(r:jf l (d.map .slot)=some f):
  ∃vs:List V,AN d 0 g=vs.map some/\Ops K T g l H (d.map Opd.slot) vs l H T:=by
 obtain⟨u,s⟩:=lM r
 have there: ∀(i j:Nat),d[i]?=some j-> ∃v,g[j]?=some (some v):=λi j e=>by
  have t:i<f.length:=by have:=(qM.mp e).1;simp at u;omega
  obtain⟨o,q,k⟩:=s i _ (jm t);rw[jJ,e] at q;cases q;have n:=oB k;generalize f[i]=y at n;obtain⟨x,b⟩:=y
  cases b with
  |false=>obtain⟨v,h,_⟩:=m.val j x n;exact⟨v,h⟩
  |true=>obtain⟨a,h,_⟩:=m.own j x n;exact⟨_,h⟩
 refine⟨d.map λj=>((g[j]?).join).getD .non,?_,by simp,.refl,m,λ_ z=>z,λj x v e=>?_,λj x v e=>?_,λj i v e hv=>?_⟩
 ·unfold AN;rw[List.replicate_zero,rB];apply Ad;intro i;rw[jJ,jJ,jJ]
  cases e:d[i]? with
  |none=>rfl
  |some j=>obtain⟨v,hv⟩:=there i j e;simp[hv]
 ·rw[jJ] at e;obtain⟨_,_,z⟩:=ir e;cases z
 ·rw[jJ] at e;obtain⟨_,_,z⟩:=ir e;cases z
 ·rw[jJ] at e;obtain⟨c,p,z⟩:=ir e;cases z;obtain⟨w,k⟩:=there j i p;rw[jJ,p] at hv;simp[k] at hv;rw[k,hv]
end
section
variable {X:Cx}{Pt c:gw}{params:Arguments}{body:gG}{scope:iG}{pos u4 pf:Pos}{caps:iP}{N' NR:hG}{fB:F}{xB:XS}{aG:FS}{CI:Str->Option Nat}{asg:iP}{st:Stmt}{fr:gw}{cQ:kS}{xf xc xr xx xn:Str}{CR:gw}{i j k:Nat}
structure RefBody(X:Cx)(st:Stmt)(NR:hG)(fr:gw)(xf xc xr xx xn:Str)(CR:gw)(i j k:Nat)(asg:iP)(aG:FS):Prop where
 sc:FnScope NR [xc] (gz st)
 as0:0∉asg
 hi:NR[i]?=some xx
 hj:NR[j]?=some xn
 ij:i≠j
 j0:j≠0
 lc:(gz st).names.lookup xc=some .local
 lx:(gz st).names.lookup xx=some .local
 ln:(gz st).names.lookup xn=some .local
 gl:(gz st).names.lookup xr=some .globalImplicit
 mg:X.mg xr=some (.ref CR)
 db:(xc==("__debug__":Str))=false/\(xc==("__classdict__":Str))=false/\(xn==("__debug__":Str))=false/\(xn==("__classdict__":Str))=false/\(xr==("__debug__":Str))=false
 body: ∃p1 p2 p3 p4 p5 p6 p7 p8 p9 S1 iq,jX st=S1:: .Try [.Expr (.Call (.Name xc p1) [] [] p2) p3] [.ExceptHandler (some (.Name xr p4)) (some xn) [.Assign [.Name xx p5] (.Name xn p6) p7] p8] [] [] p9::iq/\
  ∀(c9:gD) (A:gS) (outer:List Env) (s:gA) (H:Hp) (L:iI),(∀i,L i->i<1)->Room k (A.deeper (envOfC xf (gz st) s.heap.objs.size fr c9))->
   swapsWith (.Call (.Name xc p1) [] [] p2) none p3.line (envOfC xf (gz st) s.heap.objs.size fr c9)=pure false/\swapsWith (.Name xn p6) (some (.Name xx p5)) p7.line (envOfC xf (gz st) s.heap.objs.size fr c9)=pure false/\
   PSX (nk CX0 X.prog X.w X.K X.mg X.base NR xf (gz st) fr c9 A outer s H L2.E0).nox (λi=>i∈asg) L H S1 (iz i (fC .non))/\yG (nk CX0 X.prog X.w X.K X.mg X.base NR xf (gz st) fr c9 A outer s H L2.E0).nox (λi=>i∈asg) L H iq aG
def Od{more:lU}(R:RefBody X st NR fr xf xc xr xx xn CR i j (k+1) asg aG)(F:Fun X.K xf xf st fr cQ)(fU:Binds X.K cQ [xc] [])(fM:Gl X xf)(hmf:X.mg xf=some (.ref fr))(cq:(xf==("__debug__":Str))=false)
  (cg: ∀x,X.fn x=true)(hr:Room (k+2) X.A)(hTb:X.H₀ Pt=some (.tbl (#[.str (X.env.qual++"<lambda>") 0]++more)))(k7:X.env.code= .ref c)(C:CodeHd X.base c Pt)(hB:X.base.BuiltinsAt X.mg Pt)(fN:mainGlobals≠Pt)
  (CO:CompOk X N' scope caps 0)(LS:LamScope scope)(aE:defaultsOf params X.env=([],[]))(l9: ∀b9 pm M m6,bindArgs (kla_fn "<lambda>" (X.env.qual++"<lambda>") params body scope b9 pm (.ref M) m6) ⟨[],[]⟩=pure [])
  (he:starEach [.Lambda params body scope u4] X.env=(false,eval (.Lambda params body scope u4) X.env)::starEach [] X.env)(h9:(backTo pos (starEach [] X.env)).any (·.1)=false)
  (fY: ∀z C0,CI z=some C0->X.mg z=some (.ref C0)/\ClK X.K C0 CR)
  (hb: ∀(B:gw) (b9:jL) (M:gw) (A:gS) (O:List Env) (s:gA) (H:Hp) (E:XK),Room k (A.deeper (xQ (X.env.qual++"<lambda>") scope s.heap.objs.size B (.ref M) b9))->
   PX (qd (CXx X.prog X.w) X.prog X.w X.K X.mg X.base N' (X.env.qual++"<lambda>") scope B (.ref M) b9 A O s H E) body fB/\PZE (qd (CXx X.prog X.w) X.prog X.w X.K X.mg X.base N' (X.env.qual++"<lambda>") scope B (.ref M) b9 A O s H E) E body xB):
  PX X (.Call (.Name xf pf) [.Lambda params body scope u4] [] pos) (Kr caps fB xB NR.length i aG CI):=by
 intro pins s g H Q I hw;obtain⟨U,T,r,δ',E1,e,kq⟩:=hw;obtain⟨t,ha,e⟩:=gu e;split at e
 case isFalse=>cases e
 rename_i hfz;have cM:=MF hfz;obtain⟨d,hd,e⟩:=gu e;obtain⟨rfl,rfl⟩:=gX e;obtain⟨vs,fv,B0⟩:=KC E1 ha;have nd0:=CJ (caps.map Opd.slot) t cM;have Ec:=tY E1 B0 ha (by rw[nd0];exact la);obtain⟨S,hclo,j2,j3⟩:=rT X.env scope λx hx hf=>I.ok.has x.1 (CO.free x hx hf);obtain⟨more2,hP⟩:=I.base.tbls Pt _ hTb;rw[As] at hP;refine rA (qu I fM hmf ?_ cq);refine callWith_K (h₀:=X.base) I.ok.mod.kin F.kp ?_ he h9;rw[he];show wpAny _ _ (spliced ((false,eval (.Lambda params body scope u4) X.env)::backTo pos (starEach [] X.env))) _ _ s;refine DR (JY I hP k7 C hB fN hclo aE λs1 Y B P up L kp fr0 new=>?_);refine DS ⟨P.kIn,?_⟩
 have nst: ∀x c,S.lookup x=some c->c∉frs X.stack:=λx c e z=>by
  rcases js.mp (I.stkSub c z) with q|q
  ·exact I.cne x c (j2 x c e) q
  ·obtain⟨_,o,ho,_⟩:=I.ok.funs.mem q;exact absurd (iV ho) (K0.mpr (I.ok.cab x c (cg x) (j2 x c e)))
 have nfl:B∉frs X.stack:=λz=>by
  obtain⟨_,o,ho,_⟩:=I.stack.mem z;rw[new] at ho;cases ho
 have LC:LamCells N' scope S (vs.map some) Y s1.heap:=by
  rw[<-fv];refine⟨λx y c h1 h2=>I.ok.inj x y c (j2 x c h1) (j2 y c h2),λx hx=>j3 x (og hx),λx c h=>⟨P.cell x c (j2 x c h),P.freeC x c (j2 x c h)⟩,λl x v h1 h2=>?_,CO.sco.len g⟩;obtain⟨hf,jj,hj,hv⟩:=CO.sco.pre g l v x h2 h1;refine⟨hf,?_⟩;obtain⟨m,hn,hl⟩:=P.loc;have j1:=CO.free (x,.free) (og hf) rfl;obtain⟨u,r,q⟩:=hl jj x v hj hv (by rcases j1 with z|z;exact .inr (.inl z);exact .inr (.inr z));rcases q with⟨dv,_⟩|⟨_,c,hc,i8⟩
  ·have br:X.env.scope.names.lookup x=some .local:=dv;rcases j1 with z|z<;>(have z':X.env.scope.names.lookup x=_:=z;rw[br] at z';cases z')
  ·obtain⟨M,aX⟩:=j3 x (og hf);have:=j2 x M aX;rw[hc] at this;cases this;exact⟨c,u,aX,i8,r⟩
 have noT: ∀(g:L2.St) (a:gw),¬OwnA g (t.map some) a:=PC cM;obtain⟨oc,od,kV,doc,pm,an,c9,ct,r9,rfl,lkr,hcdr⟩:=F.ex;have hbt:=fU s1 [.ref B] P.kIn rfl;refine thn (wy (sD (Rz (CX:=CX0) (E:=L2.E0) (Q:=λv p=>Post X.K T g U H (d,false) U v p) (vs:=[.ref B]) lkr hcdr R.sc hr P.env0 hbt (.cons rfl .nil) rfl λcG=>?_) (R:=L2.CR CX0 X.stack X.prog X.w Y s1 (λv p=>Post X.K T g U H (d,false) U v p) L2.E0) λrr s2 hq=>?_)) (Q:=EP X pins g λv p=>Post X.K T g U H (d,false) U v p) λv s2 ⟨x,J,I2,rx,q⟩=>⟨x,J,I2,rx,kq x J q⟩
 ·obtain⟨p1,p2,p3,p4,p5,p6,p7,p8,p9,S1,iq,bx,hq⟩:=R.body;obtain⟨sw1,sw2,hS1,Z⟩:=hq c9 X.A X.stack s1 Y (λ_=>False) (λ_ z=>z.elim) cG
  have nl: ∀{n:Nat} {a:gw} {g:L2.St},¬OwnA g (List.replicate n none) a:=λ{n a g} ⟨l,e,h1,_⟩=>by
   rw[sA] at h1;split at h1<;>cases h1
  have hlen:(L2.mz NR [V.ref B]).length=NR.length:=by
   have:1<=NR.length:=by
    have:=mM List.length R.sc.pre;rw[pD] at this;simp at this;omega
   unfold L2.mz;simp;omega
  have fin: ∀(z:D) (J:Hp) (G:L2.St) (v0:V),vg NR.length i aG z=some d->(∀a o,Y a=some o->J a=some o)->(∀a,Y a≠none->J a≠none)->G.length=NR.length->G[i]?=some (some v0)->Rep X.K J (λ_=>False) z v0->
    tS X.K (λi=>i∈asg) (λ_=>False) Y aG {nx:=λ_ p=>Post X.K T g U H (d,false) U .non p,rt:=λv p=>Post X.K T g U H (d,false) U v p} G J:=λz J G v0 ht W dm2 y8 eJ rz=>by
   unfold vg at ht;split at ht
   case h_2=>cases ht
   rename_i rr δr hfs;obtain⟨hs,rfl⟩:=hV ht;refine⟨_,λ_=>False,_,PR y8 eJ rz,⟨λl a ⟨d,h1,h2⟩=>absurd ⟨l,d,h1,h2⟩ (vY G a),dm2⟩,hfs,λv σ3 H3 S3 hrv=>?_⟩;have ext: ∀a o,H a=some o->H3 a=some o:=λa o q=>S3.kp a o (W a o (up a o q)) (vY G a);exact⟨.ext ext,E1.mono (λb o q _=>ext b o q) (λ_ _ z=>z) (λa z=>(E1.dom a z).up (ext a)),Fl hs hrv.2⟩
  rw[bx];have Xs:=(nk CX0 X.prog X.w X.K X.mg X.base NR xf (gz st) fr c9 X.A X.stack s1 Y L2.E0).nox
  have run: ∀(E:XK) (M:gw) (s:gA) (H:Hp),Room k ((X.A.deeper (envOfC xf (gz st) s1.heap.objs.size fr c9)).deeper (xQ (X.env.qual++"<lambda>") scope s.heap.objs.size B (.ref M) S))->
    PE (qd (CXx X.prog X.w) X.prog X.w X.K X.mg X.base N' (X.env.qual++"<lambda>") scope B (.ref M) S (X.A.deeper (envOfC xf (gz st) s1.heap.objs.size fr c9)) (envOfC xf (gz st) s1.heap.objs.size fr c9::X.stack) s H E) body (λg H Q=>tF X.K fB g H Q\/tZ X.K X.mg E xB g H):=λE M s H fD=>
   let⟨h1,h2⟩:=hb B S M _ _ s H E fD
   PE.or h1 h2
  have LI:LamIn (nk CX0 X.prog X.w X.K X.mg X.base NR xf (gz st) fr c9 X.A X.stack s1 Y L2.E0).nox N' scope S (vs.map some) (X.env.qual++"<lambda>") params body B k (λE g H Q=>tF X.K fB g H Q\/tZ X.K X.mg E xB g H):=⟨LS,LC,L,nfl,nst,l9 S,run⟩
  have h0:NR[0]?=some xc:=by
   have:=mM (λl=>l[0]?) R.sc.pre;simpa using this
  have pt:=OH (p4:=p4) (p8:=p8) (p9:=p9) LI rfl rfl rfl cG h0 (.inl R.lc) R.db.1 R.db.2.1 sw1 R.gl R.mg R.db.2.2.2.2 R.sc.nd R.hi R.hj R.ij R.lx R.ln R.db.2.2.1 R.db.2.2.2.1 sw2;refine⟨_,(ox hS1 (ox pt Z)).nox,?_⟩;have fK:i<NR.length:=(qM.mp R.hi).1;refine⟨List.replicate NR.length none,λ_=>False,.nx ((List.replicate NR.length none).set i (some (.non,false))),⟨by simp[hlen],λl d h=>?_,λl d h=>?_,λl m d e a h=>?_,λa z=>absurd z nl,λ_ z=>z.elim⟩,⟨λl a ⟨d,h1,h2⟩=>absurd ⟨l,d,h1,h2⟩ nl,λ_ z=>z⟩,?_,λσ1 J K1 ER1=>?_⟩
  ·rw[sA] at h;split at h<;>cases h
  ·rw[sA] at h;split at h<;>cases h
  ·rw[sA] at h;split at h<;>cases h
  ·show(if i<(List.replicate NR.length (none:Sl)).length then some (Out.nx _) else none)=_;rw[gO (by simpa using fK)]
  ·have W: ∀a o,Y a=some o->J a=some o:=λa o q=>K1.kp a o q nl;have ax:σ1.length=NR.length:=by have:=ER1.len;simpa using this
   have hs0:σ1[0]?=some (some (V.ref B)):=by
    rw[K1.as 0 R.as0];unfold L2.mz;rfl
   have Ec2:ER X.K J (Tc T g U vs t) (vs.map some) (t.map some):=Ec.mono (λb o q _=>W b o (up b o q)) (λ_ _ z=>z) (λa z=>(Ec.dom a z).up λo q=>W a o (up a o q));split at hd
   ·
    rename_i z hz;refine⟨hs0,λ_ _ _=>False,.inl ⟨_,_,z.1,z.2,Ec2,hz,λv H3 P3=>?_⟩,λ_ _ z=>z.elim,λ_ _ _ _ z=>z.elim⟩;obtain⟨v0,en,cY⟩:=ER1.val i .non (by rw[my (by simpa using fK)]);refine fin .non H3 σ1 v0 hd (λa o q=>P3.1.kp a o (W a o q) (noT _ a)) (λa q=>P3.1.dm a (K1.dm a q)) ax en (Fl rfl cY)
   ·
    obtain⟨cn,hx,hd⟩:=gu hd;obtain⟨C0,hC0,hd⟩:=gu hd;obtain⟨hmC,ck⟩:=fY cn C0 hC0;refine⟨hs0,λcls _ p=>cls= .ref C0/\ ∀a o,J a=some o->p a=some o,.inr ⟨_,_,cn,Ec2,noT _,hx,λp C' dW eD=>?_⟩,λC' p ⟨q,_⟩=>?_,λC' p ea o ⟨q,dW⟩ hn ho=>?_⟩
    ·rw[hmC] at eD;cases eD;exact⟨rfl,dW⟩
    ·cases q;exact ck.up
    ·cases q;have cU: ∀a N,p a=some N->upd p ea (.frz o (.own 0)) a=some N:=λa N q=>by rw[hU (jT q hn)];exact q
     refine fin (.oth (.exc C0) [] []) _ _ (.ref ea) hd (λa N q=>cU a N (dW a N (W a N q))) (λa q=>?_) (by simp[ax]) (by rw[my (by simpa[ax] using fK)]) (Rep.mkOth (us:=[]) (λz=>z) ⟨⟨rfl,rfl,rfl⟩,o,ie,ho,λa=>JZ ck.k ho,ck.ty⟩ RepL.nil)
     cases hh:Y a with
     |none=>exact absurd hh q
     |some N=>rw[cU a N (dW a N (W a N hh))];simp
 ·cases rr with
  |error e=>exact False.elim hq
  |ok f=>
   cases f with
   |ret u=>exact P.after hq
   |_=>exact False.elim hq
end
def iD:D->Int
 | .int i=>i
 |_=>0
def Px:D->Option (D×Bool)
 | .lst l=>if l.all isI=true then some (.int (preSum (λj=>iD (l.getD j .non)) l.length),false) else none
 |_=>none
theorem xD: ∀{c:iF} {b:ik},IntsAre c b-> ∃a:List (Int×Tok),c=a.map (λp=>Value.int p.1 p.2)/\b=a.map (·.1)
 |_,_,.nil=>⟨[],rfl,rfl⟩
 |_,_,.cons n t r=>let⟨a,h1,d⟩:=xD r;⟨(n,t)::a,by rw[h1];rfl,by rw[d];rfl⟩
theorem vo{f g:Nat->Int}: ∀n,(∀j,j<n->f j=g j)->preSum f n=preSum g n
 |0,_=>rfl
 |n+1,h=>by rw[preSum,preSum,vo n λj a=>h j (by omega),h n (by omega)]
section
variable {X:Cx}
def G5(i:X.calm=true):jq X (.builtin "sum") (rDn X.K (g1 Px)):=nq λe s M H x u Q O d z I y np hd b G=>by
 cases d with
 |lst l=>
  obtain⟨h,rfl⟩:=hV b;obtain⟨p,L,rfl,q,r⟩:=jF hd;cases y;obtain⟨C,v,w,_⟩:=I.list q;obtain⟨J,c,n⟩:=QN h r v;obtain⟨f,g,a⟩:=xD n;have k:X.A.handled=none:=I.ok.hd i
  have o:s.heap.IsList p (intItems f.toArray):=by
   have:=w.isList;rw[g] at this;simpa[intItems] using this
  refine sum_intListG k o λE B t' t=>?_;refine⟨.int (preSum (λj=>iD (l.getD j .non)) l.length),H,I.kept (t':=B) t,⟨t',?_⟩,G.int⟩;have:l.length=f.length:=by rw[c,a];simp
  rw[this,iE]
  congr 1
  refine vo _ λj m=>?_;rw[c,a];simp[numAt,iD,we,m]
 |_=>cases b
def PD(l:List D):Option Nat:=(nQ l).bind λbs=>bs.findIdx? id
def ML(i:Nat):F:=λa=>match a[i]? with
 |some (some (.lst l,true))=>(PD l).bind λj=>if l.length<=1000 then some ((.int j,false),a) else none
 |_=>none
def TL(x:V)(b:List V)(H:Hp)(Q:VK):Prop:= ∃(l:gw) (a:List V) (bs:List Bool) (j:Nat),x= .ref l/\b=[.bl true]/\H l=some (.lst a)/\a=bs.map V.bl/\bs.findIdx? id=some j/\bs.length<=1000/\Q (.int j) H
theorem Fb: ∀{bs:List Bool} {a:iF},Vals (bs.map V.bl) a->a=bs.map Value.bool
 |[],_,.nil=>rfl
 |b::bs,_,.cons r t=>by cases r;rw[Fb t];rfl
def JN:MtM X "list.index" TL:=by
 intro c s N H x L v J Q I B w h;obtain⟨l,M,bs,j,rfl,rfl,g,rfl,k,E,q⟩:=h;cases B;obtain⟨u,rfl,t⟩:=w.one;cases t;obtain⟨z,C,n,r,a,e⟩:=I.lstM g;have i:=Fb r;subst i;obtain⟨h1,d,f⟩:=List.findIdx?_eq_some_iff_getElem.mp k
 refine Ah F.slot_list_index ⟨_,e,rfl⟩ F.entry_list_index (F.args_list_index_2 _ _)
  (list_indexAt l (bs.map Value.bool).toArray n none #[] (.bool true) (λy=>match y with| .bool b=>b|_=>false) j (by simpa using h1) (by omega) (by simpa using d) (λm G p=>?_)) ⟨e,λy o=>?_,⟨.int j,H,I.tok _,⟨_,rfl⟩,q⟩⟩
 ·have:=f m p;simpa using this
 ·obtain⟨b,_,rfl⟩:=nv.mp (List.mem_toArray.mp o);have:=EqAt.bool_bool (A:=X.A.in1) (s:=s) b true;cases b<;>simpa using this
variable {B w c o f:Pos}{i:Nat}{x:Str}{g:Nat}
theorem Fq{K:gW}{H:Hp}{O:AP'}: ∀{l:List D} {bs:List Bool} {a:List V},nQ l=some bs->RepL K H O l a->a=bs.map V.bl
 |[],bs,a,h,r=>by cases h;rw[RepL] at r;exact r
 | .bl b::l,bs,a,h,r=>by
  obtain⟨d,h1,rfl⟩:=ir h;rw[RepL] at r;obtain⟨v,k,rfl,e,j⟩:=r;rw[e.bl,Fq h1 j];rfl
theorem zt: ∀{l:List D} {bs:List Bool},nQ l=some bs->bs.length=l.length
 |[],_,h=>by cases h;rfl
 | .bl b::l,_,h=>by obtain⟨a,h1,rfl⟩:=ir h;simp[zt h1]
def IV(hv:PO X (.Name x w) (gv i))(L:attributeBase (.Name x w) "index" X.env (eval (.Name x w) X.env)=eval (.Name x w) X.env)
  (M:((backTo o (starEach [.Constant (.bool true) g f] X.env)).all (λx=>!x.1)&&(backToKw o (keywordEach [] X.env)).all (λx=>x.1.isSome)&&decide ([Expr.Constant (.bool true) g f].length+([]:List Keyword).length+(if([]:List Keyword).isEmpty then 0 else 1)<30))=true)
  (J:(c.endLine==o.line)=true)(s:starEach [.Constant (.bool true) g f] X.env=(false,eval (.Constant (.bool true) g f) X.env)::starEach [] X.env)(I:(backTo o (starEach [] X.env)).any (·.1)=false):
  PX X (.Call (.Attribute (.Name x w) "index" c) [.Constant (.bool true) g f] [] o) (ML i):=
 PX.imp (JA DH PySem.F.slot_list_index PySem.F.type_list_index JN hv (ku Nh nR s) L M J s I) λW H Q C=>by
 obtain⟨d,T,V,D,E,e,k⟩:=C;unfold ML at e;split at e
 ·rename_i l m;obtain⟨j,n,e⟩:=gu e;obtain⟨bs,r,n⟩:=gu n;obtain⟨A,e⟩:=hV e;obtain⟨rfl,rfl⟩:=rq e;refine⟨d,T,.slot i,d,E,by unfold gv;rw[m],λv K P=>?_⟩;obtain⟨u,h,b⟩:=P;obtain⟨a,g1,z,g2,g3⟩:=h.own i _ m;rw[b] at g1;cases g1;refine⟨.inl ⟨rfl,z,SqL.of g2⟩,d,T,_,d,h,rfl,λy R q=>?_⟩;obtain⟨p,U⟩:=q.rep h;have G:=U.bl;subst G;obtain⟨S,t,Y,N,O⟩:=p.own i _ m;rw[b] at t;cases t;refine⟨_,Y,bs,j,rfl,rfl,N,Fq r O,n,by rw[zt r];exact A,?_⟩;exact k _ _ (Post.val (u.trans q.1) p Rep.mkInt)
 ·cases e
end
def vP(a:iP)(b:Nat):D->Option (D×Bool)
 | .oth (.exc C) _ _=>if a.contains C=true then some (.bl (C==b),false) else none
 |_=>none
def Py(a:iP):D->Option (D×Bool)
 | .oth (.exc C) _ _=>if a.contains C=true then some (.bl true,false) else none
 |_=>none
section
variable {X:Cx}{e:gG}{fa:FO}{pos p p2:Pos}{z:Str}{CL:iP}{D0:Nat}
def Pu{g:D->Option (D×Bool)}{f:gD}{i:V}(N:RelV i f)(B: ∀l,RelV i l->l=f)(A: ∀d t,g d=some t-> ∃C b j m,d= .oth (.exc C) j m/\t=(.bl b,false)/\kitOne X.K (.ref C) f=some b):
  jq X (.builtin "isinstance") (λn H Q=> ∃(O:AP') (d:D) (x:V) (b:Bool),n=[x,i]/\iU X.K H O d x/\g d=some (.bl b,false)/\Q (.bl b) H):=by
 intro k s Y H n J Q I r h;obtain⟨O,d,x,b,rfl,hd,c,q⟩:=h;obtain⟨u,U,rfl,G,E⟩:=vf r;have:=B _ E;subst this;obtain⟨C,L,j,m,rfl,v,hk⟩:=A _ _ c;cases v;obtain⟨a,J,rfl,oth,_⟩:=oj hd;cases G;obtain⟨_,o,e,h1,y,M⟩:=oth;exact kia_one (y a) I.kIn (show ObjOk X.prog X.w H s.heap a (.frz o (.own 0)) from I.hok a _ e).1 hk (λz=>nomatch z) λT=>⟨.bl _,H,I.tok _,rfl,q⟩
def Fs{g:D->Option (D×Bool)}{w2:V}{h:gD}{a:gG}(y:PO X e fa)(c:PE X a (tC w2))(f:RelV w2 h)(G: ∀s,RelV w2 s->s=h)(q: ∀d i,g d=some i-> ∃C b r t,d= .oth (.exc C) r t/\i=(.bl b,false)/\kitOne X.K (.ref C) h=some b)
  (u:Gl X "isinstance")(A:X.mg "isinstance"=none)(hv:bootBuiltins "isinstance"=some (.builtin "isinstance"))(s1:starEach [e,a] X.env=(false,eval e X.env)::starEach [a] X.env)(I:starEach [a] X.env=(false,eval a X.env)::starEach [] X.env)(w:(backTo pos (starEach [a] X.env)).any (·.1)=false):
  PX X (.Call (.Name "isinstance" p) [e,a] [] pos) (jn g fa):=by
 refine PX.imp (sV (Pu (X:=X) f G q) u A hv (ku y (ku c nR I) s1) (by decide) (by decide) s1 w) λO H Q f=>?_;obtain⟨J,T,N,L,E,e,k⟩:=f;obtain⟨⟨o,l⟩,h1,e⟩:=gu e;obtain⟨x,c,e⟩:=gu e;obtain⟨i,n,e⟩:=gu e;obtain⟨rfl,rfl⟩:=gX e;obtain⟨C,b,r,t,rfl,rfl,hk⟩:=q _ _ n;refine⟨J,T,o,l,E,h1,λv M m=>?_⟩;have B:=Ops.cons E m (Ops.nil (m.er E));exact⟨_,_,v,b,rfl,B.view (j:=0) rfl rfl c,n,(B.done k).bl⟩
structure ClT(K:Frag)(mg:jY)(CL:iP)(D0:Nat)(z:Str):Prop where
 mg:mg z=some (.ref D0)
 is: ∀C∈CL,kitOne K (.ref C) (.ref D0)=some (C==D0)
def xE(T:Tx X.mg)(c:ClT X.K X.mg CL D0 z)(g:QO X e fa)(b:Gl X "isinstance":=by rfl)(a:Gl X z:=by rfl)(j:DB z:=by decide)(s1:starEach [e,.Name z p2] X.env=(false,eval e X.env)::starEach [.Name z p2] X.env:=by rfl)(l:SE X (.Name z p2) []:=by rfl)(f:BA X pos [.Name z p2]:=by rfl):
  QX X (.Call (.Name "isinstance" p) [e,.Name z p2] [] pos) (jn (vP CL D0) fa):=⟨Fs (w2:= .ref D0) g.h (Fw a c.mg rfl j) rfl (λu h=>by cases h;rfl) (λd n h=>by
 unfold vP at h;split at h
 ·rename_i C k m;obtain⟨i,rfl⟩:=hV h;exact⟨C,_,k,m,rfl,rfl,c.is C (by simpa using i)⟩
 ·cases h) b T.n_isinstance lT s1 l f⟩
def xEV(T:Tx X.mg)(b:X.mg "ValueError"=none)(hk: ∀C∈CL,kitOne X.K (.ref C) (.type "ValueError")=some true)(g:QO X e fa)(c:Gl X "isinstance":=by rfl)(a:Gl X "ValueError":=by rfl)(s1:starEach [e,.Name "ValueError" p2] X.env=(false,eval e X.env)::starEach [.Name "ValueError" p2] X.env:=by rfl)(k:SE X (.Name "ValueError" p2) []:=by rfl)(f:BA X pos [.Name "ValueError" p2]:=by rfl):
  QX X (.Call (.Name "isinstance" p) [e,.Name "ValueError" p2] [] pos) (jn (Py CL) fa):=⟨Fs (w2:= .ty "ValueError") g.h (vV (v:= .ty "ValueError") a b (by decide+kernel) rfl (by decide) (by decide)) rfl (λu h=>by cases h;rfl) (λd m h=>by
 unfold Py at h;split at h
 ·rename_i C j l;obtain⟨i,rfl⟩:=hV h;exact⟨C,_,j,l,rfl,rfl,hk C (by simpa using i)⟩
 ·cases h) c T.n_isinstance lT s1 k f⟩
variable {x:Str}{i kk:Nat}{b8 apos:Pos}{a:gG}{f:F}
def Sn(hv:QO X (.Name x b8) (gv i))(g:attributeBase (.Name x b8) "index" X.env (eval (.Name x b8) X.env)=eval (.Name x b8) X.env:=by rfl)
  (j:((backTo pos (starEach [.Constant (.bool true) kk p2] X.env)).all (λx=>!x.1)&&(backToKw pos (keywordEach [] X.env)).all (λx=>x.1.isSome)&&decide ([Expr.Constant (.bool true) kk p2].length+([]:List Keyword).length+(if([]:List Keyword).isEmpty then 0 else 1)<30))=true:=by rfl)
  (d:(apos.endLine==pos.line)=true:=by rfl)(b:SE X (.Constant (.bool true) kk p2) []:=by rfl)(c:BA X pos []:=by rfl):QX X (.Call (.Attribute (.Name x b8) "index" apos) [.Constant (.bool true) kk p2] [] pos) (ML i):=⟨IV hv.h g j d b c⟩
end
def Oy(Z:ZZ)(k:Nat)(x:Str)(b:hG)(c:List D->Option Str):Prop:= ∃f a,FnOk Z.P Z.w Z.K Z.mg Z.base (CXx Z.P Z.w) k f a b (spR Z.K Z.mg c)/\Z.mg x=some (.ref f)/\keepIn Z.K (.ref f)=true/\Binds Z.K a b []
theorem Oy.up{Z:ZZ}{k j:Nat}{x:Str}{c:hG}{d:List D->Option Str}(o:Oy Z k x c d)(h:k<=j:=by decide):Oy Z j x c d:=let⟨f,e,a,b⟩:=o;⟨f,e,a.mono h,b⟩
def oyB{Z:ZZ}{k:Nat}{x:Str}{st:Stmt}{N e:hG}{xs:XS}(a:Fz Z.K Z.mg x st)(S:FnScope N e (gz st))(b:BdA x st e)
  (i: ∀(f:gw) (d:gD) (A:gS) (c:List Env) (s:gA) (H:Hp) (E:XK),Room k (A.deeper (envOfC x (gz st) s.heap.objs.size f d))->un (A.deeper (envOfC x (gz st) s.heap.objs.size f d)) 60->un (A.deeper (envOfC x (gz st) s.heap.objs.size f d)) 1->un (A.deeper (envOfC x (gz st) s.heap.objs.size f d)) 62->N.Nodup->
   PZs (nk (CXx Z.P Z.w) Z.P Z.w Z.K Z.mg Z.base N x (gz st) f d A c s H E) E (jX st) xs):Oy Z (k+1) x e (xcF N.length e.length xs):=
 let⟨f,h,m,F⟩:=a
 ⟨f,h,ME F S λd A c s H E g=>by
  have:=g.un;exact i f d A c s H E g (by unfold un;omega) (by unfold un;omega) (by unfold un;omega) S.nd,m,F.kp,F.binds b⟩
def ClX(Z:ZZ)(z:Str):Prop:= ∃C,Z.mg z=some (.ref C)/\excIn Z.K C veB "ValueError.__new__"=true
section
variable {X:Cx}{P:gY}{w:gP}{d:List Env}{o:Hp}{s0:gA}{E:XK}{A:iI}{st:Stmt}{i b:List Stmt}{x y:XS}{e:gG}{g p r:Pos}{f:FS}{z:Str}{a:gG}{n:F}{k:Nat}{q:hG}{l:List D->Option Str}{j:jh}{fs:List FO}{m:FT}{c:gG}
def zN(h1:QS X A (λ_=>True) (λ_=>none) st f)(s:PZs X E i x):PZs X E (st::i) (Ge f x):=NJ h1.h s
def zR(G:XeOk X P w d o s0 E)(c:ClX (zX X) z)(t:QX X a n)(u:X.calm=true:=by rfl)(v:Gl X z:=by rfl)(hd:DB z:=by decide)(C:starEach [a] X.env=[(false,eval a X.env)]:=by rfl):PZ X E (.Raise (some (.Call (.Name z p) [a] [] r)) none g) (wB z n):=
 let⟨_,B,s⟩:=c;Lb G u s B v t.h hd C
def zI(t:QT X c m)(s:PZs X E i x):PZ X E (.If c i b g) (zIf m x zNo):=Sf t.h s Se
def zC(L:XeOk X P w d o s0 E)(O:Oy (zX X) k z q l)(H:Room k X.A)(t:QA X (e::j) fs)(B:Gl X z:=by rfl)(J:DB z:=by decide)(v:SE X e j:=by rfl)(s:BA X g j:=by rfl)(G:X.prog=P:=by rfl)(I:X.w=w:=by rfl):PZE X E (.Call (.Name z p) (e::j) [] g) (By l fs):=by
 subst G;subst I;obtain⟨f,M,F,C,hk,u⟩:=O;exact NK L F H B C hk u t.h J v s
end
def HZ{P:gY}{w:gP}{K:Frag}{d:jY}{base:gR}{N:hG}{q:Str}{scope:iG}{c:gw}{cd:gD}{b:jL}{A:gS}{a:List Env}{s:gA}{H:Hp}{E:XK}:
  XeOk (qd (CXx P w) P w K d base N q scope c cd b A a s H E) P w a H s E:=⟨rfl,rfl,rfl,rfl,rfl,rfl,rfl,rfl,λ_ _ h=>h⟩
def MX(q:Str)(a:gw)(H:Hp):Prop:= ∃more,H a=some (.tbl (#[.str q 0]++more))
def spT(TB:List (Addr×Str))(a:Sp):Sp:=λb H Q E=>(∀p∈TB,MX p.2 p.1 H)/\a b H Q E
structure TabX(X:Cx)(Pt:gw):Prop where
 t:MX (X.env.qual++"<lambda>") Pt X.H₀
 c: ∃c,X.env.code= .ref c/\CodeHd X.base c Pt
 b:X.base.BuiltinsAt X.mg Pt
 g:mainGlobals≠Pt
def Rf(Z:ZZ)(st:Stmt)(NR:hG)(a f m n l:Str)(i j k:Nat)(c:iP)(h:FS)(g:Str->Option Nat):Prop:=
 ∃d e CR,Fun Z.K a a st d e/\Binds Z.K e [f] []/\Z.mg a=some (.ref d)/\(∀X:Cx,zX X=Z->RefBody X st NR d a f m n l CR i j (k+1) c h)/\ ∀z b,g z=some b->Z.mg z=some (.ref b)/\ClK Z.K b CR
def Es(scope:iG):Bool:=decide (scope.kind= .function)&&!scope.isCoroutine&&!scope.isGenerator&&(scope.names.all λy=>y.2 != .cell)
def Ro{scope:iG}(h:Es scope=true):LamScope scope:=by
 unfold Es at h;simp only[ko,nu,rp,Bool.not_eq_true',bne_iff_ne] at h;exact⟨h.1.1.1,h.1.1.2,h.1.2,h.2⟩
def xRf{X:Cx}{C:gw}{d:Arguments}{f:gG}{scope:iG}{p y pf:Pos}{l:iP}{N' NR:hG}{v:F}{xB:XS}{u:FS}{r:Str->Option Nat}{asg:iP}{st:Stmt}{q xc xr xx xn:Str}{i j k:Nat}
  (R:Rf (zX X) st NR q xc xr xx xn i j k asg u r)(tb:TabX X C)(hr:Room (k+2) X.A)(z:CompOk X N' scope l 0)(B:Es scope=true)
  (Y: ∀(o:gw) (m:jL) (n:gw) (A:gS) (e:List Env) (s:gA) (H:Hp) (E:XK),Room k (A.deeper (xQ (X.env.qual++"<lambda>") scope s.heap.objs.size o (.ref n) m))->
   QX (qd (CXx X.prog X.w) X.prog X.w X.K X.mg X.base N' (X.env.qual++"<lambda>") scope o (.ref n) m A e s H E) f v/\PZE (qd (CXx X.prog X.w) X.prog X.w X.K X.mg X.base N' (X.env.qual++"<lambda>") scope o (.ref n) m A e s H E) E f xB)
  (M:Gl X q:=by rfl)(L:DB q:=by decide)(J: ∀x,X.fn x=true:=by exact λ_=>rfl)(G:defaultsOf d X.env=([],[]):=by rfl)(l9: ∀m pm n m6,bindArgs (kla_fn "<lambda>" (X.env.qual++"<lambda>") d f scope m pm (.ref n) m6) ⟨[],[]⟩=pure []:=by exact λ_ _ _ _=>rfl)
  (he:SE X (.Lambda d f scope y) []:=by rfl)(Q:BA X p []:=by rfl):
  QX X (.Call (.Name q pf) [.Lambda d f scope y] [] p) (Kr l v xB NR.length i u r):=by
 obtain⟨W,V,CR,F,N,P,U,O⟩:=R;obtain⟨more,S⟩:=tb.t;obtain⟨c,D,T⟩:=tb.c;exact⟨Od (U X rfl) F N M P L J hr S D T tb.b tb.g z (Ro B) G l9 he Q O λo m n A e s H E I=>let⟨a,b⟩:=Y o m n A e s H E I;⟨a.h,b⟩⟩
def walkT{l:OpenLaw}{q:gY}{m:hG}{XP:(Str->Option Value)->Heap->Prop}{E:World->Heap->Prop}{d:DefRec}{K:Params->Frag}{LV:Nat}{x:Str}{N:EvF}{TB:List (Addr×Str)}(hk:Room LV callerA)(hn:l.most=some 63)(cq:d.params.defaults=[])(hY: ∀(w:gP) (h:gR),E w h->(K w.params).In h)
  (J: ∀(w:gP) (h:gR),E w h-> ∀p∈TB,h.get? p.1=some (tabObj #[]))(eM: ∀(w:gP),∀p∈TB,(K w.params).lookup p.1=none)(dC:(TB.map (·.1)).Nodup)
  (F: ∀(w:gP) (n:jY) (v:gw) (h:gR),(K w.params).In h->h.Ns mainGlobals n->n d.name=some (.ref v)-> ∃I:FuncData,(∀(s:gA) (u:gD),BindsTo s I ⟨[u],[]⟩ [(x,u)])/\(∀p∈TB,∃c,codeHdIn (K w.params) c p.1=true)/\ ∀base:Heap,(K w.params).In base->base.Ns mainGlobals n->(∀p∈TB,base.BuiltinsAt n p.1)->FnOk l.prog w (K w.params) n base CX0 LV v I [x] (spT TB (spF (K w.params) N)))
  (M: ∀A:List Int,A.length<=63-> ∃o j,N [(.lst (A.map .int),false)]=some ((.bl true,o),j)):WalkO q m XP E l.row.toRowW d [] (λf B=>PySem.call f B):=by
 refine Att.MR hn cq λw U D n mb v o pm cd S a B A G Y ho hd k7 L P k i hg=>?_;have C:=hY w _ Y;obtain⟨I,hb,eL,hF⟩:=F w n v _ C G.T.g L;have Q:=J w _ Y;refine GO (TB:=TB) C G.T.g G.T.b G.T.builtins G.T.nolimit hg Q (eM w) (λp t=>?_) dC (λp t=>?_) P k (mQ i (by decide)) hk hF hb (λH O hS=>?_) λH e s' z=>z
 ·obtain⟨c,hc⟩:=eL p t;obtain⟨o,B,_,_,_,_,_,_,_,V,W,X,Z,_⟩:=codeHd_of_K C hc;exact⟨c,o,B,V,W,X,Z⟩
 ·obtain⟨R,ob,h1,h2,r,h4,h5,y⟩:=G.T.bmain;refine⟨R,ob,h1,h2,λz=>?_,λz=>?_,r,h4,h5,y⟩
  ·obtain⟨o',es,ep,e,dd,_⟩:=G.T.g;rw[z,e] at r;cases r;rw[dd] at y;cases y
  ·rw[z,Q p t] at r;cases r;cases y
 ·obtain⟨o,j,e⟩:=M A i;exact⟨λp t=>⟨#[],by rw[O.all p t];rfl⟩,Mx O.all hS e⟩
def Qa(TB:List (Addr×Str))(H:Hp):Prop:= ∀p∈TB,MX p.2 p.1 H
def fnU{Z:ZZ}{k:Nat}{x:Str}{st:Stmt}{N c:hG}{asg:iP}{fs:FS}{f:gw}{d:kS}{TB:List (Addr×Str)}(F:Fun Z.K x x st f d)(S:FnScope N c (gz st))
  (l: ∀(b:gD) (A:gS) (a:List Env) (s:gA) (H:Hp) (E:XK) (L:iI),(∀i,L i->i<c.length)->Room k (A.deeper (envOfC x (gz st) s.heap.objs.size f b))->
   un (A.deeper (envOfC x (gz st) s.heap.objs.size f b)) 60->un (A.deeper (envOfC x (gz st) s.heap.objs.size f b)) 1->un (A.deeper (envOfC x (gz st) s.heap.objs.size f b)) 62->un (A.deeper (envOfC x (gz st) s.heap.objs.size f b)) 90->N.Nodup->
   b=d.code->Qa TB H->QQ (nk CX0 Z.P Z.w Z.K Z.mg Z.base N x (gz st) f b A a s H E).nox (λi=>i∈asg) L H (jX st) fs):
  FnOk Z.P Z.w Z.K Z.mg Z.base CX0 (k+1) f d c (spT TB (spF Z.K (evF N.length c.length asg fs))):=by
 obtain⟨p,q,kV,g,r,o,b,ct,t,rfl,lk,m⟩:=F.ex;refine Kj lk m S (λn H Q E h=>Fi h.2) λA a s H n Q E e h=>?_;obtain⟨L,h1,j⟩:=IB h.2;have:=e.un;exact⟨_,((l b A a s H E L h1 e (by unfold un;omega) (by unfold un;omega) (by unfold un;omega) (by unfold un;omega) S.nd rfl h.1).h).nox,j⟩
def OzT(Z:ZZ)(TB:List (Addr×Str))(k:Nat)(x:Str)(b:hG)(c:EvF):Prop:= ∃f a,FnOk Z.P Z.w Z.K Z.mg Z.base CX0 k f a b (spT TB (spF Z.K c))/\Z.mg x=some (.ref f)/\keepIn Z.K (.ref f)=true/\Binds Z.K a b []
theorem OzT.up{Z:ZZ}{TB:List (Addr×Str)}{k j:Nat}{x:Str}{d:hG}{c:EvF}(o:OzT Z TB k x d c)(h:k<=j:=by decide):OzT Z TB j x d c:=let⟨f,e,a,b⟩:=o;⟨f,e,a.mono h,b⟩
def TbK(Z:ZZ)(TB:List (Addr×Str))(x:Str)(st:Stmt)(q:Str)(a:gw):Prop:= ∃f b c,Z.mg x=some (.ref f)/\Fun Z.K x x st f b/\b.code= .ref c/\CodeHd Z.base c a/\Z.base.BuiltinsAt Z.mg a/\mainGlobals≠a/\(a,q)∈TB
def T6{Z:ZZ}{k:Nat}{x q:Str}{st:Stmt}{N g:hG}{e:iP}{fs:FS}{f c d:gw}{h:kS}{TB:List (Addr×Str)}(F:Fun Z.K x x st f h)(u:h.code= .ref c)(o:CodeHd Z.base c d)(n:Z.base.BuiltinsAt Z.mg d)(y:mainGlobals≠d)(z:(d,q)∈TB)(S:FnScope N g (gz st))
  (t: ∀(f:gw) (b:gD) (A:gS) (a:List Env) (s:gA) (H:Hp) (E:XK) (L:iI),(∀i,L i->i<g.length)->Room k (A.deeper (envOfC x (gz st) s.heap.objs.size f b))->
   un (A.deeper (envOfC x (gz st) s.heap.objs.size f b)) 60->un (A.deeper (envOfC x (gz st) s.heap.objs.size f b)) 1->un (A.deeper (envOfC x (gz st) s.heap.objs.size f b)) 62->un (A.deeper (envOfC x (gz st) s.heap.objs.size f b)) 90->N.Nodup->
   TabX (nk CX0 Z.P Z.w Z.K Z.mg Z.base N x (gz st) f b A a s H E).nox d->QQ (nk CX0 Z.P Z.w Z.K Z.mg Z.base N x (gz st) f b A a s H E).nox (λi=>i∈e) L H (jX st) fs)
  (B: ∀(L f:gw) (cd:gD),(envOfC x (gz st) L f cd).qual++"<lambda>"=q:=by exact λ_ _ _=>rfl):FnOk Z.P Z.w Z.K Z.mg Z.base CX0 (k+1) f h g (spT TB (spF Z.K (evF N.length g.length e fs))):=
 fnU F S λb A a s H E L p C h1 j l m G v r=>t f b A a s H E L p C h1 j l m G ⟨by
  show MX ((envOfC x (gz st) s.heap.objs.size f b).qual++"<lambda>") d H;rw[B];exact r _ z,⟨c,v.trans u,o⟩,n,y⟩
def FzT(K:Frag)(d:jY)(x:Str)(st:Stmt)(b:gw):Prop:= ∃f a c,d x=some (.ref f)/\Fun K x x st f a/\a.code= .ref c/\codeHdIn K c b=true
def fzT{K:Frag}{h:gR}{g:jY}{x:Str}{st:Stmt}{f c d:gw}{m:gD}{n i:Option Addr}{p:pj}{kV b o ct:gD}(X:K.In h)(G:h.Ns mainGlobals g)(a:nsIn K mainGlobals x=some (some (.ref f)))
  (l:K.lookup f=some ⟨m,n,.func (fnOf x x (oR st) (jX st) (gz st) .none kV b o i (.ref c) ct),p⟩)(e:codeIn K (.ref c) x=true)(k:keepIn K (.ref f)=true)(j:codeHdIn K c d=true):FzT K g x st d:=⟨f,_,c,mg_of X G a,Ki l e k,rfl,j⟩
def FzT.tb{Z:ZZ}{x q:Str}{st:Stmt}{b:gw}{TB:List (Addr×Str)}(a:FzT Z.K Z.mg x st b)(X:Z.K.In Z.base)(B: ∀p∈TB,Z.base.BuiltinsAt Z.mg p.1)(m:(b,q)∈TB)(i:mainGlobals≠b:=by decide):TbK Z TB x st q b:=
 let⟨f,d,c,h1,e,g,h⟩:=a
 ⟨f,d,c,h1,e,g,codeHd_of_K X h,B _ m,i,m⟩
def FzT.cd{K:Frag}{d:jY}{x:Str}{st:Stmt}{b:gw}(a:FzT K d x st b): ∃c,codeHdIn K c b=true:=let⟨_,_,c,_,_,_,h⟩:=a;⟨c,h⟩
def ozT{Z:ZZ}{k:Nat}{x q:Str}{st:Stmt}{N g:hG}{asg:iP}{fs:FS}{h:gw}{TB:List (Addr×Str)}(a:TbK Z TB x st q h)(S:FnScope N g (gz st))(b:BdA x st g)
  (r: ∀(f:gw) (e:gD) (A:gS) (d:List Env) (s:gA) (H:Hp) (E:XK) (L:iI),(∀i,L i->i<g.length)->Room k (A.deeper (envOfC x (gz st) s.heap.objs.size f e))->
   un (A.deeper (envOfC x (gz st) s.heap.objs.size f e)) 60->un (A.deeper (envOfC x (gz st) s.heap.objs.size f e)) 1->un (A.deeper (envOfC x (gz st) s.heap.objs.size f e)) 62->un (A.deeper (envOfC x (gz st) s.heap.objs.size f e)) 90->N.Nodup->
   TabX (nk CX0 Z.P Z.w Z.K Z.mg Z.base N x (gz st) f e A d s H E).nox h->QQ (nk CX0 Z.P Z.w Z.K Z.mg Z.base N x (gz st) f e A d s H E).nox (λi=>i∈asg) L H (jX st) fs)
  (t: ∀(L f:gw) (cd:gD),(envOfC x (gz st) L f cd).qual++"<lambda>"=q:=by exact λ_ _ _=>rfl):OzT Z TB (k+1) x g (evF N.length g.length asg fs):=
 let⟨f,j,c,m,F,h1,l,n,o,p⟩:=a
 ⟨f,j,T6 F h1 l n o p S r t,m,F.kp,F.binds b⟩
section
variable {X:Cx}{k:Nat}{f:gw}{i:kS}{d:hG}{x:Str}{p b:Pos}{e a:gG}{c:jh}{g:EvF}{fs:List FO}{j:FO}{TB:List (Addr×Str)}
def Jz{o:Sp}{t:TA}(F:FnOk X.prog X.w X.K X.mg X.base CX0 k f i d (spT TB o))(L:Qa TB X.H₀)(J:Room k X.A)(C:Gl X x)(E:X.mg x=some (.ref f))(hk:keepIn X.K (.ref f)=true)(z:Binds X.K i d [])
  (y:PA X (e::c) t)(M:(x==("__debug__":Str))=false)(B:starEach (e::c) X.env=(false,eval e X.env)::starEach c X.env)(v:(backTo b (starEach c X.env)).any (·.1)=false):
  PE X (.Call (.Name x p) (e::c) [] b) (Nb o [] L2.E0 t):=by
 intro l s O H Q I h;refine rA (qu I C E ?_ M);refine PySem.W.callWith_K (h₀:=X.base) I.ok.mod.kin hk (thn (y b l s O H _ I h) λU s1 ⟨Y,T,n,r,q⟩=>⟨n.kIn,?_⟩) B v;exact IF F J z .nil Nn n r ⟨λp G=>let⟨m,e⟩:=L p G;let⟨N,u⟩:=n.base.tbls _ _ e;⟨m++N,by rw[u,As]⟩,q⟩
def xUT(O:OzT (zX X) TB k x d g)(M:Qa TB X.H₀)(L:Room k X.A)(C:QA X (e::c) fs)(I:Gl X x:=by rfl)(U:DB x:=by decide)
  (G:SE X e c:=by rfl)(z:BA X b c:=by rfl):QX X (.Call (.Name x p) (e::c) [] b) (gM g fs):=
 let⟨_,_,ok,J,Y,w⟩:=O;⟨PX.imp (Jz ok M L I J Y w C.h U G z) λR H Q N=>by
 obtain⟨D,T,V,F,E,e,k⟩:=N;obtain⟨⟨os,n⟩,h1,e⟩:=gu e;obtain⟨l,o,e⟩:=gu e;dsimp only at e;split at e
 ·rename_i q;obtain⟨⟨r,m⟩,y,e⟩:=gu e;obtain⟨rfl,rfl⟩:=gX e;refine⟨D,T,os,n,E,h1,λs u S B=>?_⟩;show spF X.K g (s++[]) u Q L2.E0;rw[rB];exact⟨Tc T R n s l,l,r,m,tY E B o q,y,λv t P=>k v t (tU E B o q P)⟩
 ·cases e⟩
def Sg(r:X.mg "sum"=none)(m:QA X [a] [j])(n:X.calm=true:=by rfl)(q:Gl X "sum":=by rfl)(o:SE X a []:=by rfl)(l:BA X b []:=by rfl):QX X (.Call (.Name "sum" p) [a] [] b) (gL (g1 Px) [j]):=
 ⟨Ft (G5 n) q r (by decide+kernel) m.h (by decide) (by decide) o l⟩
end
structure ClsK(K:Frag)(mg:jY)(ct rs:List (Str×Nat))(CR:Nat):Prop where
 m: ∀p∈ct,mg p.1=some (.ref p.2)
 mr: ∀p∈rs,mg p.1=some (.ref p.2)
 is: ∀p∈rs,∀r∈ct,kitOne K (.ref p.2) (.ref r.2)=some (p.2==r.2)
 ve: ∀p∈rs,kitOne K (.ref p.2) (.type "ValueError")=some true
 ck: ∀p∈rs,ClK K p.2 CR
 ex: ∀p∈rs,excIn K p.2 veB "ValueError.__new__"=true
 su:mg "sum"=none
 vm:mg "ValueError"=none
 re:mg "RiddleError"=some (.ref CR)
def aN{a:Type}{P:a->Prop}: ∀p∈([]:List a),P p:=λ_ h=>nomatch h
def aC{b:Type}{P:b->Prop}{a:b}{l:List b}(h:P a)(r: ∀p∈l,P p): ∀p∈a::l,P p:=List.forall_mem_cons.mpr ⟨h,r⟩
def ctD(ct:List (Str×Nat))(z:Str):Nat:=(ct.lookup z).getD 0
section
variable {Z:ZZ}{ct rs:List (Str×Nat)}{CR:Nat}
def lkM{z:Str}{C:Nat}(h:ct.lookup z=some C):(z,C)∈ct:=og h
theorem ClsK.x(c:ClsK Z.K Z.mg ct rs CR)(z:Str)(h:(rs.lookup z).isSome=true:=by decide):ClX Z z:=by
 obtain⟨C,a⟩:=Hd.mp h;exact⟨C,c.mr _ (lkM a),c.ex _ (lkM a)⟩
theorem ClsK.t(c:ClsK Z.K Z.mg ct rs CR)(z:Str)(h:(ct.lookup z).isSome=true:=by decide):ClT Z.K Z.mg (rs.map (·.2)) (ctD ct z) z:=by
 obtain⟨C,a⟩:=Hd.mp h;have:ctD ct z=C:=by unfold ctD;rw[a];rfl
 rw[this];refine⟨c.m _ (lkM a),λD b=>?_⟩;obtain⟨p,d,rfl⟩:=nv.mp b;exact c.is p d _ (lkM a)
theorem ClsK.v(c:ClsK Z.K Z.mg ct rs CR): ∀C∈rs.map (·.2),kitOne Z.K (.ref C) (.type "ValueError")=some true:=λD a=>by
 obtain⟨p,b,rfl⟩:=nv.mp a;exact c.ve p b
def ClsK.ci(c:ClsK Z.K Z.mg ct rs CR): ∀z a,rs.lookup z=some a->Z.mg z=some (.ref a)/\ClK Z.K a CR:=λz C h=>⟨c.mr _ (lkM h),c.ck _ (lkM h)⟩
end
end PX
namespace PV
open PySem PySem.Spec PyProof.Rows L2 PX
abbrev RP:Nat:=100000
abbrev RD:Nat:=6
def qa:FS:=(gE (jM (CP (jn (tL [.int]) (gv 0)) (MK (jn (tL [.bool]) (gv 0))))) gQ)
def nO:EvF:=evF 1 1 [] qa
def mK:FS:=(gE (jM (CP (gM nO [(gv 0)]) (uU .LtE .LtE (gv 1) (gv 0) (gv 2)))) gQ)
def kL:EvF:=evF 3 3 [] mK
def oO:FS:=(gE (jM (gM kL [(gv 1),(gx (fC (.int 1))),(gv 0)])) gQ)
def je:EvF:=evF 2 2 [] oO
def ly:FS:=(gE (sIf (fT (gB (kd .Lt) (gv 1) (gx (gL (g1 lY) [(gv 0)])))) (gE (jM (gB gIx (gv 0) (gv 1))) gQ) gQ) (gE (jM (fC (.int 0))) gQ))
def kG:EvF:=evF 2 2 [] ly
def mJ:FS:=(gE (iz 2 (gM kG [(gv 0),(gv 1)])) (gE (sIf (fT (gB (kd .GtE) (gv 2) (gx (gB xF (gx (fC (.int 10))) (gx (fC (.int 18))))))) (gE (jM (jG [(gB gSub (gv 2) (gx (gB xF (gx (fC (.int 10))) (gx (fC (.int 18)))))),(fC (.bl true))])) gQ) gQ) (gE (jM (jG [(gB tK (gv 2) (gx (fC (.int 2147483647)))),(fC (.bl false))])) gQ)))
def kK:EvF:=evF 3 2 [2] mJ
def nM:FS:=(gE (sIf (fT (gB gIx (gv 0) (gx (fC (.int 1))))) (gE (iz 2 (gB tK (gx (gB gIx (gv 0) (gx (fC (.int 0))))) (gv 1))) (gE (uI 0 (gB Kh (gx (gB gIx (gv 0) (gx (fC (.int 0))))) (gv 1)) (gx (fC (.int 0)))) (gE (oG 2) gQ))) gQ) (gE (uI 0 (gB tK (gx (gB kD (gx (gB pe (gx (gB gIx (gv 0) (gx (fC (.int 0))))) (gx (fC (.int 48271))))) (gx (fC (.int 29))))) (gx (fC (.int 2147483647)))) (gx (fC (.int 0)))) (gE (iz 3 (gB tK (gx (gB kD (gx (gB kD (gx (gB pe (gx (gB gIx (gv 0) (gx (fC (.int 0))))) (gx (gB gIx (gv 0) (gx (fC (.int 0))))))) (gx (gB pe (gx (fC (.int 39373))) (gx (gB gIx (gv 0) (gx (fC (.int 0))))))))) (gx (fC (.int 7))))) (gx (fC (.int 2147483629))))) (gE (iz 3 (gB tK (gx (gB kD (gx (gB pe (gv 3) (gv 3))) (gx (gB pe (gx (fC (.int 16807))) (gv 3))))) (gx (fC (.int 2147483587))))) (gE (jM (gB tK (gx (gB Kh (gv 3) (gx (fC (.int 8))))) (gv 1))) gQ)))))
def gJ:EvF:=evF 4 2 [2,3] nM
def pY:FS:=(gE (iz 2 (gL (gRg .lst true) [(gx (fC (.int 1))),(gx (gB kD (gv 1) (gx (fC (.int 1)))))])) (gE (iz 3 (jG [])) (gE (oH (vN (gv 1)) (gH 4) (gE (mB (jW 3 (gB pe (gx (rP 2 (gx (gM gJ [(gv 0),(gx (gL (g1 lY) [(gv 2)]))])))) (gx (gB gIx (gx (jG [(fC (.int 1)),(jn mI (gx (fC (.int 1))))])) (gx (gM gJ [(gv 0),(gx (fC (.int 2)))]))))))) gQ)) (gE (jM (gL (g1 kg) [(gv 3)])) gQ))))
def kF:EvF:=evF 5 2 [2,3,4] pY
def qU:FS:=(gE (iz 2 (gB gIx (gx (jG [(fC (.int 3)),(fC (.int 4)),(fC (.int 6))])) (gx (gM gJ [(gv 0),(gx (fC (.int 3)))])))) (gE (iz 3 (jG [])) (gE (oH (A5 (gx (fC (.int 1))) (gx (gB kD (gv 1) (gx (fC (.int 1)))))) (gH 4) (gE (iz 5 (gM gJ [(gv 0),(gv 2)])) (gE (sIf (fT (gB (kd .Lt) (gv 5) (gx (fC (.int 2))))) (gE (mB (jW 3 (gB gIx (gx (jG [(iH 4),(jn mI (gv 4))])) (gv 5)))) gQ) gQ) gQ))) (gE (sIf (fT (gB gEq (gv 3) (gx (jG [])))) (gE (mB (jW 3 (gB pe (gx (gB gIx (gx (jG [(fC (.int 1)),(jn mI (gx (fC (.int 1))))])) (gx (gM gJ [(gv 0),(gx (fC (.int 2)))])))) (gx (gB kD (gx (fC (.int 1))) (gx (gM gJ [(gv 0),(gv 1)]))))))) gQ) gQ) (gE (jM (gL (g1 kg) [(gv 3)])) gQ)))))
def lS:EvF:=evF 6 2 [2,3,4,5] qU
def mn:FS:=(gE (jM (gB pe (gx (gB gIx (gv 0) (gx (gB gSub (gx (gL (g1 ml) [(gv 1)])) (gx (fC (.int 1))))))) (gx (gB gIx (gx (jG [(jn mI (gx (fC (.int 1)))),(fC (.int 1))])) (gx (gL (g1 CH) [(gx (gB (kd .Gt) (gv 1) (gx (fC (.int 0)))))])))))) gQ)
def kj:EvF:=evF 2 2 [] mn
def nN:FS:=(gE (iz 2 Kt) (gE (oH (iN (iH 1)) (gH 3) (gE (iz 4 (gM kj [(gv 0),(gv 3)])) (gE (BY 2 (iH 4) (gx (gL (g1 ml) [(gv 4)]))) gQ))) (gE (jM (gL (g1 kg) [(gx (iO [2] 1 (iN (gL (g1 jk) [(gv 2)])) (gH 1) jK (iY (gB CG (gv 0) (gv 1)))))])) gQ)))
def jP:EvF:=evF 5 2 [2,3,4] nN
def qT:FS:=(gE (iz 2 (gL (g1 FR) [(gv 0)])) (gE (iz 3 (fC (.int 0))) (gE (nh (fT (gB (kd .Lt) (gv 3) (gx (gL (g1 lY) [(gv 2)])))) (gE (oH (iN (iH 1)) (gH 4) (gE (iz 5 (gM jP [(gv 4),(gx (gB gIx (gv 2) (gv 3)))])) (gE (sIf (fT (gB mh (gv 5) (gv 2))) (gE (mB (jW 2 (iH 5))) gQ) gQ) gQ))) (gE (iz 3 (gB kD (gv 3) (gx (fC (.int 1))))) gQ)) RP) (gE (oG 2) gQ))))
def lR:EvF:=evF 6 2 [2,3,4,5] qT
def qR:FS:=(gE (iz 3 (gB kD (gv 1) (gx (gM gJ [(gv 0),(gx (gB kD (gx (gB gSub (gv 2) (gv 1))) (gx (fC (.int 1)))))])))) (gE (iz 4 (gM gJ [(gv 0),(gx (fC (.int 4)))])) (gE (sIf (fT (gB gEq (gv 3) (gx (fC (.int 0))))) (gE (jM (nS [(fC (.int 0)),(nS [])])) gQ) gQ) (gE (iz 5 (gM gJ [(gv 0),(gx (gB gIx (gx (jG [(fC (.int 4)),(fC (.int 8)),(fC (.int 13))])) (gx (gM gJ [(gv 0),(gx (fC (.int 3)))]))))])) (gE (iz 6 (iO [0,3] 1 (vN (gv 5)) (gH 2) jK (iY (gM lS [(gv 0),(gv 1)])))) (gE (sIf (fT (gB (kd .Gt) (gv 4) (gx (fC (.int 0))))) (gE (iz 7 (iO [0,3] 1 (vN (gx (gB kD (gx (fC (.int 1))) (gx (gB tK (gv 4) (gx (fC (.int 2)))))))) (gH 2) jK (iY (gM kF [(gv 0),(gv 1)])))) (gE (sIf (fT (gB gEq (gv 4) (gx (fC (.int 3))))) (gE (iz 7 (iO [] 1 (iN (iH 7)) (gH 0) jK (iY (gL (g1 kg) [(gx (iO [] 1 (iN (iH 0)) (gH 0) jK (iY (gL (g1 ml) [(gv 0)]))))])))) gQ) gQ) (gE (iz 6 (gM lR [(gx (tQ (gx (gL (g1 jk) [(gx (gL (g1 yy) [(gv 6)]))])) (gx (fC (.int 2))))),(gv 7)])) gQ))) gQ) (gE (iz 6 (gL (g1 jk) [(gx (gL (g1 yy) [(gv 6)]))])) (gE (sIf (fT (gB (kd .Gt) (gx (gL (g1 lY) [(gv 6)])) (gx (fC (.int 30))))) (gE (iz 6 (tQ (gv 6) (gx (gM gJ [(gv 0),(gx (fC (.int 30)))])))) gQ) gQ) (gE (jM (nS [(iH 3),(gL (g1 kg) [(gv 6)])])) gQ)))))))))
def lQ:EvF:=evF 8 3 [3,4,5,6,7] qR
def uT:FS:=(gE (jM (gM kL [(gv 0),(gx (fC (.int 0))),(gx (fC (.int 1)))])) gQ)
def lJ:EvF:=evF 1 1 [] uT
def kE(ev:EvF):FS:=(gE (sIf (fT (jn (tL [.list,.tuple]) (gv 1))) (gE (sIf (Ks (fT (gB gNe (gx (jn (tL [.list]) (gv 0))) (gx (jn (tL [.list]) (gv 1))))) (fT (gB gNe (gx (jn (tL [.tuple]) (gv 0))) (gx (jn (tL [.tuple]) (gv 1)))))) (gE (jM (fC (.bl false))) gQ) gQ) (gE (jM (CP (gB gEq (gx (gL (g1 lY) [(gv 0)])) (gx (gL (g1 lY) [(gv 1)]))) (gL (g1 Ez) [(gx (iO [] 2 (uQ (gv 0) (gv 1)) (pO [(gH 0),(gH 1)]) jK (iY (gM ev [(gv 0),(gv 1)]))))]))) gQ)) gQ) (gE (jM (CP (gB gEq (gx (jn (tL [.bool]) (gv 0))) (gx (jn (tL [.bool]) (gv 1)))) (gB gEq (gv 0) (gv 1)))) gQ))
def jl:Nat->EvF
 |0=>λ_=>none
 |m+1=>evF 2 2 [] (kE (jl m))
def nL:FS:=(gE (sIf (fT (gB (kd .Lt) (gx (gL (g1 ml) [(gv 0)])) (gv 1))) (gE (jM (iH 0)) gQ) gQ) (gE (jM (fIf (fT (gB (kd .Gt) (gv 0) (gx (fC (.int 0))))) (gB gSub (gv 0) (gx (fC (.int 1)))) (gB kD (gv 0) (gx (fC (.int 1)))))) gQ))
def lh:EvF:=evF 2 2 [] nL
def oY:FS:=(gE (jM (gL (g1 kg) [(gx (iO [1] 1 (iN (iH 0)) (gH 1) (fT (gB gNe (gx (gL (g1 ml) [(gv 1)])) (gv 0))) (iY (gM lh [(gv 1),(gv 0)]))))])) gQ)
def ki:EvF:=evF 2 2 [] oY
def vB:FS:=(gE (Ea (pO [(gH 3),(gH 4)]) (iH 0)) (gE (sIf (lz (fT (gM je [(gv 3),(gv 1)]))) (gE pR gQ) gQ) (gE (sIf (lz (fT (gM lJ [(gv 2)]))) (gE pR gQ) gQ) (gE (iz 5 (fIf (fT (gB gEq (gv 2) (gx (fC (.int 1))))) (iH 1) (jn mI (gv 1)))) (gE (iz 6 (iO [1,5] 1 (iN (iH 4)) (gH 2) (fT (gB mh (gv 1) (gv 2))) (iY (gM ki [(gv 2),(gv 0)])))) (gE (sIf (fT (gB gIn (gx (nS [])) (gv 6))) (gE (jM (fC .non)) gQ) gQ) (gE (jM (nS [(gB gSub (gv 3) (gx (fC (.int 1)))),(gL (g1 kg) [(gx (gL (g1 jk) [(gx (gL (g1 yy) [(gv 6)]))]))])])) gQ)))))))
def kf:EvF:=evF 7 3 [3,4,5,6] vB
def CT:List (Str×Nat):=[("NoName",37),("NoBit",49),("NoTurning",61),("NoAnswer",73),("NoNumber",85),("NoClause",97),("NoPutting",109),("TooMany",121),("NoRiddle",133),("BadNote",145)]
def lg:XS:=(Ge (Ea (pO [(gH 3),(gH 4)]) (iH 0)) (zOr (zIf (lz (fT (gM je [(gv 3),(gv 1)]))) (wB "NoName" (fC (.str "that is no name of the riddle"))) zNo) (Ge (sIf (lz (fT (gM je [(gv 3),(gv 1)]))) (gE pR gQ) gQ) (zIf (lz (fT (gM lJ [(gv 2)]))) (wB "NoBit" (fC (.str "a bit is 0 or 1"))) zNo))))
def lW:List D->Option Str:=xcF 7 3 lg
def yh:List (Str×Nat):=[("NoName",37),("NoBit",49)]
def kc(ct rs:List (Str×Nat)):FS:=(gE (sIf (fT (gB gIs (gv 1) (gx (fC .non)))) (gE (jM (fC .non)) gQ) gQ) (gE (iz 3 (jG [(jn (vP (rs.map (·.2)) (ctD ct "NoName")) (gv 1)),(jn (vP (rs.map (·.2)) (ctD ct "NoBit")) (gv 1)),(jn (vP (rs.map (·.2)) (ctD ct "NoTurning")) (gv 1))])) (gE (iz 3 (gB kD (gv 3) (gx (jG [(jn (vP (rs.map (·.2)) (ctD ct "NoAnswer")) (gv 1)),(jn (vP (rs.map (·.2)) (ctD ct "NoNumber")) (gv 1)),(jn (vP (rs.map (·.2)) (ctD ct "NoClause")) (gv 1))])))) (gE (iz 3 (gB kD (gv 3) (gx (jG [(jn (vP (rs.map (·.2)) (ctD ct "NoPutting")) (gv 1)),(jn (vP (rs.map (·.2)) (ctD ct "TooMany")) (gv 1)),(jn (vP (rs.map (·.2)) (ctD ct "NoRiddle")) (gv 1))])))) (gE (mB (jW 3 (jn (vP (rs.map (·.2)) (ctD ct "BadNote")) (gv 1)))) (gE (sIf (Ks (lz (fT (jn (Py (rs.map (·.2))) (gv 1)))) (fT (gB gNe (gx (gL (g1 Px) [(gx (iO [] 1 (xw (gv 3)) (gH 0) jK (iY (gL (g1 CH) [(gv 0)]))))])) (gx (fC (.int 1)))))) (gE (jM (jn mI (gx (fC (.int 1))))) gQ) gQ) (gE (jM (ML 3)) gQ)))))))
def pZ:FS:=(gE (iz 3 (jG [])) (gE (oH (iN (gB gIx (gv 0) (gx (fC (.int 1))))) (gH 4) (gE (iz 5 (iO [1] 1 (iN (iH 4)) (gH 1) (fT (gB gNe (gx (gL (g1 ml) [(gv 1)])) (gv 0))) (iY (iH 1)))) (gE (sIf (ni (fT (gB (kd .Lt) (gx (gL (g1 lY) [(gv 5)])) (gx (gL (g1 lY) [(gv 4)])))) (fT (gB gIn (gx (gB gIx (gx (jG [(jn mI (gv 1)),(iH 1)])) (gv 2))) (gv 4)))) (gE (iz 5 (fC .non)) gQ) gQ) (gE (sIf (fT (gB gEq (gv 5) (gx (jG [])))) (gE (jM (fC .non)) gQ) gQ) (gE (sIf (fT (gB Ey (gv 5) (gx (fC .non)))) (gE (iz 6 (iO [1] 1 (iN (iH 5)) (gH 1) jK (iY (fIf (fT (gB (kd .Lt) (gx (gL (g1 ml) [(gv 1)])) (gv 0))) (iH 1) (gB gIx (gx (jG [(gB kD (gv 1) (gx (fC (.int 1)))),(gB gSub (gv 1) (gx (fC (.int 1))))])) (gx (gL (g1 CH) [(gx (gB (kd .Gt) (gv 1) (gx (fC (.int 0)))))]))))))) (gE (mB (jW 3 (gL (g1 kg) [(gv 6)]))) gQ)) gQ) gQ))))) (gE (jM (nS [(gB gSub (gx (gB gIx (gv 0) (gx (fC (.int 0))))) (gx (fC (.int 1)))),(gL (g1 kg) [(gx (gL (g1 jk) [(gx (gL (g1 yy) [(gv 3)]))]))])])) gQ)))
def lA:EvF:=evF 7 3 [3,4,5,6] pZ
def tM:FS:=(gE (jM (Kr [0,1,2] (gM kf [(gv 0),(gv 1),(gv 2)]) (By lW [(gv 0),(gv 1),(gv 2)]) 4 1 (kc CT yh) (λz=>yh.lookup z))) gQ)
def jg:EvF:=evF 3 3 [] tM
def xG:FS:=(gE (oH (vN (gx (gL (g2 Kg) [(gx (fC (.int 1))),(gx (gL (g2 Kf) [(gx (gL (g1 lY) [(gv 0)])),(gx (fC (.int 8)))]))]))) (gH 1) (gE (iz 2 (gM kK [(gv 0),(gv 1)])) (gE (iz 3 (gM lQ [(gv 2),(gx (fC (.int 0))),(gx (fC (.int 5)))])) (gE (iz 4 (gB gIx (gv 3) (gx (fC (.int 0))))) (gE (oH (A5 (gx (fC (.int 1))) (gx (gB kD (gv 4) (gx (fC (.int 1)))))) (gH 5) (gE (oH (iN (nS [(fC (.int 0)),(fC (.int 1))])) (gH 6) (gE (sIf (lz (fT (gM (jl RD) [(gx (gM kf [(gv 3),(gv 5),(gv 6)])),(gx (gM lA [(gv 3),(gv 5),(gv 6)]))]))) (gE (jM (fC (.bl false))) gQ) gQ) gQ)) gQ)) (gE (iz 7 (gB gIx (gx (jG [(fC (.int 0)),(gB kD (gv 4) (gx (fC (.int 1)))),(jn mI (gx (fC (.int 1)))),(fC (.bl true)),(fC .non),(fC (.str "1")),(nS [(fC (.int 1))]),(gB xF (gx (fC (.int 10))) (gx (fC (.int 29)))),(fC (.bl false)),(jG [(fC (.int 1))])])) (gx (gM gJ [(gv 2),(gx (fC (.int 10)))])))) (gE (iz 8 (gB gIx (gx (jG [(fC (.int 2)),(jn mI (gx (fC (.int 1)))),(fC (.bl true)),(fC (.bl false)),(fC .non),(fC (.str "0")),(nS [(fC (.int 0))]),(gB xF (gx (fC (.int 10))) (gx (fC (.int 29)))),(jG [(fC (.int 0))]),(fC (.str "1"))])) (gx (gM gJ [(gv 2),(gx (fC (.int 10)))])))) (gE (oH (iN (nS [(fC (.int 0)),(fC (.int 1)),(iH 8)])) (gH 6) (gE (sIf (fT (gB gNe (gx (gM jg [(gv 3),(gv 7),(gv 6)])) (gx (fC (.int 0))))) (gE (jM (fC (.bl false))) gQ) gQ) gQ)) (gE (sIf (ni (fT (gB (kd .Gt) (gv 4) (gx (fC (.int 0))))) (fT (gB gNe (gx (gM jg [(gv 3),(gx (gB kD (gx (fC (.int 1))) (gx (gM gJ [(gv 2),(gv 4)])))),(gv 8)])) (gx (fC (.int 1)))))) (gE (jM (fC (.bl false))) gQ) gQ) gQ))))))))) (gE (jM (fC (.bl true))) gQ))
def qV:EvF:=evF 9 1 [1,2,3,4,5,6,7,8] xG
end PV
namespace K13
open PySem PySem.Spec PyProof.Rows L2 PX PV
def top(i:Nat):Stmt:=PySem.Challenge.pw_twinriddles_k13_riddles_narrowed.main.body.getD i (.Pass ⟨0,0,0,0⟩)
abbrev TB13:List (Addr×Str):=[(275,"_law_asked.<locals>.<lambda>")]
section
variable {Z:ZZ}{k:Nat}
abbrev oF:Stmt:=top 13
def BX:FnScope ["thing"] ["thing"] (gz oF):=scM
abbrev xl(Z:ZZ)(k:Nat):Prop:=Oz Z k "is_whole" ["thing"] nO
def C9:BdA "is_whole" oF ["thing"]:=λ_ _ _ _ _ _=>us1 λ_=>us0 rfl
def Cg(a:Fz Z.K Z.mg "is_whole" oF)(T:Tx Z.mg):xl Z (k+1):=by
 have S:=BX;refine ozB (asg:=[]) (fs:=qa) a S C9 λf c A b s H E L d e g i h j l=>?_;exact(s1 (sR (Lc (xI T rfl xV) (xBo (Sk (xI T rfl xV))))) s0)
abbrev nH:Stmt:=top 14
def AJ:FnScope ["thing","least","most"] ["thing","least","most"] (gz nH):=scM
abbrev pV(Z:ZZ)(k:Nat):Prop:=Oz Z k "is_number" ["thing","least","most"] kL
def Bp:BdA "is_number" nH ["thing","least","most"]:=λ_ _ _ _ _ _=>us1 λ_=>us1 λ_=>us1 λ_=>us0 rfl
def AU(a:Fz Z.K Z.mg "is_number" nH)(T:Tx Z.mg)(b:xl Z k):pV Z (k+1):=by
 have S:=AJ;refine ozB (asg:=[]) (fs:=mK) a S Bp λf e A c s H E L g d h j i l m=>?_;exact(s1 (sR (Lc (xU b d (xA xV xA0)) (xBo (xCh xV xV xV)))) s0)
abbrev sP:Stmt:=top 15
def Gv:FnScope ["thing"] ["thing"] (gz sP):=scM
abbrev xm(Z:ZZ)(k:Nat):Prop:=Oz Z k "is_bit" ["thing"] lJ
def G9:BdA "is_bit" sP ["thing"]:=λ_ _ _ _ _ _=>us1 λ_=>us0 rfl
def GJ(a:Fz Z.K Z.mg "is_bit" sP)(T:Tx Z.mg)(d:pV Z k):xm Z (k+1):=by
 have S:=Gv;refine ozB (asg:=[]) (fs:=uT) a S G9 λf e A b s H E L g c h j i l m=>?_;exact(s1 (sR (xU d c (xA xV (xA (xO x3) (xA (xO x3) xA0))))) s0)
abbrev qo:Stmt:=top 16
def D9:FnScope ["names","thing"] ["names","thing"] (gz qo):=scM
abbrev uL(Z:ZZ)(k:Nat):Prop:=Oz Z k "is_name" ["names","thing"] je
def ET:BdA "is_name" qo ["names","thing"]:=λ_ _ _ _ _ _=>us1 λ_=>us1 λ_=>us0 rfl
def En(a:Fz Z.K Z.mg "is_name" qo)(T:Tx Z.mg)(d:pV Z k):uL Z (k+1):=by
 have S:=D9;refine ozB (asg:=[]) (fs:=oO) a S ET λf e A b s H E L g c h j i l m=>?_;exact(s1 (sR (xU d c (xA xV (xA (xO x3) (xA xV xA0))))) s0)
abbrev oD:Stmt:=top 17
def BU:FnScope ["sign","name"] ["sign","name"] (gz oD):=scM
abbrev xj(Z:ZZ)(k:Nat):Prop:=Oz Z k "moved_up" ["sign","name"] lh
def C7:BdA "moved_up" oD ["sign","name"]:=λ_ _ _ _ _ _=>us1 λ_=>us1 λ_=>us0 rfl
def Ce(a:Fz Z.K Z.mg "moved_up" oD)(T:Tx Z.mg):xj Z (k+1):=by
 have S:=BU;refine ozB (asg:=[]) (fs:=nL) a S C7 λf d A b s H E L e g c i h j l=>?_;exact(s1 (sI (tCmp ⟨(kI (.inl rfl) c)⟩ (xO (xB T rfl ⟨lL⟩ (xA xV xA0))) xV) (s1 (sR xW) s0) s0) (s1 (sR (xIf (tCmp ⟨(kI (.inr (.inr (.inl rfl))) c)⟩ xV (xO x3)) (jI ⟨oI⟩ xV (xO x3)) (jI ⟨jH⟩ xV (xO x3)))) s0))
abbrev ll:Stmt:=top 18
def vJ:FnScope ["clause","name"] ["clause","name"] (gz ll):=scM
abbrev mY(Z:ZZ)(k:Nat):Prop:=Oz Z k "without_name" ["clause","name"] ki
def vQ:BdA "without_name" ll ["clause","name"]:=λ_ _ _ _ _ _=>us1 λ_=>us1 λ_=>us0 rfl
def vL(a:Fz Z.K Z.mg "without_name" ll)(T:Tx Z.mg)(b:xj Z k):mY Z (k+1):=by
 have S:=vJ;refine ozB (asg:=[]) (fs:=oY) a S vQ λf h A c s H E L i e g l j m d=>?_;exact(s1 (sR (xT T rfl ⟨jS⟩ (xA (xO (by exact xC (N':=["name","sign"]) (cOk S) (by decide+kernel) (iS xW) λ_ _ _ _ _ _ d=>⟨(gN d),(f1 (tCmp ⟨(rL g)⟩ (xO (xB T rfl ⟨lL⟩ (xA xV xA0))) xV)),λ_=>bE (xU b e (xA xV (xA xV xA0)))⟩)) xA0))) s0)
abbrev mV:Stmt:=top 19
def vn:FnScope ["riddle","name","bit","names","clauses","so","rest"] ["riddle","name","bit"] (gz mV):=scM
abbrev rN(Z:ZZ)(k:Nat):Prop:=Oz Z k "narrowed" ["riddle","name","bit"] kf
def vF:BdA "narrowed" mV ["riddle","name","bit"]:=λ_ _ _ _ _ _=>us1 λ_=>us1 λ_=>us1 λ_=>us0 rfl
abbrev wC(Z:ZZ)(k:Nat):Prop:=Oy Z k "narrowed" ["riddle","name","bit"] lW
def Bz{CR:Nat}(a:Fz Z.K Z.mg "narrowed" mV)(T:Tx Z.mg)(e:ClsK Z.K Z.mg CT yh CR)(g:uL Z k)(j:xm Z k)(b:mY Z k):wC Z (k+1):=by
 have S:=vn;have p:= @uE;refine oyB (xs:=lg) a S vF λf l A d s H E c m o n h=>?_;exact(zN (A:=λi=>i<40) (sT xW (gT (gN h) (gN h))) (Sd (Av (zI (tNot (AD (xU g c (xA xV (xA xV xA0))))) (Av (zR uE (e.x "NoName") x4)))) (zN (A:=λi=>i<40) (sI (tNot (AD (xU g c (xA xV (xA xV xA0))))) (s1 sX s0) s0) (Av (zI (tNot (AD (xU j c (xA xV xA0)))) (Av (zR uE (e.x "NoBit") x4)))))))
def Cd(a:Fz Z.K Z.mg "narrowed" mV)(T:Tx Z.mg)(h:uL Z k)(l:xm Z k)(b:mY Z k):rN Z (k+1):=by
 have S:=vn;refine ozB (asg:=[3,4,5,6]) (fs:=vB) a S vF λf m A g s H E L n d e o i j c=>?_;exact(s1 (sT xW (gT (gN c) (gN c))) (s1 (sI (tNot (AD (xU h d (xA xV (xA xV xA0))))) (s1 sX s0) s0) (s1 (sI (tNot (AD (xU l d (xA xV xA0)))) (s1 sX s0) s0) (s1 (sS c (xIf (tCmp ⟨(pT e)⟩ xV (xO x3)) xW (Ax xV))) (s1 (sC (N':=["name","so","clause"]) c (cOk S) (by decide+kernel) (iS xW) λ_ _ _ _ _ _ c=>⟨(gN c),(f1 (tCmp ⟨(yT e)⟩ xV xV)),λ_=>bE (xU b d (xA xV (xA xV xA0)))⟩) (s1 (sI (tCmp ⟨(JG e)⟩ (xO (yj xL0)) xV) (s1 (sR x1) s0) s0) (s1 (sR (yj (xL (jI ⟨oI⟩ xV (xO x3)) (xL (xT T rfl ⟨jS⟩ (xA (xO (xB T rfl ⟨(lB rfl i)⟩ (xA (xO (xT T rfl ⟨(qx rfl j)⟩ (xA xV xA0))) xA0))) xA0)) xL0)))) s0)))))))
abbrev lO:Stmt:=top 21
def wN:FnScope ["_law_script","_law_k"] ["_law_script","_law_k"] (gz lO):=scM
abbrev qP(Z:ZZ)(k:Nat):Prop:=Oz Z k "_law_cell_at" ["_law_script","_law_k"] kG
def yc:BdA "_law_cell_at" lO ["_law_script","_law_k"]:=λ_ _ _ _ _ _=>us1 λ_=>us1 λ_=>us0 rfl
def xi(a:Fz Z.K Z.mg "_law_cell_at" lO)(T:Tx Z.mg):qP Z (k+1):=by
 have S:=wN;refine ozB (asg:=[]) (fs:=ly) a S yc λf d A b s H E L e g c i h j l=>?_;exact(s1 (sI (tCmp ⟨(kI (.inl rfl) c)⟩ xV (xO (xB T rfl ⟨kN⟩ (xA xV xA0)))) (s1 (sR (xIx xV xV)) s0) s0) (s1 (sR x3) s0))
abbrev nE:Stmt:=top 22
def AH:FnScope ["_law_script","_law_k","_law_cell"] ["_law_script","_law_k"] (gz nE):=scM
abbrev vt(Z:ZZ)(k:Nat):Prop:=Oz Z k "_law_state" ["_law_script","_law_k"] kK
def Bn:BdA "_law_state" nE ["_law_script","_law_k"]:=λ_ _ _ _ _ _=>us1 λ_=>us1 λ_=>us0 rfl
def AR(a:Fz Z.K Z.mg "_law_state" nE)(T:Tx Z.mg)(b:qP Z k):vt Z (k+1):=by
 have S:=AH;refine ozB (asg:=[2]) (fs:=mJ) a S Bn λf h A c s H E L i d e l j m g=>?_;exact(s1 (sS g (xU b d (xA xV (xA xV xA0)))) (s1 (sI (tCmp ⟨(kI (.inr (.inr (.inr rfl))) e)⟩ xV (xO (jI ⟨vW⟩ (xO x3) (xO x3)))) (s1 (sR (ny (xL (jI ⟨oI⟩ xV (xO (jI ⟨vW⟩ (xO x3) (xO x3)))) (xL x2 xL0)))) s0) s0) (s1 (sR (ny (xL (jI ⟨oJ⟩ xV (xO x3)) (xL x2 xL0)))) s0)))
abbrev oE:Stmt:=top 23
def BV:FnScope ["_law_state_here","_law_many","_law_found","_law_mixed"] ["_law_state_here","_law_many"] (gz oE):=scM
abbrev mZ(Z:ZZ)(k:Nat):Prop:=Oz Z k "_law_take" ["_law_state_here","_law_many"] gJ
def C8:BdA "_law_take" oE ["_law_state_here","_law_many"]:=λ_ _ _ _ _ _=>us1 λ_=>us1 λ_=>us0 rfl
def Cf(a:Fz Z.K Z.mg "_law_take" oE)(T:Tx Z.mg):mZ Z (k+1):=by
 have S:=BV;refine ozB (asg:=[2,3]) (fs:=nM) a S C8 λf e A c s H E L d g i l j m b=>?_;exact(s1 (sI (AD (xIx xV (xO x3))) (s1 (sS b (jI ⟨oJ⟩ (xO (xIx xV (xO x3))) xV)) (s1 (sIx xV (jI ⟨FA⟩ (xO (xIx xV (xO x3))) xV) (xO x3)) (s1 (sRV (λh=>absurd (d _ h) (by decide))) s0))) s0) (s1 (sIx xV (jI ⟨oJ⟩ (xO (jI ⟨jH⟩ (xO (jI ⟨nJ⟩ (xO (xIx xV (xO x3))) (xO x3))) (xO x3))) (xO x3)) (xO x3)) (s1 (sS b (jI ⟨oJ⟩ (xO (jI ⟨jH⟩ (xO (jI ⟨jH⟩ (xO (jI ⟨nJ⟩ (xO (xIx xV (xO x3))) (xO (xIx xV (xO x3))))) (xO (jI ⟨nJ⟩ (xO x3) (xO (xIx xV (xO x3))))))) (xO x3))) (xO x3))) (s1 (sS b (jI ⟨oJ⟩ (xO (jI ⟨jH⟩ (xO (jI ⟨nJ⟩ xV xV)) (xO (jI ⟨nJ⟩ (xO x3) xV)))) (xO x3))) (s1 (sR (jI ⟨oJ⟩ (xO (jI ⟨FA⟩ xV (xO x3))) xV)) s0)))))
abbrev km:Stmt:=top 24
def wM:FnScope ["_law_call","_law_error","e","_law_sorts"] ["_law_call"] (gz km):=scM
def yb:BdA "_law_refused" km ["_law_call"]:=λ_ _ _ _ _ _=>us1 λ_=>us0 rfl
abbrev qN(Z:ZZ)(k:Nat):Prop:=Rf Z km ["_law_call","_law_error","e","_law_sorts"] "_law_refused" "_law_call" "RiddleError" "_law_error" "e" 1 2 k [1,2,3] (kc CT yh) (λz=>yh.lookup z)
def xh{CR:Nat}(a:Fz Z.K Z.mg "_law_refused" km)(T:Tx Z.mg)(b:ClsK Z.K Z.mg CT yh CR):qN Z k:=by
 have S:=wM;obtain⟨f,g,m,F⟩:=a;refine⟨f,g,CR,F,F.binds yb,m,λX i=>?_,b.ci⟩;subst i;refine⟨S,by decide,rfl,rfl,by decide,by decide,rfl,rfl,rfl,rfl,b.re,by decide,_,_,_,_,_,_,_,_,_,_,_,rfl,λe A d s H L n j=>?_⟩;have c:=S.nd;have o:=j.un;have l:un (A.deeper (envOfC "_law_refused" (gz km) s.heap.objs.size f e)) 60:=by unfold un;omega
 refine⟨rfl,rfl,QS.h (show QS _ _ _ _ _ _ from(sS c x1)),QQ.h (show QQ _ _ _ _ _ (kc CT yh) from(s1 (sI (tCmp ⟨OX⟩ xV (xO x1)) (s1 (sR x1) s0) s0) (s1 (sS c (ny (xL (xE T (b.t "NoName") xV) (xL (xE T (b.t "NoBit") xV) (xL (xE T (b.t "NoTurning") xV) xL0))))) (s1 (sS c (jI ⟨jH⟩ xV (xO (ny (xL (xE T (b.t "NoAnswer") xV) (xL (xE T (b.t "NoNumber") xV) (xL (xE T (b.t "NoClause") xV) xL0))))))) (s1 (sS c (jI ⟨jH⟩ xV (xO (ny (xL (xE T (b.t "NoPutting") xV) (xL (xE T (b.t "TooMany") xV) (xL (xE T (b.t "NoRiddle") xV) xL0))))))) (s1 (sE (Gf xV (xE T (b.t "BadNote") xV))) (s1 (sI (tW (wOr (tNot (AD (xEV T b.vm b.v xV))) (Qs (tCmp ⟨(rL l)⟩ (xO (Sg b.su (xA (xO (by exact xC (N':=["_law_one"]) (cOk S) (by decide+kernel) (iSV xV) λ_ _ _ _ _ _ c=>⟨(gN c),f0,λ_=>bE (xT T rfl ⟨uW⟩ (xA xV xA0))⟩)) xA0))) (xO x3))))) (s1 (sR (Ax (xO x3))) s0) s0) (s1 (sR (Sn xV)) s0))))))))⟩
abbrev mG:Stmt:=top 25
def yo:FnScope ["_law_state_here","_law_names","_law_far","_law_found","_law_name","_law_kind"] ["_law_state_here","_law_names"] (gz mG):=scM
abbrev tu(Z:ZZ)(k:Nat):Prop:=Oz Z k "_law_clause" ["_law_state_here","_law_names"] lS
def yE:BdA "_law_clause" mG ["_law_state_here","_law_names"]:=λ_ _ _ _ _ _=>us1 λ_=>us1 λ_=>us0 rfl
def yt(a:Fz Z.K Z.mg "_law_clause" mG)(T:Tx Z.mg)(b:mZ Z k):tu Z (k+1):=by
 have S:=yo;refine ozB (asg:=[2,3,4,5]) (fs:=qU) a S yE λf h A e s H E L i c g l j m d=>?_;exact(s1 (sS d (xIx (xO (ny (xL x3 (xL x3 (xL x3 xL0))))) (xO (xU b c (xA xV (xA (xO x3) xA0)))))) (s1 (sS d (ny xL0)) (s1 (sF (iR2 T (xA (xO x3) (xA (xO (jI ⟨jH⟩ xV (xO x3))) xA0))) (gN d) (s1 (sS d (xU b c (xA xV (xA xV xA0)))) (s1 (sI (tCmp ⟨(kI (.inl rfl) g)⟩ xV (xO x3)) (s1 (sE (Gf xV (xIx (xO (ny (xL xW (xL (Ax xV) xL0)))) xV))) s0) s0) s0))) (s1 (sI (tCmp ⟨(pT g)⟩ xV (xO (ny xL0))) (s1 (sE (Gf xV (jI ⟨nJ⟩ (xO (xIx (xO (ny (xL x3 (xL (Ax (xO x3)) xL0)))) (xO (xU b c (xA xV (xA (xO x3) xA0)))))) (xO (jI ⟨jH⟩ (xO x3) (xO (xU b c (xA xV (xA xV xA0))))))))) s0) s0) (s1 (sR (xT T rfl ⟨jS⟩ (xA xV xA0))) s0)))))
abbrev lN:Stmt:=top 26
def wK:FnScope ["_law_state_here","_law_names","_law_rest","_law_found","_law_turn"] ["_law_state_here","_law_names"] (gz lN):=scM
abbrev qO(Z:ZZ)(k:Nat):Prop:=Oz Z k "_law_turning" ["_law_state_here","_law_names"] kF
def ya:BdA "_law_turning" lN ["_law_state_here","_law_names"]:=λ_ _ _ _ _ _=>us1 λ_=>us1 λ_=>us0 rfl
def xg(a:Fz Z.K Z.mg "_law_turning" lN)(T:Tx Z.mg)(d:mZ Z k):qO Z (k+1):=by
 have S:=wK;refine ozB (asg:=[2,3,4]) (fs:=pY) a S ya λf g A c s H E L h e i l j m b=>?_;exact(s1 (sS b (Si T rfl (xA (xO x3) (xA (xO (jI ⟨jH⟩ xV (xO x3))) xA0)))) (s1 (sS b (ny xL0)) (s1 (sF (iR1 T (xA xV xA0)) (gN b) (s1 (sE (Gf xV (jI ⟨nJ⟩ (xO (Sj xV (xO (xU d e (xA xV (xA (xO (xB T rfl ⟨kN⟩ (xA xV xA0))) xA0)))))) (xO (xIx (xO (ny (xL x3 (xL (Ax (xO x3)) xL0)))) (xO (xU d e (xA xV (xA (xO x3) xA0))))))))) s0)) (s1 (sR (xT T rfl ⟨jS⟩ (xA xV xA0))) s0))))
abbrev lq:Stmt:=top 27
def vK:FnScope ["_law_turning_here","_law_sign"] ["_law_turning_here","_law_sign"] (gz lq):=scM
abbrev pU(Z:ZZ)(k:Nat):Prop:=Oz Z k "_law_led_sign" ["_law_turning_here","_law_sign"] kj
def vR:BdA "_law_led_sign" lq ["_law_turning_here","_law_sign"]:=λ_ _ _ _ _ _=>us1 λ_=>us1 λ_=>us0 rfl
def vM(a:Fz Z.K Z.mg "_law_led_sign" lq)(T:Tx Z.mg):pU Z (k+1):=by
 have S:=vK;refine ozB (asg:=[]) (fs:=mn) a S vR λf d A b s H E L e g c i h j l=>?_;exact(s1 (sR (jI ⟨nJ⟩ (xO (xIx xV (xO (jI ⟨oI⟩ (xO (xB T rfl ⟨lL⟩ (xA xV xA0))) (xO x3))))) (xO (xIx (xO (ny (xL (Ax (xO x3)) (xL x3 xL0)))) (xO (xT T rfl ⟨uW⟩ (xA (xO (H9 ⟨(kI (.inr (.inr (.inl rfl))) c)⟩ xV (xO x3))) xA0))))))) s0)
abbrev kH:Stmt:=top 28
def sN:FnScope ["_law_turning_here","_law_clause_here","_law_found","_law_sign","_law_there"] ["_law_turning_here","_law_clause_here"] (gz kH):=scM
abbrev oz(Z:ZZ)(k:Nat):Prop:=Oz Z k "_law_led_clause" ["_law_turning_here","_law_clause_here"] jP
def uf:BdA "_law_led_clause" kH ["_law_turning_here","_law_clause_here"]:=λ_ _ _ _ _ _=>us1 λ_=>us1 λ_=>us0 rfl
def sZ(a:Fz Z.K Z.mg "_law_led_clause" kH)(T:Tx Z.mg)(b:pU Z k):oz Z (k+1):=by
 have S:=sN;refine ozB (asg:=[2,3,4]) (fs:=nN) a S uf λf i A d s H E L j g l e h m c=>?_;exact(s1 (sS c x7) (s1 (sF (iS xW) (gN c) (s1 (sS c (xU b g (xA xV (xA xV xA0)))) (s1 (sDP e xV xW (xO (xB T rfl ⟨lL⟩ (xA xV xA0)))) s0))) (s1 (sR (xT T rfl ⟨jS⟩ (xA (xO (by exact xC (N':=["_law_found","_law_name"]) (cOk S) (by decide+kernel) (iS (xB T rfl ⟨(lB rfl h)⟩ (xA xV xA0))) λ_ _ _ _ _ _ c=>⟨(gN c),f0,λ_=>bE (Sm e xV xV)⟩)) xA0))) s0)))
abbrev mF:Stmt:=top 30
def yn:FnScope ["_law_clauses","_law_turnings","_law_found","_law_at","_law_turning_here","_law_there"] ["_law_clauses","_law_turnings"] (gz mF):=scM
abbrev tj(Z:ZZ)(k:Nat):Prop:=Oz Z k "_law_closed" ["_law_clauses","_law_turnings"] lR
def yD:BdA "_law_closed" mF ["_law_clauses","_law_turnings"]:=λ_ _ _ _ _ _=>us1 λ_=>us1 λ_=>us0 rfl
def yq(a:Fz Z.K Z.mg "_law_closed" mF)(T:Tx Z.mg)(b:oz Z k):tj Z (k+1):=by
 have S:=yn;refine ozB (asg:=[2,3,4,5]) (fs:=qT) a S yD λf j A d s H E L g i e m l n c=>?_;exact(s1 (sS c (xT T rfl ⟨EN⟩ (xA xV xA0))) (s1 (sS c x3) (s1 (sW (tCmp ⟨(kI (.inl rfl) e)⟩ xV (xO (xB T rfl ⟨kN⟩ (xA xV xA0)))) (s1 (sF (iS xW) (gN c) (s1 (sS c (xU b i (xA xV (xA (xO (xIx xV xV)) xA0)))) (s1 (sI (tCmp ⟨(yT e)⟩ xV xV) (s1 (sE (Gf xV xW)) s0) s0) s0))) (s1 (sS c (jI ⟨jH⟩ xV (xO x3))) s0))) (s1 (sRV (λh=>absurd (g _ h) (by decide))) s0))))
abbrev mE:Stmt:=top 31
def ym:FnScope ["_law_state_here","_law_least","_law_most","_law_names","_law_kind","_law_many","_law_clauses","_law_turnings"] ["_law_state_here","_law_least","_law_most"] (gz mE):=scM
abbrev tf(Z:ZZ)(k:Nat):Prop:=Oz Z k "_law_riddle" ["_law_state_here","_law_least","_law_most"] lQ
def yC:BdA "_law_riddle" mE ["_law_state_here","_law_least","_law_most"]:=λ_ _ _ _ _ _=>us1 λ_=>us1 λ_=>us1 λ_=>us0 rfl
def yp(a:Fz Z.K Z.mg "_law_riddle" mE)(T:Tx Z.mg)(h:mZ Z k)(c:tu Z k)(b:qO Z k)(d:tj Z k):tf Z (k+1):=by
 have S:=ym;refine ozB (asg:=[3,4,5,6,7]) (fs:=qR) a S yC λf n A j s H E L o g i p l m e=>?_;exact(s1 (sS e (jI ⟨jH⟩ xV (xO (xU h g (xA xV (xA (xO (jI ⟨jH⟩ (xO (jI ⟨oI⟩ xV xV)) (xO x3))) xA0)))))) (s1 (sS e (xU h g (xA xV (xA (xO x3) xA0)))) (s1 (sI (tCmp ⟨(pT i)⟩ xV (xO x3)) (s1 (sR (yj (xL x3 (xL (yj xL0) xL0)))) s0) s0) (s1 (sS e (xU h g (xA xV (xA (xO (xIx (xO (ny (xL x3 (xL x3 (xL x3 xL0))))) (xO (xU h g (xA xV (xA (xO x3) xA0)))))) xA0)))) (s1 (sC (N':=["_law_state_here","_law_names","_law_turn"]) e (cOk S) (by decide+kernel) (iR1 T (xA xV xA0)) λ_ _ _ _ _ _ e=>⟨(gN e),f0,λ_=>bE (xU c g (xA xV (xA xV xA0)))⟩) (s1 (sI (tCmp ⟨(kI (.inr (.inr (.inl rfl))) i)⟩ xV (xO x3)) (s1 (sC (N':=["_law_state_here","_law_names","_law_turn"]) e (cOk S) (by decide+kernel) (iR1 T (xA (xO (jI ⟨jH⟩ (xO x3) (xO (jI ⟨oJ⟩ xV (xO x3))))) xA0)) λ_ _ _ _ _ _ e=>⟨(gN e),f0,λ_=>bE (xU b g (xA xV (xA xV xA0)))⟩) (s1 (sI (tCmp ⟨(pT i)⟩ xV (xO x3)) (s1 (sC (N':=["_law_turning_here"]) e (cOk S) (by decide+kernel) (iS xW) λ_ _ _ _ _ _ e=>⟨(gN e),f0,λ_=>bE (xT T rfl ⟨jS⟩ (xA (xO (by exact xC (N':=["_law_sign"]) (KA rfl rfl (by with_unfolding_all rfl)) (by decide+kernel) (iS xW) λ_ _ _ _ _ _ e=>⟨(gN e),f0,λ_=>bE (xB T rfl ⟨lL⟩ (xA xV xA0))⟩)) xA0))⟩) s0) s0) (s1 (sS e (xU d g (xA (xO (Qo (xO (xB T rfl ⟨(lB rfl l)⟩ (xA (xO (xT T rfl ⟨(qx rfl m)⟩ (xA xV xA0))) xA0))) (xO x3))) (xA xV xA0)))) s0))) s0) (s1 (sS e (xB T rfl ⟨(lB rfl l)⟩ (xA (xO (xT T rfl ⟨(qx rfl m)⟩ (xA xV xA0))) xA0))) (s1 (sI (tCmp ⟨(kI (.inr (.inr (.inl rfl))) i)⟩ (xO (xB T rfl ⟨kN⟩ (xA xV xA0))) (xO x3)) (s1 (sS e (Qo xV (xO (xU h g (xA xV (xA (xO x3) xA0)))))) s0) s0) (s1 (sR (yj (xL xW (xL (xT T rfl ⟨jS⟩ (xA xV xA0)) xL0)))) s0)))))))))
abbrev mW:Stmt:=top 32
def BW:FnScope ["_law_found","_law_due_here"] ["_law_found","_law_due_here"] (gz mW):=scM
abbrev Eo(Z:ZZ)(k:Nat):Prop:=Oz Z k "_law_same" ["_law_found","_law_due_here"] (jl RD)
def vG:BdA "_law_same" mW ["_law_found","_law_due_here"]:=λ_ _ _ _ _ _=>us1 λ_=>us1 λ_=>us0 rfl
def AQ{c:EvF}(a:Fz Z.K Z.mg "_law_same" mW)(T:Tx Z.mg)(h:Oz Z k "_law_same" ["_law_found","_law_due_here"] c):Oz Z (k+1) "_law_same" ["_law_found","_law_due_here"] (evF 2 2 [] (kE c)):=by
 have S:=BW;refine ozB (asg:=[]) (fs:=kE c) a S vG λf i A e s H E L j g b m l n d=>?_;exact(s1 (sI (AD (xI2 T rfl rfl xV)) (s1 (sI (tW (wOr (tCmp ⟨(rL b)⟩ (xO (xI T rfl xV)) (xO (xI T rfl xV))) (Qs (tCmp ⟨(rL b)⟩ (xO (xI T rfl xV)) (xO (xI T rfl xV)))))) (s1 (sR x2) s0) s0) (s1 (sR (Lc (H9 ⟨(pT b)⟩ (xO (xB T rfl ⟨kN⟩ (xA xV xA0))) (xO (xB T rfl ⟨kN⟩ (xA xV xA0)))) (xBo (xB T rfl ⟨(G8 rfl)⟩ (xA (xO (by exact xC (N':=["_law_one","_law_other"]) (cOk S) (by decide+kernel) (iZV T xV xV) λ_ _ _ _ _ _ d=>⟨(gT (gN d) (gN d)),f0,λ_=>bE (xU h g (xA xV (xA xV xA0)))⟩)) xA0))))) s0)) s0) (s1 (sR (Lc (H9 ⟨(pT b)⟩ (xO (xI T rfl xV)) (xO (xI T rfl xV))) (xBo (H9 ⟨(pT b)⟩ xV xV)))) s0))
theorem vq(a:Fz Z.K Z.mg "_law_same" mW)(T:Tx Z.mg): ∀m,Oz Z m "_law_same" ["_law_found","_law_due_here"] (jl m)
 |0=>oz0 a vG
 |m+1=>AQ a T (vq a T m)
abbrev qm:Stmt:=top 33
def D8:FnScope ["_law_riddle_here","_law_name","_law_bit","_law_found","_law_clause_here","_law_rest","_law_moved"] ["_law_riddle_here","_law_name","_law_bit"] (gz qm):=scM
abbrev yV(Z:ZZ)(k:Nat):Prop:=Oz Z k "_law_due" ["_law_riddle_here","_law_name","_law_bit"] lA
def ES:BdA "_law_due" qm ["_law_riddle_here","_law_name","_law_bit"]:=λ_ _ _ _ _ _=>us1 λ_=>us1 λ_=>us1 λ_=>us0 rfl
def Em(a:Fz Z.K Z.mg "_law_due" qm)(T:Tx Z.mg):yV Z (k+1):=by
 have S:=D8;refine ozB (asg:=[3,4,5,6]) (fs:=pZ) a S ES λf h A d s H E L i j c l e g b=>?_;exact(s1 (sS b (ny xL0)) (s1 (sF (iS (xIx xV (xO x3))) (gN b) (s1 (sC (N':=["_law_name","_law_sign"]) b (cOk S) (by decide+kernel) (iS xW) λ_ _ _ _ _ _ b=>⟨(gN b),(f1 (tCmp ⟨(rL c)⟩ (xO (xB T rfl ⟨lL⟩ (xA xV xA0))) xV)),λ_=>bE xW⟩) (s1 (sI (tW (Qt (tCmp ⟨(kI (.inl rfl) c)⟩ (xO (xB T rfl ⟨kN⟩ (xA xV xA0))) (xO (xB T rfl ⟨kN⟩ (xA xV xA0)))) (M8 (tCmp ⟨(JG c)⟩ (xO (xIx (xO (ny (xL (Ax xV) (xL xW xL0)))) xV)) xV)))) (s1 (sS b x1) s0) s0) (s1 (sI (tCmp ⟨(pT c)⟩ xV (xO (ny xL0))) (s1 (sR x1) s0) s0) (s1 (sI (tCmp ⟨GH⟩ xV (xO x1)) (s1 (sC (N':=["_law_name","_law_sign"]) b (cOk S) (by decide+kernel) (iS xW) λ_ _ _ _ _ _ b=>⟨(gN b),f0,λ_=>bE (xIf (tCmp ⟨(kI (.inl rfl) c)⟩ (xO (xB T rfl ⟨lL⟩ (xA xV xA0))) xV) xW (xIx (xO (ny (xL (jI ⟨jH⟩ xV (xO x3)) (xL (jI ⟨oI⟩ xV (xO x3)) xL0)))) (xO (xT T rfl ⟨uW⟩ (xA (xO (H9 ⟨(kI (.inr (.inr (.inl rfl))) c)⟩ xV (xO x3))) xA0)))))⟩) (s1 (sE (Gf xV (xT T rfl ⟨jS⟩ (xA xV xA0)))) s0)) s0) s0))))) (s1 (sR (yj (xL (jI ⟨oI⟩ (xO (xIx xV (xO x3))) (xO x3)) (xL (xT T rfl ⟨jS⟩ (xA (xO (xB T rfl ⟨(lB rfl e)⟩ (xA (xO (xT T rfl ⟨(qx rfl g)⟩ (xA xV xA0))) xA0))) xA0)) xL0)))) s0)))
abbrev nG:Stmt:=top 34
def AI:FnScope ["_law_riddle_here","_law_name","_law_bit"] ["_law_riddle_here","_law_name","_law_bit"] (gz nG):=scM
def Bo:BdA "_law_asked" nG ["_law_riddle_here","_law_name","_law_bit"]:=λ_ _ _ _ _ _=>us1 λ_=>us1 λ_=>us1 λ_=>us0 rfl
abbrev vh(Z:ZZ)(k:Nat):Prop:=OzT Z TB13 k "_law_asked" ["_law_riddle_here","_law_name","_law_bit"] jg
def AS(a:TbK Z TB13 "_law_asked" nG "_law_asked.<locals>.<lambda>" 275)(T:Tx Z.mg)(c:qN Z k)(b:rN Z k)(d:wC Z k):vh Z (k+3):=by
 have S:=AI;have e:=b.up (j:=k+2) (by omega);refine ozT (asg:=[]) (fs:=tM) a S Bo λf i A h s H E L l g m o n p q tb=>?_;exact(s1 (sR (xRf (N':=["_law_riddle_here","_law_name","_law_bit"]) c tb g (cOk S) (by decide+kernel) λ_ _ _ _ _ _ _ _ g=>⟨xU b g (xA xV (xA xV (xA xV xA0))),zC HZ d g (xA xV (xA xV (xA xV xA0)))⟩)) s0)
abbrev Fm:Stmt:=top 35
def N0:FnScope ["_law_script","_law_k","_law_state_here","_law_riddle_here","_law_names","_law_name","_law_bit","_law_odd","_law_bad"] ["_law_script"] (gz Fm):=scM
def P8:BdA "law" Fm ["_law_script"]:=λ_ _ _ _ _ _=>us1 λ_=>us0 rfl
def Pg{f:gw}{m:kS}(F:Fun Z.K "law" "law" Fm f m)(T:Tx Z.mg)(c:vt Z k)(b:tf Z k)(d:rN Z k)(e:yV Z k)(n:Eo Z k)(i:mZ Z k)(a:vh Z k):FnOk Z.P Z.w Z.K Z.mg Z.base CX0 (k+1) f m ["_law_script"] (spT TB13 (spF Z.K qV)):=by
 have S:=N0;refine fnU (asg:=[1,2,3,4,5,6,7,8]) (fs:=xG) F S λo A l s H E L p g j r q t h _ tT=>?_;exact(s1 (sF (iR1 T (xA (xO (xB T rfl ⟨(EM rfl)⟩ (xA (xO x3) (xA (xO (xB T rfl ⟨(EL rfl)⟩ (xA (xO (xB T rfl ⟨kN⟩ (xA xV xA0))) (xA (xO x3) xA0)))) xA0)))) xA0)) (gN h) (s1 (sS h (xU c g (xA xV (xA xV xA0)))) (s1 (sS h (xU b g (xA xV (xA (xO x3) (xA (xO x3) xA0))))) (s1 (sS h (xIx xV (xO x3))) (s1 (sF (iR2 T (xA (xO x3) (xA (xO (jI ⟨jH⟩ xV (xO x3))) xA0))) (gN h) (s1 (sF (iS (yj (xL x3 (xL x3 xL0)))) (gN h) (s1 (sI (tNot (AD (xU n g (xA (xO (xU d g (xA xV (xA xV (xA xV xA0))))) (xA (xO (xU e g (xA xV (xA xV (xA xV xA0))))) xA0))))) (s1 (sR x2) s0) s0) s0)) s0)) (s1 (sS h (xIx (xO (ny (xL x3 (xL (jI ⟨jH⟩ xV (xO x3)) (xL (Ax (xO x3)) (xL x2 (xL x1 (xL x4 (xL (yj (xL x3 xL0)) (xL (jI ⟨vW⟩ (xO x3) (xO x3)) (xL x2 (xL (ny (xL x3 xL0)) xL0)))))))))))) (xO (xU i g (xA xV (xA (xO x3) xA0)))))) (s1 (sS h (xIx (xO (ny (xL x3 (xL (Ax (xO x3)) (xL x2 (xL x2 (xL x1 (xL x4 (xL (yj (xL x3 xL0)) (xL (jI ⟨vW⟩ (xO x3) (xO x3)) (xL (ny (xL x3 xL0)) (xL x4 xL0)))))))))))) (xO (xU i g (xA xV (xA (xO x3) xA0)))))) (s1 (sF (iS (yj (xL x3 (xL x3 (xL xW xL0))))) (gN h) (s1 (sI (tCmp ⟨(rL j)⟩ (xO (xUT a tT g (xA xV (xA xV (xA xV xA0))))) (xO x3)) (s1 (sR x2) s0) s0) s0)) (s1 (sI (tW (Qt (tCmp ⟨(kI (.inr (.inr (.inl rfl))) j)⟩ xV (xO x3)) (M8 (tCmp ⟨(rL j)⟩ (xO (xUT a tT g (xA xV (xA (xO (jI ⟨jH⟩ (xO x3) (xO (xU i g (xA xV (xA xV xA0)))))) (xA xV xA0))))) (xO x3))))) (s1 (sR x2) s0) s0) s0))))))))) (s1 (sR x2) s0))
end
def all_mk{l:PySem.W.OpenLaw}{w:gP}{K:gW}{a:jY}{Q:gw}(cM:a "law"=some (.ref Q))(T:Tx a)
  (a0:Fz K a "is_whole" oF)
  (a1:Fz K a "is_number" nH)
  (a2:Fz K a "is_bit" sP)
  (a3:Fz K a "is_name" qo)
  (a4:Fz K a "moved_up" oD)
  (a5:Fz K a "without_name" ll)
  (O:Fz K a "narrowed" mV)
  (a7:Fz K a "_law_cell_at" lO)
  (a8:Fz K a "_law_state" nE)
  (a9:Fz K a "_law_take" oE)
  (t:Fz K a "_law_refused" km)
  (u:Fz K a "_law_clause" mG)
  (x:Fz K a "_law_turning" lN)
  (y:Fz K a "_law_led_sign" lq)
  (z:Fz K a "_law_led_clause" kH)
  (A:Fz K a "_law_closed" mF)
  (B:Fz K a "_law_riddle" mE)
  (C:Fz K a "_law_same" mW)
  (E:Fz K a "_law_due" qm)
  (b:FzT K a "_law_asked" nG 275)
  (G:Fz K a "law" Fm)
  (H:ClsK K a CT yh 24)
  : ∃e:FuncData,(∀(s:gA) (v:gD),BindsTo s e ⟨[v],[]⟩ [("_law_script",v)])/\(∀p∈TB13,∃c,PySem.W.codeHdIn K c p.1=true)/\ ∀base:Heap,K.In base->base.Ns mainGlobals a->(∀p∈TB13,base.BuiltinsAt a p.1)->FnOk l.prog w K a base CX0 9 Q e ["_law_script"] (spT TB13 (spF K qV)):=by
 obtain⟨e,F,V⟩:=fzL G cM P8;refine⟨e,V,aC b.cd (aN),λbase KB _ U=>?_⟩;have Y:=Cg (Z:=⟨l.prog,w,K,a,base⟩) (k:=0) a0 T;have I:=AU (Z:=⟨l.prog,w,K,a,base⟩) (k:=1) a1 T Y.up;have J:=GJ (Z:=⟨l.prog,w,K,a,base⟩) (k:=2) a2 T I.up;have L:=En (Z:=⟨l.prog,w,K,a,base⟩) (k:=2) a3 T I.up;have D:=Ce (Z:=⟨l.prog,w,K,a,base⟩) (k:=0) a4 T;have M:=vL (Z:=⟨l.prog,w,K,a,base⟩) (k:=1) a5 T D.up;have N:=Cd (Z:=⟨l.prog,w,K,a,base⟩) (k:=3) O T L.up J.up M.up;have S:=Bz (Z:=⟨l.prog,w,K,a,base⟩) (k:=3) O T H L.up J.up M.up;have P:=xi (Z:=⟨l.prog,w,K,a,base⟩) (k:=0) a7 T;have R:=AR (Z:=⟨l.prog,w,K,a,base⟩) (k:=1) a8 T P.up;have d:=Cf (Z:=⟨l.prog,w,K,a,base⟩) (k:=0) a9 T;have f:=xh (Z:=⟨l.prog,w,K,a,base⟩) (k:=4) t T H;have g:=yt (Z:=⟨l.prog,w,K,a,base⟩) (k:=1) u T d.up;have h:=xg (Z:=⟨l.prog,w,K,a,base⟩) (k:=1) x T d.up;have i:=vM (Z:=⟨l.prog,w,K,a,base⟩) (k:=0) y T;have j:=sZ (Z:=⟨l.prog,w,K,a,base⟩) (k:=1) z T i.up;have m:=yq (Z:=⟨l.prog,w,K,a,base⟩) (k:=2) A T j.up;have n:=yp (Z:=⟨l.prog,w,K,a,base⟩) (k:=3) B T d.up g.up h.up m.up;have o:=vq (Z:=⟨l.prog,w,K,a,base⟩) C T RD;have q:=Em (Z:=⟨l.prog,w,K,a,base⟩) (k:=0) E T;have r:=AS (Z:=⟨l.prog,w,K,a,base⟩) (k:=4) (b.tb KB U (by decide)) T f N.up S.up;exact Pg (Z:=⟨l.prog,w,K,a,base⟩) (k:=8) F T R.up n.up N.up q.up o.up d.up r.up
end K13
namespace PV
open PySem PySem.Spec PyProof.Rows L2 PX
@[simp] theorem Uv(d:D)(a:Dn):fC d a=some ((d,false),a):=rfl
@[simp] theorem Tb(f:F)(a:Dn):gx f a=(f a).bind λp=>some (.val p.1,p.2):=rfl
@[simp] theorem R5(x:D×Bool)(a:Dn):gv 0 (some x::a)=some (.slot 0,some x::a):=rfl
@[simp] theorem R3(a:Sl)(x:D×Bool)(b:Dn):gv 1 (a::some x::b)=some (.slot 1,a::some x::b):=rfl
@[simp] theorem R0(a b:Sl)(x:D×Bool)(c:Dn):gv 2 (a::b::some x::c)=some (.slot 2,a::b::some x::c):=rfl
@[simp] theorem RZ(a b c:Sl)(x:D×Bool)(d:Dn):gv 3 (a::b::c::some x::d)=some (.slot 3,a::b::c::some x::d):=rfl
@[simp] theorem RY(a b c d:Sl)(x:D×Bool)(e:Dn):gv 4 (a::b::c::d::some x::e)=some (.slot 4,a::b::c::d::some x::e):=rfl
@[simp] theorem RX(a b c d e:Sl)(x:D×Bool)(f:Dn):gv 5 (a::b::c::d::e::some x::f)=some (.slot 5,a::b::c::d::e::some x::f):=rfl
@[simp] theorem RW(a b c d e f:Sl)(x:D×Bool)(g:Dn):gv 6 (a::b::c::d::e::f::some x::g)=some (.slot 6,a::b::c::d::e::f::some x::g):=rfl
@[simp] theorem RU(a b c d e f g:Sl)(x:D×Bool)(h:Dn):gv 7 (a::b::c::d::e::f::g::some x::h)=some (.slot 7,a::b::c::d::e::f::g::some x::h):=rfl
@[simp] theorem RT(a b c d e f g h:Sl)(x:D×Bool)(i:Dn):gv 8 (a::b::c::d::e::f::g::h::some x::i)=some (.slot 8,a::b::c::d::e::f::g::h::some x::i):=rfl
@[simp] theorem Ef(δ:Dn)(r:D×Bool):res δ (.val r)=some r.1:=rfl
@[simp] theorem Ta(x:D×Bool)(a:Dn):res (some x::a) (.slot 0)=some x.1:=rfl
@[simp] theorem S9(a:Sl)(x:D×Bool)(b:Dn):res (a::some x::b) (.slot 1)=some x.1:=rfl
@[simp] theorem S8(a b:Sl)(x:D×Bool)(c:Dn):res (a::b::some x::c) (.slot 2)=some x.1:=rfl
@[simp] theorem S7(a b c:Sl)(x:D×Bool)(d:Dn):res (a::b::c::some x::d) (.slot 3)=some x.1:=rfl
@[simp] theorem S6(a b c d:Sl)(x:D×Bool)(e:Dn):res (a::b::c::d::some x::e) (.slot 4)=some x.1:=rfl
@[simp] theorem S0(a b c d e:Sl)(x:D×Bool)(f:Dn):res (a::b::c::d::e::some x::f) (.slot 5)=some x.1:=rfl
@[simp] theorem SY(a b c d e f:Sl)(x:D×Bool)(g:Dn):res (a::b::c::d::e::f::some x::g) (.slot 6)=some x.1:=rfl
@[simp] theorem SW(a b c d e f g:Sl)(x:D×Bool)(h:Dn):res (a::b::c::d::e::f::g::some x::h) (.slot 7)=some x.1:=rfl
@[simp] theorem SV(a b c d e f g h:Sl)(x:D×Bool)(i:Dn):res (a::b::c::d::e::f::g::h::some x::i) (.slot 8)=some x.1:=rfl
@[simp] theorem Tt(g:D->Option (D×Bool))(a:FO)(b:Dn):jn g a b=(a b).bind λp=>(res p.2 p.1).bind λx=>(g x).bind λz=>some (z,p.2):=rfl
@[simp] theorem Tr(g:D->D->Option (D×Bool))(a b:FO)(c:Dn):gB g a b c=(a c).bind λp=>(b p.2).bind λq=>(res q.2 p.1).bind λx=>(res q.2 q.1).bind λy=>(g x y).bind λz=>some (z,q.2):=rfl
@[simp] theorem QV(a:Dn):iX [] a=some ([],a):=rfl
@[simp] theorem R9(f:FO)(fs:List FO)(a:Dn):iX (f::fs) a=(f a).bind λp=>(iX fs p.2).bind λq=>some (p.1::q.1,q.2):=rfl
@[simp] theorem Lp(a:Dn):rH a []=some []:=rfl
@[simp] theorem N6(a:Dn)(o:Opd)(os:List Opd):rH a (o::os)=(res a o).bind λd=>(rH a os).bind λl=>some (d::l):=rfl
@[simp] theorem R8(g:List D->Option (D×Bool))(fs:List FO)(a:Dn):gL g fs a=(iX fs a).bind λp=>(rH p.2 p.1).bind λb=>(g b).bind λz=>some (z,p.2):=rfl
@[simp] theorem RQ:mT []=some []:=rfl
@[simp] theorem SH(r:D×Bool)(os:List Opd):mT (.val r::os)=(mT os).map (r.1:: ·):=rfl
@[simp] theorem IS(fs:List F)(δ:Dn):nS fs δ=(iX (fs.map gx) δ).bind λp=>(mT p.1).bind λa=>if a.length<=sizeLine then some ((.tup a,false),p.2) else none:=rfl
@[simp] theorem Tv(fs:List F)(b:Dn):jG fs b=(iX (fs.map gx) b).bind λp=>(mT p.1).bind λa=>if a.length<=sizeLine then some ((.lst a,true),p.2) else none:=rfl
@[simp] theorem Uo(b o:Bool)(a:Dn):asB ((.bl b,o),a)=some (b,a):=rfl
@[simp] theorem Uu(f:F)(a:Dn):fT f a=(f a).bind asB:=rfl
@[simp] theorem Sa(f g:FT)(a:Dn):ni f g a=(f a).bind λp=>if p.1=true then g p.2 else some (false,p.2):=rfl
@[simp] theorem Tq(f g:FT)(a:Dn):Ks f g a=(f a).bind λp=>if p.1=true then some (true,p.2) else g p.2:=rfl
@[simp] theorem R7(f:FT)(a:Dn):lz f a=(f a).bind λp=>some (!p.1,p.2):=rfl
@[simp] theorem N7(f g:F)(a:Dn):CP f g a=(f a).bind λp=>(asB p).bind λq=>if q.1=true then g q.2 else some ((.bl false,false),q.2):=rfl
@[simp] theorem Uk(f g:F)(a:Dn):fOr f g a=(f a).bind λp=>(asB p).bind λq=>if q.1=true then some ((.bl true,false),q.2) else g q.2:=rfl
@[simp] theorem Tu(f:F)(a:Dn):MK f a=(f a).bind λp=>(asB p).bind λq=>some ((.bl (!q.1),false),q.2):=rfl
@[simp] theorem Ul(t:FT)(f g:F)(a:Dn):fIf t f g a=(t a).bind λp=>if p.1=true then f p.2 else g p.2:=rfl
@[simp] theorem SR(a:Dn):gQ a=some (.nx a):=rfl
def nxt(g:FS):Out->Option Out
 | .nx a=>g a
 |o=>some o
@[simp] theorem Tf(g:FS)(a:Dn):nxt g (.nx a)=g a:=rfl
@[simp] theorem Te(g:FS)(r:D×Bool)(a:Dn):nxt g (.rt r a)=some (.rt r a):=rfl
@[simp] theorem IQ(f g:FS)(a:Dn):gE f g a=(f a).bind (nxt g):=by
 unfold gE
 cases f a with
 |none=>rfl
 |some o=>cases o<;>rfl
@[simp] theorem RS(f:F)(a:Dn):mB f a=(f a).bind λp=>some (.nx p.2):=rfl
@[simp] theorem SQ(f:F)(a:Dn):jM f a=(f a).bind λp=>some (.rt p.1 p.2):=rfl
@[simp] theorem Ud(t:FT)(f g:FS)(a:Dn):sIf t f g a=(t a).bind λp=>if p.1=true then f p.2 else g p.2:=rfl
@[simp] theorem SO(i:Nat)(f:F)(a:Dn):iz i f a=(f a).bind λp=>if i<p.2.length then some (.nx (p.2.set i (some p.1))) else none:=rfl
@[simp] theorem SN(b:Tg)(f:F)(c:Dn):Ea b f c=(f c).bind λp=>(b p.1.1 p.2).bind λa=>some (.nx a):=rfl
@[simp] theorem Ut(g:D->Option (D×Bool))(d:D):g1 g [d]=g d:=rfl
@[simp] theorem Us(g:D->D->Option (D×Bool))(d e:D):g2 g [d,e]=g d e:=rfl
@[simp] theorem Ng(i j:Int):kD (.int i) (.int j)=some (.int (i+j),false):=rfl
@[simp] theorem Uc(i j:Int):PX.gSub (.int i) (.int j)=some (.int (i-j),false):=rfl
@[simp] theorem Ue(i:Int):mI (.int i)=some (.int (-i),false):=rfl
@[simp] theorem Up(i:Int):ml (.int i)=some (.int (if i<0 then -i else i),false):=rfl
@[simp] theorem Tj(l:List D):lY (.tup l)=some (.int l.length,false):=rfl
@[simp] theorem Tn(l:List D):lY (.lst l)=some (.int l.length,false):=rfl
@[simp] theorem SM(l:List D):kg (.lst l)=some (.tup l,false):=rfl
@[simp] theorem SJ(l:List D):kg (.tup l)=some (.tup l,false):=rfl
@[simp] theorem Th(l:List D):FR (.tup l)=some (.lst l,true):=rfl
@[simp] theorem Ti(l:List D):FR (.lst l)=some (.lst l,true):=rfl
@[simp] theorem Tp(b:Bool):CH (.bl b)=some (.int (if b then 1 else 0),false):=rfl
@[simp] theorem To(b:Int):CH (.int b)=some (.int b,false):=rfl
@[simp] theorem Ui(i j:Int):Kg (.int i) (.int j)=some (.int (if j>i then j else i),false):=rfl
@[simp] theorem Uh(i j:Int):Kf (.int i) (.int j)=some (.int (if j<i then j else i),false):=rfl
@[simp] theorem Uj(a:List Ty)(d:D):tL a d=some (.bl (a.any (isT d)),false):=rfl
@[simp] theorem Nf(i j:Int):gEq (.int i) (.int j)=some (.bl (i==j),false):=by unfold gEq;rw[gO (by simp[D.dep])];simp[D.eqb]
@[simp] theorem QR(i j:Int):gNe (.int i) (.int j)=some (.bl (!(i==j)),false):=by unfold gNe;rw[gO (by simp[D.dep])];simp[D.eqb]
@[simp] theorem Um(i j:Bool):gEq (.bl i) (.bl j)=some (.bl (i==j),false):=by unfold gEq;rw[gO (by simp[D.dep])];simp[D.eqb]
@[simp] theorem Ug(i j:Bool):gNe (.bl i) (.bl j)=some (.bl (!(i==j)),false):=by unfold gNe;rw[gO (by simp[D.dep])];simp[D.eqb]
@[simp] theorem QU(i j:Int):kd .Lt (.int i) (.int j)=some (.bl (decide (i<j)),false):=by simp[kd,lC,jw,D.dep]
@[simp] theorem Uq(i j:Int):kd .LtE (.int i) (.int j)=some (.bl (decide (i<=j)),false):=by simp[kd,lC,jw,D.dep]
@[simp] theorem Lq(i j:Int):kd .Gt (.int i) (.int j)=some (.bl (decide (i>j)),false):=by simp[kd,lC,jw,D.dep]
@[simp] theorem Ur(i j:Int):kd .GtE (.int i) (.int j)=some (.bl (decide (i>=j)),false):=by simp[kd,lC,jw,D.dep]
@[simp] theorem R6(f:F)(a:Dn):iN f a=(f a).bind λp=>match p.1.1 with| .lst l=>some (l,p.2)| .tup l=>some (l,p.2)|_=>none:=rfl
@[simp] theorem SU(b:FIt)(c:Tg)(a:FS)(d:Dn):oH b c a d=(b d).bind λp=>nA c a p.1 p.2:=rfl
@[simp] theorem AL(a:Dn):jK a=some (true,a):=rfl
@[simp] theorem vU(f:F)(a:List D)(b:Dn):iY f a b=(f b).bind λp=>if a.length<sizeLine then some (a++[p.1.1],p.2) else none:=rfl
def Lk(h:n<=10000):n<sizeLine:=by rw[iM];omega
abbrev enc(t:ik):D×Bool:=(.tup (t.map .int),false)
abbrev stt(a:Int)(b:Bool):Sl:=some (.lst [.int a,.bl b],true)
abbrev lsi(l:ik):Sl:=some (.lst (l.map .int),true)
@[simp] theorem Lr(b:EvF)(fs:List FO)(c:Dn):gM b fs c=(iX fs c).bind λp=>(jf p.2 p.1).bind λa=>if(hJ p.1 a).Nodup then(b a).bind λq=>some (q.1,wb p.1 a q.2 p.2) else none:=rfl
@[simp] theorem uJ(δ:Dn):jf δ []=some []:=rfl
@[simp] theorem QY(b:Dn)(o:Opd)(os:List Opd):jf b (o::os)=(vH b o).bind λa=>(jf b os).bind λl=>some (a::l):=rfl
@[simp] theorem Tw(a:Dn)(r:D×Bool):vH a (.val r)=some (r.1,false):=rfl
@[simp] theorem Tz(a:Dn)(i:Nat):vH a (.slot i)=(a[i]?).join:=rfl
def qk(a:Int)(b:Bool)(m:Int)(c:0<m)(d:m<1073741824):
  ∃v e,0<=v/\v<m/\gJ [(.lst [.int a,.bl b],true),(.int m,false)]=some ((.int v,false),[some (.lst [.int e,.bl b],true),some (.int m,false)]):=by
 cases b
 ·have h1: ∀x:Int, -18446744073709551616<x%2147483647/\x%2147483647<18446744073709551616:=λx=>by omega
  have f: ∀x:Int, -18446744073709551616<x%2147483629/\x%2147483629<18446744073709551616:=λx=>by omega
  simp only[gJ,nM];simp[evF,gIx,atI,ixN,tK,gI,Kh,pe,xF,uI,oG,iA,hJ,wb,Hc,Bv,CMul,c,d,h1,f];exact⟨Dr _ (by omega),Ds _ c⟩
 ·simp only[gJ,nM];simp[evF,gIx,atI,ixN,tK,gI,Kh,pe,xF,uI,oG,iA,hJ,wb,Hc,Bv,CMul,c,d];exact⟨Dr _ (by omega),Ds _ c⟩
theorem Bm(x y:Int):(x==y)=decide (x=y):=rfl
def iQ{g:List D->Option (D×Bool)}{fs:List FO}{δ a:Dn}{os:List Opd}{ds:List D}{z:D×Bool}(h1:iX fs δ=some (os,a))(b:rH a os=some ds)(c:g ds=some z):gL g fs δ=some (z,a):=by
 unfold gL;rw[h1];simp only[iJ];rw[b];simp only[iJ];rw[c];rfl
def kZ(h1:args.length=np/\np<=n/\(args.zipIdx.all λp=>!(p.1.2&&asg.contains p.2))=true)(a:f (args.map some++List.replicate (n-np) none)=some (.rt r δ)):evF n np asg f args=some (r,iA args δ):=by
 unfold evF;rw[gO h1,a]
def gF(h:f δ=some (.nx δ1)):gE f g δ=g δ1:=by unfold gE;rw[h];rfl
def jo{r}(h:f δ=some (.rt r δ1)):gE f g δ=some (.rt r δ1):=by unfold gE;rw[h];rfl
def lr{r}(h:f δ=some (r,δ1)):jM f δ=some (.rt r δ1):=by unfold jM;rw[h];rfl
def jc{r}(h:f δ=some (r,δ1))(a:i<δ1.length):iz i f δ=some (.nx (δ1.set i (some r))):=by unfold iz;rw[h];simp only[iJ];rw[gO a]
def kz(h:f δ=some ((.bl b,o),δ1)):fT f δ=some (b,δ1):=by unfold fT;rw[h];rfl
theorem gU{r}(h:f δ=some (r,δ1)):gx f δ=some (.val r,δ1):=by unfold gx;rw[h];rfl
def iw(h1:a δ=some (o1,δ1))(b:fb δ1=some (o2,δ2))(c:res δ2 o1=some x)(d:res δ2 o2=some y)(e:g x y=some z):gB g a fb δ=some (z,δ2):=by
 unfold gB;rw[h1];simp only[iJ];rw[b];simp only[iJ];rw[c,d];simp only[iJ];rw[e];rfl
theorem iW{b:EvF}{fs:List FO}{δ δ1:Dn}{os:List Opd}{args:List (D×Bool)}{r:D×Bool}{a:Dn}(h1:iX fs δ=some (os,δ1))(c:jf δ1 os=some args)(d:(hJ os args).Nodup)(e:b args=some (r,a)):gM b fs δ=some (r,wb os args a δ1):=by
 unfold gM;rw[h1];simp only[iJ];rw[c];simp only[iJ];rw[gO d,e];rfl
def qb(h:f δ=some (b,δ1)):lz f δ=some (!b,δ1):=by unfold lz;rw[h];rfl
def lu(h:t δ=some (false,δ1)):sIf t f g δ=g δ1:=by unfold sIf;rw[h];rfl
theorem nI(h:t δ=some (true,δ1)):sIf t f g δ=f δ1:=by unfold sIf;rw[h];rfl
theorem lI{b fb:FO}{δ δ1 a:Dn}{o1 o2:Opd}(h1:b δ=some (o1,δ1))(c:fb δ1=some (o2,a)):iX [b,fb] δ=some ([o1,o2],a):=by
 simp only[iX];rw[h1];simp only[iJ];rw[c];rfl
def nU{a:FO}{δ δ1:Dn}{o1:Opd}(h1:a δ=some (o1,δ1)):iX [a] δ=some ([o1],δ1):=by
 simp only[iX];rw[h1];rfl
def mH(h:a δ=some (ds,δ1)):oH a tg fb δ=nA tg fb ds δ1:=by unfold oH;rw[h];rfl
def oP{os}(h1:b δ=some (o1,δ1))(c:iX fs δ1=some (os,a)):iX (b::fs) δ=some (o1::os,a):=by
 simp only[iX];rw[h1];simp only[iJ];rw[c];rfl
def MP(a:ik)(k:Nat): ∃c,kG [(.lst (a.map .int),false),(.int k,false)]=some ((.int c,false),[some (.lst (a.map .int),false),some (.int k,false)]):=by
 by_cases hk:k<a.length
 ·refine⟨a[k],?_⟩;simp[kG,ly,evF,gIx,atI,ixN,iA,hk]
 ·refine⟨0,?_⟩;simp[kG,ly,evF,iA,hk]
theorem Nl:xF (.int 10) (.int 18)=some (.int 1000000000000000000,false):=by
 have:Bv 10 18:=by unfold Bv;decide+kernel
 show((if Bv 10 18 then some (D.int (10^(18:Int).toNat)) else none).map λz=>(z,false))=_;rw[gO this];rfl
def Iy(d:ik)(k:Nat): ∃a b,kK [(.lst (d.map .int),false),(.int k,false)]=some ((.lst [.int a,.bl b],true),[some (.lst (d.map .int),false),some (.int k,false)]):=by
 obtain⟨c,e⟩:=MP d k;by_cases h:c>=1000000000000000000
 ·refine⟨c-1000000000000000000,true,?_⟩;simp[kK,mJ,evF,e,hJ,wb,Nl,h,iM,iA]
 ·refine⟨c%2147483647,false,?_⟩;simp[kK,mJ,evF,e,hJ,wb,Nl,h,iM,iA,tK,gI]
def st(n:Nat):List Int:=(List.range n).map λ(k:Nat)=>(1+(k:Int))
theorem NW(n:Nat):(st n).map D.int=iu 1 n:=by simp[st,iu]
def mX:Nat->List Int->List Int->List (List Int)
 |0,_,f=>[f]
 |k+1,r,f=>(List.range r.length).flatMap λv=>mX k (r.eraseIdx v) (f++[r.getD v 0*1])++mX k (r.eraseIdx v) (f++[r.getD v 0* -1])
theorem zg(f:Int->D): ∀(l:ik) (k:Nat),(l.map f).eraseIdx k=(l.eraseIdx k).map f
 |[],k=>by simp
 |x::l,0=>by simp
 |x::l,k+1=>by simp[zg f l k]
def GX{i:Nat}{f:FO}{a δ1:Dn}{o:Opd}{n l:List D}{k:Int}{j:Nat}{d:D}(b:a[i]?=some (some (.lst n,true)))(h1:f a=some (o,δ1))(c:res δ1 o=some (.int k))(e:δ1[i]?=some (some (.lst l,true)))(g: -(2^63)<=k/\k<2^63)(h:ixN l.length k=some j)(m:l[j]?=some d):
  rP i f a=some ((d,false),δ1.set i (some (.lst (l.eraseIdx j),true))):=by
 unfold rP;rw[b];simp only[];rw[h1];simp only[iJ];rw[c,e];simp only[];rw[gO g,h];simp only[iJ];rw[m];rfl
def rR{i:Nat}{f:F}{δ δ1:Dn}{r:D×Bool}{l0 l:List D}(a:δ[i]?=some (some (.lst l0,true)))(h1:f δ=some (r,δ1))(b:δ1[i]?=some (some (.lst l,true)))(c:l.length<sizeLine):
  jW i f δ=some ((.non,false),δ1.set i (some (.lst (l++[r.1]),true))):=by
 unfold jW;rw[a];simp only[];rw[h1];simp only[iJ];rw[b];simp only[];rw[gO c]
def wQ{r}(h:f δ=some (r,δ1)):mB f δ=some (.nx δ1):=by unfold mB;rw[h];rfl
abbrev fPop:F:=(rP 2 (gx (gM gJ [(gv 0),(gx (gL (g1 lY) [(gv 2)]))])))
abbrev RC:F:=(gB gIx (gx (jG [(fC (.int 1)),(jn mI (gx (fC (.int 1))))])) (gx (gM gJ [(gv 0),(gx (fC (.int 2)))])))
abbrev fbT:FS:=(gE (mB (jW 3 (gB pe (gx fPop) (gx RC)))) gQ)
def OJ(a:Int)(b:Bool)(n:Sl)(r f:ik)(x:Sl)(i:0<r.length)(l:r.length<=5): ∃v c,v<r.length/\fPop [stt a b,n,lsi r,lsi f,x]=some ((.int (r.getD v 0),false),[stt c b,n,lsi (r.eraseIdx v),lsi f,x]):=by
 obtain⟨v,c,h,hv,e⟩:=qk a b r.length (by lia) (by lia);have d:v.toNat<r.length:=by lia
 refine⟨v.toNat,c,d,?_⟩;have g:(lsi (r.eraseIdx v.toNat):Sl)=some (.lst ((r.map D.int).eraseIdx v.toNat),true):=by rw[zg]
 rw[g];refine GX (k:=v) (δ1:=[stt c b,n,lsi r,lsi f,x]) rfl (gU (r:=(.int v,false)) (iW (δ1:=[stt a b,n,lsi r,lsi f,x]) (os:=[.slot 0,.val (.int r.length,false)]) (args:=[(.lst [.int a,.bl b],true),(.int r.length,false)]) ?_ rfl (show([0]:List Nat).Nodup from by decide) e)) rfl rfl ⟨by lia,by lia⟩ (j:=v.toNat) ?_ ?_
 ·show some ([Opd.slot 0,Opd.val (D.int ((r.map D.int).length:Nat),false)],_)=_;rw[jt]
 ·unfold ixN;rw[gO h,gO (by simpa using hv)]
 ·simp[d]
def NZ(a:Int)(b:Bool)(n y z x:Sl): ∃s c,(s=1\/s= -1)/\RC [stt a b,n,y,z,x]=some ((.int s,false),[stt c b,n,y,z,x]):=by
 obtain⟨v,c,f,hv,e⟩:=qk a b 2 (by lia) (by lia);have d: ∀δ:Dn,jG [(fC (.int 1)),(jn mI (gx (fC (.int 1))))] δ=some ((.lst [.int 1,.int (-1)],true),δ):=λδ=>rfl;refine⟨if v=0 then 1 else -1,c,by split<;>simp,?_⟩;refine iw (δ1:=[stt a b,n,y,z,x]) (gU (d _)) (gU (δ1:=[stt c b,n,y,z,x]) (iW (δ1:=[stt a b,n,y,z,x]) (os:=[.slot 0,.val (.int 2,false)]) (args:=[(.lst [.int a,.bl b],true),(.int 2,false)]) rfl rfl (show([0]:List Nat).Nodup from by decide) e)) rfl rfl ?_;rcases(show v=0\/v=1 by lia) with rfl|rfl<;>rfl
def PH(a:Int)(b:Bool)(n:Sl)(r f:ik)(x:Sl)(j:0<r.length)(k:r.length<=5)(m:f.length<=5): ∃v s c,v<r.length/\(s=1\/s= -1)/\fbT [stt a b,n,lsi r,lsi f,x]=some (.nx [stt c b,n,lsi (r.eraseIdx v),lsi (f++[r.getD v 0*s]),x]):=by
 obtain⟨v,a1,hv,e⟩:=OJ a b n r f x j k;obtain⟨s,d,q,g⟩:=NZ a1 b n (lsi (r.eraseIdx v)) (lsi f) x;refine⟨v,s,d,hv,q,?_⟩
 have p:pe (.int (r.getD v 0)) (.int s)=some (.int (r.getD v 0*s),false):=by
  have:CMul (r.getD v 0) s:= .inr (by lia);show((if CMul (r.getD v 0) s then some (D.int (r.getD v 0*s)) else none).map λz=>(z,false))=_;rw[gO this];rfl
 have o:(f.map D.int).length<sizeLine:=by rw[jt];exact Di m (by decide)
 have h:=rR (i:=3) (δ:=[stt a b,n,lsi r,lsi f,x]) (l0:=f.map .int) rfl (iw (gU e) (gU g) rfl rfl p) (l:=f.map .int) rfl o;refine(gF (wQ h)).trans ?_;simp[gQ,lsi]
theorem Nv(b:Bool)(n:Sl): ∀(c:List D) (a:Int) (r f:ik) (x:Sl),c.length=r.length->f.length+r.length<=5->
  ∃g t i j,t∈mX c.length r f/\nA (gH 4) fbT c [stt a b,n,lsi r,lsi f,x]=some (.nx [stt g b,n,lsi i,lsi t,j])
 |[],a,r,f,x,_,_=>⟨a,f,r,x,by simp[mX],rfl⟩
 |d::c,a,r,f,x,h,o=>by
  simp only[kO] at h;obtain⟨v,s,a1,hv,m,e⟩:=PH a b n r f (some (d,false)) (by lia) (by lia) (by lia);obtain⟨g,t,i,j,k,l⟩:=Nv b n c a1 (r.eraseIdx v) (f++[r.getD v 0*s]) (some (d,false)) (by rw[zK,gO hv];lia) (by rw[zK,gO hv,mx];simp only[kO,qH];lia);refine⟨g,t,i,j,?_,?_⟩
  ·simp only[kO,mX,List.mem_flatMap,pE,rW];refine⟨v,hv,?_⟩;rcases m with rfl|rfl
   ·exact .inl k
   ·exact .inr k
  ·unfold nA;rw[show gH 4 d [stt a b,n,lsi r,lsi f,x]=some [stt a b,n,lsi r,lsi f,some (d,false)] from rfl];simp only[iJ];rw[e];simp only[iJ];exact l
def N2(n:Nat)(b:n<=5):gRg .lst true [.int 1,.int ((n:Int)+1)]=some (.lst ((st n).map .int),true):=by
 have:n=0\/n=1\/n=2\/n=3\/n=4\/n=5:=by lia
 have h1:RgOk 1 ((n:Int)+1):=by rcases this with rfl|rfl|rfl|rfl|rfl|rfl<;>decide+kernel
 have a:((n:Int)+1-1).toNat=n:=by lia
 show(if RgOk 1 ((n:Int)+1) then some (D.lst (iu 1 ((n:Int)+1-1).toNat),true) else none)=_;rw[gO h1,a,<-NW]
def vZ{f:FO}{δ δ1:Dn}{o:Opd}{n:Nat}(h1:f δ=some (o,δ1))(a:res δ1 o=some (.int n))(e:n<=63):vN f δ=some (iu 0 n,δ1):=by
 have d:(-(2^62)<=(n:Int)/\(n:Int)<2^62):=⟨by lia,by lia⟩
 have b:iX [f] δ=some ([o],δ1):=by simp[iX,h1]
 have c:rH δ1 [o]=some [.int n]:=by simp[rH,a]
 unfold vN;rw[b];simp only[iJ];rw[c];simp only[];rw[gO d];rfl
def D2(a:Int)(b:Bool)(n:Nat)(f:n<=5): ∃d t,t∈mX n (st n) []/\kF [(.lst [.int a,.bl b],true),(.int n,false)]=some (enc t,[stt d b,some (.int n,false)]):=by
 have c:(iu 0 n).length=n:=by simp[iu]
 have h:(st n).length=n:=by simp[st]
 obtain⟨d,t,j,k,g,e⟩:=Nv b (some (.int n,false)) (iu 0 n) a (st n) [] none (by rw[c,h]) (by rw[h];simpa using f);rw[c] at g;refine⟨d,t,g,?_⟩;refine kZ (δ:=[stt d b,some (.int n,false),lsi j,lsi t,k]) ⟨rfl,by decide,rfl⟩ ?_;refine(gF (δ1:=[stt a b,some (.int n,false),lsi (st n),none,none]) (jc (i:=2) (δ1:=[stt a b,some (.int n,false),none,none,none]) (iQ (os:=[.val (.int 1,false),.val (.int ((n:Int)+1),false)]) rfl rfl (N2 n f)) (show 2<5 by decide))).trans ?_;refine(gF (δ1:=[stt a b,some (.int n,false),lsi (st n),lsi [],none]) rfl).trans ?_;refine(gF ((mH (vZ (o:= .slot 1) rfl rfl (by lia))).trans e)).trans ?_;exact jo (lr (iQ (os:=[.slot 3]) rfl rfl rfl))
theorem uK: ∀(k:Nat) (r f t:ik),r.length=k->t∈mX k r f->t.length=f.length+k
 |0,r,f,t,_,h=>by simp[mX] at h;subst h;simp
 |k+1,r,f,t,b,h=>by
  simp only[mX,List.mem_flatMap,pE,rW] at h;obtain⟨v,hv,h⟩:=h;have a:(r.eraseIdx v).length=k:=by rw[zK,gO hv];lia
  rcases h with h|h
  ·have:=uK k _ _ t a h;simp at this;lia
  ·have:=uK k _ _ t a h;simp at this;lia
def Ij{n:Nat}{t:ik}(h:t∈mX n (st n) []):t.length=n:=by
 have:=uK n (st n) [] t (by simp[st]) h;simpa using this
theorem nj: ∀t:List Int,D.depL (t.map .int)=0
 |[]=>by simp[D.depL]
 |s::t=>by simp[D.depL,D.dep,nj t]
theorem xN: ∀a b:List Int,D.eqbL (a.map .int) (b.map .int)=decide (a=b)
 |[],[]=>by simp[D.eqbL]
 |[],_::_=>by simp[D.eqbL]
 |_::_,[]=>by simp[D.eqbL]
 |x::a,y::b=>by simp[D.eqbL,D.eqb,xN a b,Bool.decide_and,Bm]
@[simp] theorem zd(a b:ik):gEq (.lst (a.map .int)) (.lst (b.map .int))=some (.bl (decide (a=b)),false):=by unfold gEq;rw[gO (by simp[D.dep,nj])];simp[D.eqb,xN]
def Qe:x∈st n↔1<=x/\x<=n:=by
 simp only[st,nv,rW];constructor
 ·rintro⟨k,h,rfl⟩;lia
 ·rintro⟨h1,a⟩;exact⟨(x-1).toNat,by lia,by lia⟩
def A6{l:ik}{m:List D}(h:m.Perm (l.map D.int)): ∃k:List Int,m=k.map .int:=by
 refine⟨m.map λd=>match d with|D.int i=>i|_=>0,?_⟩;rw[kh]
 symm
 rw[pv (g:=id),qZ];intro d hd;obtain⟨i,_,rfl⟩:=nv.mp (h.mem_iff.mp hd);rfl
theorem BP(l:ik):md (l.map .int)=true:=by
 unfold md
 cases l with
 |nil=>rfl
 |cons x l=>
  rw[uo];right;simp only[iT];simp[kb,D.pr,D.dep,lC]
theorem Ff(pre:Dn)(x:Sl)(d:D):gH pre.length d (pre++[x])=some (pre++[some (d,false)]):=by
 unfold gH;rw[gO (by simp)];simp[List.set_append]
theorem Bk(f:F)(g:D->D)(pre:Dn): ∀(l a:List D) (x:Sl),(∀d∈l,∃o,f (pre++[some (d,false)])=some ((g d,o),pre++[some (d,false)]))->a.length+l.length<=sizeLine->
  ∃b,lZ (gH pre.length) jK (iY f) l a (pre++[x])=some (a++l.map g,pre++[b])
 |[],a,x,_,_=>⟨x,by simp[lZ]⟩
 |d::l,a,x,h,c=>by
  obtain⟨o,hd⟩:=h d ja;obtain⟨b,e⟩:=Bk f g pre l (a++[g d]) (some (d,false)) (λi j=>h i (iZ _ j)) (by simp at c ⊢;omega);refine⟨b,?_⟩;have k:a.length<sizeLine:=by simp at c;omega
  rw[lZ,Ff];simp only[iJ,AL,jy,vU];rw[hd];simp only[iJ];rw[gO k];simp only[iJ];rw[e];simp
theorem zr(p:D->Bool): ∀l:List D,nQ (l.map λd=> .bl (p d))=some (l.map p)
 |[]=>rfl
 |d::l=>by simp[nQ,zr p l]
def KP(p:D->Bool)(l:List D):Ez (.lst (l.map λd=> .bl (p d)))=some (.bl (l.all p),false):=by
 simp[Ez,zr,List.all_map,wq]
def ab(s:Int):Int:=if s<0 then -s else s
def wh:D->Bool
 | .int _=>true
 |_=>false
def iOf:D->Int
 | .int s=>s
 |_=>0
theorem BE(d:D):nO [(d,false)]=some ((.bl (wh d),false),[some (d,false)]):=by
 cases d<;>simp[nO,qa,evF,iA,wh,isT]
theorem uM(d:D)(lo a:Int):kL [(d,false),(.int lo,false),(.int a,false)]=some ((.bl (match d with| .int s=>decide (lo<=s)&&decide (s<=a)|_=>false),false),[some (d,false),some (.int lo,false),some (.int a,false)]):=by
 cases d with
 |int s=>by_cases h:lo<=s<;>simp[kL,mK,evF,iA,BE,wh,hJ,wb,uU,jw,h]
 |_=>simp[kL,mK,evF,iA,BE,wh,hJ,wb]
theorem Mt(d:D)(n:Int):je [(.int n,false),(d,false)]=some ((.bl (match d with| .int s=>decide (1<=s)&&decide (s<=n)|_=>false),false),[some (.int n,false),some (d,false)]):=by
 simp[je,oO,evF,iA,uM,hJ,wb]
def ixi{t:ik}{v:Int}(a:0<=v)(h:v<t.length):gIx (.tup (t.map .int)) (.int v)=some (.int (t.getD v.toNat 0),false):=by
 have h1:v.toNat<t.length:=by lia
 simp[gIx,atI,ixN,a,h,h1]
def Rr{t:ik}{v:Int}(a:0<=v)(h:v<t.length):gIx (.lst (t.map .int)) (.int v)=some (.int (t.getD v.toNat 0),false):=by
 have h1:v.toNat<t.length:=by lia
 simp[gIx,atI,ixN,a,h,h1]
def mD(a:Int)(b:Bool)(m:Int)(j:0<m)(f:m<1073741824): ∃v c,0<=v/\v<m/\ ∀(d:FO) (δ:Dn) (o:Opd),d (stt a b::δ)=some (o,stt a b::δ)->vH (stt a b::δ) o=some (.int m,false)->gM gJ [gv 0,d] (stt a b::δ)=some ((.int v,false),stt c b::δ):=by
 obtain⟨v,c,g,h1,e⟩:=qk a b m j f;refine⟨v,c,g,h1,λd δ o h i=>?_⟩;refine(iW (os:=[.slot 0,o]) (args:=[(.lst [.int a,.bl b],true),(.int m,false)]) (lI rfl h) ?_ ?_ e).trans ?_
 ·simp[i]
 ·cases o<;>simp[hJ]
 ·cases o<;>simp[wb]
def led(u:ik)(s:Int):Int:=if 0<s then u.getD (s-1).toNat 0 else -(u.getD (-s-1).toNat 0)
theorem TN(x:Int):pe (.int x) (.int 1)=some (.int x,false):=by
 have:CMul x 1:= .inr (by omega);show((if CMul x 1 then some (D.int (x*1)) else none).map λz=>(z,false))=_;rw[gO this,DU];rfl
theorem TM(x:Int):pe (.int x) (.int (-1))=some (.int (-x),false):=by
 have:CMul x (-1):= .inr (by omega);show((if CMul x (-1) then some (D.int (x*(-1))) else none).map λz=>(z,false))=_;rw[gO this,Int.mul_neg,DU];rfl
def BL(a:Int)(b:Bool)(m:Int)(n:0<m)(i:m<1073741824): ∃v g,0<=v/\v<m/\ ∀(h:FO) (c d:Sl) (f:Dn) (o:Opd),h (c::d::stt a b::f)=some (o,c::d::stt a b::f)->vH (c::d::stt a b::f) o=some (.int m,false)->gM gJ [gv 2,h] (c::d::stt a b::f)=some ((.int v,false),c::d::stt g b::f):=by
 obtain⟨v,g,j,h1,e⟩:=qk a b m n i;refine⟨v,g,j,h1,λh c d f o k l=>?_⟩;refine(iW (os:=[.slot 2,o]) (args:=[(.lst [.int a,.bl b],true),(.int m,false)]) (lI rfl k) ?_ ?_ e).trans ?_
 ·simp[l]
 ·cases o<;>simp[hJ]
 ·cases o<;>simp[wb]
def zb(h:f δ=some ((.lst l,o),δ1)):iN f δ=some (l,δ1):=by unfold iN;rw[h];rfl
def ClOk(n:Nat)(c:ik):Prop:=c≠[]/\(c.map ab).Pairwise (· < ·)/\ ∀s∈c,1<=ab s/\ab s<=n
def CA(j:Int)(c:ik):Prop:=(c.map ab).Pairwise (· < ·)/\ ∀s∈c,1<=ab s/\ab s<j
theorem Br(h:0<=i):ab i=i:=by unfold ab;rw[gZ (by omega)]
theorem EW(h:0<=i):ab (-i)=i:=by unfold ab;split<;>omega
def CA.snoc{j s:Int}{c:ik}(h:CA j c)(h1:ab s=j)(e:1<=j):CA (j+1) (c++[s]):=by
 refine⟨?_,λx a=>?_⟩
 ·rw[pF,qY];refine⟨h.1,by simp,λx a y b=>?_⟩;obtain⟨z,d,rfl⟩:=nv.mp a;simp at b;subst b;have:=h.2 z d;omega
 ·rcases pE.mp a with a|a
  ·have:=h.2 x a;omega
  ·simp at a;subst a;omega
theorem CA.up(h:CA j c):CA (j+1) c:=⟨h.1,λx a=>by have:=h.2 x a;omega⟩
abbrev fbC:FS:=(gE (iz 5 (gM gJ [(gv 0),(gv 2)])) (gE (sIf (fT (gB (kd .Lt) (gv 5) (gx (fC (.int 2))))) (gE (mB (jW 3 (gB gIx (gx (jG [(iH 4),(jn mI (gv 4))])) (gv 5)))) gQ) gQ) gQ))
def rQ{i:Nat}{f:F}{δ δ1:Dn}{r:D×Bool}{l0 l:List D}(a:δ[i]?=some (some (.lst l0,true)))(h1:f δ=some (r,δ1))(b:δ1[i]?=some (some (.lst l,true)))(c:l.length<=10000):
  gE (mB (jW i f)) gQ δ=some (.nx (δ1.set i (some (.lst (l++[r.1]),true)))):=
 (gF (wQ (rR a h1 b (Lk c)))).trans rfl
def PL(a:Int)(b:Bool)(n w:Int)(p:0<w)(s:w<100)(j:Int)(o:1<=j)(c:ik)(m:CA j c)(t:c.length<=10)(x:Sl): ∃d f q,CA (j+1) f/\f.length<=c.length+1/\fbC [stt a b,some (.int n,false),some (.int w,false),lsi c,some (.int j,false),x]=some (.nx [stt d b,some (.int n,false),some (.int w,false),lsi f,some (.int j,false),q]):=by
 obtain⟨v,d,u,y,e⟩:=mD a b w p (by omega)
 have s1: ∀g,gE (iz 5 (gM gJ [(gv 0),(gv 2)])) g [stt a b,some (.int n,false),some (.int w,false),lsi c,some (.int j,false),x]=g [stt d b,some (.int n,false),some (.int w,false),lsi c,some (.int j,false),some (.int v,false)]:=λg=>
  gF (jc (i:=5) (δ1:=[stt d b,some (.int n,false),some (.int w,false),lsi c,some (.int j,false),x]) (e _ [some (.int n,false),some (.int w,false),lsi c,some (.int j,false),x] (.slot 2) rfl rfl) (show 5<6 by decide))
 by_cases h:v<2
 ·have k:gIx (.lst [.int j,.int (-j)]) (.int v)=some (.int (if v=0 then j else -j),false):=by
   rcases(show v=0\/v=1 by omega) with rfl|rfl<;>rfl
  refine⟨d,c++[if v=0 then j else -j],some (.int v,false),m.snoc (by split;exact Br (by omega);exact EW (by omega)) o,by simp,?_⟩;refine(s1 _).trans ((gF ((nI (δ1:=[stt d b,some (.int n,false),some (.int w,false),lsi c,some (.int j,false),some (.int v,false)]) (by simp[h])).trans (rQ (δ1:=[stt d b,some (.int n,false),some (.int w,false),lsi c,some (.int j,false),some (.int v,false)]) (r:=(.int (if v=0 then j else -j),false)) (l0:=c.map .int) (l:=c.map .int) rfl (by simp[iH,iM,k]) rfl (by simp;omega)))).trans ?_);simp[lsi]
 ·refine⟨d,c,some (.int v,false),m.up,by omega,?_⟩;exact(s1 _).trans ((gF ((lu (by simp[h])).trans rfl)).trans rfl)
theorem Ry(b:Bool)(n w:Int)(l:0<w)(i:w<100): ∀(m:Nat) (j:Nat) (a:Int) (c:ik) (x4 x5:Sl),1<=j->CA j c->c.length+m<=10-> ∃e d g h,CA (j+m:Nat) d/\d.length<=10/\nA (gH 4) fbC ((List.range' j m).map λ(k:Nat)=>D.int (k:Int)) [stt a b,some (.int n,false),some (.int w,false),lsi c,x4,x5]=some (.nx [stt e b,some (.int n,false),some (.int w,false),lsi d,g,h])
 |0,j,a,c,x4,x5,s,f,t=>⟨a,c,x4,x5,by simpa using f,by omega,rfl⟩
 |m+1,j,a,c,x4,x5,s,f,t=>by
  obtain⟨a1,o,x1,h1,v,p⟩:=PL a b n w l i j (by omega) c f (by omega) x5;obtain⟨e,d,g,h,r,u,q⟩:=Ry b n w l i m (j+1) a1 o (some (.int j,false)) x1 (by omega) (by simpa using h1) (by omega);refine⟨e,d,g,h,by rw[show j+(m+1)=j+1+m by omega];exact r,u,?_⟩;rw[List.range'_succ,iT];unfold nA;rw[show gH 4 (.int (j:Int)) [stt a b,some (.int n,false),some (.int w,false),lsi c,x4,x5]=some [stt a b,some (.int n,false),some (.int w,false),lsi c,some (.int j,false),x5] from rfl];simp only[iJ];rw[p];simp only[iJ];exact q
theorem FP(h1:f δ=some (o1,δ1))(a:g δ1=some (o2,δ2))(b:res δ2 o1=some (.int i))(c:res δ2 o2=some (.int j))(d:0<=i/\i<=1000)(e:0<=j/\j<=1000):A5 f g δ=some (iu i (j-i).toNat,δ2):=by
 unfold A5;rw[lI h1 a];simp only[iJ,N6,Lp,b,c];rw[gO ⟨by omega,by omega,by omega,by omega⟩]
def G3(a:Int)(b:Bool)(n:Nat)(h1:1<=n)(O:n<=5): ∃A c,ClOk n c/\lS [(.lst [.int a,.bl b],true),(.int n,false)]=some (enc c,[stt A b,some (.int n,false)]):=by
 obtain⟨v,a1,M,N,B⟩:=mD a b 3 (by omega) (by omega)
 let f:List Int:=[3,4,6]
 let w:=f.getD v.toNat 0
 have y:0<w/\w<100:=by
  rcases(show v=0\/v=1\/v=2 by omega) with rfl|rfl|rfl<;>decide
 obtain⟨d,c,x4,x5,t,Q,C⟩:=Ry b n w y.1 y.2 n 1 a1 [] none none (by omega) ⟨by simp,by simp⟩ (by simp;omega)
 have L:A5 (gx (fC (.int 1))) (gx (gB kD (gv 1) (gx (fC (.int 1))))) [stt a1 b,some (.int n,false),some (.int w,false),lsi [],none,none]=some (((List.range' 1 n).map λ(k:Nat)=>D.int (k:Int)),[stt a1 b,some (.int n,false),some (.int w,false),lsi [],none,none]):=by
  rw[FP (o1:= .val (.int 1,false)) (o2:= .val (.int ((n:Int)+1),false)) (i:=1) (j:=(n:Int)+1) rfl rfl rfl rfl (by omega) (by omega)];rw[show((n:Int)+1-1).toNat=n by omega]
  congr 2
  unfold iu;rw[List.range'_eq_map_range,kh];apply pv;intro k _;simp
 have pre: ∀g,(gE (iz 2 (gB gIx (gx (jG [(fC (.int 3)),(fC (.int 4)),(fC (.int 6))])) (gx (gM gJ [(gv 0),(gx (fC (.int 3)))])))) (gE (iz 3 (jG [])) (gE (oH (A5 (gx (fC (.int 1))) (gx (gB kD (gv 1) (gx (fC (.int 1)))))) (gH 4) fbC) g))) [stt a b,some (.int n,false),none,none,none,none]=g [stt d b,some (.int n,false),some (.int w,false),lsi c,x4,x5]:=by
  intro g;refine(gF (δ1:=[stt a1 b,some (.int n,false),some (.int w,false),none,none,none]) ?_).trans ?_
  ·refine jc (i:=2) (δ1:=[stt a1 b,some (.int n,false),none,none,none,none]) (iw (o1:= .val (.lst (f.map .int),true)) (o2:= .val (.int v,false)) (gU (δ1:=[stt a b,some (.int n,false),none,none,none,none]) (by simp[f,iM])) (gU (B _ [some (.int n,false),none,none,none,none] _ rfl rfl)) rfl rfl (Rr M (by simpa[f] using N))) (show 2<6 by decide)
  refine(gF (δ1:=[stt a1 b,some (.int n,false),some (.int w,false),lsi [],none,none]) (by simp[lsi,iM])).trans ?_;exact gF ((mH L).trans C)
 by_cases m:c=[]
 ·subst m;obtain⟨s,p,s0,s1,E⟩:=mD d b 2 (by omega) (by omega);obtain⟨i,h,T,U,G⟩:=mD p b n (by omega) (by omega);refine⟨h,[if s=0 then 1+i else -(1+i)],?_,?_⟩
  ·refine⟨by simp,by simp,λx z=>?_⟩;simp at z;subst z;split
   ·rw[Br (by omega)];omega
   ·rw[show -(1+i)= -(1+i) from rfl,EW (by omega)];omega
  ·refine kZ (δ:=[stt h b,some (.int n,false),some (.int w,false),lsi [if s=0 then 1+i else -(1+i)],x4,x5]) ⟨rfl,by decide,rfl⟩ ((pre _).trans ?_)
   have H: ∀q,gIx (.lst [.int 1,.int (-1)]) (.int s)=some q->pe q.1 (.int (1+i))=some (.int (if s=0 then 1+i else -(1+i)),false):=by
    intro q u;have I:CMul 1 (1+i):=by unfold CMul;omega
    have J:CMul (-1) (1+i):=by unfold CMul;omega
    rcases(show s=0\/s=1 by omega) with rfl|rfl
    ·cases u;simp[pe,gI,I]
    ·cases u;simp[pe,gI,J]
   have e:gIx (.lst [.int 1,.int (-1)]) (.int s)=some (.int (if s=0 then 1 else -1),false):=by
    rcases(show s=0\/s=1 by omega) with rfl|rfl<;>rfl
   refine(gF ((nI (δ1:=[stt d b,some (.int n,false),some (.int w,false),lsi [],x4,x5]) (kz (iw (o1:= .slot 3) (o2:= .val (.lst [],true)) (δ2:=[stt d b,some (.int n,false),some (.int w,false),lsi [],x4,x5]) rfl (gU (by simp[iM])) rfl rfl (zd [] [])))).trans (rQ (r:=(.int (if s=0 then 1+i else -(1+i)),false)) (δ1:=[stt h b,some (.int n,false),some (.int w,false),lsi [],x4,x5]) (l0:=[]) (l:=[]) rfl ?_ rfl (by simp)))).trans ?_
   ·refine iw (δ1:=[stt p b,some (.int n,false),some (.int w,false),lsi [],x4,x5]) (gU (iw (δ1:=[stt d b,some (.int n,false),some (.int w,false),lsi [],x4,x5]) (o1:= .val (.lst [.int 1,.int (-1)],true)) (gU (by simp[iM])) (gU (E _ _ _ rfl rfl)) rfl rfl e)) (gU (iw (o1:= .val (.int 1,false)) rfl (gU (G _ _ (.slot 1) rfl rfl)) rfl rfl rfl)) rfl rfl (H _ e)
   ·exact jo (lr (iQ (os:=[.slot 3]) rfl rfl rfl))
 ·refine⟨d,c,⟨m,t.1,λs e=>by have:=t.2 s e;omega⟩,?_⟩;refine kZ (δ:=[stt d b,some (.int n,false),some (.int w,false),lsi c,x4,x5]) ⟨rfl,by decide,rfl⟩ ((pre _).trans ?_);refine(gF ((lu (δ1:=[stt d b,some (.int n,false),some (.int w,false),lsi c,x4,x5]) (kz (o:=false) (iw (o1:= .slot 3) (o2:= .val (.lst [],true)) (δ2:=[stt d b,some (.int n,false),some (.int w,false),lsi c,x4,x5]) rfl (gU (by simp[iM])) rfl rfl ((zd c []).trans (by rw[lb m]))))).trans rfl)).trans ?_;exact jo (lr (iQ (os:=[.slot 3]) rfl rfl rfl))
theorem xq{c:Type}[BEq c][LawfulBEq c]: ∀(l m:List c),l.Nodup->(∀x∈l,x∈m)->l.length<=m.length
 |[],m,_,_=>lj _
 |x::l,m,b,d=>by
  rw[DY] at b;have i:=d x ja;have h:=List.perm_cons_erase i
  have:=xq l (m.erase x) b.2 (λy f=>by
   have a:=d y (iZ _ f);have j:y≠x:=λe=>b.1 (e▸f);exact(HA j).mpr a)
  have g:=h.length_eq;simp only[kO] at g ⊢;omega
def Q6{l:ik}(h:l.Pairwise (· < ·)):l.Nodup:=h.imp λh=>by omega
theorem ClOk.len{n:Nat}{c:ik}(h:ClOk n c):c.length<=n:=by
 have:=xq (c.map ab) (st n) (Q6 h.2.1) (λx b=>by
  obtain⟨s,a,rfl⟩:=nv.mp b;exact Qe.mpr (h.2.2 s a))
 simpa[st] using this
def TOk(n:Nat)(t:ik):Prop:=t.length=n/\ ∀x∈t,1<=ab x/\ab x<=n
theorem mp0:gIx (.lst [.int (-1),.int 1]) (.int 0)=some (.int (-1),false):=rfl
theorem mp1:gIx (.lst [.int (-1),.int 1]) (.int 1)=some (.int 1,false):=rfl
def Rm(u:ik)(s:Int)(b:s≠0)(h1: -(u.length:Int)<=s)(c:s<=u.length):
  kj [enc u,(.int s,false)]=some ((.int (led u s),false),[some (enc u),some (.int s,false)]):=by
 simp only[kj,mn];by_cases h:0<s
 ·have:=ixi (t:=u) (v:=s-1) (by omega) (by omega);have a: ¬s<0:=by omega
  simp only[evF];simp[h,a,led,this,iA,iM,mp1,TN]
 ·have:=ixi (t:=u) (v:= -s-1) (by omega) (by omega);have a:s<0:=by omega
  simp only[evF];simp[h,a,led,this,iA,iM,mp0,TM]
theorem Hb(i:Int):ab (-i)=ab i:=by unfold ab;split<;>split<;>omega
def uS{l:ik}{k:Nat}(h:k<l.length):l.getD k 0∈l:=by
 rw[we,jm h];exact zD h
def Pn{n:Nat}{t:ik}(b:TOk n t){s:Int}(h1:1<=ab s)(a:ab s<=n):1<=ab (led t s)/\ab (led t s)<=n:=by
 unfold led;unfold ab at h1 a;have c:=b.1;split
 ·rename_i h;rw[gZ (by omega)] at h1 a;exact b.2 _ (uS (by omega))
 ·rename_i h;rw[Hb];split at h1
  ·rw[gO (by assumption)] at a;exact b.2 _ (uS (by omega))
  ·omega
def dD(a:ik):D:= .oth .dct (a.map λw=> .int (ab w)) (a.map .int)
def AM(a:ik)(w:Int):List Int:=if ab w∈a.map ab then a.map λx=>if ab x=ab w then w else x else a++[w]
theorem KN(w:Int): ∀a:List Int,((a.map λw=>D.int (ab w)).any (D.eqb · (.int (ab w))))=decide (ab w∈a.map ab)
 |[]=>by simp
 |x::a=>by
  simp only[iT,pK,KN w a,D.eqb,js];by_cases h:ab x=ab w
  ·simp[h]
  ·have: ¬ab w=ab x:=λe=>h e.symm;simp[h,this]
theorem Fp(w:Int): ∀a:List Int,pS (a.map λw=>D.int (ab w)) (a.map .int) (.int (ab w)) (.int w)=(a.map λx=>if ab x=ab w then w else x).map .int
 |[]=>by simp[pS]
 |x::a=>by
  simp only[iT,pS,Fp w a,D.eqb];by_cases h:ab x=ab w<;>simp[h]
theorem OC(a:ik)(w:Int):D.oth .dct (qB (a.map λw=> .int (ab w)) (a.map .int) (.int (ab w)) (.int w)).1 (qB (a.map λw=> .int (ab w)) (a.map .int) (.int (ab w)) (.int w)).2=dD (AM a w):=by
 unfold qB AM dD;rw[KN];by_cases h:ab w∈a.map ab
 ·rw[gO (by simpa using h),gO h,Fp]
  congr 1
  show(a.map λw=>D.int (ab w))=List.map (λw=>D.int (ab w)) (a.map λx=>if ab x=ab w then w else x);rw[kh];apply pv;intro x _;simp only[Function.comp];split
  ·rename_i e;rw[e]
  ·rfl
 ·rw[gZ (by simpa using h),gZ h];simp
def DW(n:Nat)(a:ik):Prop:=(a.map ab).Nodup/\ ∀w∈a,1<=ab w/\ab w<=n
def DW.put(h:DW n ws)(h1:1<=ab w/\ab w<=n):DW n (AM ws w):=by
 unfold AM;split
 ·rename_i c;refine⟨?_,λx a=>?_⟩
  ·have:((ws.map λx=>if ab x=ab w then w else x).map ab)=ws.map ab:=by
    rw[kh];apply pv;intro x _;simp only[Function.comp];split
    ·rename_i e;rw[e]
    ·rfl
   rw[this];exact h.1
  ·obtain⟨y,b,rfl⟩:=nv.mp a;split
   ·exact h1
   ·exact h.2 y b
 ·rename_i c;refine⟨?_,λx a=>?_⟩
  ·rw[pF,Dh];refine⟨h.1,by simp,λx a y b e=>?_⟩;simp at b;subst b;subst e;exact c a
  ·rcases pE.mp a with a|a
   ·exact h.2 x a
   ·simp at a;subst a;exact h1
def LO(a:ik)(w:Int):AM a w≠[]:=by
 unfold AM;split
 ·rename_i h
  cases a with
  |nil=>simp at h
  |cons=>simp
 ·simp
theorem DW.len(h:DW n ws):ws.length<=n:=by
 have:=xq (ws.map ab) (st n) h.1 (λx b=>by
  obtain⟨s,a,rfl⟩:=nv.mp b;exact Qe.mpr (h.2 s a))
 simpa[st] using this
theorem AX(k:Int): ∀a:List Int,k∈a.map ab-> ∃w∈a,ab w=k/\lH (a.map λw=>D.int (ab w)) (a.map .int) (.int k)=some (.int w)
 |[],h=>by simp at h
 |x::a,h=>by
  simp only[iT,lH,D.eqb];by_cases e:ab x=k
  ·exact⟨x,by simp,e,by simp[e]⟩
  ·have:k∈a.map ab:=by
    simp only[iT,js] at h;rcases h with h|h
    ·exact absurd h.symm e
    ·exact h
   obtain⟨w,c,h1,b⟩:=AX k a this;exact⟨w,by simp[c],h1,by simp[e,b]⟩
theorem Cv(a:ik)(k:Int):vA (a.map λw=>D.int (ab w)) (.int k)=true:=by simp[vA,rO]
abbrev fbL:FS:=(gE (iz 4 (gM kj [(gv 0),(gv 3)])) (gE (BY 2 (iH 4) (gx (gL (g1 ml) [(gv 4)]))) gQ))
theorem PK{n:Nat}{t:ik}(f:TOk n t)(j:n<=5){s:Int}(h1:1<=ab s/\ab s<=n){a:ik}(g:DW n a)(b x4:Sl):fbL [some (enc t),b,some (dD a,true),some (.int s,false),x4]=some (.nx [some (enc t),b,some (dD (AM a (led t s)),true),some (.int s,false),some (.int (led t s),false)]):=by
 have h:=f.1
 have c:s≠0/\ -(t.length:Int)<=s/\s<=t.length:=by
  have:=h1;unfold ab at this;split at this<;>omega
 refine(gF (δ1:=[some (enc t),b,some (dD a,true),some (.int s,false),some (.int (led t s),false)]) ?_).trans ?_
 ·exact jc (i:=4) (δ1:=[some (enc t),b,some (dD a,true),some (.int s,false),x4]) (iW (δ1:=[some (enc t),b,some (dD a,true),some (.int s,false),x4]) (os:=[.slot 0,.slot 3]) (args:=[enc t,(.int s,false)]) rfl rfl la (Rm t s c.1 c.2.1 c.2.2)) (show 4<5 by decide)
 ·refine(gF (δ1:=[some (enc t),b,some (dD (AM a (led t s)),true),some (.int s,false),some (.int (led t s),false)]) ?_).trans rfl;have d:iH 4 [some (enc t),b,some (dD a,true),some (.int s,false),some (.int (led t s),false)]=some ((.int (led t s),false),[some (enc t),b,some (dD a,true),some (.int s,false),some (.int (led t s),false)]):=rfl;have e:gx (gL (g1 ml) [(gv 4)]) [some (enc t),b,some (dD a,true),some (.int s,false),some (.int (led t s),false)]=some (.val (.int (ab (led t s)),false),[some (enc t),b,some (dD a,true),some (.int s,false),some (.int (led t s),false)]):=rfl;unfold BY;rw[d];simp only[iJ,zQ,List.getElem?_cons_zero];rw[e];simp only[iJ,Ef,zQ,List.getElem?_cons_zero,dD];rw[gO ⟨Cv a _,by have:=g.len;simp;omega⟩,OC];rfl
theorem Nx{n:Nat}{t:ik}(i:TOk n t)(k:n<=5)(b:Sl): ∀(c a:ik) (x3 x4:Sl),(∀s∈c,1<=ab s/\ab s<=n)->DW n a-> ∃d f j,DW n d/\(a≠[]\/c≠[]->d≠[])/\nA (gH 3) fbL (c.map .int) [some (enc t),b,some (dD a,true),x3,x4]=some (.nx [some (enc t),b,some (dD d,true),f,j])
 |[],a,x3,x4,_,hw=>⟨a,x3,x4,hw,λh=>h.elim id λh=>absurd rfl h,rfl⟩
 |s::c,a,x3,x4,h,hw=>by
  have g:=h s ja;obtain⟨d,f,j,h1,l,e⟩:=Nx i k b c (AM a (led t s)) (some (.int s,false)) (some (.int (led t s),false)) (λx m=>h x (iZ _ m)) (hw.put (Pn i g.1 g.2));refine⟨d,f,j,h1,λ_=>l (.inl (LO _ _)),?_⟩;rw[iT];unfold nA;rw[show gH 3 (.int s) [some (enc t),b,some (dD a,true),x3,x4]=some [some (enc t),b,some (dD a,true),some (.int s,false),x4] from rfl];simp only[iJ];rw[PK i k g hw];simp only[iJ];exact e
def NX{l k:ik}(m:l.Nodup)(h:pP ltT (l.map .int)=k.map .int):k.Perm l/\k.Pairwise (· < ·):=by
 have g:=kY ltT (l.map D.int);rw[h] at g;have c:=(g.map λd=>match d with|D.int i=>i|_=>0)
 simp only[kh] at c;have e:((λd=>match d with|D.int i=>i|_=>0)∘D.int)=id:=rfl;rw[e,qZ,qZ] at c;refine⟨c,?_⟩;have j:=oo (l.map D.int);rw[h,Bx] at j;have f:=c.symm.nodup m;have:=j.and f;refine this.imp λ{a b} h=>?_;have h1:=h.1;rw[uN] at h1;simp only[cT] at h1;by_cases q:b<a
 ·simp[q] at h1
 ·have:=h.2;omega
theorem yZ(a:ik): ∀k:List Int,(∀x∈k,x∈a.map ab)-> ∃c:List Int,c.map ab=k/\(∀w∈c,w∈a)/\k.map (λx=>(lH (a.map λw=>D.int (ab w)) (a.map .int) (.int x)).getD .non)=c.map .int
 |[],_=>⟨[],rfl,by simp,rfl⟩
 |x::k,h=>by
  obtain⟨w,g,h1,f⟩:=AX x a (h x ja);obtain⟨c,b,d,e⟩:=yZ a k λy i=>h y (iZ _ i);exact⟨w::c,by simp[h1,b],by simp[g];exact d,by simp[f,e]⟩
def yw{n:Nat}(A:n<=5){t c:ik}(C:TOk n t)(o:ClOk n c): ∃b,ClOk n b/\jP [enc t,enc c]=some (enc b,[some (enc t),some (enc c)]):=by
 obtain⟨a,x3,x4,j,h,e⟩:=Nx C A (some (enc c)) c [] none none o.2.2 ⟨by simp,by simp⟩;have h:=h (.inr o.1);have p:=j.len;obtain⟨k,hk⟩:=A6 (kY ltT ((a.map ab).map D.int));obtain⟨g,H⟩:=NX j.1 hk;obtain⟨b,m,u,v⟩:=yZ a k λx l=>g.mem_iff.mp l;refine⟨b,⟨?_,by rw[m];exact H,λs B=>j.2 s (u s B)⟩,?_⟩
 ·intro z;have:k=[]:=by rw[<-m,z];rfl
  have f:=g.length_eq;rw[this] at f;simp at f;exact h (Qd.mp f.symm)
 ·have r:k.length<=5:=by have:=g.length_eq;simp at this;omega
  have s1:jk (dD a)=some (.lst (k.map .int),true):=by
   unfold jk dD;have q:((a.map λw=>D.int (ab w)).all λk=>(rO k).isSome)=true:=by simp[rO]
   have J:(a.map λw=>D.int (ab w))≠[]:=by simpa using h
   simp only;rw[gO ⟨q,J⟩];have y:(a.map λw=>D.int (ab w))=(a.map ab).map D.int:=by rw[kh];rfl
   unfold jN;rw[y,gO ⟨BP _,by rw[iM];simp;omega⟩,hk]
  obtain⟨L,i⟩:=Bk (gB CG (gv 0) (gv 1)) (λd=>match d with| .int x=>(lH (a.map λw=>D.int (ab w)) (a.map .int) (.int x)).getD .non|_=> .non) [some (dD a,true)] (k.map .int) [] none (by
    intro d hd;obtain⟨x,l,rfl⟩:=nv.mp hd;obtain⟨w,E,h1,f⟩:=AX x a (g.mem_iff.mp l);refine⟨false,iw (o1:= .slot 0) (o2:= .slot 1) rfl rfl rfl rfl ?_⟩;simp only[CG,dD];rw[gO (Cv a x),f];rfl) (by rw[iM];simp;omega)
  have I:((k.map D.int).map λd=>match d with| .int x=>(lH (a.map λw=>D.int (ab w)) (a.map .int) (.int x)).getD .non|_=> .non)=b.map .int:=by
   rw[kh,<-v];rfl
  rw[I] at i;simp only[List.cons_append,rd,kO,qH,Nat.zero_add] at i;refine kZ (δ:=[some (enc t),some (enc c),some (dD a,true),x3,x4]) ⟨rfl,by decide,rfl⟩ ?_;refine(gF (δ1:=[some (enc t),some (enc c),some (dD [],true),none,none]) rfl).trans ?_;refine(gF ((mH (ds:=c.map .int) (δ1:=[some (enc t),some (enc c),some (dD [],true),none,none]) rfl).trans e)).trans ?_;refine jo (lr (iQ (os:=[.val (.lst (b.map .int),true)]) (nU (gU ?_)) rfl rfl));have G:iN (gL (g1 jk) [(gv 2)]) [some (enc t),some (enc c),some (dD a,true),x3,x4]=some (k.map .int,[some (enc t),some (enc c),some (dD a,true),x3,x4]):=zb (iQ (os:=[.slot 2]) rfl rfl s1);unfold iO;rw[G];simp only[iJ,iT,pA];rw[show jf [some (enc t),some (enc c),some (dD a,true),x3,x4] [.slot 2]=some [(dD a,true)] from rfl];simp only[iJ];rw[gO (show(hJ [Opd.slot 2] [(dD a,true)]).Nodup from(show([2]:List Nat).Nodup by decide))];rw[show(List.map some [(dD a,true)]++List.replicate 1 none:Dn)=[some (dD a,true),none] from rfl,i];rfl
abbrev cD(c:ik):D:= .tup (c.map .int)
theorem EH(c:ik):D.dep (cD c)=1:=by simp[D.dep,nj]
theorem FY: ∀a:List (List Int),D.depL (a.map cD)<=1
 |[]=>by simp[D.depL]
 |c::a=>by
  have:=FY a;simp only[iT,D.depL,EH];omega
theorem PU(a b:ik):D.eqb (cD a) (cD b)=decide (a=b):=by simp[D.eqb,xN]
theorem EU(c:ik): ∀a:List (List Int),(a.map cD).any (λd=>D.eqb d (cD c))=decide (c∈a)
 |[]=>by simp
 |x::a=>by
  simp only[iT,pK,EU c a,PU,js];by_cases h:x=c
  ·simp[h]
  ·have: ¬c=x:=λe=>h e.symm;simp[h,this]
def Ci(c:ik)(a:jD):mh (cD c) (.lst (a.map cD))=some (.bl (!decide (c∈a)),false):=by
 have:inD (cD c) (.lst (a.map cD))=some (decide (c∈a)):=by
  have hd:=FY a;show(if D.depL (a.map cD)<=50/\(cD c).dep<=50 then some ((a.map cD).any λd=>D.eqb d (cD c)) else none)=_;rw[gO ⟨by omega,by rw[EH];omega⟩,EU]
 unfold mh;rw[this];rfl
def yf:Nat->List (List Int)
 |0=>[[]]
 |k+1=>yf k++((yf k).map λc=>c++[((k:Int)+1)])++((yf k).map λc=>c++[-((k:Int)+1)])
theorem uh: ∀(k:Nat) (c:ik),(c.map ab).Pairwise (· < ·)->(∀s∈c,1<=ab s/\ab s<=k)->c∈yf k
 |0,c,_,h=>by
  cases c with
  |nil=>simp[yf]
  |cons s c=>have:=h s ja;omega
 |k+1,c,b,h=>by
  simp only[yf,pE,nv];by_cases d:c=[]
  ·subst d;exact .inl (.inl (uh k [] (by simp) (by simp)))
  ·have hd:=List.dropLast_concat_getLast d;generalize c.dropLast=i at hd;generalize c.getLast d=s at hd;subst hd;rw[pF,qY] at b;have g:=h s (by simp);have f: ∀x∈i,1<=ab x/\ab x<ab s:=λx a=>⟨(h x (by simp[a])).1,b.2.2 (ab x) (zE a) (ab s) (by simp)⟩
   by_cases q:ab s<=k
   ·refine .inl (.inl (uh k _ ?_ λx a=>?_))
    ·rw[pF,qY];exact b
    ·rcases pE.mp a with a|a
     ·have:=f x a;omega
     ·simp at a;subst a;omega
   ·have e:ab s=(k:Int)+1:=by omega
    have hk:=uh k i b.1 λx a=>by have:=f x a;omega
    unfold ab at e;split at e
    ·exact .inr ⟨i,hk,by rw[show s= -((k:Int)+1) by omega]⟩
    ·exact .inl (.inr ⟨i,hk,by rw[show s=((k:Int)+1) by omega]⟩)
theorem zB: ∀(k:Nat) (n:Nat),n<=k->(yf n).length<=(yf k).length
 |0,n,h=>by rw[show n=0 by omega];exact iR _
 |k+1,n,h=>by
  by_cases e:n=k+1
  ·subst e;exact iR _
  ·have:=zB k n (by omega);simp only[yf,mx,jt];omega
def CsOk(n:Nat)(a:jD):Prop:=a.Nodup/\ ∀c∈a,ClOk n c
theorem CsOk.len(b:n<=5)(h:CsOk n cs):cs.length<=243:=by
 have h1:=xq cs (yf n) h.1 λc a=>uh n c (h.2 c a).2.1 (h.2 c a).2.2;have d:=zB 5 n b;have e:(yf 5).length=243:=by decide
 omega
def CsOk.snoc{n:Nat}{b:jD}{c:ik}(h:CsOk n b)(f:ClOk n c)(g:c∉b):CsOk n (b++[c]):=by
 refine⟨?_,λx a=>?_⟩
 ·rw[Dh];exact⟨h.1,by simp,λx a y d e=>by simp at d;subst d;subst e;exact g a⟩
 ·rcases pE.mp a with a|a
  ·exact h.2 x a
  ·simp at a;subst a;exact f
abbrev lsC(a:jD):Sl:=some (.lst (a.map cD),true)
abbrev PJ:FS:=(gE (iz 5 (gM jP [(gv 4),(gx (gB gIx (gv 2) (gv 3)))])) (gE (sIf (fT (gB mh (gv 5) (gv 2))) (gE (mB (jW 2 (iH 5))) gQ) gQ) gQ))
def ixc{a:jD}{i:Nat}(h:i<a.length):gIx (.lst (a.map cD)) (.int i)=some (cD (a.getD i []),false):=by
 have:(i:Int)<a.length:=by omega
 simp[gIx,atI,ixN,h]
def GW{a:jD}{i:Nat}(h:i<a.length):a.getD i []∈a:=by
 rw[we,jm h];exact zD h
def MI{n:Nat}(p:n<=5){t:ik}(s:TOk n t){a:jD}(f:CsOk n a){i:Nat}(m:i<a.length)(c d x5:Sl): ∃j u,CsOk n j/\a.length<=j.length/\PJ [c,d,lsC a,some (.int i,false),some (enc t),x5]=some (.nx [c,d,lsC j,some (.int i,false),some (enc t),u]):=by
 obtain⟨b,q,e⟩:=yw p s (f.2 _ (GW m));have v:=f.len p
 have s1: ∀g,gE (iz 5 (gM jP [(gv 4),(gx (gB gIx (gv 2) (gv 3)))])) g [c,d,lsC a,some (.int i,false),some (enc t),x5]=g [c,d,lsC a,some (.int i,false),some (enc t),some (enc b)]:=λg=>
  gF (jc (i:=5) (δ1:=[c,d,lsC a,some (.int i,false),some (enc t),x5]) (iW (δ1:=[c,d,lsC a,some (.int i,false),some (enc t),x5]) (os:=[.slot 4,.val (enc (a.getD i []))]) (args:=[enc t,enc (a.getD i [])]) (lI rfl (gU (iw (o1:= .slot 2) (o2:= .slot 3) rfl rfl rfl rfl (ixc m)))) rfl la e) (show 5<6 by decide))
 have k:(fT (gB mh (gv 5) (gv 2))) [c,d,lsC a,some (.int i,false),some (enc t),some (enc b)]=some (!decide (b∈a),[c,d,lsC a,some (.int i,false),some (enc t),some (enc b)]):=
  kz (o:=false) (iw (o1:= .slot 5) (o2:= .slot 2) rfl rfl rfl rfl (Ci b a))
 by_cases h:b∈a
 ·refine⟨a,some (enc b),f,iR _,(s1 _).trans ((gF ((lu ?_).trans rfl)).trans rfl)⟩;rw[k,oX h];rfl
 ·refine⟨a++[b],some (enc b),f.snoc q h,by simp,(s1 _).trans ?_⟩;rw[lb h] at k;refine(gF ((nI k).trans (rQ (δ1:=[c,d,lsC a,some (.int i,false),some (enc t),some (enc b)]) (r:=enc b) (l0:=a.map cD) (l:=a.map cD) rfl rfl rfl (by simp;omega)))).trans ?_;simp[lsC,gQ]
theorem Nw{n:Nat}(k:n<=5)(i:Nat)(b c:Sl): ∀(e:jD) (a:jD) (x4 x5:Sl),(∀t∈e,TOk n t)->CsOk n a->i<a.length-> ∃d g h,CsOk n d/\a.length<=d.length/\nA (gH 4) PJ (e.map cD) [b,c,lsC a,some (.int i,false),x4,x5]=some (.nx [b,c,lsC d,some (.int i,false),g,h])
 |[],a,x4,x5,_,f,j=>⟨a,x4,x5,f,iR _,rfl⟩
 |t::e,a,x4,x5,l,f,j=>by
  obtain⟨m,s,h1,v,o⟩:=MI k (l t ja) f j b c x5;obtain⟨d,g,h,q,w,p⟩:=Nw k i b c e m (some (enc t)) s (λu r=>l u (iZ _ r)) h1 (by omega);refine⟨d,g,h,q,by omega,?_⟩;rw[iT];unfold nA;rw[show gH 4 (cD t) [b,c,lsC a,some (.int i,false),x4,x5]=some [b,c,lsC a,some (.int i,false),some (enc t),x5] from rfl];simp only[iJ];rw[o];simp only[iJ];exact p
abbrev ftW:FT:=(fT (gB (kd .Lt) (gv 3) (gx (gL (g1 lY) [(gv 2)]))))
abbrev fbW:FS:=(gE (oH (iN (iH 1)) (gH 4) PJ) (gE (iz 3 (gB kD (gv 3) (gx (fC (.int 1))))) gQ))
def NO{n:Nat}(w:n<=5)(d:Sl)(c:jD)(y: ∀t∈c,TOk n t): ∀(m a i:Nat) (o:Bool) (b:jD) (x4 x5:Sl),i+m=243->m<a->CsOk n b-> ∃j q p r s,CsOk n j/\b.length<=j.length/\nh ftW fbW a [d,some (.lst (c.map cD),o),lsC b,some (.int i,false),x4,x5]=some (.nx [d,some (.lst (c.map cD),q),lsC j,some (.int p,false),r,s]):=by
 intro m
 induction m with
 |zero=>
  intro a i o b x4 x5 l C g;have G:=g.len w;obtain⟨f,rfl⟩: ∃f,a=f+1:=⟨a-1,by omega⟩
  refine⟨b,o,i,x4,x5,g,iR _,?_⟩;have h: ¬((i:Int)<b.length):=by omega
  have e:ftW [d,some (.lst (c.map cD),o),lsC b,some (.int i,false),x4,x5]=some (false,[d,some (.lst (c.map cD),o),lsC b,some (.int i,false),x4,x5]):=
   kz (o:=false) (iw (o1:= .slot 3) (o2:= .val (.int b.length,false)) rfl (gU (iQ (os:=[.slot 2]) rfl rfl (by simp))) rfl rfl (by rw[QU,lb h]))
  unfold nh;rw[e];rfl
 |succ m E=>
  intro a i o b x4 x5 l C g;obtain⟨f,rfl⟩: ∃f,a=f+1:=⟨a-1,by omega⟩
  have e:ftW [d,some (.lst (c.map cD),o),lsC b,some (.int i,false),x4,x5]=some (decide ((i:Int)<b.length),[d,some (.lst (c.map cD),o),lsC b,some (.int i,false),x4,x5]):=
   kz (o:=false) (iw (o1:= .slot 3) (o2:= .val (.int b.length,false)) rfl (gU (iQ (os:=[.slot 2]) rfl rfl (by simp))) rfl rfl (by rw[QU]))
  by_cases h:((i:Int)<b.length)
  ·rw[oX h] at e;obtain⟨k,u,v,h1,H,z⟩:=Nw w i d (some (.lst (c.map cD),false)) c b x4 x5 y g (by omega);obtain⟨j,q,p,r,s,B,I,A⟩:=E f (i+1) false k u v (by omega) (by omega) h1;refine⟨j,q,p,r,s,B,by omega,?_⟩;unfold nh;rw[e];simp only[iJ,jy]
   have x:fbW [d,some (.lst (c.map cD),o),lsC b,some (.int i,false),x4,x5]=some (.nx [d,some (.lst (c.map cD),false),lsC k,some (.int (i+1:Nat),false),u,v]):=by
    refine(gF ((mH (ds:=c.map cD) (δ1:=[d,some (.lst (c.map cD),false),lsC b,some (.int i,false),x4,x5]) rfl).trans z)).trans ?_;refine(gF (jc (i:=3) (δ1:=[d,some (.lst (c.map cD),false),lsC k,some (.int i,false),u,v]) (iw (o1:= .slot 3) (o2:= .val (.int 1,false)) rfl rfl rfl rfl rfl) (show 3<6 by decide))).trans ?_;simp[gQ]
   rw[x];simp only[iJ];exact A
  ·rw[lb h] at e;refine⟨b,o,i,x4,x5,g,iR _,?_⟩;unfold nh;rw[e];rfl
def G2{n:Nat}(i:n<=5){b a:jD}(f: ∀t∈b,TOk n t)(h:CsOk n a)(o:Bool): ∃c m,CsOk n c/\a.length<=c.length/\lR [(.lst (a.map cD),false),(.lst (b.map cD),o)]=some ((.lst (c.map cD),true),[some (.lst (a.map cD),false),m]):=by
 obtain⟨c,d,j,l,p,g,k,e⟩:=NO i (some (.lst (a.map cD),false)) b f 243 RP 0 o a none none (by omega) (by decide) h;refine⟨c,if o=true then some (.lst (b.map cD),d) else some (.lst (b.map cD),o),g,k,?_⟩;refine(kZ (r:=(.lst (c.map cD),true)) (δ:=[some (.lst (a.map cD),false),some (.lst (b.map cD),d),none,some (.int j,false),l,p]) ⟨rfl,(show 2<=6 by decide),by cases o<;>rfl⟩ ?_).trans ?_
 ·refine(gF (δ1:=[some (.lst (a.map cD),false),some (.lst (b.map cD),o),lsC a,none,none,none]) rfl).trans ?_;refine(gF (δ1:=[some (.lst (a.map cD),false),some (.lst (b.map cD),o),lsC a,some (.int 0,false),none,none]) rfl).trans ?_;exact(gF e).trans (jo rfl)
 ·cases o<;>rfl
def yF(a:jD)(c:ik):List (List Int):=if c∈a then a else a++[c]
def dd(a:jD):List (List Int):=a.foldl yF []
theorem MV(a:jD)(c:ik):qe (a.map cD) (cD c)=(yF a c).map cD:=by
 unfold qe yF;rw[show(a.map cD).any (D.eqb · (cD c))=decide (c∈a) from EU c a];by_cases h:c∈a<;>simp[h]
theorem CV: ∀(a b:jD),(a.map cD).foldl qe (b.map cD)=(a.foldl yF b).map cD
 |[],b=>rfl
 |c::a,b=>by rw[iT,rm,rm,MV,CV a]
theorem KS:x∈yF a c↔x∈a\/x=c:=by
 unfold yF;by_cases h:c∈a
 ·rw[gO h];constructor
  ·exact .inl
  ·rintro(h1|rfl)
   ·exact h1
   ·exact h
 ·rw[gZ h];simp
theorem zf: ∀(a b:jD) (x:ik),x∈a.foldl yF b↔x∈b\/x∈a
 |[],b,x=>by simp
 |c::a,b,x=>by rw[rm,zf a,KS,js,or_assoc]
def MW(h:f.Nodup):(yF f c).Nodup:=by
 unfold yF;split
 ·exact h
 ·rename_i b;rw[Dh];exact⟨h,by simp,λx d y a e=>by simp at a;subst a;subst e;exact b d⟩
theorem CN: ∀(b a:jD),a.Nodup->(b.foldl yF a).Nodup
 |[],a,h=>h
 |c::b,a,h=>by rw[rm];exact CN b _ (MW h)
theorem sQ: ∀l:List Int,D.prL (l.map .int)=true
 |[]=>by simp[D.prL]
 |x::l=>by simp[D.prL,D.pr,sQ l]
def Ph(c:ik):okS (cD c)=true:=by simp[okS,sQ,nj]
theorem JJ(a:jD):(a.map cD).all okS=true:=by
 rw[nu];intro d hd;obtain⟨c,_,rfl⟩:=nv.mp hd;exact Ph c
theorem zo(c:CmpOp): ∀a b:List Int,(oS c (a.map .int) (b.map .int)).isSome=true
 |[],b=>by simp[oS]
 |x::a,[]=>by simp[oS]
 |x::a,y::b=>by
  simp only[iT,oS];split
  ·exact zo c a b
  ·simp[lC]
theorem Gp(a:jD)(h: ∀c∈a,c≠[]):md (a.map cD)=true:=by
 have hk: ∀c:List Int,c≠[]->kb (cD c)=some 1:=λc i=>by
  cases c with
  |nil=>exact absurd rfl i
  |cons=>rfl
 unfold md
 cases a with
 |nil=>rfl
 |cons c a=>
  rw[uo];right;simp only[iT];rw[ko,ko,hk c (h c ja)];refine⟨⟨rfl,?_⟩,?_⟩
  ·rw[nu];intro d hd;rw[<-iT (f:=cD)] at hd;obtain⟨x,g,rfl⟩:=nv.mp hd;rw[hk x (h x g),EH];simp[D.pr,sQ]
  ·rw[nu];intro d hd;rw[nu];intro e b;rw[<-iT (f:=cD)] at hd b;obtain⟨x,g,rfl⟩:=nv.mp hd;obtain⟨y,j,rfl⟩:=nv.mp b;simp only[lC];exact zo _ _ _
def unC:D->List Int
 | .tup l=>l.map iOf
 |_=>[]
theorem rG(c:ik):unC (cD c)=c:=by
 simp only[unC,kh];rw[pv (g:=id),qZ];intro x _;rfl
def EJ(h:m.Perm (cs.map cD)): ∃a:List (List Int),m=a.map cD/\a.Perm cs:=by
 refine⟨m.map unC,?_,?_⟩
 ·rw[kh]
  symm
  rw[pv (g:=id),qZ];intro d hd;obtain⟨c,_,rfl⟩:=nv.mp (h.mem_iff.mp hd);simp only[Function.comp,rG];rfl
 ·have:=h.map unC;rw[kh] at this;rw[show List.map (unC∘cD) cs=List.map id cs from pv (λc _=>rG c),qZ] at this;exact this
def SrtC(c:jD):Prop:=c.Pairwise λa b=>ltT (cD b) (cD a)=false
def Lh{n:Nat}{cs:jD}(g: ∀c∈cs,ClOk n c)(j:cs.length<500): ∃i ks:List (List Int),CsOk n ks/\SrtC ks/\(∀c,c∈ks↔c∈cs)/\ks.length<=cs.length/\yy (.lst (cs.map cD))=some (.oth .set [] (i.map cD),true)/\jk (.oth .set [] (i.map cD))=some (.lst (ks.map cD),true):=by
 have d: ∀c,c∈dd cs↔c∈cs:=λc=>by unfold dd;rw[zf];simp
 have b:(dd cs).Nodup:=CN cs [] (by simp);obtain⟨ks,e,f⟩:=EJ (kY ltT ((dd cs).map cD));have a:(dd cs).length<=cs.length:=xq _ _ b λc h=>(d c).mp h;refine⟨dd cs,ks,⟨f.symm.nodup b,λc h=>g c ((d c).mp (f.mem_iff.mp h))⟩,?_,λc=>f.mem_iff.trans (d c),by rw[f.length_eq];exact a,?_,?_⟩
 ·have:=oo ((dd cs).map cD);rw[e,Bx] at this;exact this
 ·show(if(cs.map cD).all okS=true/\(cs.map cD).length<500 then some (D.oth .set [] (nV (cs.map cD)),true) else none)=_;rw[gO ⟨JJ cs,by simpa using j⟩];unfold nV;rw[show([]:List D)=([]:List (List Int)).map cD from rfl,CV];rfl
 ·show(if((dd cs).map cD).all okS=true then jN ((dd cs).map cD) else none)=_;rw[gO (JJ _)];unfold jN;rw[gO ⟨Gp _ λc h=>(g c ((d c).mp h)).1,by rw[iM];simp;omega⟩,e]
theorem yS: ∀(k:Nat) (r f t:ik),t∈mX k r f-> ∀x∈t,x∈f\/ ∃y∈r,x=y*1\/x=y* -1
 |0,r,f,t,h,x,b=>by simp[mX] at h;subst h;exact .inl b
 |k+1,r,f,t,h,x,b=>by
  simp only[mX,List.mem_flatMap,pE,rW] at h;obtain⟨v,hv,h⟩:=h
  have a: ∀s:Int,(s=1\/s= -1)->t∈mX k (r.eraseIdx v) (f++[r.getD v 0*s])->x∈f\/ ∃y∈r,x=y*1\/x=y* -1:=by
   intro s c h;rcases yS k _ _ t h x b with h1|⟨y,d,h1⟩
   ·rcases pE.mp h1 with h1|h1
    ·exact .inl h1
    ·simp at h1;refine .inr ⟨r.getD v 0,uS hv,?_⟩;rw[we];rcases c with rfl|rfl<;>simp[h1]
   ·exact .inr ⟨y,List.mem_of_mem_eraseIdx d,h1⟩
  rcases h with h|h
  ·exact a 1 (.inl rfl) h
  ·exact a (-1) (.inr rfl) h
def Ik{n:Nat}{t:ik}(h:t∈mX n (st n) []):TOk n t:=by
 refine⟨Ij h,λx a=>?_⟩;rcases yS n _ _ t h x a with h1|⟨y,b,h1⟩
 ·simp at h1
 ·have:=Qe.mp b;unfold ab;rcases h1 with rfl|rfl<;>split<;>omega
def TOk.abs(h:TOk n t):TOk n (t.map ab):=by
 refine⟨by simpa using h.1,λx a=>?_⟩;obtain⟨y,b,rfl⟩:=nv.mp a;have:=h.2 y b;rw[Br (i:=ab y) (by omega)];exact this
theorem C6(l:EvF)(P:List Int->Prop)(b:Bool)(n:Int)(h: ∀a,∃i c,P c/\l [(.lst [.int a,.bl b],true),(.int n,false)]=some (enc c,[stt i b,some (.int n,false)])): ∀(j:List D) (f:jD) (a:Int) (x:Sl),(∀c∈f,P c)->f.length+j.length<=1000->
  ∃(i:Int) (k:jD) (o:Sl),(∀c∈k,P c)/\k.length=f.length+j.length/\lZ (gH 2) jK (iY (gM l [gv 0,gv 1])) j (f.map cD) [stt a b,some (.int n,false),x]=some (k.map cD,[stt i b,some (.int n,false),o])
 |[],f,a,x,m,_=>⟨a,f,x,m,by simp,rfl⟩
 |d::j,f,a,x,m,p=>by
  obtain⟨a1,z,v,r⟩:=h a
  obtain⟨i,k,o,t,q,e⟩:=C6 l P b n h j (f++[z]) a1 (some (d,false)) (λy g=>by
   rcases pE.mp g with g|g
   ·exact m y g
   ·simp at g;subst g;exact v) (by simp at p ⊢;omega)
  refine⟨i,k,o,t,by simp at q ⊢;omega,?_⟩;have u:(f.map cD).length<sizeLine:=by rw[iM];simp at p ⊢;omega
  have s:gM l [gv 0,gv 1] [stt a b,some (.int n,false),some (d,false)]=some (enc z,[stt a1 b,some (.int n,false),some (d,false)]):=
   iW (δ1:=[stt a b,some (.int n,false),some (d,false)]) (os:=[.slot 0,.slot 1]) (args:=[(.lst [.int a,.bl b],true),(.int n,false)]) rfl rfl (show([0]:List Nat).Nodup by decide) r
  rw[lZ,show gH 2 d [stt a b,some (.int n,false),x]=some [stt a b,some (.int n,false),some (d,false)] from rfl];simp only[iJ,AL,jy,vU];rw[s];simp only[iJ];rw[gO u];rw[pF] at e;exact e
def xS(k:EvF)(P:List Int->Prop)(b:Bool)(n:Int)(h: ∀a,∃d c,P c/\k [(.lst [.int a,.bl b],true),(.int n,false)]=some (enc c,[stt d b,some (.int n,false)]))(j:List D)(hd:j.length<=1000)(a:Int)(f g:Sl)(iq:Dn)(m:FIt)(l:m (stt a b::f::g::some (.int n,false)::iq)=some (j,stt a b::f::g::some (.int n,false)::iq)):
  ∃(d:Int) (i:jD),(∀c∈i,P c)/\i.length=j.length/\iO [0,3] 1 m (gH 2) jK (iY (gM k [gv 0,gv 1])) (stt a b::f::g::some (.int n,false)::iq)=some ((.lst (i.map cD),true),stt d b::f::g::some (.int n,false)::iq):=by
 obtain⟨d,i,p,h1,o,e⟩:=C6 k P b n h j [] a none (by simp) (by simpa using hd);refine⟨d,i,h1,by simpa using o,?_⟩;unfold iO;rw[l];simp only[iJ,iT,pA];rw[show jf (stt a b::f::g::some (.int n,false)::iq) [.slot 0,.slot 3]=some [(.lst [.int a,.bl b],true),(.int n,false)] from rfl];simp only[iJ];rw[gO (show(hJ [Opd.slot 0,Opd.slot 3] [(D.lst [.int a,.bl b],true),(.int n,false)]).Nodup from(show([0]:List Nat).Nodup by decide))];rw[show(List.map some [(D.lst [.int a,.bl b],true),(D.int n,false)]++List.replicate 1 none:Dn)=[stt a b,some (.int n,false),none] from rfl];rw[show([]:List D)=([]:List (List Int)).map cD from rfl,e];rfl
def Kz(a:jD)(v:Nat): ∃m,m<=v/\PX.zk (a.map cD) none (some (v:Int))=(a.take m).map cD:=by
 refine⟨min v a.length,by omega,?_⟩;unfold PX.zk;rw[HT.Qf,HT.QM,List.map_take,jt,List.drop_zero,Nat.sub_zero]
theorem SrtC.take(h:SrtC a)(m:Nat):SrtC (a.take m):=List.Pairwise.sublist (uB m a) h
theorem CsOk.take(h:CsOk n a)(m:Nat):CsOk n (a.take m):=⟨List.Nodup.sublist (uB m a) h.1,λc b=>h.2 c (uv b)⟩
def KU(t:ik)(a:t.length<=100):gL (g1 kg) [(gx (iO [] 1 (iN (iH 0)) (gH 0) jK (iY (gL (g1 ml) [(gv 0)]))))] [some (cD t,false)]=some ((cD (t.map ab),false),[some (cD t,false)]):=by
 obtain⟨b,e⟩:=Bk (gL (g1 ml) [gv 0]) (λd=> .int (ab (iOf d))) [] (t.map .int) [] none (by
  intro d hd;obtain⟨i,_,rfl⟩:=nv.mp hd;exact⟨false,rfl⟩) (by rw[iM];simp;omega)
 simp only[List.cons_append,rd,kO,qH,kh] at e;refine iQ (os:=[.val (.lst ((t.map ab).map .int),true)]) (nU (gU ?_)) rfl rfl;unfold iO;rw[show iN (iH 0) [some (cD t,false)]=some (t.map .int,[some (cD t,false)]) from rfl];simp only[iJ,pA,uJ,hJ,la,jy,rd,List.replicate_succ,List.replicate_zero];rw[e,kh];rfl
def RK{f:F}{c:FIt}{d a:Dn}{b rs:List D}{g:Sl}(h1:c d=some (b,a))(e:lZ (gH 0) jK (iY f) b [] [none]=some (rs,[g])):iO [] 1 c (gH 0) jK (iY f) d=some ((.lst rs,true),a):=by
 unfold iO;rw[h1];simp only[iJ,pA,uJ,hJ,la,jy,rd,List.replicate_succ,List.replicate_zero];rw[e];rfl
def Ha(a:jD)(m:a.length<=1000)(l: ∀t∈a,t.length<=100)(b c f g i j k:Sl)(o:Bool):iO [] 1 (iN (iH 7)) (gH 0) jK (iY (gL (g1 kg) [(gx (iO [] 1 (iN (iH 0)) (gH 0) jK (iY (gL (g1 ml) [(gv 0)]))))])) [b,c,f,g,i,j,k,some (.lst (a.map cD),o)]=some ((.lst ((a.map (List.map ab)).map cD),true),[b,c,f,g,i,j,k,some (.lst (a.map cD),false)]):=by
 obtain⟨n,e⟩:=Bk (gL (g1 kg) [(gx (iO [] 1 (iN (iH 0)) (gH 0) jK (iY (gL (g1 ml) [(gv 0)]))))]) (λd=>cD ((unC d).map ab)) [] (a.map cD) [] none (by
  intro d hd;obtain⟨t,h,rfl⟩:=nv.mp hd;refine⟨false,?_⟩;rw[rG];exact KU t (l t h)) (by rw[iM];simp;omega)
 simp only[List.cons_append,rd,kO,qH,kh] at e;have:(a.map ((λd=>cD ((unC d).map ab))∘cD))=a.map (cD∘List.map ab):=pv λt _=>by simp only[Function.comp,rG]
 rw[this] at e;rw[kh];exact RK rfl e
def EX(n:Nat)(ks:jD):Prop:=n<=5/\CsOk n ks/\SrtC ks/\ks.length<=30
abbrev rD'(n:Nat)(ks:jD):D:= .tup [.int n,.tup (ks.map cD)]
abbrev lv(L:List D):Sl:=some (.lst L,true)
abbrev ii(n:Int):Sl:=some (.int n,false)
def ED(h:iX fs δ=iX b a):gM ev fs δ=gM ev b a:=by unfold gM;rw[h]
def Gw(a:Int)(b:Bool)(lo d:Nat)(h1:lo<=d)(h5:d<=5): ∃a' n h,EX n h/\lo<=n/\n<=d/\lQ [(.lst [.int a,.bl b],true),(.int lo,false),(.int d,false)]=some ((rD' n h,false),[stt a' b,ii lo,ii d]):=by
 obtain⟨v,a1,v0,v1,e1⟩:=mD a b ((d:Int)-lo+1) (by omega) (by omega);obtain⟨w,s,w0,w1,e2⟩:=mD a1 b 4 (by omega) (by omega);obtain⟨n,hn⟩: ∃n:Nat,(lo:Int)+v=n:=⟨(lo+v).toNat,by omega⟩
 have pre: ∀g,gE (iz 3 (gB kD (gv 1) (gx (gM gJ [(gv 0),(gx (gB kD (gx (gB gSub (gv 2) (gv 1))) (gx (fC (.int 1)))))])))) (gE (iz 4 (gM gJ [(gv 0),(gx (fC (.int 4)))])) g) [stt a b,ii lo,ii d,none,none,none,none,none]=g [stt s b,ii lo,ii d,ii n,ii w,none,none,none]:=by
  intro g;refine(gF (δ1:=[stt a1 b,ii lo,ii d,ii n,none,none,none,none]) ?_).trans ?_
  ·refine jc (i:=3) (δ1:=[stt a1 b,ii lo,ii d,none,none,none,none,none]) (iw (o1:= .slot 1) (o2:= .val (.int v,false)) rfl (gU (e1 _ _ _ rfl rfl)) rfl rfl ?_) (show 3<8 by decide);rw[Ng,hn]
  ·exact gF (jc (i:=4) (δ1:=[stt s b,ii lo,ii d,ii n,none,none,none,none]) (e2 _ [ii lo,ii d,ii n,none,none,none,none] _ rfl rfl) (show 4<8 by decide))
 by_cases hz:n=0
 ·subst hz;refine⟨s,0,[],⟨by omega,⟨by simp,by simp⟩,List.Pairwise.nil,by simp⟩,by omega,by omega,?_⟩;refine kZ (δ:=[stt s b,ii lo,ii d,ii (0:Nat),ii w,none,none,none]) ⟨rfl,by decide,rfl⟩ ((pre _).trans ?_);refine jo ((nI (δ1:=[stt s b,ii lo,ii d,ii (0:Nat),ii w,none,none,none]) (by simp)).trans (jo (lr ?_)));simp[iM]
 ·have n1:1<=n:=by omega
  have N:n<=5:=by omega
  obtain⟨u,H,u0,u1,e3⟩:=mD s b 3 (by omega) (by omega)
  let T:List Int:=[4,8,13]
  let m:=T.getD u.toNat 0
  have hm:0<m/\m<=13:=by
   rcases(show u=0\/u=1\/u=2 by omega) with rfl|rfl|rfl<;>decide
  obtain⟨c,I,q0,q1,e4⟩:=mD H b m hm.1 (by omega);obtain⟨f,rfl⟩: ∃f:Nat,c=f:=⟨c.toNat,by omega⟩
  have i1:vN (gv 5) [stt I b,ii lo,ii d,ii n,ii w,ii f,none,none]=some (iu 0 f,[stt I b,ii lo,ii d,ii n,ii w,ii f,none,none]):=vZ (o:= .slot 5) rfl rfl (by omega);obtain⟨C,l,aV,l8,e5⟩:=xS lS (ClOk n) b n (λa=>G3 a b n n1 N) (iu 0 f) (by simp[iu];omega) I (ii lo) (ii d) [ii w,ii f,none,none] (vN (gv 5)) i1;have j3:l.length<13:=by simp[iu] at l8;omega
  have G: ∃(j:Int) (A:jD) (q:Sl),(∀c∈A,ClOk n c)/\A.length<500/\(sIf (fT (gB (kd .Gt) (gv 4) (gx (fC (.int 0))))) (gE (iz 7 (iO [0,3] 1 (vN (gx (gB kD (gx (fC (.int 1))) (gx (gB tK (gv 4) (gx (fC (.int 2)))))))) (gH 2) jK (iY (gM kF [(gv 0),(gv 1)])))) (gE (sIf (fT (gB gEq (gv 4) (gx (fC (.int 3))))) (gE (iz 7 (iO [] 1 (iN (iH 7)) (gH 0) jK (iY (gL (g1 kg) [(gx (iO [] 1 (iN (iH 0)) (gH 0) jK (iY (gL (g1 ml) [(gv 0)]))))])))) gQ) gQ) (gE (iz 6 (gM lR [(gx (tQ (gx (gL (g1 jk) [(gx (gL (g1 yy) [(gv 6)]))])) (gx (fC (.int 2))))),(gv 7)])) gQ))) gQ) [stt C b,ii lo,ii d,ii n,ii w,ii f,lv (l.map cD),none]=some (.nx [stt j b,ii lo,ii d,ii n,ii w,ii f,lv (A.map cD),q]):=by
   by_cases hw:0<w
   ·obtain⟨k,hk,br⟩: ∃k:Nat,(1:Int)+w%2=k/\k<=2:=⟨(1+w%2).toNat,by omega,by omega⟩
    have i2:vN (gx (gB kD (gx (fC (.int 1))) (gx (gB tK (gv 4) (gx (fC (.int 2))))))) [stt C b,ii lo,ii d,ii n,ii w,ii f,lv (l.map cD),none]=some (iu 0 k,[stt C b,ii lo,ii d,ii n,ii w,ii f,lv (l.map cD),none]):=by
     refine vZ (o:= .val (.int k,false)) (gU ?_) rfl (by omega);rw[<-hk];simp[tK,gI]
    obtain⟨j,B,F,W,e6⟩:=xS kF (TOk n) b n (λa=>by
     obtain⟨a',t,J,e⟩:=D2 a b n N;exact⟨a',t,Ik J,e⟩) (iu 0 k) (by simp[iu];omega) C (ii lo) (ii d) [ii w,ii f,lv (l.map cD),none] _ i2
    have L:B.length<=1000:=by simp[iu] at W;omega
    have Z: ∃x:List (List Int),(∀t∈x,TOk n t)/\ ∀g,gE (sIf (fT (gB gEq (gv 4) (gx (fC (.int 3))))) (gE (iz 7 (iO [] 1 (iN (iH 7)) (gH 0) jK (iY (gL (g1 kg) [(gx (iO [] 1 (iN (iH 0)) (gH 0) jK (iY (gL (g1 ml) [(gv 0)]))))])))) gQ) gQ) g [stt j b,ii lo,ii d,ii n,ii w,ii f,lv (l.map cD),lv (B.map cD)]=g [stt j b,ii lo,ii d,ii n,ii w,ii f,lv (l.map cD),lv (x.map cD)]:=by
     by_cases h3:w=3
     ·refine⟨B.map (List.map ab),λt J=>?_,λg=>?_⟩
      ·obtain⟨t',V,rfl⟩:=nv.mp J;exact(F t' V).abs
      ·refine gF ((nI (δ1:=[stt j b,ii lo,ii d,ii n,ii w,ii f,lv (l.map cD),lv (B.map cD)]) (kz (o:=false) (iw (o1:= .slot 4) (o2:= .val (.int 3,false)) rfl rfl rfl rfl (by rw[Nf,h3];rfl)))).trans ((gF (jc (i:=7) (δ1:=[stt j b,ii lo,ii d,ii n,ii w,ii f,lv (l.map cD),some (.lst (B.map cD),false)]) (Ha B L (λt J=>by have:=(F t J).1;omega) _ _ _ _ _ _ _ true) (show 7<8 by decide))).trans rfl))
     ·refine⟨B,F,λg=>gF ((lu (δ1:=[stt j b,ii lo,ii d,ii n,ii w,ii f,lv (l.map cD),lv (B.map cD)]) (kz (o:=false) (iw (o1:= .slot 4) (o2:= .val (.int 3,false)) rfl rfl rfl rfl (by rw[Nf,Bm,lb h3])))).trans rfl)⟩
    obtain⟨x,M,Z⟩:=Z;obtain⟨vs,h,Q,P,S,R,D,X⟩:=Lh aV (by omega);obtain⟨y,fF,ct⟩:=Kz h 2;obtain⟨A,q,Y,_,e7⟩:=G2 N M (Q.take y) true;refine⟨j,A,q,Y.2,by have:=Y.len N;omega,?_⟩;refine(nI (δ1:=[stt C b,ii lo,ii d,ii n,ii w,ii f,lv (l.map cD),none]) (kz (o:=false) (iw (o1:= .slot 4) (o2:= .val (.int 0,false)) rfl rfl rfl rfl (by rw[Lq,oX (show w>0 from hw)])))).trans ?_;refine(gF (jc (i:=7) e6 (show 7<8 by decide))).trans ((Z _).trans ((gF (jc (i:=6) (δ1:=[stt j b,ii lo,ii d,ii n,ii w,ii f,lv (l.map cD),q]) (iW (δ1:=[stt j b,ii lo,ii d,ii n,ii w,ii f,lv (l.map cD),lv (x.map cD)]) (os:=[.val (.lst ((h.take y).map cD),true),.slot 7]) (args:=[(.lst ((h.take y).map cD),false),(.lst (x.map cD),true)]) (lI (δ1:=[stt j b,ii lo,ii d,ii n,ii w,ii f,lv (l.map cD),lv (x.map cD)]) (gU ?_) rfl) rfl (show([7]:List Nat).Nodup by decide) e7) (show 6<8 by decide))).trans rfl))
    have f1:gL (g1 jk) [(gx (gL (g1 yy) [(gv 6)]))] [stt j b,ii lo,ii d,ii n,ii w,ii f,lv (l.map cD),lv (x.map cD)]=some ((.lst (h.map cD),true),[stt j b,ii lo,ii d,ii n,ii w,ii f,lv (l.map cD),lv (x.map cD)]):=
     iQ (os:=[.val (.oth .set [] (vs.map cD),true)]) (nU (gU (iQ (os:=[.slot 6]) rfl rfl D))) rfl X
    unfold tQ;rw[gU f1];simp only[iJ];rw[show gx (fC (.int 2)) [stt j b,ii lo,ii d,ii n,ii w,ii f,lv (l.map cD),lv (x.map cD)]=some (.val (.int 2,false),[stt j b,ii lo,ii d,ii n,ii w,ii f,lv (l.map cD),lv (x.map cD)]) from rfl];simp only[iJ,Ef];rw[show gSl none (some 2) (.lst (h.map cD))=some (.lst (PX.zk (h.map cD) none (some 2)),true) from rfl];simp only[iJ];rw[show PX.zk (h.map cD) none (some 2)=(h.take y).map cD from ct]
   ·refine⟨C,l,none,aV,by omega,?_⟩;exact(lu (δ1:=[stt C b,ii lo,ii d,ii n,ii w,ii f,lv (l.map cD),none]) (kz (o:=false) (iw (o1:= .slot 4) (o2:= .val (.int 0,false)) rfl rfl rfl rfl (by rw[Lq,lb (show ¬w>0 from hw)])))).trans rfl
  obtain⟨j,A,q,Y,y8,G⟩:=G;obtain⟨vs,h,Q,P,S,R,D,X⟩:=Lh Y y8
  have f1:gL (g1 jk) [(gx (gL (g1 yy) [(gv 6)]))] [stt j b,ii lo,ii d,ii n,ii w,ii f,lv (A.map cD),q]=some ((.lst (h.map cD),true),[stt j b,ii lo,ii d,ii n,ii w,ii f,lv (A.map cD),q]):=
   iQ (os:=[.val (.oth .set [] (vs.map cD),true)]) (nU (gU (iQ (os:=[.slot 6]) rfl rfl D))) rfl X
  have last: ∃(z:Int) (E:jD),CsOk n E/\SrtC E/\E.length<=30/\sIf (fT (gB (kd .Gt) (gx (gL (g1 lY) [(gv 6)])) (gx (fC (.int 30))))) (gE (iz 6 (tQ (gv 6) (gx (gM gJ [(gv 0),(gx (fC (.int 30)))])))) gQ) gQ [stt j b,ii lo,ii d,ii n,ii w,ii f,lv (h.map cD),q]=some (.nx [stt z b,ii lo,ii d,ii n,ii w,ii f,lv (E.map cD),q]):=by
   have U:(fT (gB (kd .Gt) (gx (gL (g1 lY) [(gv 6)])) (gx (fC (.int 30))))) [stt j b,ii lo,ii d,ii n,ii w,ii f,lv (h.map cD),q]=some (decide ((h.length:Int)>30),[stt j b,ii lo,ii d,ii n,ii w,ii f,lv (h.map cD),q]):=
    kz (o:=false) (iw (o1:= .val (.int h.length,false)) (o2:= .val (.int 30,false)) (gU (iQ (os:=[.slot 6]) rfl rfl (by simp))) rfl rfl rfl (Lq _ _))
   by_cases hb:(h.length:Int)>30
   ·obtain⟨p,z,p0,p1,e8⟩:=mD j b 30 (by omega) (by omega);obtain⟨O,rfl⟩: ∃O:Nat,p=O:=⟨p.toNat,by omega⟩
    obtain⟨y,fF,ct⟩:=Kz h O;refine⟨z,h.take y,Q.take y,P.take y,by rw[pD];omega,?_⟩;rw[oX hb] at U;refine(nI U).trans ((gF (jc (i:=6) (δ1:=[stt z b,ii lo,ii d,ii n,ii w,ii f,lv (h.map cD),q]) (r:=(.lst ((h.take y).map cD),true)) ?_ (show 6<8 by decide))).trans rfl);unfold tQ;rw[show gv 6 [stt j b,ii lo,ii d,ii n,ii w,ii f,lv (h.map cD),q]=some (.slot 6,[stt j b,ii lo,ii d,ii n,ii w,ii f,lv (h.map cD),q]) from rfl];simp only[iJ];rw[gU (e8 _ [ii lo,ii d,ii n,ii w,ii f,lv (h.map cD),q] _ rfl rfl)];simp only[iJ,Ef];rw[show res (stt z b::[ii lo,ii d,ii n,ii w,ii f,lv (h.map cD),q]) (.slot 6)=some (.lst (h.map cD)) from rfl];simp only[iJ];rw[show gSl none (some (O:Int)) (.lst (h.map cD))=some (.lst (PX.zk (h.map cD) none (some (O:Int))),true) from rfl,ct];rfl
   ·rw[lb hb] at U;exact⟨j,h,Q,P,by omega,(lu U).trans rfl⟩
  obtain⟨z,E,k1,k2,k3,last⟩:=last;refine⟨z,n,E,⟨N,k1,k2,k3⟩,by omega,by omega,?_⟩;refine kZ (δ:=[stt z b,ii lo,ii d,ii n,ii w,ii f,lv (E.map cD),q]) ⟨rfl,by decide,rfl⟩ ((pre _).trans ?_);refine(gF ((lu (δ1:=[stt s b,ii lo,ii d,ii n,ii w,none,none,none]) (by simp[hz])).trans rfl)).trans ?_;refine(gF (δ1:=[stt I b,ii lo,ii d,ii n,ii w,ii f,none,none]) ?_).trans ?_
  ·refine jc (i:=5) (δ1:=[stt I b,ii lo,ii d,ii n,ii w,none,none,none]) ?_ (show 5<8 by decide)
   have em:gx (gB gIx (gx (jG [(fC (.int 4)),(fC (.int 8)),(fC (.int 13))])) (gx (gM gJ [(gv 0),(gx (fC (.int 3)))]))) [stt s b,ii lo,ii d,ii n,ii w,none,none,none]=some (.val (.int m,false),[stt H b,ii lo,ii d,ii n,ii w,none,none,none]):=
    gU (iw (o1:= .val (.lst (T.map .int),true)) (o2:= .val (.int u,false)) (gU (δ1:=[stt s b,ii lo,ii d,ii n,ii w,none,none,none]) (by simp[T,iM])) (gU (e3 _ [ii lo,ii d,ii n,ii w,none,none,none] _ rfl rfl)) rfl rfl (Rr u0 (by simpa[T] using u1)))
   have K:=e4 (λ_=>some (.val (.int m,false),[stt H b,ii lo,ii d,ii n,ii w,none,none,none])) [ii lo,ii d,ii n,ii w,none,none,none] (.val (.int m,false)) rfl rfl
   have hf:iX [gv 0,gx (gB gIx (gx (jG [(fC (.int 4)),(fC (.int 8)),(fC (.int 13))])) (gx (gM gJ [(gv 0),(gx (fC (.int 3)))])))] [stt s b,ii lo,ii d,ii n,ii w,none,none,none]=iX [gv 0,λ_=>some (.val (.int m,false),[stt H b,ii lo,ii d,ii n,ii w,none,none,none])] (stt H b::[ii lo,ii d,ii n,ii w,none,none,none]):=by
    rw[lI (o1:= .slot 0) rfl em];rfl
   exact(ED hf).trans K
  refine(gF (jc (i:=6) e5 (show 6<8 by decide))).trans ?_;refine(gF G).trans ?_;refine(gF (jc (i:=6) f1 (show 6<8 by decide))).trans ?_;refine(gF last).trans (jo (lr ?_));simp[iH,iM]
abbrev frz(a:List D):Dn:=a.map λd=>some (d,false)
theorem pW: ∀(os:List Opd) (a:List D),hJ os (a.map λd=>(d,false))=[]
 |[],_=>by simp[hJ]
 |_::_,[]=>by simp[hJ]
 |o::os,d::a=>by cases o<;>simp[hJ,pW os a]
theorem BF: ∀(os:List Opd) (b:List D) (a c:Dn),wb os (b.map λd=>(d,false)) a c=c
 |[],_,_,_=>by simp[wb]
 |_::_,[],_,_=>by simp[wb]
 |_::_,_::_,[],_=>by simp[wb]
 |o::os,d::b,x::xs,c=>by cases o<;>simp[wb,BF os b xs]
theorem P6{f:F}{ti:FT}{g:D->D}{p:D->Bool}{pre:Dn}: ∀(l a:List D) (x:Sl),(∀d∈l,ti (pre++[some (d,false)])=some (p d,pre++[some (d,false)])/\(p d=true-> ∃o,f (pre++[some (d,false)])=some ((g d,o),pre++[some (d,false)])))->a.length+l.length<=sizeLine->
  ∃b,lZ (gH pre.length) ti (iY f) l a (pre++[x])=some (a++(l.filter p).map g,pre++[b])
 |[],a,x,_,_=>⟨x,by simp[lZ]⟩
 |d::l,a,x,h,j=>by
  obtain⟨h1,m⟩:=h d ja;have n:a.length<sizeLine:=by simp at j;omega
  rw[lZ,Ff];simp only[iJ];rw[h1]
  cases k:p d with
  |false=>
   obtain⟨b,e⟩:=P6 l a (some (d,false)) (λc i=>h c (iZ _ i)) (by simp at j ⊢;omega);exact⟨b,by simp[e,k]⟩
  |true=>
   obtain⟨o,hd⟩:=m k;obtain⟨b,e⟩:=P6 l (a++[g d]) (some (d,false)) (λc i=>h c (iZ _ i)) (by simp at j ⊢;omega);refine⟨b,?_⟩;simp only[iJ,jy,vU];rw[hd];simp only[iJ];rw[gO n];simp only[iJ];rw[e];simp[k]
theorem Be{caps:iP}{fi:FIt}{f:F}{ti:FT}{δ δ1:Dn}{l args:List D}(g:D->D)(p:D->Bool)(h1:fi δ=some (l,δ1))(a:jf δ1 (caps.map .slot)=some (args.map λd=>(d,false)))(b:args.length=caps.length)
  (h: ∀d∈l,ti (frz args++[some (d,false)])=some (p d,frz args++[some (d,false)])/\(p d=true-> ∃o,f (frz args++[some (d,false)])=some ((g d,o),frz args++[some (d,false)])))(c:l.length<=10000):
  iO caps 1 fi (gH caps.length) ti (iY f) δ=some ((.lst ((l.filter p).map g),true),δ1):=by
 obtain⟨i,e⟩:=P6 (f:=f) (ti:=ti) (g:=g) (p:=p) (pre:=frz args) l [] none h (by rw[iM];simp;omega);unfold iO;rw[h1];simp only[iJ];rw[a];simp only[iJ,pW,la,jy,kh,BF];rw[show gH caps.length=gH (frz args).length from by rw[jt,b]];rw[show((args.map (some∘λd=>(d,false)))++List.replicate 1 none:Dn)=frz args++[none] from rfl,e];simp
def P4{caps:iP}{fi:FIt}{f:F}{δ δ1:Dn}{l args:List D}(g:D->D)(h1:fi δ=some (l,δ1))(a:jf δ1 (caps.map .slot)=some (args.map λd=>(d,false)))(b:args.length=caps.length)
  (h: ∀d∈l,∃o,f (frz args++[some (d,false)])=some ((g d,o),frz args++[some (d,false)]))(c:l.length<=10000):
  iO caps 1 fi (gH caps.length) jK (iY f) δ=some ((.lst (l.map g),true),δ1):=by
 rw[Be g (λ_=>true) h1 a b (λd hd=>⟨rfl,λ_=>h d hd⟩) c,List.filter_eq_self.mpr λ_ _=>rfl]
theorem tN{tg:Tg}{fb:FS}(I:List D->Dn->Prop)(step: ∀d ds δ,I (d::ds) δ-> ∃δ1 b,tg d δ=some δ1/\fb δ1=some (.nx b)/\I ds b): ∀(ds:List D) (δ:Dn),I ds δ-> ∃a,I [] a/\nA tg fb ds δ=some (.nx a)
 |[],δ,h=>⟨δ,h,rfl⟩
 |d::ds,δ,h=>by
  obtain⟨δ1,b,h1,c,e⟩:=step d ds δ h;obtain⟨a,f,g⟩:=tN I step ds b e;refine⟨a,f,?_⟩;unfold nA;rw[h1];simp only[iJ];rw[c];exact g
def Bl:D->Bool
 | .int i=>decide (0<=i)&&decide (i<=1)
 |_=>false
def KH(d:D):lJ [(d,false)]=some ((.bl (Bl d),false),[some (d,false)]):=by
 cases d<;>simp[lJ,uT,evF,iA,uM,hJ,wb,Bl]
def PQ(h:f δ=some ((.bl true,o),δ1)):CP f g δ=g δ1:=by rw[N7,h];rfl
abbrev NF:List D:=[.int 0,.int 1]
def GY(a:Dn):iN (nS [(fC (.int 0)),(fC (.int 1))]) a=some (NF,a):=by simp[iM]
def Dc(ev:EvF)(d:D):Prop:= ∀b c,ev [(d,b),(d,c)]=some ((.bl true,false),[some (d,b),some (d,c)])
theorem F7{ev:EvF}: ∀(l a:List D) (x y:Sl),(∀d∈l,Dc ev d)->a.length+l.length<=10000-> ∃b c,lZ (pO [(gH 0),(gH 1)]) jK (iY (gM ev [(gv 0),(gv 1)])) ((l.zip l).map λp=> .tup [p.1,p.2]) a [x,y]=some (a++l.map λ_=> .bl true,[b,c])
 |[],a,x,y,_,_=>⟨x,y,by simp[lZ]⟩
 |d::l,a,x,y,h,f=>by
  obtain⟨b,c,e⟩:=F7 l (a++[.bl true]) (some (d,false)) (some (d,false)) (λg i=>h g (iZ _ i)) (by simp at f ⊢;omega);refine⟨b,c,?_⟩;have j:a.length<sizeLine:=by rw[iM];simp at f;omega
  simp only[rl,iT,lZ];rw[show pO [(gH 0),(gH 1)] (.tup [d,d]) [x,y]=some [some (d,false),some (d,false)] from rfl];simp only[iJ,AL,jy,vU];rw[iW (os:=[.slot 0,.slot 1]) (args:=[(d,false),(d,false)]) rfl rfl la (h d ja false false)];simp only[iJ];rw[gO j];simp only[iJ];rw[show wb [.slot 0,.slot 1] [(d,false),(d,false)] [some (d,false),some (d,false)] [some (d,false),some (d,false)]=[some (d,false),some (d,false)] from rfl,e];simp
def wO{ev:EvF}{l:List D}{d:D}(hd:d= .lst l\/d= .tup l)(h: ∀d∈l,Dc ev d)(k:l.length<=1000):Dc (evF 2 2 [] (kE ev)) d:=λb c=>by
 obtain⟨m,o,e⟩:=F7 (ev:=ev) l [] none none h (by simp;omega)
 have i:iO [] 2 (uQ (gv 0) (gv 1)) (pO [(gH 0),(gH 1)]) jK (iY (gM ev [(gv 0),(gv 1)])) [some (d,b),some (d,c)]=some ((.lst (l.map λ_=> .bl true),true),[some (d,b),some (d,c)]):=by
  unfold iO;rw[show uQ (gv 0) (gv 1) [some (d,b),some (d,c)]=some ((l.zip l).map λp=> .tup [p.1,p.2],[some (d,b),some (d,c)]) from by rcases hd with rfl|rfl<;>rfl];simp only[iJ,pA,uJ,hJ,la,jy,rd,List.replicate_succ,List.replicate_zero];rw[e];rfl
 have g:gL (g1 Ez) [(gx (iO [] 2 (uQ (gv 0) (gv 1)) (pO [(gH 0),(gH 1)]) jK (iY (gM ev [(gv 0),(gv 1)]))))] [some (d,b),some (d,c)]=some ((.bl true,false),[some (d,b),some (d,c)]):=
  iQ (nU (gU i)) rfl (by rw[show g1 Ez [.lst (l.map λ_=> .bl true)]=Ez (.lst (l.map λ_=> .bl true)) from rfl,KP (λ_=>true)];simp)
 have a:gB gEq (gx (gL (g1 lY) [(gv 0)])) (gx (gL (g1 lY) [(gv 1)])) [some (d,b),some (d,c)]=some ((.bl true,false),[some (d,b),some (d,c)]):=by
  rcases hd with rfl|rfl<;>simp
 have j:iA [(d,b),(d,c)] [some (d,b),some (d,c)]=[some (d,b),some (d,c)]:=by cases b<;>cases c<;>rfl
 have:=kZ (args:=[(d,b),(d,c)]) (np:=2) (n:=2) (asg:=[]) (f:=kE ev) (δ:=[some (d,b),some (d,c)]) (r:=(.bl true,false)) ⟨rfl,by decide,by simp⟩ (by
  refine jo ((nI (δ1:=[some (d,b),some (d,c)]) (by rcases hd with rfl|rfl<;>rfl)).trans ?_);refine(gF ((lu (δ1:=[some (d,b),some (d,c)]) ?_).trans rfl)).trans (jo (lr ((PQ a).trans g)));rcases hd with rfl|rfl<;>simp[isT])
 rwa [j] at this
def Nc(ev:EvF)(i:Int):Dc (evF 2 2 [] (kE ev)) (.int i):=λb c=>by
 cases b<;>cases c<;>simp[kE,evF,iA,isT]
def sO(j b:Int):Int:=if b=1 then j else -j
def mv(j s:Int):Int:=if ab s<j then s else if s>0 then s-1 else s+1
def wn(j:Int)(c:ik):List Int:=(c.filter λs=>!(ab s==j)).map (mv j)
def rst(j b:Int)(ks:jD):List (List Int):=(ks.filter λc=>!c.contains (sO j b)).map (wn j)
def Qg{j b:Int}{ks:jD}{c:ik}:c∈rst j b ks↔ ∃x∈ks,sO j b∉x/\wn j x=c:=by
 simp[rst,and_assoc]
theorem KW{j s:Int}(b:1<=ab s)(h:ab s≠j)(c:1<=j):ab (mv j s)=(if ab s<j then ab s else ab s-1)/\(0<mv j s↔0<s):=by
 unfold mv;by_cases h1:ab s<j
 ·rw[gO h1,gO h1];exact⟨rfl,Iff.rfl⟩
 ·rw[gZ h1,gZ h1];unfold ab at*;by_cases a:s>0
  ·rw[gO a,gZ (by omega),gZ (by omega)];omega
  ·rw[gZ a];rw[gO (show s<0 by omega)] at*;rw[gO (by omega)];omega
def M7{n:Nat}{j:Int}{c:ik}(h:ClOk n c)(p:1<=j/\j<=n)(o:wn j c≠[]):ClOk (n-1) (wn j c):=by
 refine⟨o,?_,λs m=>?_⟩
 ·have h1:(c.filter λs=>!(ab s==j)).Pairwise λa b=>ab a<ab b:=List.Pairwise.filter _ (Bx.mp h.2.1);rw[wn,kh,Bx];refine List.Pairwise.imp_of_mem (λ{a b} d f l=>?_) h1;rw[Gb] at d f;have e:ab a≠j:=by simpa using d.2
  have g:ab b≠j:=by simpa using f.2
  have:=h.2.2 a d.1;have:=h.2.2 b f.1;simp only[Function.comp];rw[(KW (by omega) e (by omega)).1,(KW (by omega) g (by omega)).1];split<;>split<;>omega
 ·obtain⟨x,i,rfl⟩:=nv.mp m;rw[Gb] at i;have k:ab x≠j:=by simpa using i.2
  have:=h.2.2 x i.1;rw[(KW (by omega) k (by omega)).1];split<;>omega
theorem RO{j b:Int}(a:1<=j):ab (sO j b)=j/\(0<sO j b↔b=1):=by
 unfold sO;split
 ·exact⟨Br (by omega),by omega⟩
 ·exact⟨EW (by omega),by omega⟩
def JO(s j:Int):lh [(.int s,false),(.int j,false)]=some ((.int (mv j s),false),[ii s,ii j]):=by
 by_cases h:ab s<j
 ·have a:=h;unfold ab at a;simp[lh,nL,evF,iA,a,mv,h,iH]
 ·have a:=h;unfold ab at a;by_cases b:s>0<;>simp[lh,nL,evF,iA,a,mv,h,b]
theorem Pl(c:ik)(p:Int->Bool)(g:Int->Int):((c.map D.int).filter λd=>p (iOf d)).map (λd=>D.int (g (iOf d)))=((c.filter p).map g).map D.int:=by
 rw[Dg,kh,kh];rfl
def D1(c:ik)(a:c.length<=10)(j:Int):ki [enc c,(.int j,false)]=some ((cD (wn j c),false),[some (enc c),ii j]):=by
 have e:=Be (caps:=[1]) (fi:=iN (iH 0)) (f:=gM lh [(gv 1),(gv 0)]) (ti:=fT (gB gNe (gx (gL (g1 ml) [(gv 1)])) (gv 0))) (δ:=[some (enc c),ii j]) (δ1:=[some (enc c),ii j]) (l:=c.map .int) (args:=[.int j]) (λd=> .int (mv j (iOf d))) (λd=>!(ab (iOf d)==j)) rfl rfl rfl (λd hd=>by
  obtain⟨s,_,rfl⟩:=nv.mp hd;exact⟨kz (iw (o1:= .val (.int (ab s),false)) (o2:= .slot 0) (gU rfl) rfl rfl rfl (QR _ _)),λ_=>⟨false,iW (os:=[.slot 1,.slot 0]) (args:=[(.int s,false),(.int j,false)]) rfl rfl la (JO s j)⟩⟩) (by simp;omega)
 rw[Pl c (λs=>!(ab s==j)) (mv j)] at e;exact kZ (δ:=[some (enc c),ii j]) ⟨rfl,by decide,rfl⟩ (jo (lr (iQ (nU (gU e)) rfl rfl)))
def NH(x:Int)(c:ik):(c.map D.int).any (λd=>D.eqb d (.int x))=c.contains x:=by
 induction c with
 |nil=>rfl
 |cons y c a=>rw[iT,pK,a,List.contains_cons];simp[D.eqb,Bm,eq_comm]
def Mp(x:Int)(c:ik):mh (.int x) (cD c)=some (.bl (!c.contains x),false):=by
 have:inD (.int x) (cD c)=some (c.contains x):=by
  show(if D.depL (c.map .int)<=50/\(D.int x).dep<=50 then some ((c.map D.int).any λd=>D.eqb d (.int x)) else none)=_;rw[gO ⟨by rw[nj];omega,by simp[D.dep]⟩,NH]
 unfold mh;rw[this];rfl
theorem Nu(c:ik)(cs:jD):gIn (cD c) (.lst (cs.map cD))=some (.bl (decide (c∈cs)),false):=by
 have h:=Ci c cs;unfold mh at h;unfold gIn
 cases a:inD (cD c) (.lst (cs.map cD)) with
 |none=>rw[a] at h;cases h
 |some b=>rw[a] at h;simp at h ⊢;cases b<;>simp at h ⊢ <;>exact h
theorem Pm(a:jD)(p:List Int->Bool)(g:List Int->List Int):((a.map cD).filter λd=>p (unC d)).map (λd=>cD (g (unC d)))=((a.filter p).map g).map cD:=by
 rw[Dg,kh,kh];simp only[wq,rG]
def NR(n:Nat)(cs:jD)(r:D):Prop:=(r= .non/\[]∈cs)\/ ∃ks,r=rD' n ks/\EX n ks/\[]∉cs/\ ∀c,c∈ks↔c∈cs
def ClOk.len5{n:Nat}{c:ik}(h:ClOk n c)(a:n<=5):c.length<=10:=by have:=ClOk.len h;omega
def Cj{n:Nat}{a:jD}(h:EX n a){j:Nat}(E:1<=j/\j<=n){b:Nat}(C:b<2): ∃r,NR (n-1) (rst j b a) r/\kf [(rD' n a,false),(.int j,false),(.int b,false)]=some ((r,false),[some (rD' n a,false),ii j,ii b]):=by
 let R:Sl:=some (rD' n a,false)
 let T:Sl:=some (.tup (a.map cD),false)
 let S:Sl:=ii (sO j b)
 let L:Sl:=lv ((rst j b a).map cD)
 have q:(rst j b a).length<=a.length:=by unfold rst;rw[jt];exact Df _ _
 have B:=h.2.2.2
 have c:=Be (caps:=[1,5]) (fi:=iN (iH 4)) (f:=gM ki [(gv 2),(gv 0)]) (ti:=fT (gB mh (gv 1) (gv 2))) (δ:=[R,ii j,ii b,ii n,T,S,none]) (δ1:=[R,ii j,ii b,ii n,T,S,none]) (l:=a.map cD) (args:=[.int j,.int (sO j b)]) (λd=>cD (wn j (unC d))) (λd=>!(unC d).contains (sO j b)) rfl rfl rfl (λd hd=>by
  obtain⟨c,k,rfl⟩:=nv.mp hd;rw[rG];refine⟨kz (iw (o1:= .slot 1) (o2:= .slot 2) rfl rfl rfl rfl (Mp _ c)),λ_=>⟨false,?_⟩⟩;exact iW (os:=[.slot 2,.slot 0]) (args:=[enc c,(.int j,false)]) rfl rfl la (D1 c ((h.2.1.2 c k).len5 h.1) j)) (by simp;omega)
 rw[Pm a (λc=>!c.contains (sO j b)) (wn j)] at c
 have pre: ∀g,gE (Ea (pO [(gH 3),(gH 4)]) (iH 0)) (gE (sIf (lz (fT (gM je [(gv 3),(gv 1)]))) (gE pR gQ) gQ) (gE (sIf (lz (fT (gM lJ [(gv 2)]))) (gE pR gQ) gQ) (gE (iz 5 (fIf (fT (gB gEq (gv 2) (gx (fC (.int 1))))) (iH 1) (jn mI (gv 1)))) (gE (iz 6 (iO [1,5] 1 (iN (iH 4)) (gH 2) (fT (gB mh (gv 1) (gv 2))) (iY (gM ki [(gv 2),(gv 0)])))) g)))) [R,ii j,ii b,none,none,none,none]=g [R,ii j,ii b,ii n,T,S,L]:=λg=>by
  refine(gF (δ1:=[R,ii j,ii b,ii n,T,none,none]) rfl).trans ?_;refine(gF ((lu (δ1:=[R,ii j,ii b,ii n,T,none,none]) (qb (b:=true) (kz (o:=false) ?_))).trans rfl)).trans ?_
  ·have p:je [(.int n,false),(.int j,false)]=some ((.bl true,false),[ii n,ii j]):=by rw[Mt];simp;omega
   exact iW (δ1:=[R,ii j,ii b,ii n,T,none,none]) (os:=[.slot 3,.slot 1]) (args:=[(.int n,false),(.int j,false)]) rfl rfl la p
  refine(gF ((lu (δ1:=[R,ii j,ii b,ii n,T,none,none]) (qb (b:=true) (kz (o:=false) ?_))).trans rfl)).trans ?_
  ·refine(iW (δ1:=[R,ii j,ii b,ii n,T,none,none]) (os:=[.slot 2]) (args:=[(.int b,false)]) rfl rfl la (KH (.int b))).trans ?_;have:Bl (.int b)=true:=by unfold Bl;simp;omega
   rw[this];rfl
  refine(gF (δ1:=[R,ii j,ii b,ii n,T,S,none]) ?_).trans ?_
  ·rcases(show b=0\/b=1 by omega) with rfl|rfl<;>simp[R,T,S,iH,sO]
  ·exact gF (jc c (show 6<7 by decide))
 have s:nS [] [R,ii j,ii b,ii n,T,S,L]=some ((cD [],false),[R,ii j,ii b,ii n,T,S,L]):=by simp[iM]
 by_cases i:[]∈rst j b a
 ·refine⟨.non,.inl ⟨rfl,i⟩,kZ (δ:=[R,ii j,ii b,ii n,T,S,L]) ⟨rfl,by decide,rfl⟩ ((pre _).trans (jo ((nI (δ1:=[R,ii j,ii b,ii n,T,S,L]) (kz (o:=false) (iw (o1:= .val (cD [],false)) (o2:= .slot 6) (gU s) rfl rfl rfl ?_))).trans (jo rfl))))⟩;rw[Nu,oX i]
 ·obtain⟨H,m,v,w,y,G,z,A⟩:=Lh (n:=n-1) (cs:=rst j b a) (λc k=>by
   obtain⟨x,u,_,rfl⟩:=Qg.mp k;exact M7 (h.2.1.2 x u) ⟨by omega,by omega⟩ λe=>i (e▸k)) (by omega)
  refine⟨rD' (n-1) m,.inr ⟨m,rfl,⟨by have:=h.1;omega,v,w,by omega⟩,i,y⟩,kZ (δ:=[R,ii j,ii b,ii n,T,S,L]) ⟨rfl,by decide,rfl⟩ ((pre _).trans ((gF ((lu (δ1:=[R,ii j,ii b,ii n,T,S,L]) (kz (o:=false) (iw (o1:= .val (cD [],false)) (o2:= .slot 6) (gU s) rfl rfl rfl ?_))).trans rfl)).trans (jo (lr ?_))))⟩
  ·rw[Nu,lb i]
  ·have e:gL (g1 kg) [(gx (gL (g1 jk) [(gx (gL (g1 yy) [(gv 6)]))]))] [R,ii j,ii b,ii n,T,S,L]=some ((.tup (m.map cD),false),[R,ii j,ii b,ii n,T,S,L]):=
    iQ (nU (gU (iQ (nU (gU (iQ (os:=[.slot 6]) rfl rfl z))) rfl A))) rfl rfl
   have t:gB PX.gSub (gv 3) (gx (fC (.int 1))) [R,ii j,ii b,ii n,T,S,L]=some ((.int ((n-1:Nat):Int),false),[R,ii j,ii b,ii n,T,S,L]):=by
    rw[show((n-1:Nat):Int)=(n:Int)-1 by omega];rfl
   rw[IS,iT,iT,pA,lI (gU t) (gU e)];simp[iM]
def CD{d:D}(h:d.dep<=50):gNe d d=some (.bl false,false):=by unfold gNe;rw[gO ⟨h,h⟩,D.eqb_refl];rfl
theorem srt_eq{n:Nat}{k l:jD}(h1:EX n k)(d:EX n l)(h: ∀c,c∈k↔c∈l):k=l:=by
 have i:k.Perm l:=(List.perm_ext_iff_of_nodup h1.2.1.1 d.2.1.1).mpr h;refine i.eq_of_pairwise (le:=λa b=>ltT (cD b) (cD a)=false) (λa b _ _ x y=>?_) h1.2.2.1 d.2.2.1;rw[uN] at x y;have g: ∀x:List Int,D.pr (cD x)=true:=λx=>by simp[D.pr,sQ]
 have e:cT (cD a) (cD b)= .eq:=by
  rw[ud] at x
  cases f:cT (cD a) (cD b) with
  |lt=>exact absurd f y
  |gt=>rw[f] at x;exact absurd rfl x
  |eq=>rfl
 have:=ue _ _ (g a) (g b) e;simpa[rG] using mM unC this
def RJ(b:FO)(a:Dn)(d:D):Prop:= ∃o,b a=some (o,a)/\res a o=some d
def FJ(b:FO)(a:Dn)(d:D):Prop:= ∃o,b a=some (o,a)/\res a o=some d/\vH a o=some (d,false)
theorem FJ.r{c:FO}{δ:Dn}{d:D}(h:FJ c δ d):RJ c δ d:=let⟨o,a,b,_⟩:=h;⟨o,a,b⟩
def jV{i:Nat}{δ:Dn}{d:D}(h:δ[i]?=some (some (d,false))):FJ (gv i) δ d:=⟨.slot i,by unfold gv;rw[h],by unfold res;simp[h],by simp[h]⟩
def jR{i:Nat}{δ:Dn}{d:D}{b:Bool}(h:δ[i]?=some (some (d,b))):RJ (gv i) δ d:=⟨.slot i,by unfold gv;rw[h],by unfold res;simp[h]⟩
def jE{f:F}{δ:Dn}{d:D}{b:Bool}(h:f δ=some ((d,b),δ)):FJ (gx f) δ d:=⟨.val (d,b),gU h,rfl,rfl⟩
def jU1{e:EvF}{f:FO}{c:Dn}{a:D}{r:D×Bool}{b:Dn}(h:e [(a,false)]=some (r,b))(i:FJ f c a):gM e [f] c=some (r,c):=by
 obtain⟨o,h1,_,g⟩:=i;refine(iW (nU h1) (args:=[a].map λd=>(d,false)) (by simp[g]) (by rw[pW];exact la) h).trans ?_;rw[BF]
def jU2{f:EvF}{g i:FO}{e:Dn}{a b:D}{r:D×Bool}{c:Dn}(h:f [(a,false),(b,false)]=some (r,c))(k:FJ g e a)(l:FJ i e b):gM f [g,i] e=some (r,e):=by
 obtain⟨o,h1,_,j⟩:=k;obtain⟨p,m,_,n⟩:=l;refine(iW (lI h1 m) (args:=[a,b].map λd=>(d,false)) (by simp[j,n]) (by rw[pW];exact la) h).trans ?_;rw[BF]
def jO{g:D->D->Option (D×Bool)}{c fb:FO}{δ:Dn}{a b:D}{r:D×Bool}(h:g a b=some r)(e:RJ c δ a)(f:RJ fb δ b):gB g c fb δ=some (r,δ):=by
 obtain⟨o,h1,d⟩:=e;obtain⟨k,i,j⟩:=f;exact iw h1 i d j h
def jC{g:D->Option (D×Bool)}{b:FO}{δ:Dn}{a:D}{r:D×Bool}(h:g a=some r)(d:RJ b δ a):gL (g1 g) [b] δ=some (r,δ):=by
 obtain⟨o,h1,c⟩:=d;exact iQ (ds:=[a]) (nU h1) (by simp[c]) h
def SG{f:F}{np:Nat}{args:List (D×Bool)}{r:D×Bool}{δ:Dn}(h1:args.length=np/\np<=np/\(args.zipIdx.all λp=>!(p.1.2&&([]:List Nat).contains p.2))=true)(a:f (args.map some++List.replicate (np-np) none)=some (r,δ)):evF np np [] (gE (jM f) gQ) args=some (r,iA args δ):=
 kZ h1 (jo (lr a))
def RB{f g:F}{δ:Dn}{a b:D×Bool}(h1:f δ=some (a,δ))(c:g δ=some (b,δ)):nS [f,g] δ=some ((.tup [a.1,b.1],false),δ):=by
 rw[IS,show[f,g].map gx=[gx f,gx g] from rfl,lI (gU h1) (gU c)];simp[iM]
def no{t:FT}{f:FS}{a:Dn}(g:FS)(h:t a=some (false,a)):gE (sIf t f gQ) g a=g a:=(gF ((lu h).trans rfl))
def Aw{f:FS}{x:XS}{b a:Dn}(h:f b=some (.nx a))(c:EA a=true):Ge f x b=x a:=by unfold Ge;rw[h];simp only[iJ];rw[gO c]
theorem M4{t:FT}{x y:XS}{a:Dn}(h:t a=some (true,a))(b:EA a=true):zIf t x y a=x a:=by unfold zIf;rw[h];simp only[iJ];rw[gO b];rfl
def CQ{n np:Nat}{b:iP}{f:FS}{a:List (D×Bool)}(h:f (a.map some++List.replicate (n-np) none)=none):evF n np b f a=none:=by
 unfold evF;split
 ·rw[h]
 ·rfl
def MJ{b:iP}{f:F}{x:XS}{n i:Nat}{fs:FS}{e:Str->Option Nat}{δ:Dn}{args:List (D×Bool)}{c:Str}{C:Nat}{d:D}(h1:jf δ (b.map .slot)=some args)(g:(args.all λa=>!a.2)=true)(h:f (args.map some)=none)(j:x (args.map some)=some c)(k:e c=some C)(l:vg n i fs (.oth (.exc C) [] [])=some d):Kr b f x n i fs e δ=some ((d,false),δ):=by
 unfold Kr;rw[h1];simp only[iJ];rw[gO g,h];simp only[];rw[j];simp only[iJ];rw[k];simp only[iJ];rw[l];rfl
def EC{a:EvF}{fs:List FO}{δ δ1:Dn}{os:List Opd}{args:List (D×Bool)}(h1:iX fs δ=some (os,δ1))(b:jf δ1 os=some args)(c:a args=none):gM a fs δ=none:=by
 rw[Lr,h1];simp only[iJ];rw[b];simp only[iJ];rw[c];split<;>rfl
def HY{b:List D->Option Str}{fs:List FO}{δ δ1:Dn}{os:List Opd}{args:List (D×Bool)}{c:Str}(h1:iX fs δ=some (os,δ1))(d:jf δ1 os=some args)(e:(args.all λa=>!a.2)=true)(f:b (args.map (·.1))=some c):By b fs δ=some c:=by
 unfold By;rw[h1];simp only[iJ];rw[d];simp only[iJ];rw[gO e];exact f
def Lf:vg 4 1 (kc CT yh) (.oth (.exc 37) [] [])=some (.int 0):=by kernel_rfl
def NS:vg 4 1 (kc CT yh) (.oth (.exc 49) [] [])=some (.int 1):=by kernel_rfl
def nmB(n:Nat):D->Bool
 | .int i=>decide (1<=i)&&decide (i<=n)
 |_=>false
def Rj(n:Nat)(d:D):je [(.int n,false),(d,false)]=some ((.bl (nmB n d),false),[ii n,some (d,false)]):=by
 cases d<;>simp[je,oO,evF,iA,uM,hJ,wb,nmB]
section
variable {n:Nat}{e:jD}{d b:D}
abbrev dN(n:Nat)(e:jD)(d b:D):Dn:=[some (rD' n e,false),some (d,false),some (b,false),ii n,some (.tup (e.map cD),false),none,none]
theorem vS(h:nmB n d=x):lz (fT (gM je [(gv 3),(gv 1)])) (dN n e d b)=some (!x,dN n e d b):=qb (kz (jU2 ((Rj n d).trans (by rw[h])) (jV rfl) (jV rfl)))
theorem Iq(h:Bl b=x):lz (fT (gM lJ [(gv 2)])) (dN n e d b)=some (!x,dN n e d b):=qb (kz (jU1 ((KH b).trans (by rw[h])) (jV rfl)))
theorem AV:Ea (pO [(gH 3),(gH 4)]) (iH 0) [some (rD' n e,false),some (d,false),some (b,false),none,none,none,none]=some (.nx (dN n e d b)):=rfl
def Mn(h:nmB n d=false):kf [(rD' n e,false),(d,false),(b,false)]=none/\lW [rD' n e,d,b]=some "NoName":=by
 constructor
 ·refine CQ ((gF AV).trans ?_);rw[IQ,nI (vS h)];rfl
 ·show lg [some (rD' n e,false),some (d,false),some (b,false),none,none,none,none]=some "NoName";unfold lg;refine(Aw AV rfl).trans ?_;unfold zOr;rw[M4 (vS h) rfl];rfl
def Pk(h:nmB n d=true)(a:Bl b=false):kf [(rD' n e,false),(d,false),(b,false)]=none/\lW [rD' n e,d,b]=some "NoBit":=by
 have s1:sIf (lz (fT (gM je [(gv 3),(gv 1)]))) (gE pR gQ) gQ (dN n e d b)=some (.nx (dN n e d b)):=(lu (vS h)).trans rfl;constructor
 ·refine CQ ((gF AV).trans ((gF s1).trans ?_));rw[IQ,nI (Iq a)];rfl
 ·show lg [some (rD' n e,false),some (d,false),some (b,false),none,none,none,none]=some "NoBit";unfold lg;refine(Aw AV rfl).trans ?_;unfold zOr;rw[show zIf (lz (fT (gM je [(gv 3),(gv 1)]))) (wB "NoName" (fC (.str "that is no name of the riddle"))) zNo (dN n e d b)=none by unfold zIf;rw[vS h];rfl];refine(Aw s1 rfl).trans ?_;rw[M4 (Iq a) rfl];rfl
def KI{w:Str}{C:Nat}{r:Int}(h:kf [(rD' n e,false),(d,false),(b,false)]=none/\lW [rD' n e,d,b]=some w)(a:yh.lookup w=some C)(c:vg 4 1 (kc CT yh) (.oth (.exc C) [] [])=some (.int r)):
  jg [(rD' n e,false),(d,false),(b,false)]=some ((.int r,false),[some (rD' n e,false),some (d,false),some (b,false)]):=by
 refine SG ⟨rfl,by decide,rfl⟩ (δ:=[some (rD' n e,false),some (d,false),some (b,false)]) ?_;exact MJ (args:=[(rD' n e,false),(d,false),(b,false)]) rfl rfl (EC (os:=[.slot 0,.slot 1,.slot 2]) (oP rfl (lI rfl rfl)) rfl h.1) (HY (os:=[.slot 0,.slot 1,.slot 2]) (δ1:=[some (rD' n e,false),some (d,false),some (b,false)]) (args:=[(rD' n e,false),(d,false),(b,false)]) (oP rfl (lI rfl rfl)) rfl rfl h.2) a c
def KJ(h:nmB n d=false):jg [(rD' n e,false),(d,false),(b,false)]=some ((.int 0,false),[some (rD' n e,false),some (d,false),some (b,false)]):=KI (Mn h) rfl Lf
def MS(h:nmB n d=true)(a:Bl b=false):jg [(rD' n e,false),(d,false),(b,false)]=some ((.int 1,false),[some (rD' n e,false),some (d,false),some (b,false)]):=KI (Pk h a) rfl NS
def jT3{i:EvF}{j k l:FO}{g:Dn}{a b c:D}{r:D×Bool}{f:Dn}(h:i [(a,false),(b,false),(c,false)]=some (r,f))(p:FJ j g a)(q:FJ k g b)(s:FJ l g c):gM i [j,k,l] g=some (r,g):=by
 obtain⟨o,h1,_,m⟩:=p;obtain⟨x,t,_,u⟩:=q;obtain⟨y,v,_,w⟩:=s;refine(iW (oP h1 (lI t v)) (args:=[a,b,c].map λd=>(d,false)) (by simp[m,u,w]) (by rw[pW];exact la) h).trans ?_;rw[BF]
end
abbrev EB:FS:=(gE (iz 5 (iO [1] 1 (iN (iH 4)) (gH 1) (fT (gB gNe (gx (gL (g1 ml) [(gv 1)])) (gv 0))) (iY (iH 1)))) (gE (sIf (ni (fT (gB (kd .Lt) (gx (gL (g1 lY) [(gv 5)])) (gx (gL (g1 lY) [(gv 4)])))) (fT (gB gIn (gx (gB gIx (gx (jG [(jn mI (gv 1)),(iH 1)])) (gv 2))) (gv 4)))) (gE (iz 5 (fC .non)) gQ) gQ) (gE (sIf (fT (gB gEq (gv 5) (gx (jG [])))) (gE (jM (fC .non)) gQ) gQ) (gE (sIf (fT (gB Ey (gv 5) (gx (fC .non)))) (gE (iz 6 (iO [1] 1 (iN (iH 5)) (gH 1) jK (iY (fIf (fT (gB (kd .Lt) (gx (gL (g1 ml) [(gv 1)])) (gv 0))) (iH 1) (gB gIx (gx (jG [(gB kD (gv 1) (gx (fC (.int 1)))),(gB gSub (gv 1) (gx (fC (.int 1))))])) (gx (gL (g1 CH) [(gx (gB (kd .Gt) (gv 1) (gx (fC (.int 0)))))]))))))) (gE (mB (jW 3 (gL (g1 kg) [(gv 6)]))) gQ)) gQ) gQ))))
section
variable {n:Nat}{ks:jD}{j b:Nat}
abbrev kM(n:Nat)(ks:jD)(j b:Nat)(F:jD)(x y z:Sl):Dn:=[some (rD' n ks,false),ii j,ii b,lv (F.map cD),x,y,z]
abbrev rs(j:Int)(c:ik):List Int:=c.filter λs=>!(ab s==j)
abbrev iL(c:ik)(o:Bool):Sl:=some (.lst (c.map .int),o)
def RF{t:FT}{f g:F}{δ δ1:Dn}{b:Bool}(h:t δ=some (b,δ1)):fIf t f g δ=if b=true then f δ1 else g δ1:=by unfold fIf;rw[h];rfl
def TY(x:Int)(c:ik):gIn (.int x) (cD c)=some (.bl (c.contains x),false):=by
 have:inD (.int x) (cD c)=some (c.contains x):=by
  show(if D.depL (c.map .int)<=50/\(D.int x).dep<=50 then some ((c.map D.int).any λd=>D.eqb d (.int x)) else none)=_;rw[gO ⟨by rw[nj];lia,by simp[D.dep]⟩,NH]
 unfold gIn;rw[this];rfl
def QK(a:b<2){F x y z}:gB gIx (gx (jG [(jn mI (gv 1)),(iH 1)])) (gv 2) (kM n ks j b F x y z)=some ((.int (sO j b),false),kM n ks j b F x y z):=by
 rcases(show b=0\/b=1 by lia) with rfl|rfl<;>simp[iM,iH,gIx,atI,ixN,sO]
def PF(E:b<2)(J:1<=j){c:ik}(I:c.length<=10)(F:jD)(H:F.length<=100)(y z:Sl): ∃q u,EB (kM n ks j b F (some (enc c)) y z)=if c.contains (sO j b)=true then some (.nx (kM n ks j b F (some (enc c)) q u)) else if wn j c=[] then some (.rt (.non,false) (kM n ks j b F (some (enc c)) q u)) else some (.nx (kM n ks j b (F++[wn j c]) (some (enc c)) q u)):=by
 have v:=Be (caps:=[1]) (fi:=iN (iH 4)) (f:=iH 1) (ti:=fT (gB gNe (gx (gL (g1 ml) [(gv 1)])) (gv 0))) (δ:=kM n ks j b F (some (enc c)) y z) (δ1:=kM n ks j b F (some (enc c)) y z) (l:=c.map .int) (args:=[.int j]) (λd=>d) (λd=>!(ab (iOf d)==(j:Int))) rfl rfl rfl (λd hd=>by
  obtain⟨s,k,rfl⟩:=nv.mp hd;exact⟨by simp[ab,iOf];rfl,λ_=>⟨false,rfl⟩⟩) (by simp;lia)
 have x:((c.map D.int).filter λd=>!(ab (iOf d)==(j:Int))).map (λd=>d)=(rs j c).map .int:=by
  rw[List.map_id',Dg];rfl
 rw[x] at v;have s1:iz 5 (iO [1] 1 (iN (iH 4)) (gH 1) (fT (gB gNe (gx (gL (g1 ml) [(gv 1)])) (gv 0))) (iY (iH 1))) (kM n ks j b F (some (enc c)) y z)=some (.nx (kM n ks j b F (some (enc c)) (iL (rs j c) true) z)):=jc v (show 5<7 by decide);have B:fT (gB gIn (gx (gB gIx (gx (jG [(jn mI (gv 1)),(iH 1)])) (gv 2))) (gv 4)) (kM n ks j b F (some (enc c)) (iL (rs j c) true) z)=some (c.contains (sO j b),kM n ks j b F (some (enc c)) (iL (rs j c) true) z):=kz (o:=false) (jO (b:=cD c) ?_ (jE (QK E)).r (jV rfl).r);have G:fT (gB (kd .Lt) (gx (gL (g1 lY) [(gv 5)])) (gx (gL (g1 lY) [(gv 4)]))) (kM n ks j b F (some (enc c)) (iL (rs j c) true) z)=some (decide ((rs j c).length<c.length),kM n ks j b F (some (enc c)) (iL (rs j c) true) z):=by simp[jw]
 have a:ni (fT (gB (kd .Lt) (gx (gL (g1 lY) [(gv 5)])) (gx (gL (g1 lY) [(gv 4)])))) (fT (gB gIn (gx (gB gIx (gx (jG [(jn mI (gv 1)),(iH 1)])) (gv 2))) (gv 4))) (kM n ks j b F (some (enc c)) (iL (rs j c) true) z)=some (c.contains (sO j b),kM n ks j b F (some (enc c)) (iL (rs j c) true) z):=by
  unfold ni;rw[G];simp only[iJ];by_cases h:(rs j c).length<c.length
  ·rw[oX h,gO rfl,B]
  ·rw[lb h,gZ jA]
   cases k:c.contains (sO j b) with
   |false=>rfl
   |true=>
    exfalso;apply h;refine List.length_filter_lt_length_iff_exists.mpr ⟨_,by simpa using k,?_⟩;simp[(RO (b:=b) (show(1:Int)<=j by lia)).1]
 cases k:c.contains (sO j b) with
 |true=>
  refine⟨some (.non,false),z,?_⟩;rw[k] at a;rw[gO rfl];exact(gF s1).trans ((gF ((nI a).trans rfl)).trans rfl)
 |false=>
  rw[k] at a;simp only[iB,iK];have pre: ∀g,gE (iz 5 (iO [1] 1 (iN (iH 4)) (gH 1) (fT (gB gNe (gx (gL (g1 ml) [(gv 1)])) (gv 0))) (iY (iH 1)))) (gE (sIf (ni (fT (gB (kd .Lt) (gx (gL (g1 lY) [(gv 5)])) (gx (gL (g1 lY) [(gv 4)])))) (fT (gB gIn (gx (gB gIx (gx (jG [(jn mI (gv 1)),(iH 1)])) (gv 2))) (gv 4)))) (gE (iz 5 (fC .non)) gQ) gQ) g) (kM n ks j b F (some (enc c)) y z)=g (kM n ks j b F (some (enc c)) (iL (rs j c) true) z):=λg=>(gF s1).trans (gF ((lu a).trans rfl))
  have e:fT (gB gEq (gv 5) (gx (jG []))) (kM n ks j b F (some (enc c)) (iL (rs j c) true) z)=some (decide (rs j c=[]),kM n ks j b F (some (enc c)) (iL (rs j c) true) z):=by
   cases rs j c with
   |nil=>rfl
   |cons s l=>
    refine kz (o:=false) (jO (b:= .lst []) ?_ (jR rfl) (jE (b:=true) rfl).r);unfold gEq;rw[gO ⟨by rw[D.dep,nj];lia,by decide⟩];simp[D.eqb,D.eqbL]
  by_cases m:wn j c=[]
  ·refine⟨iL (rs j c) true,z,?_⟩;rw[gO m];have p:rs j c=[]:=Qk.mp m;rw[oX p] at e;exact(pre _).trans (jo ((nI e).trans (jo rfl)))
  ·refine⟨iL (rs j c) false,iL (wn j c) true,?_⟩;rw[gZ m];have p:rs j c≠[]:=λh=>m (Qk.mpr h);rw[lb p] at e
   have w:=P4 (caps:=[1]) (fi:=iN (iH 5)) (f:=fIf (fT (gB (kd .Lt) (gx (gL (g1 ml) [(gv 1)])) (gv 0))) (iH 1) (gB gIx (gx (jG [(gB kD (gv 1) (gx (fC (.int 1)))),(gB PX.gSub (gv 1) (gx (fC (.int 1))))])) (gx (gL (g1 CH) [(gx (gB (kd .Gt) (gv 1) (gx (fC (.int 0)))))])))) (δ:=kM n ks j b F (some (enc c)) (iL (rs j c) true) z) (δ1:=kM n ks j b F (some (enc c)) (iL (rs j c) false) z) (l:=(rs j c).map .int) (args:=[.int j]) (λd=> .int (mv j (iOf d))) (zb (o:=false) rfl) rfl rfl (λd hd=>by
    obtain⟨s,k,rfl⟩:=nv.mp hd;refine⟨false,?_⟩;have t:fT (gB (kd .Lt) (gx (gL (g1 ml) [(gv 1)])) (gv 0)) [ii j,ii s]=some (decide (ab s<j),[ii j,ii s]):=by simp[jw,ab];rfl
    refine(RF t).trans ?_;show _=some ((D.int (mv j s),false),[ii j,ii s]);unfold mv;by_cases h1:ab s<j
    ·rw[oX h1,gO rfl,gO h1];rfl
    ·rw[lb h1,gZ jA,gZ h1];by_cases C:s>0<;>simp[C,iM,iH,gIx,atI,ixN]) (by have:=Df (λs=>!(ab s==(j:Int))) c;simp;lia)
   have A:((rs j c).map D.int).map (λd=>D.int (mv j (iOf d)))=(wn j c).map D.int:=by rw[kh];unfold wn;rw[kh];rfl
   rw[A] at w;refine(pre _).trans ((gF ((lu e).trans rfl)).trans ((gF ((nI (δ1:=kM n ks j b F (some (enc c)) (iL (rs j c) true) z) rfl).trans ?_)).trans rfl));refine(gF (jc w (show 6<7 by decide))).trans ((gF (wQ (r:=(.non,false)) ?_)).trans rfl);refine(rR (i:=3) (δ1:=kM n ks j b F (some (enc c)) (iL (rs j c) false) (iL (wn j c) true)) (l0:=F.map cD) (l:=F.map cD) (r:=(cD (wn j c),false)) rfl ?_ rfl (by rw[iM];simp;lia)).trans ?_
   ·exact jC rfl (jR rfl)
   ·simp
 ·exact TY _ _
theorem Bb(l:b<2)(m:1<=j): ∀(cs F:jD) (x y z:Sl),(∀c∈cs,c.length<=10)->F.length+cs.length<=100-> ∃d f g G,nA (gH 4) EB (cs.map cD) (kM n ks j b F x y z)=if[]∈rst j b cs then some (.rt (.non,false) (kM n ks j b G d f g)) else some (.nx (kM n ks j b (F++rst j b cs) d f g))
 |[],F,x,y,z,_,_=>⟨x,y,z,F,by simp[rst,nA]⟩
 |c::cs,F,x,y,z,t,w=>by
  simp only[kO] at w;obtain⟨p,q,e⟩:=PF (n:=n) (ks:=ks) l m (t c ja) F (by lia) y z;have s: ∀c∈cs,c.length<=10:=λc h=>t c (iZ _ h)
  have v:nA (gH 4) EB ((c::cs).map cD) (kM n ks j b F x y z)=(EB (kM n ks j b F (some (enc c)) y z)).bind λo=>match o with
   | .nx a=>nA (gH 4) EB (cs.map cD) a
   | .ct a=>nA (gH 4) EB (cs.map cD) a
   | .bk a=>some (.nx a)
   | .rt r a=>some (.rt r a):=rfl
  rw[v,e]
  cases u:c.contains (sO j b) with
  |true=>
   obtain⟨d,f,g,G,k⟩:=Bb l m cs F (some (enc c)) p q s (by lia);have:rst j b (c::cs)=rst j b cs:=by unfold rst;rw[List.filter_cons_of_neg (by rw[u];decide)]
   rw[this];exact⟨d,f,g,G,k⟩
  |false=>
   have A:rst j b (c::cs)=wn j c::rst j b cs:=by unfold rst;rw[List.filter_cons_of_pos (by rw[u];rfl)];rfl
   rw[A];simp only[iB,iK];by_cases i:wn j c=[]
   ·rw[gO i,i];exact⟨some (enc c),p,q,F,by rw[gO ja];rfl⟩
   ·rw[gZ i];obtain⟨d,f,g,G,k⟩:=Bb l m cs (F++[wn j c]) (some (enc c)) p q s (by simp;lia);refine⟨d,f,g,G,?_⟩;have:([]∈wn j c::rst j b cs)↔[]∈rst j b cs:=by simp[lF i]
    simp only[this];simpa using k
def Kw(h:EX n ks)(q:1<=j/\j<=n)(p:b<2): ∃r,NR (n-1) (rst j b ks) r/\lA [(rD' n ks,false),(.int j,false),(.int b,false)]=some ((r,false),[some (rD' n ks,false),ii j,ii b]):=by
 have o:=h.2.2.2;obtain⟨x,y,z,G,e⟩:=Bb (n:=n) (ks:=ks) (j:=j) (b:=b) p q.1 ks [] none none none (λc i=>(h.2.1.2 c i).len5 h.1) (by simp;lia);have k:iz 3 (jG []) [some (rD' n ks,false),ii j,ii b,none,none,none,none]=some (.nx (kM n ks j b [] none none none)):=by simp[iM]
 have l:=mH (tg:=gH 4) (fb:=EB) (show iN (gB gIx (gv 0) (gx (fC (.int 1)))) (kM n ks j b [] none none none)=some (ks.map cD,kM n ks j b [] none none none) from rfl);by_cases f:[]∈rst j b ks
 ·rw[gO f] at e;refine⟨.non,.inl ⟨rfl,f⟩,kZ (δ:=kM n ks j b G x y z) ⟨rfl,by decide,rfl⟩ ((gF k).trans (jo (l.trans e)))⟩
 ·rw[gZ f] at e;have m:(rst j b ks).length<=ks.length:=by unfold rst;rw[jt];exact Df _ _
  obtain⟨C,g,t,u,v,B,w,A⟩:=Lh (n:=n-1) (cs:=rst j b ks) (λc i=>by
   obtain⟨x,s,_,rfl⟩:=Qg.mp i;exact M7 (h.2.1.2 x s) ⟨by lia,by lia⟩ λe=>f (e▸i)) (by lia)
  refine⟨rD' (n-1) g,.inr ⟨g,rfl,⟨by have:=h.1;lia,t,u,by lia⟩,f,v⟩,kZ (δ:=kM n ks j b (rst j b ks) x y z) ⟨rfl,by decide,rfl⟩ ((gF k).trans ((gF (l.trans e)).trans ?_))⟩;refine jo (lr (RB (a:=(.int (n-1:Nat),false)) (b:=(.tup (g.map cD),false)) ?_ (jC (a:= .lst (g.map cD)) rfl (jE (b:=true) (jC A (jE (b:=true) (jC w (jR rfl))).r)).r)));refine jO ?_ (jE (d:= .int n) (b:=false) (jO rfl (jV rfl).r (jE rfl).r)).r (jE rfl).r;rw[show((n-1:Nat):Int)=(n:Int)-1 by lia];rfl
end
abbrev Kp:FS:=(gE (sIf (lz (fT (gM (jl RD) [(gx (gM kf [(gv 3),(gv 5),(gv 6)])),(gx (gM lA [(gv 3),(gv 5),(gv 6)]))]))) (gE (jM (fC (.bl false))) gQ) gQ) gQ)
abbrev Km:FS:=(gE (oH (iN (nS [(fC (.int 0)),(fC (.int 1))])) (gH 6) Kp) gQ)
abbrev RE:F:=(gB gIx (gx (jG [(fC (.int 0)),(gB kD (gv 4) (gx (fC (.int 1)))),(jn mI (gx (fC (.int 1)))),(fC (.bl true)),(fC .non),(fC (.str "1")),(nS [(fC (.int 1))]),(gB xF (gx (fC (.int 10))) (gx (fC (.int 29)))),(fC (.bl false)),(jG [(fC (.int 1))])])) (gx (gM gJ [(gv 2),(gx (fC (.int 10)))])))
abbrev RA:F:=(gB gIx (gx (jG [(fC (.int 2)),(jn mI (gx (fC (.int 1)))),(fC (.bl true)),(fC (.bl false)),(fC .non),(fC (.str "0")),(nS [(fC (.int 0))]),(gB xF (gx (fC (.int 10))) (gx (fC (.int 29)))),(jG [(fC (.int 0))]),(fC (.str "1"))])) (gx (gM gJ [(gv 2),(gx (fC (.int 10)))])))
abbrev Kq:FS:=(gE (sIf (fT (gB gNe (gx (gM jg [(gv 3),(gv 7),(gv 6)])) (gx (fC (.int 0))))) (gE (jM (fC (.bl false))) gQ) gQ) gQ)
abbrev Nz:FS:=(gE (iz 2 (gM kK [(gv 0),(gv 1)])) (gE (iz 3 (gM lQ [(gv 2),(gx (fC (.int 0))),(gx (fC (.int 5)))])) (gE (iz 4 (gB gIx (gv 3) (gx (fC (.int 0))))) (gE (oH (A5 (gx (fC (.int 1))) (gx (gB kD (gv 4) (gx (fC (.int 1)))))) (gH 5) Km) (gE (iz 7 RE) (gE (iz 8 RA) (gE (oH (iN (nS [(fC (.int 0)),(fC (.int 1)),(iH 8)])) (gH 6) Kq) (gE (sIf (ni (fT (gB (kd .Gt) (gv 4) (gx (fC (.int 0))))) (fT (gB gNe (gx (gM jg [(gv 3),(gx (gB kD (gx (fC (.int 1))) (gx (gM gJ [(gv 2),(gv 4)])))),(gv 8)])) (gx (fC (.int 1)))))) (gE (jM (fC (.bl false))) gQ) gQ) gQ))))))))
def NR.uniq{n:Nat}{d:jD}{x y:D}(h1:NR n d x)(e:NR n d y):x=y:=by
 rcases h1 with⟨rfl,a⟩|⟨k,rfl,h,a,f⟩<;>rcases e with⟨rfl,b⟩|⟨l,rfl,i,b,g⟩
 ·rfl
 ·exact absurd a b
 ·exact absurd b a
 ·rw[srt_eq h i λc=>(f c).trans (g c).symm]
def Ln{n:Nat}{a:jD}{x:D}(h:NR n a x):Dc (jl RD) x:=by
 rcases h with⟨rfl,_⟩|⟨k,rfl,r,_,_⟩
 ·intro b c;cases b<;>cases c<;>kernel_rfl
 ·refine wO (ev:=jl 5) (.inr rfl) (λd hd=>?_) (by simp);simp only[js,ke,kU] at hd;rcases hd with rfl|rfl
  ·exact Nc (jl 4) _
  ·refine wO (ev:=jl 4) (.inr rfl) (λd hd=>?_) (by have:=r.2.2.2;simp;lia);obtain⟨c,e,rfl⟩:=nv.mp hd;refine wO (ev:=jl 3) (.inr rfl) (λd hd=>?_) (by have:=(r.2.1.2 c e).len5 r.1;simp;lia);obtain⟨i,_,rfl⟩:=nv.mp hd;exact Nc (jl 2) i
section
variable {n:Nat}{a:jD}(h:EX n a)
include h
theorem Ko(c d e f g i:Sl){j b:Nat}(l:1<=j/\j<=n)(k:b<2):Kp [c,d,e,some (rD' n a,false),f,ii j,ii b,g,i]=some (.nx [c,d,e,some (rD' n a,false),f,ii j,ii b,g,i]):=by
 obtain⟨r,h1,m⟩:=Cj h l k;obtain⟨q,p,o⟩:=Kw h l k;obtain rfl:=NR.uniq h1 p;exact(gF ((lu (qb (b:=true) (kz (jU2 (Ln h1 false false) (jE (jT3 m (jV rfl) (jV rfl) (jV rfl))) (jE (jT3 o (jV rfl) (jV rfl) (jV rfl))))))).trans rfl)).trans rfl
theorem Kl(f g i k o l m:Sl){j:Nat}(s:1<=j/\j<=n): ∃c,Km [f,g,i,some (rD' n a,false),k,ii j,o,l,m]=some (.nx [f,g,i,some (rD' n a,false),k,ii j,c,l,m]):=by
 obtain⟨_,⟨c,_,rfl⟩,e⟩:=tN (tg:=gH 6) (fb:=Kp) (λds p=> ∃c,(∀d∈ds,∃b:Nat,d= .int b/\b<2)/\p=[f,g,i,some (rD' n a,false),k,ii j,c,l,m]) (λd ds p ⟨c,h1,q⟩=>by
  subst q;obtain⟨b,rfl,r⟩:=h1 d ja
  exact⟨_,_,rfl,Ko h _ _ _ _ _ _ s r,_,λx t=>h1 x (iZ _ t),rfl⟩) NF [f,g,i,some (rD' n a,false),k,ii j,o,l,m] ⟨o,λd hd=>by
   simp only[js,ke,kU] at hd;rcases hd with rfl|rfl
   ·exact⟨0,rfl,by lia⟩
   ·exact⟨1,rfl,by lia⟩,rfl⟩
 exact⟨c,(gF ((mH (GY _)).trans e)).trans rfl⟩
theorem PM(c e f g i j:Sl){d b:D}(hd:nmB n d=false):Kq [c,e,f,some (rD' n a,false),g,i,some (b,false),some (d,false),j]=some (.nx [c,e,f,some (rD' n a,false),g,i,some (b,false),some (d,false),j]):=
 (gF ((lu (kz (o:=false) (jO (CD (d:= .int 0) (by decide)) (jE (jT3 (KJ hd) (jV rfl) (jV rfl) (jV rfl))).r (jE rfl).r))).trans rfl)).trans rfl
end
theorem p29:xF (.int 10) (.int 29)=some (.int (10^29),false):=by kernel_rfl
def Jo{f:F}{i:Dn}{a:Int}{b:Bool}{c g:Sl}{l:List D}{o:Bool}{P:D->Prop}(n:f (c::g::stt a b::i)=some ((.lst l,o),c::g::stt a b::i))(m:l.length=10)(h: ∀d∈l,P d): ∃d j,P d/\gB gIx (gx f) (gx (gM gJ [(gv 2),(gx (fC (.int 10)))])) (c::g::stt a b::i)=some ((d,false),c::g::stt j b::i):=by
 obtain⟨v,j,p,q,e⟩:=BL a b 10 (by lia) (by lia);obtain⟨k,rfl⟩: ∃k:Nat,v=k:=⟨v.toNat,by lia⟩
 have hk:k<l.length:=by lia
 refine⟨l[k],j,h _ (zD hk),iw (o1:= .val (.lst l,o)) (o2:= .val (.int k,false)) (gU n) (gU (e _ c g i (.val (.int 10,false)) rfl rfl)) rfl rfl ?_⟩;simp[gIx,atI,ixN,hk]
def Pj{n:Nat}(m:n<=5)(a:Int)(b:Bool)(c e f g h i j:Sl): ∃d k,nmB n d=false/\RE [c,e,stt a b,f,ii n,g,h,i,j]=some ((d,false),[c,e,stt k b,f,ii n,g,h,i,j]):=by
 refine Jo (l:=[.int 0,.int ((n:Int)+1),.int (-1),.bl true,.non,.str "1",.tup [.int 1],.int (10^29),.bl false,.lst [.int 1]]) (o:=true) ?_ rfl ?_
 ·simp[iM,p29,mT]
 ·intro d hd;simp only[js,ke,kU] at hd;rcases hd with rfl|rfl|rfl|rfl|rfl|rfl|rfl|rfl|rfl|rfl<;>simp[nmB]<;>lia
def P9(n:Nat)(a:Int)(b:Bool)(c e f g h i j:Sl): ∃d k,Bl d=false/\RA [c,e,stt a b,f,ii n,g,h,i,j]=some ((d,false),[c,e,stt k b,f,ii n,g,h,i,j]):=by
 refine Jo (l:=[.int 2,.int (-1),.bl true,.bl false,.non,.str "0",.tup [.int 0],.int (10^29),.lst [.int 0],.str "1"]) (o:=true) ?_ rfl ?_
 ·simp[iM,p29,mT]
 ·intro d hd;simp only[js,ke,kU] at hd;rcases hd with rfl|rfl|rfl|rfl|rfl|rfl|rfl|rfl|rfl|rfl<;>simp[Bl]
def Kv{f g:FT}{a δ1:Dn}(h:f a=some (false,δ1)):ni f g a=some (false,δ1):=by unfold ni;rw[h];rfl
def Ku{f g:FT}{a δ1:Dn}(h:f a=some (true,δ1)):ni f g a=g δ1:=by unfold ni;rw[h];rfl
def Kn(I:ik)(k:Nat)(M H C u w q m:Sl): ∃T U Y g l s p,Nz [some (.lst (I.map .int),false),ii k,M,H,C,u,w,q,m]=some (.nx [some (.lst (I.map .int),false),ii k,T,U,Y,g,l,s,p]):=by
 let c:Sl:=some (.lst (I.map .int),false)
 let f:Sl:=ii k
 obtain⟨a,b,D⟩:=Iy I k;obtain⟨a1,n,O,L,_,_,F⟩:=Gw a b 0 5 (by lia) (by lia);have hn:=L.1
 let R:Sl:=some (rD' n O,false)
 obtain⟨_,⟨g,l,_,rfl⟩,K⟩:=tN (tg:=gH 5) (fb:=Km) (λds δ=> ∃g l,(∀d∈ds,∃j:Nat,d= .int j/\1<=j/\j<=n)/\δ=[c,f,stt a1 b,R,ii n,g,l,q,m]) (λd ds δ ⟨g,l,h1,h⟩=>by
  subst h;obtain⟨j,rfl,J⟩:=h1 d ja;obtain⟨E,e⟩:=Kl L c f (stt a1 b) (ii n) l q m J
  exact⟨_,_,rfl,e,_,_,λx hx=>h1 x (iZ _ hx),rfl⟩) (iu 1 ((n:Int)+1-1).toNat) [c,f,stt a1 b,R,ii n,u,w,q,m] ⟨u,w,λd hd=>by
   obtain⟨j,J,rfl⟩:=nv.mp hd;rw[rW] at J;exact⟨j+1,by simp[Int.add_comm],by lia,by lia⟩,rfl⟩
 obtain⟨s,Q,h7,S⟩:=Pj hn a1 b c f R g l q m;obtain⟨p,G,h8,V⟩:=P9 n Q b c f R g l (some (s,false)) m
 let z:Dn:=[c,f,stt G b,R,ii n,g,l,some (s,false),some (p,false)]
 obtain⟨_,⟨E,rfl⟩,P⟩:=tN (tg:=gH 6) (fb:=Kq) (λds δ=> ∃l,δ=[c,f,stt G b,R,ii n,g,l,some (s,false),some (p,false)]) (λd ds δ ⟨l,h⟩=>by
  subst h;exact⟨_,_,rfl,PM L _ _ _ _ _ _ h7,_,rfl⟩) [.int 0,.int 1,p] z ⟨l,rfl⟩
 let r:Dn:=[c,f,stt G b,R,ii n,g,E,some (s,false),some (p,false)]
 obtain⟨B,W⟩: ∃B,sIf (ni (fT (gB (kd .Gt) (gv 4) (gx (fC (.int 0))))) (fT (gB gNe (gx (gM jg [(gv 3),(gx (gB kD (gx (fC (.int 1))) (gx (gM gJ [(gv 2),(gv 4)])))),(gv 8)])) (gx (fC (.int 1)))))) (gE (jM (fC (.bl false))) gQ) gQ r=some (.nx [c,f,stt B b,R,ii n,g,E,some (s,false),some (p,false)]):=by
  have t:fT (gB (kd .Gt) (gv 4) (gx (fC (.int 0)))) r=some (decide ((n:Int)>0),r):=kz (iw (o1:= .slot 4) (o2:= .val (.int 0,false)) rfl rfl rfl rfl (Lq _ _));by_cases N:(n:Int)>0
  ·rw[oX N] at t;obtain⟨v,B,v0,v1,e⟩:=BL G b n (by lia) (by lia)
   let A:Dn:=[c,f,stt B b,R,ii n,g,E,some (s,false),some (p,false)]
   have X:gB kD (gx (fC (.int 1))) (gx (gM gJ [(gv 2),(gv 4)])) r=some ((.int (1+v),false),A):=iw (o1:= .val (.int 1,false)) (o2:= .val (.int v,false)) (x:= .int 1) (y:= .int v) rfl (gU (e _ c f [R,ii n,g,E,some (s,false),some (p,false)] (.slot 4) rfl rfl)) rfl rfl (by rw[Ng])
   have Z:gM jg [(gv 3),(gx (gB kD (gx (fC (.int 1))) (gx (gM gJ [(gv 2),(gv 4)])))),(gv 8)] r=some ((.int 1,false),A):=
    iW (δ1:=A) (os:=[.slot 3,.val (.int (1+v),false),.slot 8]) (args:=[(rD' n O,false),(.int (1+v),false),(p,false)]) (oP rfl (lI (gU X) rfl)) rfl la (MS (by simp[nmB];lia) h8)
   refine⟨B,(lu (δ1:=A) ((Ku t).trans (kz (o:=false) (iw (o1:= .val (.int 1,false)) (o2:= .val (.int 1,false)) (gU Z) rfl rfl rfl (CD (by decide)))))).trans rfl⟩
  ·rw[lb N] at t;exact⟨G,(lu (Kv t)).trans rfl⟩
 refine⟨stt B b,R,ii n,g,E,some (s,false),some (p,false),?_⟩;refine(gF (δ1:=[c,f,stt a b,H,C,u,w,q,m]) (jc (i:=2) (δ1:=[c,f,M,H,C,u,w,q,m]) (iW (os:=[.slot 0,.slot 1]) (args:=[(.lst (I.map .int),false),(.int k,false)]) rfl rfl la D) (show 2<9 by decide))).trans ?_;refine(gF (δ1:=[c,f,stt a1 b,R,C,u,w,q,m]) (jc (i:=3) (δ1:=[c,f,stt a1 b,H,C,u,w,q,m]) (iW (δ1:=[c,f,stt a b,H,C,u,w,q,m]) (os:=[.slot 2,.val (.int 0,false),.val (.int 5,false)]) (args:=[(.lst [.int a,.bl b],true),(.int 0,false),(.int 5,false)]) rfl rfl (show([2]:List Nat).Nodup by decide) F) (show 3<9 by decide))).trans ?_;refine(gF (δ1:=[c,f,stt a1 b,R,ii n,u,w,q,m]) rfl).trans ?_;refine(gF ((mH (FP (o1:= .val (.int 1,false)) (o2:= .val (.int ((n:Int)+1),false)) rfl rfl rfl rfl (by lia) (by lia))).trans K)).trans ?_;refine(gF (jc (i:=7) S (show 7<9 by decide))).trans ?_;refine(gF (δ1:=z) (jc (i:=8) V (show 8<9 by decide))).trans ?_;refine(gF ((mH (ds:=[.int 0,.int 1,p]) (δ1:=z) ?_).trans P)).trans ?_
 ·simp[iM,z,iH]
 exact(gF W).trans rfl
def Qh(a:ik)(y:a.length<=63): ∃o m,qV [(.lst (a.map .int),false)]=some ((.bl true,o),m):=by
 let n:Sl:=some (.lst (a.map .int),false)
 let N:Nat:=if 1<min a.length 8 then min a.length 8 else 1
 obtain⟨_,⟨p,b,c,f,g,i,j,l,_,rfl⟩,e⟩:=tN (tg:=gH 1) (fb:=Nz) (λds δ=> ∃p b c f g i j l,(∀d∈ds,∃k:Nat,d= .int k)/\δ=[n,p,b,c,f,g,i,j,l]) (λd ds δ ⟨p,b,c,f,g,i,j,l,h1,h⟩=>by
  subst h;obtain⟨k,rfl⟩:=h1 d ja;obtain⟨g2,g3,s,t,u,v,w,e⟩:=Kn a k b c f g i j l
  exact⟨_,_,rfl,e,_,_,_,_,_,_,_,_,λx r=>h1 x (iZ _ r),rfl⟩) (iu 0 N) [n,none,none,none,none,none,none,none,none] ⟨none,none,none,none,none,none,none,none,λd hd=>by
   obtain⟨k,_,rfl⟩:=nv.mp hd;exact⟨k,by simp⟩,rfl⟩
 refine⟨false,_,kZ (δ:=[n,p,b,c,f,g,i,j,l]) ⟨rfl,by decide,rfl⟩ ?_⟩;refine(gF ((mH (ds:=iu 0 N) (δ1:=[n,none,none,none,none,none,none,none,none]) ?_).trans e)).trans (jo rfl);refine vZ (o:= .val (.int N,false)) (gU ?_) rfl (by simp only[N];split<;>lia)
 have q:(N:Int)=if(if(8:Int)<a.length then 8 else(a.length:Int))>1 then(if(8:Int)<a.length then 8 else(a.length:Int)) else 1:=by
  simp only[N];split<;>split<;>split<;>lia
 rw[q];simp[n]
end PV
def K13.main(b:ik)(c:b.length<=63): ∃o a,PV.qV [(.lst (b.map .int),false)]=some ((.bl true,o),a):=PV.Qh b c
namespace PySem.W.Fast
def tw11247736626024021478:=()
def tw3934371966535426065:=()
def tw3040820865958461554:=()
def tw4786509188978230229:=()
def tw11591802000134939500:=()
def tw11840473420001688934:=()
def tw17964443591311381567:=()
def tw8129295408671486819:=()
def tw17231596679575162251:=()
def tw9628698932339309002:=()
def tw13083394236280018363:=()
def tw11729554736661852989:=()
def tw17700019349731099335:=()
def tw5295113446588841751:=()
def tw1151110420394863216:=()
def tw10296299209727649384:=()
def tw2347805388781044239:=()
def tw8570535895036526601:=()
def tw13236843203690193237:=()
def tw1166654464074583038:=()
def tw14115489951977577684:=()
def tw12598219119959620485:=()
def tw16475650980194641741:=()
def tw4606490065170483319:=()
def tw4423429092584020638:=()
def tw16089586234308278789:=()
def tw12062266756748799015:=()
def tw14360995122208832569:=()
def tw17344029730813184124:=()
def tw14081929968097389662:=()
def tw17950709660582343753:=()
def tw11686673330139724007:=()
def tw2121868444895218453:=()
def tw15982238562668976322:=()
def tw3045907038173638891:=()
def tw6816701951696613178:=()
def tw2629257399975154576:=()
def tw3533361665588012667:=()
def tw2293144511802918824:=()
def tw11633739161381061613:=()
def tw3777951180879991932:=()
def tw15989712309072062469:=()
def tw11983672052428767694:=()
def tw6641279042683829282:=()
def tw10492776582374726867:=()
def tw8066847786979064529:=()
def tw547957979742699123:=()
def tw17902266745741597732:=()
def tw16581971929103596257:=()
def tw17458690700299417422:=()
def tw15145033719206088103:=()
def tw9822348349120488296:=()
def tw13191805565321092692:=()
def tw2956223729802263938:=()
def tw1783044534035346053:=()
def tw8388251537058313186:=()
def tw13816175946225736290:=()
def tw17546398283432570509:=()
def tw534132096252972941:=()
def tw17801445298845493774:=()
def tw6891217307541868677:=()
def tw3724463540549299598:=()
def tw2901947688438450870:=()
def tw1982418001726798715:=()
def tw5108220058049876622:=()
def tw12842197717197358460:=()
def tw15490457073569762862:=()
def tw5483683074352583671:=()
def tw11978639563320323931:=()
def tw14425806918645130342:=()
def tw16113434283641878149:=()
def tw3164209932705917996:=()
def tw11074740372179396981:=()
def tw5904054250478392086:=()
def tw18358485353582879740:=()
def tw1949181154092103967:=()
def tw11156073027201486228:=()
def tw9052101697726055489:=()
def tw5644937821898663997:=()
def tw13605533735851810692:=()
def tw8918863730678611126:=()
def tw12558618395268378482:=()
def tw12441661898312381357:=()
def tw16994648275740373038:=()
def tw1347497542053082366:=()
def tw11328820116549486172:=()
def tw9994791756474859431:=()
def tw11401463570083356969:=()
def tw7718215968874210767:=()
def tw14180311955222251300:=()
def tw3886560654708037883:=()
def tw8200086518625092578:=()
def tw8437012932967462324:=()
def tw7089022112775137025:=()
def tw4435870666832112850:=()
def tw3924874040944020258:=()
def tw3440918089682834389:=()
def tw3276742137160756523:=()
def tw2086770077037188630:=()
def tw17232775806112241813:=()
def tw17113348265104861410:=()
def tw8550593076979119196:=()
def tw398290095337487171:=()
def tw8201050614967664068:=()
def tw6882161314412278129:=()
def tw7187357427957076982:=()
def tw6433566596339885538:=()
def tw4728580778245691143:=()
def tw13766950292537863424:=()
def tw3237973382087563024:=()
def tw6949668053373576673:=()
def tw6162336629603620140:=()
def tw10415549985895169996:=()
def tw16691879884958503708:=()
def tw14292498756042073964:=()
def tw4035070992312427506:=()
def tw2130795151448013660:=()
def tw8544185416276494738:=()
def tw12387934632223125169:=()
def tw5568983939297241215:=()
def tw18353719388839180920:=()
def tw2085957108933220821:=()
def tw4391168846235952525:=()
def tw12912076088027435216:=()
def tw1760282238591984410:=()
def tw11400135130599903016:=()
def tw2226518431853733404:=()
def tw14199276914535179399:=()
def tw4728993785555317305:=()
def tw11243564167497890502:=()
def tw8923537879011312941:=()
def tw17682654460757290626:=()
def tw14296851488653178322:=()
def tw5858242688174514486:=()
def tw3132609050413331834:=()
def tw16427527375984059853:=()
def tw4182756470838016127:=()
def tw3270897616077169987:=()
def tw3099510628362965391:=()
def tw16522364951883684469:=()
def tw16026762561190870632:=()
def tw14776435086165631893:=()
def tw12019424100955026819:=()
def tw14980462799968119990:=()
def tw17552468955449731489:=()
def tw7305005800923770984:=()
def tw9342894983495686899:=()
def tw1649711363947192479:=()
def tw15256124639508512366:=()
def tw1387852372763949742:=()
def tw7506818415950885228:=()
def tw1637803345273361717:=()
def tw16590586498585083634:=()
def tw9407412387893012065:=()
def tw15601924745316912857:=()
def tw13704072660024038823:=()
def tw11749632817249325678:=()
def tw12480521293628317703:=()
def tw17336114934280991617:=()
def tw4279538683597320286:=()
def tw17430933029745707076:=()
def tw9670059248611201000:=()
def tw1585289693849447501:=()
def tw4901334663205000157:=()
def tw14613968678852014731:=()
def tw3984314042619572514:=()
def tw5754545082943131748:=()
def tw3782632791941171106:=()
def tw17380078498805807248:=()
def tw16915371159047095682:=()
def tw16390819747675021883:=()
def tw15375917637182477672:=()
def tw7611073717669515257:=()
def tw1537893321813565802:=()
def tw14019377018671277505:=()
def tw11148447930906721005:=()
def tw11890263295419592283:=()
def tw8282022950402422244:=()
def tw7622427602489925033:=()
def tw17344254922857847103:=()
def tw17027914238832304316:=()
def tw16218699576885162474:=()
def tw1275234947229171411:=()
def tw12285680495470835978:=()
def tw11249789117025683962:=()
def tw1026971270248566885:=()
def tw12820235740078570999:=()
def tw11926076073879746074:=()
def tw16419204009038974840:=()
def tw7006136106589389265:=()
def tw10176818559723858397:=()
def tw14455677022423176538:=()
def tw3800443028567227921:=()
def tw7868516744939846811:=()
def tw14973817312846256513:=()
def tw11730052764881357819:=()
def tw9464625070327233973:=()
def tw8784972902813198303:=()
def tw7255280012927203775:=()
def tw7190537579654431738:=()
def tw5535923972242700374:=()
def tw5376333891700652183:=()
def tw16485821516504638796:=()
def tw12449328576844595869:=()
def tw11976769484220921203:=()
def tw11168740071735300230:=()
def tw10532183927388516535:=()
def tw10396022702334687165:=()
end PySem.W.Fast
open PySem PySem.W PyProof.Rows PX
set_option maxRecDepth 100000 in
set_option maxHeartbeats 0 in
theorem PySem.Challenge.cw_twinriddles_k13_riddles_narrowed_holds : PySem.Challenge.rw_twinriddles_k13_riddles_narrowed.Holds := by
  w_on; o_law; k_head; (case hw => w_witness2)
  k_fill
  refine walkT (TB := K13.TB13) (l := PySem.Challenge.rw_twinriddles_k13_riddles_narrowed) (LV := 9) (x := "_law_script") ⟨rfl, by decide, by decide, rfl⟩ rfl rfl (fun w h Y => PySem.W.km_in_of Y) (fun w h Y => aC (PySem.W.km_tabs_of Y _ List.mem_cons_self) aN) (fun w => aC ?K aN) (by decide) ?F K13.main
  case K => show List.lookup 275 _ = none; kernel_rfl
  case F =>
   intro w mg fa h KX G hmg
   refine' K13.all_mk hmg (txK KX G ?_ ?_ ?_ ?_ ?_ ?_ ?_ ?_ ?_ ?_ ?_ ?_ ?_ ?_ ?_ ?_) (fz KX G ?_ ?_ ?_ ?_) (fz KX G ?_ ?_ ?_ ?_) (fz KX G ?_ ?_ ?_ ?_) (fz KX G ?_ ?_ ?_ ?_) (fz KX G ?_ ?_ ?_ ?_) (fz KX G ?_ ?_ ?_ ?_) (fz KX G ?_ ?_ ?_ ?_) (fz KX G ?_ ?_ ?_ ?_) (fz KX G ?_ ?_ ?_ ?_) (fz KX G ?_ ?_ ?_ ?_) (fz KX G ?_ ?_ ?_ ?_) (fz KX G ?_ ?_ ?_ ?_) (fz KX G ?_ ?_ ?_ ?_) (fz KX G ?_ ?_ ?_ ?_) (fz KX G ?_ ?_ ?_ ?_) (fz KX G ?_ ?_ ?_ ?_) (fz KX G ?_ ?_ ?_ ?_) (fz KX G ?_ ?_ ?_ ?_) (fz KX G ?_ ?_ ?_ ?_) (fzT KX G ?_ ?_ ?_ ?_ ?_) (fz KX G ?_ ?_ ?_ ?_) ⟨(aC (PySem.W.mg_of KX G ?_) (aC (PySem.W.mg_of KX G ?_) (aC (PySem.W.mg_of KX G ?_) (aC (PySem.W.mg_of KX G ?_) (aC (PySem.W.mg_of KX G ?_) (aC (PySem.W.mg_of KX G ?_) (aC (PySem.W.mg_of KX G ?_) (aC (PySem.W.mg_of KX G ?_) (aC (PySem.W.mg_of KX G ?_) (aC (PySem.W.mg_of KX G ?_) aN)))))))))), (aC (PySem.W.mg_of KX G ?_) (aC (PySem.W.mg_of KX G ?_) aN)), (aC (aC (show PySem.W.kitOne _ (.ref 37) (.ref 37) = some true from ?_) (aC (show PySem.W.kitOne _ (.ref 37) (.ref 49) = some false from ?_) (aC (show PySem.W.kitOne _ (.ref 37) (.ref 61) = some false from ?_) (aC (show PySem.W.kitOne _ (.ref 37) (.ref 73) = some false from ?_) (aC (show PySem.W.kitOne _ (.ref 37) (.ref 85) = some false from ?_) (aC (show PySem.W.kitOne _ (.ref 37) (.ref 97) = some false from ?_) (aC (show PySem.W.kitOne _ (.ref 37) (.ref 109) = some false from ?_) (aC (show PySem.W.kitOne _ (.ref 37) (.ref 121) = some false from ?_) (aC (show PySem.W.kitOne _ (.ref 37) (.ref 133) = some false from ?_) (aC (show PySem.W.kitOne _ (.ref 37) (.ref 145) = some false from ?_) aN)))))))))) (aC (aC (show PySem.W.kitOne _ (.ref 49) (.ref 37) = some false from ?_) (aC (show PySem.W.kitOne _ (.ref 49) (.ref 49) = some true from ?_) (aC (show PySem.W.kitOne _ (.ref 49) (.ref 61) = some false from ?_) (aC (show PySem.W.kitOne _ (.ref 49) (.ref 73) = some false from ?_) (aC (show PySem.W.kitOne _ (.ref 49) (.ref 85) = some false from ?_) (aC (show PySem.W.kitOne _ (.ref 49) (.ref 97) = some false from ?_) (aC (show PySem.W.kitOne _ (.ref 49) (.ref 109) = some false from ?_) (aC (show PySem.W.kitOne _ (.ref 49) (.ref 121) = some false from ?_) (aC (show PySem.W.kitOne _ (.ref 49) (.ref 133) = some false from ?_) (aC (show PySem.W.kitOne _ (.ref 49) (.ref 145) = some false from ?_) aN)))))))))) aN)), (aC (show PySem.W.kitOne _ (.ref 37) (.type "ValueError") = some true from ?_) (aC (show PySem.W.kitOne _ (.ref 49) (.type "ValueError") = some true from ?_) aN)), (aC (show ClK _ 37 24 from ⟨⟨?_, ?_, ?_, ?_, ?_, ?_, ?_, ?_⟩, (aC ?_ (aC ?_ (aC ?_ (aC ?_ (aC ?_ (aC ?_ aN)))))), ?_⟩) (aC (show ClK _ 49 24 from ⟨⟨?_, ?_, ?_, ?_, ?_, ?_, ?_, ?_⟩, (aC ?_ (aC ?_ (aC ?_ (aC ?_ (aC ?_ (aC ?_ aN)))))), ?_⟩) aN)), (aC (show PySem.W.excIn _ 37 _ _ = true from ?_) (aC (show PySem.W.excIn _ 49 _ _ = true from ?_) aN)), PySem.W.mg_none_of KX G ?_, PySem.W.mg_none_of KX G ?_, PySem.W.mg_of KX G ?_⟩ <;> try first | k_is | kernel_rfl
